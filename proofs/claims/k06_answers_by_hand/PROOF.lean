import PyProof.Rows.All
import Wide.All
import OpenK.AllK
import Wide.FinOn
import Lean
import PyProof.EqAt
import PyProof.EqKinds
import PyProof.TupleCall
import PySem.Challenge.RW_firstword_k06_answers_by_hand
set_option Elab.async false
set_option linter.all false
set_option maxRecDepth 100000
set_option maxHeartbeats 4000000
namespace L2
open PySem PySem.Spec PyProof.Rows
noncomputable abbrev Key := Sum Int Str
noncomputable def keyIs : Key → Value → Bool
  | .inl k, v => Value.isInt k v
  | .inr x, v => Value.isStrOf x v
noncomputable def keyH (w : World) : Key → Int
  | .inl k => hashInt k
  | .inr x => hashStr w x
theorem keyIs_shape : ∀ {k : Key} {v : Value}, keyIs k v = true → (∃ i t, k = Sum.inl i ∧ v = Value.int i t) ∨ (∃ x t, k = Sum.inr x ∧ v = Value.str x t)
  | .inl i, v, h => by
    obtain ⟨t, e⟩ := Value.isInt_shape (k := i) (v := v) h
    exact .inl ⟨i, t, rfl, e⟩
  | .inr x, v, h => by
    obtain ⟨t, e⟩ := Value.isStrOf_shape (x := x) (v := v) h
    exact .inr ⟨x, t, rfl, e⟩
theorem keyIs_int (i : Int) (t : Tok) : keyIs (.inl i) (.int i t) = true := by simp [keyIs, Value.isInt]
theorem keyIs_str (x : Str) (t : Tok) : keyIs (.inr x) (.str x t) = true := by simp [keyIs, Value.isStrOf]
theorem key_ll (a b : Int) : decide ((Sum.inl a : Key) = Sum.inl b) = (a == b) := by
  by_cases e : a = b
  · subst e; simp
  · have h : ¬ (Sum.inl a : Key) = Sum.inl b := fun q => e (Sum.inl.inj q)
    rw [decide_eq_false h]
    exact (beq_eq_false_iff_ne.mpr e).symm
theorem key_rr (a b : Str) : decide ((Sum.inr a : Key) = Sum.inr b) = decide (a = b) := by
  by_cases e : a = b
  · subst e; simp
  · have h : ¬ (Sum.inr a : Key) = Sum.inr b := fun q => e (Sum.inr.inj q)
    rw [decide_eq_false h, decide_eq_false e]
theorem key_lr (a : Int) (b : Str) : decide ((Sum.inl a : Key) = Sum.inr b) = false := decide_eq_false (fun q => nomatch q)
theorem key_rl (a : Str) (b : Int) : decide ((Sum.inr a : Key) = Sum.inl b) = false := decide_eq_false (fun q => nomatch q)
noncomputable def mixKind (prog : Program) (w : World) : PySem.KeyKind prog w Key where
  is := keyIs
  hash := keyH w
  inj := fun v a b ha hb => by
    rcases keyIs_shape ha with ⟨i, t, rfl, rfl⟩ | ⟨x, t, rfl, rfl⟩
    · rcases keyIs_shape hb with ⟨j, u, rfl, e⟩ | ⟨y, u, rfl, e⟩
      · injection e with e1 _; rw [e1]
      · exact nomatch e
    · rcases keyIs_shape hb with ⟨j, u, rfl, e⟩ | ⟨y, u, rfl, e⟩
      · exact nomatch e
      · injection e with e1 _; rw [e1]
  byValue := fun k v h => by
    rcases keyIs_shape h with ⟨i, t, rfl, rfl⟩ | ⟨x, t, rfl, rfl⟩ <;> rfl
  pyHash := fun hv h => by
    rcases keyIs_shape hv with ⟨i, t, rfl, rfl⟩ | ⟨x, t, rfl, rfl⟩
    · exact wpAny_pyHash_int h
    · exact wpAny_pyHash_str h
  eqBool := fun hu hv h => by
    rcases keyIs_shape hu with ⟨i, t, rfl, rfl⟩ | ⟨x, t, rfl, rfl⟩
    · rcases keyIs_shape hv with ⟨j, u, rfl, rfl⟩ | ⟨y, u, rfl, rfl⟩
      · rw [key_ll] at h; exact wpAny_eqBool_int h
      · rw [key_lr] at h; exact SeqAt.EqAt.int_str i t y u _ _ _ _ h
    · rcases keyIs_shape hv with ⟨j, u, rfl, rfl⟩ | ⟨y, u, rfl, rfl⟩
      · rw [key_rl] at h; exact SeqAt.EqAt.str_int x t j u _ _ _ _ h
      · rw [key_rr] at h; exact wpAny_eqBool_str h
  «strs» := fun k x t v h => by
    rcases keyIs_shape h with ⟨i, u, rfl, e⟩ | ⟨y, u, rfl, e⟩
    · exact nomatch e
    · injection e with e1 _
      subst e1
      cases v <;> rfl
theorem mixKind_int (prog : Program) (w : World) (i : Int) (t : Tok) : (mixKind prog w).is (.inl i) (.int i t) = true := keyIs_int i t
theorem mixKind_str (prog : Program) (w : World) (x : Str) (t : Tok) : (mixKind prog w).is (.inr x) (.str x t) = true := keyIs_str x t
end L2
namespace L2
open PySem PySem.Spec PyProof.Rows
inductive V where
  | non | bl (b : Bool) | int (i : Int) | str (x : Str) | byt (b : Array UInt8) | flt (b : UInt64) | ref (a : Addr) | ty (n : String)
  deriving DecidableEq
noncomputable def RelV : V → Value → Prop
  | .non, u => u = Value.none
  | .bl b, u => u = Value.bool b
  | .int i, u => ∃ t, u = Value.int i t
  | .str x, u => ∃ t, u = Value.str x t
  | .byt b, u => ∃ t, u = Value.bytes b t
  | .flt b, u => ∃ t, u = Value.float b t
  | .ref a, u => u = Value.ref a
  | .ty n, u => u = Value.type n
noncomputable abbrev Vals : List V → List Value → Prop := Paired RelV
theorem Vals.length {xs : List V} {us : List Value} (r : Vals xs us) : xs.length = us.length := Paired.length r
theorem Vals.get : ∀ {xs : List V} {us : List Value} {i : Nat} {x : V}, Vals xs us → xs[i]? = some x → ∃ u, us[i]? = some u ∧ RelV x u
  | _, _, _, _, .nil, e => by simp at e
  | _, _, 0, _, .cons r _, e => by simp at e; subst e; exact ⟨_, rfl, r⟩
  | _, _, i + 1, x, .cons _ t, e => by
    obtain ⟨u, h1, h2⟩ := Vals.get (i := i) (x := x) t (by simpa using e)
    exact ⟨u, by simpa using h1, h2⟩
theorem Vals.set {x : V} {u : Value} (r : RelV x u) : ∀ {xs : List V} {us : List Value} (i : Nat), Vals xs us → Vals (xs.set i x) (us.set i u)
  | _, _, _, .nil => .nil
  | _, _, 0, .cons _ t => .cons r t
  | _, _, i + 1, .cons q t => .cons q (Vals.set r i t)
theorem Vals.append : ∀ {xs ys : List V} {us ws : List Value}, Vals xs us → Vals ys ws → Vals (xs ++ ys) (us ++ ws)
  | _, _, _, _, .nil, s => s
  | _, _, _, _, .cons r t, s => .cons r (Vals.append t s)
theorem Vals.take : ∀ {xs : List V} {us : List Value} (n : Nat), Vals xs us → Vals (xs.take n) (us.take n)
  | _, _, 0, _ => .nil
  | _, _, _ + 1, .nil => .nil
  | _, _, n + 1, .cons r t => .cons r (Vals.take n t)
theorem Vals.drop : ∀ {xs : List V} {us : List Value} (n : Nat), Vals xs us → Vals (xs.drop n) (us.drop n)
  | _, _, 0, r => r
  | _, _, _ + 1, .nil => .nil
  | _, _, n + 1, .cons _ t => Vals.drop n t
noncomputable def RelO : Option V → Option Value → Prop
  | some v, some u => RelV v u
  | none, none => True
  | _, _ => False
noncomputable def KV {κ : Type} : List (κ × V) → List (κ × Value) → Prop := Paired fun (p : κ × V) (q : κ × Value) => p.1 = q.1 ∧ RelV p.2 q.2
noncomputable def kV : Key → V
  | .inl i => .int i
  | .inr x => .str x
inductive HO where
  
  | lst (xs : List V)
  
  | tup (xs : List V)
  
  | dK (kvs : List (Key × V)) | dT (kvs : List (List Key × V))
  
  | set (S : Int → Bool) (n : Nat)
  
  | ins (C dx : Addr) (fs : List (Str × V))
  
  | own (x : Addr)
  
  | xd (fs : List (Str × V))
  
  | met (f x : Addr)
  
  | rng (lo hi : Int)
  
  | frz (o : Obj) (u : HO)
  
  | tbl (ps : Array Value)
  
  | ext (φ : Heap → Prop)
noncomputable abbrev Hp := Addr → Option HO
noncomputable def upd (H : Hp) (a : Addr) (o : HO) : Hp := fun b => if b = a then some o else H b
theorem upd_same {H : Hp} {a : Addr} {o : HO} : upd H a o a = some o := by unfold upd; rw [if_pos rfl]
theorem upd_ne {H : Hp} {a b : Addr} {o : HO} (h : b ≠ a) : upd H a o b = H b := by unfold upd; rw [if_neg h]
theorem ne_of {H : Hp} {a b : Addr} {o u : HO} (h : H a = some o) (h' : H b = some u) (d : o ≠ u) : a ≠ b := by
  intro e; subst e; rw [h] at h'; exact d (Option.some.inj h')
theorem ne_of_none {H : Hp} {a b : Addr} {o : HO} (h : H a = some o) (h' : H b = none) : a ≠ b := by
  intro e; subst e; rw [h] at h'; cases h'
section
variable (P : Program) (w : World)
noncomputable def ObjOk (H : Hp) (h : Heap) (a : Addr) : HO → Prop
  | .lst xs => xs.length ≤ sizeLine ∧ ∃ (its : List Value) (n : Nat), Vals xs its ∧ h.get? a = some { cls := .type "list", data := .seq its.toArray n }
  | .tup xs => xs.length ≤ sizeLine ∧ ∃ its : List Value, Vals xs its ∧ IsTup h a its.toArray
  | .dK kvs => kvs.length ≤ sizeLine ∧ (a == sysModules) = false ∧ ∃ vs, KV kvs vs ∧ h.DictOf (mixKind P w) a vs
  | .dT kvs => kvs.length ≤ sizeLine ∧ (a == sysModules) = false ∧ ∃ xs : List (List Key × Addr × Value),
      Paired (fun (p : List Key × V) (q : List Key × Addr × Value) => p.1 = q.1 ∧ H q.2.1 = some (.tup (p.1.map kV)) ∧ RelV p.2 q.2.2) kvs xs ∧
      ∃ o es ep, h.get? a = some o ∧ o.ExactDict ∧ o.data = .dict es ep ∧ es.toList = xs.map (entryOfKey (tupleKind (mixKind P w))) ∧ (xs.map (·.1)).Nodup
  | .set S n => h.SetOf (intKind P w) a S n
  | .ins C dx fs => H dx = some (.own a) ∧ fs.length ≤ 1000 ∧ dx ≠ a ∧ h.get? a = some (PySem.W.instObj C dx) ∧
      ∃ mA, h.Ns1 dx mA ∧ (∀ f, RelO (fs.lookup f) (mA f)) ∧ PySem.Within mA (fs.map (·.1))
  | .own _ => ∃ o, h.get? a = some o
  | .xd fs => ∃ mA, h.Ns1 a mA ∧ ∀ f, RelO (fs.lookup f) (mA f)
  | .rng lo hi => ∃ t u v, h.get? a = some { cls := .type "range", data := .fields #[.int lo t, .int hi u, .int 1 v] }
  | .frz o u => h.get? a = some o ∧ ObjOk H h a u
  | .tbl ps => h.get? a = some { cls := .none, data := .fields ps }
  | .met f x => h.get? a = some (PySem.W.methodObj (.ref f) (.ref x))
  | .ext φ => φ h ∧ (∃ o, h.get? a = some o) ∧ ∀ h1 h2 : Heap, φ h1 → (∀ o, h1.get? a = some o → h2.get? a = some o) → φ h2
noncomputable def HOk (H : Hp) (h : Heap) : Prop := ∀ a o, H a = some o → ObjOk P w H h a o
end
section
variable {P : Program} {w : World} {H H' : Hp} {h h' : Heap} {a : Addr} {o : HO}
theorem ObjOk.lt (x : ObjOk P w H h a o) : a < h.objs.size := by
  cases o with
  | lst xs => obtain ⟨_, _, _, _, e⟩ := x; exact Heap.lt_size e
  | tup xs => obtain ⟨_, _, _, p⟩ := x; exact p.lt
  | dK kvs => obtain ⟨_, _, _, _, o, _, _, e, _⟩ := x; exact Heap.lt_size e
  | dT kvs => obtain ⟨_, _, _, _, o, _, _, e, _⟩ := x; exact Heap.lt_size e
  | set S n => obtain ⟨o, _, _, _, e, _⟩ := x; exact Heap.lt_size e
  | ins C dx fs => obtain ⟨_, _, _, e, _⟩ := x; exact Heap.lt_size e
  | own y => obtain ⟨_, e⟩ := x; exact Heap.lt_size e
  | xd fs => obtain ⟨_, ⟨_, _, _, e, _⟩, _⟩ := x; exact Heap.lt_size e
  | rng lo hi => obtain ⟨_, _, _, e⟩ := x; exact Heap.lt_size e
  | frz ob u => obtain ⟨e, _⟩ := x; exact Heap.lt_size e
  | tbl ps => exact Heap.lt_size (show h.get? a = some _ from x)
  | met f y => exact Heap.lt_size (show h.get? a = some _ from x)
  | ext φ => obtain ⟨_, ⟨_, e⟩, _⟩ := x; exact Heap.lt_size e
theorem Paired.mapP {α β : Type} {F G : α → β → Prop} : ∀ {l₁ : List α} {l₂ : List β}, Paired F l₁ l₂ → (∀ a b, F a b → G a b) → Paired G l₁ l₂
  | _, _, .nil, _ => .nil
  | _, _, .cons r t, f => .cons (f _ _ r) (Paired.mapP t f)
theorem ObjOk.stay (x : ObjOk P w H h a o) (k : ∀ b u, (b = a ∨ H b = some (.own a)) → h.get? b = some u → h'.get? b = some u)
    (ho : ∀ b, H b = some (.own a) → H' b = some (.own a)) (ht : ∀ b xs, H b = some (.tup xs) → H' b = some (.tup xs)) : ObjOk P w H' h' a o := by
  induction o with
  | lst xs => obtain ⟨z, its, n, r, e⟩ := x; exact ⟨z, its, n, r, k _ _ (.inl rfl) e⟩
  | tup xs => obtain ⟨z, its, r, ob, e, c⟩ := x; exact ⟨z, its, r, ob, k _ _ (.inl rfl) e, c⟩
  | dK kvs => obtain ⟨z, y, vs, r, ob, es, ep, e, c⟩ := x; exact ⟨z, y, vs, r, ob, es, ep, k _ _ (.inl rfl) e, c⟩
  | dT kvs =>
    obtain ⟨z, y, xs, r, ob, es, ep, e, c⟩ := x
    exact ⟨z, y, xs, Paired.mapP r fun p q z => ⟨z.1, ht _ _ z.2.1, z.2.2⟩, ob, es, ep, k _ _ (.inl rfl) e, c⟩
  | set S n => obtain ⟨ob, es, ep, t, e, c⟩ := x; exact ⟨ob, es, ep, t, k _ _ (.inl rfl) e, c⟩
  | ins C dx fs =>
    obtain ⟨d, z, ne, e, mA, ⟨od, es, ep, e2, c⟩, r⟩ := x
    exact ⟨ho _ d, z, ne, k _ _ (.inl rfl) e, mA, ⟨od, es, ep, k _ _ (.inr d) e2, c⟩, r⟩
  | own y => obtain ⟨ob, e⟩ := x; exact ⟨ob, k _ _ (.inl rfl) e⟩
  | xd fs => obtain ⟨mA, ⟨od, es, ep, e, c⟩, r⟩ := x; exact ⟨mA, ⟨od, es, ep, k _ _ (.inl rfl) e, c⟩, r⟩
  | rng lo hi => obtain ⟨t, u, v, e⟩ := x; exact ⟨t, u, v, k _ _ (.inl rfl) e⟩
  | frz ob u ih => obtain ⟨e, q⟩ := x; exact ⟨k _ _ (.inl rfl) e, ih q⟩
  | tbl ps =>
    have e : h.get? a = some { cls := .none, data := .fields ps } := x
    show h'.get? a = some { cls := .none, data := .fields ps }
    exact k a _ (.inl rfl) e
  | met f y =>
    have e : h.get? a = some (PySem.W.methodObj (.ref f) (.ref y)) := x
    show h'.get? a = some (PySem.W.methodObj (.ref f) (.ref y))
    exact k a _ (.inl rfl) e
  | ext φ => obtain ⟨p, ⟨o, e⟩, st⟩ := x; exact ⟨st _ _ p fun o q => k _ _ (.inl rfl) q, ⟨o, k _ _ (.inl rfl) e⟩, st⟩
theorem HOk.lt (x : HOk P w H h) (e : H a = some o) : a < h.objs.size := (x a o e).lt
theorem HOk.fresh (x : HOk P w H h) (e : h.objs.size ≤ a) : H a = none := by
  cases q : H a with
  | none => rfl
  | some u => exact absurd (Nat.lt_of_lt_of_le (x.lt q) e) (Nat.lt_irrefl _)
theorem HOk.kept (x : HOk P w H h) (k : ∀ b u, h.get? b = some u → h'.get? b = some u) : HOk P w H h' := fun a o e =>
  (x a o e).stay (fun b u _ q => k b u q) (fun _ q => q) fun _ _ q => q
theorem HOk.laid (x : HOk P w H h) (k : ∀ b u, h.get? b = some u → h'.get? b = some u) (hp : h.objs.size ≤ a) (new : ObjOk P w (upd H a o) h' a o) : HOk P w (upd H a o) h' := fun b u e => by
  have hn := x.fresh hp
  by_cases hb : b = a
  · subst hb; rw [upd_same] at e; cases e; exact new
  · rw [upd_ne hb] at e
    exact (x b u e).stay (fun c v _ q => k c v q) (fun c q => by rw [upd_ne (ne_of_none q hn)]; exact q) fun c xs q => by rw [upd_ne (ne_of_none q hn)]; exact q
end
noncomputable def Rd (H : Hp) (a : Addr) (u : HO) : Prop := H a = some u ∨ ∃ o, H a = some (.frz o u)
theorem Rd.ok {P : Program} {w : World} {H : Hp} {h : Heap} {a : Addr} {u : HO} (r : Rd H a u) (x : HOk P w H h) : ObjOk P w H h a u := by
  rcases r with r | ⟨o, r⟩
  · exact x a u r
  · obtain ⟨_, q⟩ := x a _ r
    exact q
noncomputable def Mut : Option HO → Prop
  | some (.lst _) => True
  | some (.dK _) => True
  | some (.dT _) => True
  | some (.set _ _) => True
  | some (.ins _ _ _) => True
  | some (.ext _) => True
  | _ => False
section
variable {P : Program} {w : World} {H : Hp} {h h' : Heap} {x e : Addr} {o' : HO}
theorem HOk.write (ok : HOk P w H h) (mu : Mut (H x)) (he : e = x ∨ H e = some (.own x)) (k : ∀ b u, b ≠ e → h.get? b = some u → h'.get? b = some u) (heo : ∃ u, h'.get? e = some u)
    (new : ObjOk P w (upd H x o') h' x o') : HOk P w (upd H x o') h' := fun b u q => by
  have nown : ∀ c y, H c = some (.own y) → c ≠ x := fun c y r z => by subst z; rw [r] at mu; exact mu
  have ntup : ∀ c xs, H c = some (.tup xs) → c ≠ x := fun c xs r z => by subst z; rw [r] at mu; exact mu
  by_cases hb : b = x
  · subst hb; rw [upd_same] at q; cases q; exact new
  · rw [upd_ne hb] at q
    by_cases hbe : b = e
    · have q' : H b = some (.own x) := by
        rcases he with z | z
        · exact absurd (hbe.trans z) hb
        · rw [hbe]; exact z
      rw [q] at q'; cases q'
      obtain ⟨v, hv⟩ := heo
      exact ⟨v, by rw [hbe]; exact hv⟩
    · refine (ok b u q).stay (fun c v hc r => k c v ?_ r) (fun c r => by rw [upd_ne (nown c b r)]; exact r) fun c xs r => by rw [upd_ne (ntup c xs r)]; exact r
      rcases hc with rfl | hc
      · exact hbe
      · rintro rfl
        rcases he with z | z
        · exact nown c b hc z
        · rw [hc] at z; cases z; exact hb rfl
end
structure Un (fs ex : List Addr) (H H' : Hp) (h h' : Heap) : Prop where
  keep : ∀ b o, h.get? b = some o → H b = none → b ∉ fs → b ∉ ex → h'.get? b = some o
  slot : ∀ b o, h.get? b = some o → H b = none → b ∈ fs → b ∉ ex → ∃ sl, h'.get? b = some { o with slots := sl }
  free : ∀ b o, h.get? b = some o → H b = none → b ∉ ex → H' b = none
  there : ∀ b o, h.get? b = some o → b ∉ ex → ∃ o', h'.get? b = some o'
  tups : ∀ b xs, H b = some (.tup xs) → H' b = some (.tup xs)
  frzs : ∀ b o u, H b = some (.frz o u) → H' b = some (.frz o u)
  tbls : ∀ b ps, H b = some (.tbl ps) → ∃ more, H' b = some (.tbl (ps ++ more))
section
variable {fs fs' ex ex' : List Addr} {H H1 H2 : Hp} {h h1 h2 h' : Heap} {a x e : Addr} {o : HO}
theorem Un.any (u : Un fs ex H H1 h h1) {b : Addr} {ob : Obj} (q : h.get? b = some ob) (n : H b = none) (hx : b ∉ ex) : ∃ sl, h1.get? b = some { ob with slots := sl } := by
  by_cases hb : b ∈ fs
  · exact u.slot b ob q n hb hx
  · exact ⟨ob.slots, u.keep b ob q n hb hx⟩
theorem Un.kept (k : ∀ b u, h.get? b = some u → h'.get? b = some u) : Un fs ex H H h h' :=
  ⟨fun b ob q _ _ _ => k b ob q, fun b ob q _ _ _ => ⟨ob.slots, k b ob q⟩, fun _ _ _ n _ => n, fun b ob q _ => ⟨ob, k b ob q⟩, fun _ _ q => q, fun _ _ _ q => q, fun _ ps q => ⟨#[], by rw [q]; simp⟩⟩
theorem Un.refl : Un fs ex H H h h := Un.kept fun _ _ q => q
theorem Un.laid (k : ∀ b u, h.get? b = some u → h'.get? b = some u) (hp : h.objs.size ≤ a) (hn : H a = none) : Un fs ex H (upd H a o) h h' where
  keep := fun b u q _ _ _ => k b u q
  slot := fun b u q _ _ _ => ⟨u.slots, k b u q⟩
  free := fun b u q n _ => by rw [upd_ne (Nat.ne_of_lt (Nat.lt_of_lt_of_le (Heap.lt_size q) hp))]; exact n
  there := fun b u q _ => ⟨u, k b u q⟩
  tups := fun b xs q => by rw [upd_ne (ne_of_none q hn)]; exact q
  frzs := fun b u xs q => by rw [upd_ne (ne_of_none q hn)]; exact q
  tbls := fun b ps q => ⟨#[], by rw [upd_ne (ne_of_none q hn), q]; simp⟩
theorem Un.write (mu : Mut (H x)) (he : e = x ∨ H e = some (.own x)) (k : ∀ b u, b ≠ e → h.get? b = some u → h'.get? b = some u) (heo : ∃ u, h'.get? e = some u) : Un fs ex H (upd H x o) h h' := by
  have hx : ∀ b, H b = none → b ≠ x := fun b n z => by subst z; rw [n] at mu; exact mu
  have hb : ∀ b, H b = none → b ≠ e := fun b n z => by
    subst z
    rcases he with r | r
    · exact hx b n r
    · rw [n] at r; cases r
  have hm : ∀ b u, H b = some u → ¬ Mut (some u) → b ≠ x := fun b u q nm z => by subst z; rw [q] at mu; exact nm mu
  refine ⟨fun b u q n _ _ => k b u (hb b n) q, fun b u q n _ _ => ⟨u.slots, k b u (hb b n) q⟩, fun b u q n _ => by rw [upd_ne (hx b n)]; exact n, fun b u q _ => ?_,
    fun b xs q => by rw [upd_ne (hm b _ q fun z => z)]; exact q, fun b u xs q => by rw [upd_ne (hm b _ q fun z => z)]; exact q, fun b ps q => ⟨#[], by rw [upd_ne (hm b _ q fun z => z), q]; simp⟩⟩
  by_cases hbe : b = e
  · subst hbe; exact heo
  · exact ⟨u, k b u hbe q⟩
end
noncomputable def trk (h : Heap) (H : Hp) : List Addr := (List.range h.objs.size).filter fun a => (H a).isSome
noncomputable def hidT (h : Heap) (H : Hp) : Heap := PySem.W.hideAll h (trk h H)
theorem hidT_size (h : Heap) (H : Hp) : (hidT h H).objs.size = h.objs.size := PySem.W.hideAll_size _ _
theorem hidT_get {h : Heap} {H : Hp} {b : Addr} {o : Obj} (e : h.get? b = some o) (n : H b = none) : (hidT h H).get? b = some o :=
  PySem.W.hideAll_get _ e fun hm => by
    have q : (H b).isSome = true := (List.mem_filter.mp hm).2
    rw [n] at q; simp at q
theorem of_hidT {h : Heap} {H : Hp} {b : Addr} {o : Obj} (e : (hidT h H).get? b = some o) : h.get? b = some o ∧ H b = none := by
  have e' : h.get? b = some o := PySem.W.of_hideAll (trk h H) e
  refine ⟨e', ?_⟩
  cases q : H b with
  | none => rfl
  | some x =>
    have hm : b ∈ trk h H := List.mem_filter.mpr ⟨List.mem_range.mpr (Heap.lt_size e'), by simp [q]⟩
    have z : (hidT h H).get? b = none := PySem.W.hideAll_none (trk h H) hm
    rw [z] at e; cases e
end L2
namespace L2
open PySem PySem.Spec PyProof.Rows
structure Mod (K : PySem.W.Frag) (mg : Str → Option Value) (base : Heap) : Prop where
  kin : K.In base
  glob : base.Ns mainGlobals mg
  blt : ∃ mb, base.Ns builtinsNs mb ∧ ∀ x : Str, x ≠ "__name__" → mb x = bootBuiltins x
  nolimit : base.NoLimit
structure Cx where
  prog : Program
  w : World
  K : PySem.W.Frag
  mg : Str → Option Value
  base : Heap
  A : Around
  N : List Str
  s₀ : Shared
  H₀ : Hp
  env : Env
  outer : List Env
  stack : List Env
  ex : List Addr
  fn : Str → Bool
  calm : Bool
  pn : List (Addr × Obj)
  xe : Value → Shared → Prop
noncomputable def frs (l : List Env) : List Addr := l.filterMap (·.frame)
noncomputable abbrev Cx.fs (X : Cx) : List Addr := frs X.outer
noncomputable def Vis (sc : Scope) (x : Str) : Prop := sc.names.lookup x = some .local ∨ sc.names.lookup x = some .cell ∨ sc.names.lookup x = some .free
noncomputable def Loc (sc : Scope) (x : Str) : Prop := sc.names.lookup x = some .local ∨ sc.names.lookup x = some .cell
noncomputable def Look (env : Env) (h : Heap) (m : Str → Option Value) (x : Str) (u : Value) : Prop :=
  (env.kindOf x = some .local ∧ m x = some u) ∨ ((env.kindOf x = some .cell ∨ env.kindOf x = some .free) ∧ ∃ c, env.cells.lookup x = some c ∧ h.IsCell c (some u))
structure Cx.Ok (X : Cx) : Prop where
  mod : Mod X.K X.mg X.base
  kind : X.env.scope.kind = .function
  glob : X.env.globals = mainGlobals
  blt : X.env.builtins = builtinsNs
  above : X.s₀.heap.objs.size ≤ X.env.locals
  inj : ∀ x y c, X.env.cells.lookup x = some c → X.env.cells.lookup y = some c → x = y
  has : ∀ x, (X.env.kindOf x = some .cell ∨ X.env.kindOf x = some .free) → ∃ c, X.env.cells.lookup x = some c
  cab : ∀ x c, X.fn x = true → X.env.cells.lookup x = some c → X.s₀.heap.objs.size ≤ c
  hd : X.calm = true → X.A.handled = none
  frames : X.A.frames = some X.stack
  stk : X.stack = X.outer ∨ (X.stack = X.env :: X.outer ∧ X.env.frame = some X.env.locals)
  exf : ∀ b ∈ X.ex, b ≠ X.env.locals ∧ ∀ x c, X.env.cells.lookup x = some c → c ≠ b
  bs : ∀ b o, X.base.get? b = some o → X.s₀.heap.get? b = some o ∧ X.H₀ b = none
  bsz : X.base.objs.size ≤ X.s₀.heap.objs.size
  noex : ∀ b o, X.base.get? b = some o → b ∉ X.ex
  exfs : ∀ b ∈ X.ex, b ∉ X.fs
  funs : X.s₀.heap.FunFrames X.base X.outer
  frf : ∀ b ∈ X.fs, X.H₀ b = none
structure Inv (X : Cx) (pins : List (Addr × Obj)) (σ : List (Option V)) (H : Hp) (s : Shared) : Prop where
  ok : X.Ok
  os : s.os = X.s₀.os
  bare : AllBare s.gens
  base : Un X.fs X.ex X.H₀ H X.s₀.heap s.heap
  loc : ∃ m, s.heap.Ns X.env.locals m ∧ ∀ (i : Nat) (x : Str) (v : V), X.N[i]? = some x → σ[i]? = some (some v) → Vis X.env.scope x → ∃ u, RelV v u ∧ Look X.env s.heap m x u
  cell : ∀ x c, X.env.cells.lookup x = some c → ∃ v, s.heap.IsCell c v
  free : H X.env.locals = none
  freeC : ∀ x c, X.env.cells.lookup x = some c → H c = none
  pin : ∀ p ∈ X.pn ++ pins, s.heap.get? p.1 = some p.2 ∧ H p.1 = none ∧ p.1 ≠ X.env.locals ∧ p.1 ∉ X.fs ∧ ∀ v, p.2.data ≠ .cell v
  hok : HOk X.prog X.w H s.heap
  len : σ.length = X.N.length
section
variable {X : Cx} {pins : List (Addr × Obj)} {σ : List (Option V)} {H H' : Hp} {s : Shared} {h' : Heap}
theorem Cx.Ok.nofr (ok : X.Ok) {b : Addr} {o : Obj} (e : X.base.get? b = some o) : b ∉ X.fs := fun hb => by
  have := (ok.funs.mem hb).1
  rw [e] at this; cases this
theorem Inv.bs (I : Inv X pins σ H s) : ∀ b o, X.base.get? b = some o → s.heap.get? b = some o ∧ H b = none := fun b o e =>
  ⟨I.base.keep b o (I.ok.bs b o e).1 (I.ok.bs b o e).2 (I.ok.nofr e) (I.ok.noex b o e), I.base.free b o (I.ok.bs b o e).1 (I.ok.bs b o e).2 (I.ok.noex b o e)⟩
theorem Inv.bk (I : Inv X pins σ H s) : ∀ b o, X.base.get? b = some o → s.heap.get? b = some o := fun b o e => (I.bs b o e).1
theorem Inv.mod (I : Inv X pins σ H s) : Mod X.K X.mg X.base := I.ok.mod
theorem Inv.kIn (I : Inv X pins σ H s) : X.K.In s.heap := I.ok.mod.kin.keeps I.bk
theorem Inv.lt (I : Inv X pins σ H s) : X.env.locals < s.heap.objs.size := let ⟨_, hn, _⟩ := I.loc; hn.lt
theorem Inv.sz (I : Inv X pins σ H s) : X.s₀.heap.objs.size ≤ s.heap.objs.size := Nat.le_trans I.ok.above (Nat.le_of_lt I.lt)
theorem Inv.nofs (I : Inv X pins σ H s) {a : Addr} (h : s.heap.objs.size ≤ a) : a ∉ X.fs := fun hb => by
  obtain ⟨_, o, ho, _⟩ := I.ok.funs.mem hb
  exact absurd (Nat.lt_of_lt_of_le (Heap.lt_size ho) (Nat.le_trans I.sz h)) (Nat.lt_irrefl _)
theorem Inv.cne (I : Inv X pins σ H s) : ∀ x c, X.env.cells.lookup x = some c → c ≠ X.env.locals := fun x c e z => by
  obtain ⟨v, o, ho, hd⟩ := I.cell x c e
  obtain ⟨m, ⟨o', es, ep, ho', hd', _⟩, _⟩ := I.loc
  rw [z, ho'] at ho; cases ho; rw [hd'] at hd; cases hd
theorem Inv.funs (I : Inv X pins σ H s) : s.heap.FunFrames X.base X.outer := by
  have all : ∀ (l : List Env), (∀ b ∈ frs l, b ∈ X.fs) → X.s₀.heap.FunFrames X.base l → s.heap.FunFrames X.base l := by
    intro l
    induction l with
    | nil => intro _ _; trivial
    | cons env r ih =>
      intro hs hl
      obtain ⟨hk, ⟨L, o, hf, hn, ho, hd⟩, hr⟩ := hl
      have hL : L ∈ X.fs := hs L (by unfold frs; rw [List.filterMap_cons, hf]; exact List.mem_cons_self)
      obtain ⟨sl, e⟩ := I.base.slot L o ho (I.ok.frf L hL) hL fun z => I.ok.exfs L z hL
      exact ⟨hk, ⟨L, _, hf, hn, e, hd⟩, ih (fun b hb => hs b (by unfold frs; rw [List.filterMap_cons, hf]; exact List.mem_cons_of_mem _ hb)) hr⟩
  exact all X.outer (fun _ hb => hb) I.ok.funs
theorem Inv.stack (I : Inv X pins σ H s) : s.heap.FunFrames X.base X.stack := by
  rcases I.ok.stk with e | ⟨e, hf⟩
  · rw [e]; exact I.funs
  · rw [e]
    obtain ⟨m, hn, _⟩ := I.loc
    refine .cons (by rw [I.ok.kind]; decide) hf hn ?_ I.funs
    exact Heap.get?_none_of_le (Nat.le_trans I.ok.bsz I.ok.above)
theorem Inv.stkSub (I : Inv X pins σ H s) : ∀ b ∈ frs X.stack, b ∈ X.env.locals :: X.fs := fun b hb => by
  rcases I.ok.stk with e | ⟨e, hf⟩
  · rw [e] at hb; exact List.mem_cons_of_mem _ hb
  · rw [e] at hb
    unfold frs at hb
    rw [List.filterMap_cons, hf] at hb
    exact hb
theorem Inv.stkFree (I : Inv X pins σ H s) : ∀ b ∈ frs X.stack, H b = none := fun b hb => by
  rcases List.mem_cons.mp (I.stkSub b hb) with e | hb
  · rw [e]; exact I.free
  · obtain ⟨_, o, ho, _⟩ := I.ok.funs.mem hb
    exact I.base.free b o ho (I.ok.frf b hb) fun z => I.ok.exfs b z hb
theorem Inv.step {g' : Array GenState} {t' : Nat} {d' : Drawn} {ch : List Addr} (I : Inv X pins σ H s)
    (hch : ∀ b ∈ ch, (b ∈ X.ex ∨ X.s₀.heap.objs.size ≤ b) ∧ b ≠ X.env.locals ∧ (∀ x c, X.env.cells.lookup x = some c → c ≠ b) ∧ ∀ p ∈ X.pn ++ pins, p.1 ≠ b)
    (keep : ∀ b o, b ≠ X.env.locals → b ∉ X.fs → b ∉ ch → s.heap.get? b = some o → H b = none → h'.get? b = some o)
    (slot : ∀ b o, b ≠ X.env.locals → b ∈ X.fs → b ∉ ch → s.heap.get? b = some o → H b = none → ∃ sl, h'.get? b = some { o with slots := sl }) (free : ∀ b o, b ∉ ch → s.heap.get? b = some o → H b = none → H' b = none)
    (there : ∀ b o, b ∉ ch → s.heap.get? b = some o → ∃ o', h'.get? b = some o')
    (tups : ∀ b xs, H b = some (.tup xs) → H' b = some (.tup xs)) (frzs : ∀ b o u, H b = some (.frz o u) → H' b = some (.frz o u)) (tbls : ∀ b ps, H b = some (.tbl ps) → ∃ more, H' b = some (.tbl (ps ++ more)))
    (ns : ∀ m, s.heap.Ns X.env.locals m → h'.Ns X.env.locals m) (hok : HOk X.prog X.w H' h') (hg : AllBare g') :
    Inv X pins σ H' { s with heap := h', gens := g', drawn := d', toks := t' } := by
  have neL : ∀ b o, X.s₀.heap.get? b = some o → b ≠ X.env.locals := fun b o e => Nat.ne_of_lt (Nat.lt_of_lt_of_le (Heap.lt_size e) I.ok.above)
  have neC : ∀ b o, X.s₀.heap.get? b = some o → b ∉ X.ex → b ∉ ch := fun b o e hx hb => by
    rcases (hch b hb).1 with z | z
    · exact hx z
    · exact absurd (Nat.lt_of_lt_of_le (Heap.lt_size e) z) (Nat.lt_irrefl _)
  have cellK : ∀ x c, X.env.cells.lookup x = some c → ∀ v, s.heap.IsCell c v → h'.IsCell c v := fun x c e v ⟨o, ho, hd⟩ => by
    have nch : c ∉ ch := fun z => (hch c z).2.2.1 x c e rfl
    by_cases hc : c ∈ X.fs
    · obtain ⟨sl, q⟩ := slot c o (I.cne x c e) hc nch ho (I.freeC x c e)
      exact ⟨_, q, hd⟩
    · exact ⟨o, keep c o (I.cne x c e) hc nch ho (I.freeC x c e), hd⟩
  refine ⟨I.ok, I.os, hg, ⟨fun b o e n hb hx => ?_, fun b o e n hb hx => ?_, fun b o e n hx => ?_, fun b o e hx => ?_, fun b xs e => tups b xs (I.base.tups b xs e), fun b o xs e => frzs b o xs (I.base.frzs b o xs e), fun b ps e => ?_⟩, ?_, fun x c e => ?_, ?_, fun x c e => ?_, fun p hp => ?_, hok, I.len⟩
  · exact keep b o (neL b o e) hb (neC b o e hx) (I.base.keep b o e n hb hx) (I.base.free b o e n hx)
  · obtain ⟨sl, e1⟩ := I.base.slot b o e n hb hx
    obtain ⟨sl', e2⟩ := slot b _ (neL b o e) hb (neC b o e hx) e1 (I.base.free b o e n hx)
    exact ⟨sl', e2⟩
  · obtain ⟨o', e1⟩ := I.base.there b o e hx
    exact free b o' (neC b o e hx) e1 (I.base.free b o e n hx)
  · obtain ⟨o', e1⟩ := I.base.there b o e hx
    exact there b o' (neC b o e hx) e1
  · obtain ⟨m1, e1⟩ := I.base.tbls b ps e
    obtain ⟨m2, e2⟩ := tbls b _ e1
    exact ⟨m1 ++ m2, by rw [e2, Array.append_assoc]⟩
  · obtain ⟨m, hn, hl⟩ := I.loc
    refine ⟨m, ns m hn, fun i x v e1 e2 e3 => ?_⟩
    obtain ⟨u, r, l⟩ := hl i x v e1 e2 e3
    refine ⟨u, r, ?_⟩
    rcases l with l | ⟨k, c, e, z⟩
    · exact .inl l
    · exact .inr ⟨k, c, e, cellK x c e _ z⟩
  · obtain ⟨v, z⟩ := I.cell x c e
    exact ⟨v, cellK x c e v z⟩
  · obtain ⟨m, ⟨o, _, _, ho, _⟩, _⟩ := I.loc
    exact free _ o (fun z => (hch _ z).2.1 rfl) ho I.free
  · obtain ⟨v, o, ho, hd⟩ := I.cell x c e
    exact free c o (fun z => (hch c z).2.2.1 x c e rfl) ho (I.freeC x c e)
  · obtain ⟨e, n, ne, nf, d⟩ := I.pin p hp
    have nch : p.1 ∉ ch := fun z => (hch p.1 z).2.2.2 p hp rfl
    exact ⟨keep p.1 p.2 ne nf nch e n, free p.1 p.2 nch e n, ne, nf, d⟩
theorem Inv.un {t' : Nat} (I : Inv X pins σ H s) (u : Un X.fs [] H H' s.heap h') (hok : HOk X.prog X.w H' h') : Inv X pins σ H' { s with heap := h', toks := t' } := by
  obtain ⟨m, ⟨o, es, ep, ho, r⟩, _⟩ := id I.loc
  obtain ⟨sl, hL⟩ := u.any ho I.free (by simp)
  exact I.step (g' := s.gens) (d' := s.drawn) (ch := []) (fun _ z => nomatch z) (fun b o _ hb _ e n => u.keep b o e n hb (by simp)) (fun b o _ hb _ e n => u.slot b o e n hb (by simp)) (fun b o _ e n => u.free b o e n (by simp)) (fun b o _ e => u.there b o e (by simp)) u.tups u.frzs u.tbls (fun m' hm => by
    obtain ⟨o', es', ep', ho', r'⟩ := hm
    rw [ho] at ho'; cases ho'
    exact ⟨_, es', ep', hL, r'⟩) hok I.bare
theorem Inv.call {g' : Array GenState} {t' : Nat} {d' : Drawn} {ch : List Addr} (I : Inv X pins σ H s) (u : Un (frs X.stack) ch H H' s.heap h') (hok : HOk X.prog X.w H' h') (hg : AllBare g')
    (hch : ∀ b ∈ ch, (b ∈ X.ex ∨ X.s₀.heap.objs.size ≤ b) ∧ b ≠ X.env.locals ∧ (∀ x c, X.env.cells.lookup x = some c → c ≠ b) ∧ ∀ p ∈ X.pn ++ pins, p.1 ≠ b) :
    Inv X pins σ H' { s with heap := h', gens := g', drawn := d', toks := t' } := by
  obtain ⟨m, ⟨o, es, ep, ho, r⟩, _⟩ := id I.loc
  obtain ⟨sl, hL⟩ := u.any ho I.free fun z => (hch _ z).2.1 rfl
  exact I.step (ch := ch) hch (fun b o hL hb hc e n => u.keep b o e n (fun z => (List.mem_cons.mp (I.stkSub b z)).elim hL hb) hc) (fun b o _ _ hc e n => u.any e n hc) (fun b o hc e n => u.free b o e n hc) (fun b o hc e => u.there b o e hc) u.tups u.frzs u.tbls (fun m' hm => by
    obtain ⟨o', es', ep', ho', r'⟩ := hm
    rw [ho] at ho'; cases ho'
    exact ⟨_, es', ep', hL, r'⟩) hok hg
theorem Inv.turned {t' : Nat} {it : Addr} (I : Inv X pins σ H s) (k : ∀ b o, b ≠ it → s.heap.get? b = some o → h'.get? b = some o) (hn : H it = none) (hL : it ≠ X.env.locals)
    (h1 : it ∈ X.ex ∨ X.s₀.heap.objs.size ≤ it) (h2 : ∀ x c, X.env.cells.lookup x = some c → c ≠ it) (h3 : ∀ p ∈ X.pn ++ pins, p.1 ≠ it) : Inv X pins σ H { s with heap := h', toks := t' } := by
  have nit : ∀ b u, H b = some u → b ≠ it := fun b u e z => by rw [z, hn] at e; cases e
  refine I.step (g' := s.gens) (d' := s.drawn) (ch := [it]) (fun b hb => ?_) (fun b o _ _ hc e _ => k b o (fun z => hc (by simp [z])) e) (fun b o _ _ hc e _ => ⟨o.slots, k b o (fun z => hc (by simp [z])) e⟩) (fun _ _ _ _ n => n)
    (fun b o hc e => ⟨o, k b o (fun z => hc (by simp [z])) e⟩) (fun _ _ e => e) (fun _ _ _ e => e) (fun b ps e => ⟨#[], by rw [e]; simp⟩) (fun m hm => ?_) (fun b u e => ?_) I.bare
  · have e : b = it := by simpa using hb
    subst e
    exact ⟨h1, hL, h2, h3⟩
  · obtain ⟨o, es, ep, ho, r⟩ := hm
    exact ⟨o, es, ep, k _ o (Ne.symm hL) ho, r⟩
  · refine (I.hok b u e).stay (fun c v hc q => k c v ?_ q) (fun _ q => q) fun _ _ q => q
    rcases hc with z | z
    · rw [z]; exact nit b u e
    · exact nit c _ z
theorem Inv.tok (I : Inv X pins σ H s) (t : Nat) : Inv X pins σ H { s with toks := t } := I.un (h' := s.heap) (t' := t) Un.refl I.hok
theorem Inv.kept {t' : Nat} (I : Inv X pins σ H s) (k : ∀ b u, s.heap.get? b = some u → h'.get? b = some u) : Inv X pins σ H { s with heap := h', toks := t' } := I.un (Un.kept k) (I.hok.kept k)
theorem Inv.laid {a : Addr} {o : HO} {t' : Nat} (I : Inv X pins σ H s) (k : ∀ b u, s.heap.get? b = some u → h'.get? b = some u) (hp : s.heap.objs.size ≤ a) (new : ObjOk X.prog X.w (upd H a o) h' a o) :
    Inv X pins σ (upd H a o) { s with heap := h', toks := t' } := I.un (Un.laid k hp (I.hok.fresh hp)) (I.hok.laid k hp new)
theorem Inv.write {x e : Addr} {o : HO} {t' : Nat} (I : Inv X pins σ H s) (mu : Mut (H x)) (he : e = x ∨ H e = some (.own x)) (k : ∀ b u, b ≠ e → s.heap.get? b = some u → h'.get? b = some u) (heo : ∃ u, h'.get? e = some u)
    (new : ObjOk X.prog X.w (upd H x o) h' x o) : Inv X pins σ (upd H x o) { s with heap := h', toks := t' } := I.un (Un.write mu he k heo) (I.hok.write mu he k heo new)
theorem Inv.weak {σ' : List (Option V)} (I : Inv X pins σ H s) (hl : σ'.length = σ.length) (w : ∀ (i : Nat) v, σ'[i]? = some (some v) → σ[i]? = some (some v)) : Inv X pins σ' H s :=
  ⟨I.ok, I.os, I.bare, I.base, let ⟨m, hn, hl'⟩ := I.loc; ⟨m, hn, fun i x v e1 e2 e3 => hl' i x v e1 (w i v e2) e3⟩, I.cell, I.free, I.freeC, I.pin, I.hok, hl.trans I.len⟩
theorem Inv.pins_of {pins' : List (Addr × Obj)} (I : Inv X pins σ H s) (h : ∀ p ∈ pins', s.heap.get? p.1 = some p.2 ∧ H p.1 = none ∧ p.1 ≠ X.env.locals ∧ p.1 ∉ X.fs ∧ ∀ v, p.2.data ≠ .cell v) : Inv X pins' σ H s :=
  ⟨I.ok, I.os, I.bare, I.base, I.loc, I.cell, I.free, I.freeC, fun p hp => (List.mem_append.mp hp).elim (fun z => I.pin p (List.mem_append_left _ z)) (h p), I.hok, I.len⟩
theorem nodup_ix {N : List Str} (hN : N.Nodup) {i j : Nat} {x : Str} (a : N[i]? = some x) (b : N[j]? = some x) : i = j := by
  obtain ⟨h1, e1⟩ := List.getElem?_eq_some_iff.mp a
  obtain ⟨h2, e2⟩ := List.getElem?_eq_some_iff.mp b
  exact (List.getElem_inj hN).mp (e1.trans e2.symm)
theorem store_ok2 {M : Model} {A : Around} {E : Value → Shared → Prop} {i : Nat} {x : Str} {v : V} {u : Value} {Q : Unit → Shared → Prop} (I : Inv X pins σ H s) (hN : X.N.Nodup) (hi : X.N[i]? = some x) (hx : Loc X.env.scope x) (r : RelV v u)
    (h : ∀ s', Inv X pins (σ.set i (some v)) H s' → (∃ a, Heap.SameBut a s.heap s'.heap ∧ (a = X.env.locals ∨ X.env.cells.lookup x = some a)) → Q () s') (hf : X.fn x = true ∨ X.env.scope.names.lookup x = some .local := by first | exact .inl rfl | exact .inr rfl | assumption) : wpAny M A (storeName X.env x u) Q E s := by
  obtain ⟨m, hn, hl⟩ := id I.loc
  have hcls : (X.env.scope.kind == .class || (X.env.scope.kind == .module && X.env.locals != X.env.globals)) = false := by rw [I.ok.kind]; rfl
  have hiσ : i < σ.length := by rw [I.len]; exact (List.getElem?_eq_some_iff.mp hi).1
  have cne := I.cne
  have tracked : ∀ {a : Addr} {h' : Heap}, (∃ o, s.heap.get? a = some o ∧ H a = none) → Heap.SameBut a s.heap h' → HOk X.prog X.w H h' := fun {a h'} ha hs b ob e => by
    obtain ⟨_, _, hfree⟩ := ha
    refine (I.hok b ob e).stay (fun c w' hc q => (hs.2 c ?_).trans q) (fun _ q => q) fun _ _ q => q
    rintro rfl
    rcases hc with rfl | hc
    · rw [hfree] at e; cases e
    · rw [hfree] at hc; cases hc
  rcases hx with hk | hk
  · refine wpAny_storeName_local hk hn (fun h' hn' hs => ?_) hcls
    obtain ⟨oL, _, _, hoL, _⟩ := id hn
    refine h _ ⟨I.ok, I.os, I.bare, ⟨fun b o e n hb hx => ?_, fun b o e n hb hx => ?_, I.base.free, fun b o e hx => ?_, I.base.tups, I.base.frzs, I.base.tbls⟩, ⟨_, hn', fun j y v' e1 e2 e3 => ?_⟩, fun y c e => ?_, I.free, I.freeC, fun p hp => ?_, tracked ⟨oL, hoL, I.free⟩ hs, by simpa using I.len⟩ ⟨_, hs, .inl rfl⟩
    · exact (hs.2 b (Nat.ne_of_lt (Nat.lt_of_lt_of_le (Heap.lt_size e) I.ok.above))).trans (I.base.keep b o e n hb hx)
    · obtain ⟨sl, e1⟩ := I.base.slot b o e n hb hx
      exact ⟨sl, (hs.2 b (Nat.ne_of_lt (Nat.lt_of_lt_of_le (Heap.lt_size e) I.ok.above))).trans e1⟩
    · obtain ⟨o', e1⟩ := I.base.there b o e hx
      exact ⟨o', (hs.2 b (Nat.ne_of_lt (Nat.lt_of_lt_of_le (Heap.lt_size e) I.ok.above))).trans e1⟩
    · by_cases hj : j = i
      · subst hj
        rw [hi] at e1; cases e1
        rw [List.getElem?_set_self hiσ] at e2
        cases e2
        exact ⟨u, r, .inl ⟨hk, by simp⟩⟩
      · rw [List.getElem?_set_ne (Ne.symm hj)] at e2
        obtain ⟨u', r', q⟩ := hl j y v' e1 e2 e3
        refine ⟨u', r', ?_⟩
        rcases q with ⟨k, e⟩ | ⟨k, c, e, z⟩
        · refine .inl ⟨k, ?_⟩
          have : y ≠ x := fun e => hj (nodup_ix hN e1 (e ▸ hi))
          simp [this, e]
        · exact .inr ⟨k, c, e, z.sameBut hs (cne y c e)⟩
    · obtain ⟨w', z⟩ := I.cell y c e
      exact ⟨w', z.sameBut hs (cne y c e)⟩
    · obtain ⟨e, n, ne, nf, d⟩ := I.pin p hp
      exact ⟨(hs.2 p.1 ne).trans e, n, ne, nf, d⟩
  · have hfn : X.fn x = true := by
      rcases hf with z | z
      · exact z
      · rw [z] at hk; cases hk
    obtain ⟨c, hc⟩ := I.ok.has x (.inl hk)
    obtain ⟨w', z⟩ := I.cell x c hc
    refine wpAny_storeName_cell I.ok.kind hk hc z (fun h' hc' hs => ?_)
    obtain ⟨oc, hoc, hocd⟩ := id z
    refine h { s with heap := h' } ⟨I.ok, I.os, I.bare, ⟨fun b o e n hb hx => ?_, fun b o e n hb hx => ?_, I.base.free, fun b o e hx => ?_, I.base.tups, I.base.frzs, I.base.tbls⟩, ⟨m, hn.sameBut hs (Ne.symm (cne x c hc)), fun j y v' e1 e2 e3 => ?_⟩, fun y c' e => ?_, I.free, I.freeC, fun p hp => ?_, tracked ⟨oc, hoc, I.freeC x c hc⟩ hs, by simpa using I.len⟩ ⟨c, hs, .inr hc⟩
    · exact (hs.2 b (Nat.ne_of_lt (Nat.lt_of_lt_of_le (Heap.lt_size e) (I.ok.cab x c hfn hc)))).trans (I.base.keep b o e n hb hx)
    · obtain ⟨sl, e1⟩ := I.base.slot b o e n hb hx
      exact ⟨sl, (hs.2 b (Nat.ne_of_lt (Nat.lt_of_lt_of_le (Heap.lt_size e) (I.ok.cab x c hfn hc)))).trans e1⟩
    · obtain ⟨o', e1⟩ := I.base.there b o e hx
      exact ⟨o', (hs.2 b (Nat.ne_of_lt (Nat.lt_of_lt_of_le (Heap.lt_size e) (I.ok.cab x c hfn hc)))).trans e1⟩
    · by_cases hj : j = i
      · subst hj
        rw [hi] at e1; cases e1
        rw [List.getElem?_set_self hiσ] at e2
        cases e2
        exact ⟨u, r, .inr ⟨.inl hk, c, hc, hc'⟩⟩
      · rw [List.getElem?_set_ne (Ne.symm hj)] at e2
        obtain ⟨u', r', q⟩ := hl j y v' e1 e2 e3
        refine ⟨u', r', ?_⟩
        rcases q with q | ⟨k, c', e, z'⟩
        · exact .inl q
        · refine .inr ⟨k, c', e, z'.sameBut hs ?_⟩
          rintro rfl
          exact hj (nodup_ix hN e1 (I.ok.inj _ _ _ e hc ▸ hi))
    · by_cases hcc : c' = c
      · subst hcc; exact ⟨_, hc'⟩
      · obtain ⟨w2, z2⟩ := I.cell y c' e
        exact ⟨w2, z2.sameBut hs hcc⟩
    · obtain ⟨e, n, ne, nf, d⟩ := I.pin p hp
      refine ⟨(hs.2 p.1 ?_).trans e, n, ne, nf, d⟩
      intro q
      rw [q, hoc] at e
      have q' : oc = p.2 := Option.some.inj e
      exact d w' (by rw [← q']; exact hocd)
theorem store_ok {M : Model} {A : Around} {E : Value → Shared → Prop} {i : Nat} {x : Str} {v : V} {u : Value} {Q : Unit → Shared → Prop} (I : Inv X pins σ H s) (hN : X.N.Nodup) (hi : X.N[i]? = some x) (hx : Loc X.env.scope x) (r : RelV v u)
    (h : ∀ s', Inv X pins (σ.set i (some v)) H s' → Q () s') (hf : X.fn x = true ∨ X.env.scope.names.lookup x = some .local := by first | exact .inl rfl | exact .inr rfl | assumption) : wpAny M A (storeName X.env x u) Q E s :=
  store_ok2 I hN hi hx r (fun s' I' _ => h s' I') hf
theorem Inv.call' {s' : Shared} {ch : List Addr} (I : Inv X pins σ H s) (ho : s'.os = s.os) (u : Un (frs X.stack) ch H H' s.heap s'.heap) (hok : HOk X.prog X.w H' s'.heap) (hg : AllBare s'.gens)
    (hch : ∀ b ∈ ch, (b ∈ X.ex ∨ X.s₀.heap.objs.size ≤ b) ∧ b ≠ X.env.locals ∧ (∀ x c, X.env.cells.lookup x = some c → c ≠ b) ∧ ∀ p ∈ X.pn ++ pins, p.1 ≠ b) : Inv X pins σ H' s' := by
  obtain ⟨h', g', d', t', o'⟩ := s'
  have e : o' = s.os := ho
  subst e
  exact I.call (g' := g') (t' := t') (d' := d') u hok hg hch
end
noncomputable abbrev XK := Value → Option Addr → Hp → Prop
noncomputable abbrev St := List (Option V)
noncomputable abbrev VK := V → Hp → Prop
noncomputable abbrev TE := St → Hp → VK → Prop
noncomputable abbrev TT := St → Hp → (Bool → Hp → Prop) → Prop
noncomputable abbrev TA := St → Hp → (List V → Hp → Prop) → Prop
structure Ends where
  nx : St → Hp → Prop
  rt : VK
  bk : St → Hp → Prop := fun _ _ => False
  ct : St → Hp → Prop := fun _ _ => False
noncomputable abbrev TS := Ends → St → Hp → Prop
noncomputable def EP (X : Cx) (pins : List (Addr × Obj)) (σ : St) (Q : VK) (u : Value) (s' : Shared) : Prop := ∃ v H', Inv X pins σ H' s' ∧ RelV v u ∧ Q v H'
noncomputable def TP (X : Cx) (pins : List (Addr × Obj)) (σ : St) (Q : Bool → Hp → Prop) (b : Bool) (s' : Shared) : Prop := ∃ H', Inv X pins σ H' s' ∧ Q b H'
noncomputable def AP (X : Cx) (pins : List (Addr × Obj)) (σ : St) (Q : List V → Hp → Prop) (us : List Value) (s' : Shared) : Prop := ∃ vs H', Inv X pins σ H' s' ∧ Vals vs us ∧ Q vs H'
noncomputable def SP (X : Cx) (pins : List (Addr × Obj)) (D : Ends) (f : Flow) (s' : Shared) : Prop :=
  match f with
  | .next => ∃ σ' H', Inv X pins σ' H' s' ∧ D.nx σ' H'
  | .brk => ∃ σ' H', Inv X pins σ' H' s' ∧ D.bk σ' H'
  | .cont => ∃ σ' H', Inv X pins σ' H' s' ∧ D.ct σ' H'
  | .ret u => ∃ v σ' H', Inv X pins σ' H' s' ∧ RelV v u ∧ D.rt v H'
noncomputable def PE (X : Cx) (e : Expr) (t : TE) : Prop :=
  ∀ (pins : List (Addr × Obj)) (s : Shared) (σ : St) (H : Hp) (Q : VK), Inv X pins σ H s → t σ H Q → wpAny (model X.prog X.w) X.A (eval e X.env) (EP X pins σ Q) X.xe s
noncomputable def PT (X : Cx) (e : Expr) (t : TT) : Prop :=
  ∀ (pins : List (Addr × Obj)) (s : Shared) (σ : St) (H : Hp) (Q : Bool → Hp → Prop), Inv X pins σ H s → t σ H Q → wpAny (model X.prog X.w) X.A (isTrue e X.env (eval e X.env)) (TP X pins σ Q) X.xe s
noncomputable def PW (X : Cx) (e : Expr) (t : TT) : Prop :=
  ∀ (whole : Sem Value) (pins : List (Addr × Obj)) (s : Shared) (σ : St) (H : Hp) (Q : Bool → Hp → Prop), Inv X pins σ H s → t σ H Q → wpAny (model X.prog X.w) X.A (isTrue e X.env whole) (TP X pins σ Q) X.xe s
theorem PW.pt {X : Cx} {e : Expr} {t : TT} (h : PW X e t) : PT X e t := h _
noncomputable def PA (X : Cx) (es : List Expr) (t : TA) : Prop :=
  ∀ (pos : Pos) (pins : List (Addr × Obj)) (s : Shared) (σ : St) (H : Hp) (Q : List V → Hp → Prop), Inv X pins σ H s → t σ H Q → wpAny (model X.prog X.w) X.A (spliced (backTo pos (starEach es X.env))) (AP X pins σ Q) X.xe s
noncomputable def PS (X : Cx) (st : Stmt) (t : TS) : Prop :=
  ∀ (pins : List (Addr × Obj)) (s : Shared) (σ : St) (H : Hp) (D : Ends), Inv X pins σ H s → t D σ H → wpAny (model X.prog X.w) X.A (exec st X.env) (SP X pins D) X.xe s
noncomputable def PSs (X : Cx) (st : List Stmt) (t : TS) : Prop :=
  ∀ (pins : List (Addr × Obj)) (s : Shared) (σ : St) (H : Hp) (D : Ends), Inv X pins σ H s → t D σ H → wpAny (model X.prog X.w) X.A (execs st X.env) (SP X pins D) X.xe s
theorem thn {α : Type} {t : Sem α} {Q Q' : α → Shared → Prop} {M : Model} {A : Around} {E : Value → Shared → Prop} {s : Shared} (h : wpAny M A t Q E s) (hQ : ∀ a s, Q a s → Q' a s) : wpAny M A t Q' E s := wpAny_mono h hQ fun _ _ x => x
end L2
namespace L2
open PySem PySem.Spec PyProof.Rows
section
variable {X : Cx}
noncomputable def tVar (i : Nat) : TE := fun σ H Q => ∃ v, σ[i]? = some (some v) ∧ Q v H
noncomputable def tC (v : V) : TE := fun _ H Q => Q v H
theorem pe_var {i : Nat} {x : Str} {pos : Pos} (hN : X.N[i]? = some x) (hv : Vis X.env.scope x) (hd : (x == ("__debug__" : Str)) = false := by decide) (hcd : (x == ("__classdict__" : Str)) = false := by decide) : PE X (.Name x pos) (tVar i) := by
  intro pins s σ H Q I h
  obtain ⟨v, e, h⟩ := h
  obtain ⟨m, hn, hl⟩ := I.loc
  obtain ⟨u, r, l⟩ := hl i x v hN e hv
  have fin : EP X pins σ Q u s := ⟨v, H, I, r, h⟩
  rcases l with ⟨hk, hm⟩ | ⟨hk, c, hc, hcell⟩
  · exact wpAny_Name (wpAny_loadName_local I.ok.kind hk hn hm fin) hd
  · rcases hk with hk | hk
    · exact wpAny_Name (wpAny_loadName_cell I.ok.kind hk hc hcell fin) hd
    · exact wpAny_Name (wpAny_loadName_free I.ok.kind hk hc hcell fin hcd) hd
theorem pe_int {i j pos} : PE X (.Constant (.int i) j pos) (tC (.int i)) := fun _ _ _ H _ I h => wpAny_Constant_int ⟨.int i, H, I.tok _, ⟨_, rfl⟩, h⟩
theorem pe_bl {b j pos} : PE X (.Constant (.bool b) j pos) (tC (.bl b)) := fun _ _ _ H _ I h => Constant_bool ⟨.bl b, H, I, rfl, h⟩
theorem pe_str {x j pos} : PE X (.Constant (.str x) j pos) (tC (.str x)) := fun _ _ _ H _ I h => Calls.Constant_str ⟨.str x, H, I.tok _, ⟨_, rfl⟩, h⟩
noncomputable def Gl (X : Cx) (x : Str) : Prop := X.env.kindOf x = some .globalImplicit
theorem ld_glob {E : Value → Shared → Prop} {pins : List (Addr × Obj)} {s : Shared} {σ : St} {H : Hp} {x : Str} {u : Value} {pos : Pos} {Q : Value → Shared → Prop} (I : Inv X pins σ H s) (hg : Gl X x) (hm : X.mg x = some u) (h : Q u s)
    (hd : (x == ("__debug__" : Str)) = false := by decide) : wpAny (model X.prog X.w) X.A (eval (.Name x pos) X.env) Q E s :=
  Calls.Name_function_global I.ok.kind hg (Calls.loadGlobal_global (by rw [I.ok.glob]; exact I.mod.glob.keeps I.bk) hm h) hd
theorem ld_blt {E : Value → Shared → Prop} {pins : List (Addr × Obj)} {s : Shared} {σ : St} {H : Hp} {x : Str} {u : Value} {pos : Pos} {Q : Value → Shared → Prop} (I : Inv X pins σ H s) (hg : Gl X x) (hm : X.mg x = none) (hv : bootBuiltins x = some u) (h : Q u s)
    (hn : x ≠ "__name__" := by decide) (hd : (x == ("__debug__" : Str)) = false := by decide) : wpAny (model X.prog X.w) X.A (eval (.Name x pos) X.env) Q E s := by
  obtain ⟨mb, h1, h2⟩ := I.mod.blt
  exact Calls.Name_function_global I.ok.kind hg (Calls.loadGlobal_builtin (by rw [I.ok.glob]; exact I.mod.glob.keeps I.bk) hm (by rw [I.ok.blt]; exact h1.keeps I.bk) ((h2 x hn).trans hv) h) hd
theorem pe_glob {x : Str} {v : V} {u : Value} {pos : Pos} (hg : Gl X x) (hm : X.mg x = some u) (r : RelV v u) (hd : (x == ("__debug__" : Str)) = false := by decide) : PE X (.Name x pos) (tC v) :=
  fun _ _ _ H _ I h => ld_glob I hg hm ⟨v, H, I, r, h⟩ hd
theorem pe_bltn {x : Str} {v : V} {u : Value} {pos : Pos} (hg : Gl X x) (hm : X.mg x = none) (hv : bootBuiltins x = some u) (r : RelV v u) (hn : x ≠ "__name__" := by decide) (hd : (x == ("__debug__" : Str)) = false := by decide) : PE X (.Name x pos) (tC v) :=
  fun _ _ _ H _ I h => ld_blt I hg hm hv ⟨v, H, I, r, h⟩ hn hd
variable {a b : Expr} {ta tb : TE} {pos : Pos}
noncomputable def PC (X : Cx) (op : CmpOp) (a b : Expr) (t : TE) : Prop :=
  ∀ (pins : List (Addr × Obj)) (s : Shared) (σ : St) (H : Hp) (Q : VK), Inv X pins σ H s → t σ H Q →
    wpAny (model X.prog X.w) X.A (eval a X.env) (fun v s₁ => wpAny (model X.prog X.w) X.A (eval b X.env) (fun u s₂ => wpAny (model X.prog X.w) X.A (compareOp op v u) (EP X pins σ Q) X.xe s₂) X.xe s₁) X.xe s
noncomputable def tB (t : TE) : TT := fun σ H Q => t σ H fun x H1 => ∃ c, x = .bl c ∧ Q c H1
theorem pt_cmp {op : CmpOp} {t : TE} (h : PC X op a b t) (h1 : behindInMarks op b = false := by first | exact nobehind _ (by decide) (by decide) | rfl) : PT X (.Compare a [op] [b] pos) (tB t) := by
  intro pins s σ H Q I hw
  refine wpAny_isTrue_Compare1 (thn (h pins s σ H _ I hw) fun v s1 h1 => thn h1 fun u s2 h2 => thn h2 fun c s3 zz0 => ?_) h1
  obtain ⟨x, H1, I1, r1, q1⟩ := zz0
  obtain ⟨d, rfl, q⟩ := q1
  cases r1
  exact wpAny_truthy_bool ⟨H1, I1, q⟩
theorem pt_val {e : Expr} {t : TE} (h : PE X e t) (he : ∀ whole, isTrue e X.env whole = (do let v ← whole; standAt e.pos; holding [v] (truthy v)) := by intro _; rfl) : PT X e (tB t) := by
  intro pins s σ H Q I hw
  refine isTrue_plain (thn (h pins s σ H _ I hw) fun v s1 zz0 => ?_) (he _)
  obtain ⟨x, H1, I1, r1, q1⟩ := zz0
  obtain ⟨d, rfl, q⟩ := q1
  cases r1
  exact wpAny_truthy_bool ⟨H1, I1, q⟩
variable {tA tB' : TT} {rest : List Expr}
noncomputable def tAnd (t u : TT) : TT := fun σ H Q => t σ H fun c H1 => if c = true then u σ H1 Q else Q false H1
noncomputable def tOr (t u : TT) : TT := fun σ H Q => t σ H fun c H1 => if c = true then Q true H1 else u σ H1 Q
noncomputable def tNot (t : TT) : TT := fun σ H Q => t σ H fun c H1 => Q (!c) H1
theorem pw_and1 (ha : PT X a tA) : PW X (.BoolOp .And [a] pos) tA := by
  intro wh pins s σ H Q I h
  refine isTrue_and (thn (ha pins s σ H Q I h) fun c s1 e => ?_)
  cases c with
  | true => exact isTrue_and_nil e
  | false => exact e
theorem pw_or1 (ha : PT X a tA) : PW X (.BoolOp .Or [a] pos) tA := by
  intro wh pins s σ H Q I h
  refine isTrue_or (thn (ha pins s σ H Q I h) fun c s1 e => ?_)
  cases c with
  | false => exact isTrue_or_nil e
  | true => exact e
theorem pw_and (ha : PT X a tA) (hb : PW X (.BoolOp .And (b :: rest) pos) tB') : PW X (.BoolOp .And (a :: b :: rest) pos) (tAnd tA tB') := by
  intro wh pins s σ H Q I h
  refine isTrue_and (thn (ha pins s σ H _ I h) fun c s1 zz0 => ?_)
  obtain ⟨H1, I1, q1⟩ := zz0
  cases c with
  | true => exact hb wh pins s1 σ H1 Q I1 q1
  | false => exact ⟨H1, I1, q1⟩
theorem pw_or (ha : PT X a tA) (hb : PW X (.BoolOp .Or (b :: rest) pos) tB') : PW X (.BoolOp .Or (a :: b :: rest) pos) (tOr tA tB') := by
  intro wh pins s σ H Q I h
  refine isTrue_or (thn (ha pins s σ H _ I h) fun c s1 zz0 => ?_)
  obtain ⟨H1, I1, q1⟩ := zz0
  cases c with
  | true => exact ⟨H1, I1, q1⟩
  | false => exact hb wh pins s1 σ H1 Q I1 q1
theorem pt_not (ha : PT X a tA) : PT X (.UnaryOp .Not a pos) (tNot tA) := by
  intro pins s σ H Q I h
  exact isTrue_not (ha pins s σ H (fun c H1 => Q (!c) H1) I h)
noncomputable def tAndV (ta tb : TE) : TE := fun σ H Q => ta σ H fun x H1 => ∃ c, x = .bl c ∧ if c = true then tb σ H1 Q else Q (.bl false) H1
noncomputable def tNotV (ta : TE) : TE := fun σ H Q => ta σ H fun x H1 => ∃ c, x = .bl c ∧ Q (.bl (!c)) H1
theorem pe_one {op} {t : TE} (h : PE X a t) : PE X (.BoolOp op [a] pos) t := fun pins s σ H Q I hw => BoolOp_one (h pins s σ H Q I hw)
theorem pe_and (ha : PE X a ta) (hb : PE X (.BoolOp .And (b :: rest) pos) tb) : PE X (.BoolOp .And (a :: b :: rest) pos) (tAndV ta tb) := by
  intro pins s σ H Q I h
  refine BoolOp_and (thn (ha pins s σ H _ I h) fun v s1 zz0 => ?_)
  obtain ⟨x, H1, I1, r1, q1⟩ := zz0
  obtain ⟨c, rfl, q1⟩ := q1
  cases r1
  refine wpAny_truthy_bool ?_
  cases c with
  | true => exact hb pins s1 σ H1 Q I1 q1
  | false => exact ⟨.bl false, H1, I1, rfl, q1⟩
theorem pe_not (ha : PE X a ta) : PE X (.UnaryOp .Not a pos) (tNotV ta) := by
  intro pins s σ H Q I h
  refine UnaryOp_ (thn (ha pins s σ H _ I h) fun v s1 zz0 => ?_)
  obtain ⟨x, H1, I1, r1, q1⟩ := zz0
  obtain ⟨c, rfl, q1⟩ := q1
  cases r1
  exact not_of (wpAny_truthy_bool ⟨.bl (!c), H1, I1, rfl, q1⟩)
noncomputable def tIf (t : TT) (ta tb : TE) : TE := fun σ H Q => t σ H fun c H1 => if c = true then ta σ H1 Q else tb σ H1 Q
theorem pe_ifExp {c : Expr} (hc : PT X c tA) (ha : PE X a ta) (hb : PE X b tb) : PE X (.IfExp c a b pos) (tIf tA ta tb) := by
  intro pins s σ H Q I h
  refine wpAny_IfExp (thn (hc pins s σ H _ I h) fun d s1 zz0 => ?_)
  obtain ⟨H1, I1, q1⟩ := zz0
  cases d with
  | true => exact ha pins s1 σ H1 Q I1 q1
  | false => exact hb pins s1 σ H1 Q I1 q1
end
end L2
namespace L2
open PySem PySem.Spec PyProof.Rows
noncomputable def SqL (K : PySem.W.Frag) (H : Hp) (a : Addr) (xs : List V) : Prop :=
  Rd H a (.lst xs) ∨
    ∃ (o : Obj) (its : Array Value) (n : Nat), K.lookup a = some o ∧ o.cls = .type "list" ∧ o.dict = none ∧ o.data = .seq its n ∧ its.size ≤ sizeLine ∧ Vals xs its.toList
noncomputable def SqT (K : PySem.W.Frag) (H : Hp) (a : Addr) (xs : List V) : Prop :=
  Rd H a (.tup xs) ∨
    ∃ (o : Obj) (its : Array Value) (n : Nat), K.lookup a = some o ∧ o.cls = .type "tuple" ∧ o.data = .seq its n ∧ its.size ≤ sizeLine ∧ Vals xs its.toList
noncomputable def absV : Value → Option V
  | .none => some .non
  | .bool b => some (.bl b)
  | .int i _ => some (.int i)
  | .str x _ => some (.str x)
  | .bytes b _ => some (.byt b)
  | .float b _ => some (.flt b)
  | .ref a => some (.ref a)
  | .type n => some (.ty n)
  | _ => none
theorem RelV.abs {x : V} {u : Value} (r : RelV x u) : absV u = some x := by
  cases x with
  | non => cases r; rfl
  | bl _ => cases r; rfl
  | int _ => obtain ⟨t, rfl⟩ := r; rfl
  | str _ => obtain ⟨t, rfl⟩ := r; rfl
  | byt _ => obtain ⟨t, rfl⟩ := r; rfl
  | flt _ => obtain ⟨t, rfl⟩ := r; rfl
  | ref _ => cases r; rfl
  | ty _ => cases r; rfl
theorem RelV.inj {x y : V} {u : Value} (r : RelV x u) (q : RelV y u) : x = y := Option.some.inj (r.abs.symm.trans q.abs)
theorem Vals.inj : ∀ {xs ys : List V} {us : List Value}, Vals xs us → Vals ys us → xs = ys
  | _, _, _, .nil, .nil => rfl
  | _, _, _, .cons r t, .cons r' t' => by rw [r.inj r', Vals.inj t t']
section
variable {X : Cx} {pins : List (Addr × Obj)} {σ : St} {H : Hp} {s : Shared} {a : Addr} {xs ys : List V}
theorem SqL.of {K : PySem.W.Frag} (h : H a = some (.lst xs)) : SqL K H a xs := .inl (.inl h)
theorem SqT.of {K : PySem.W.Frag} (h : H a = some (.tup xs)) : SqT K H a xs := .inl (.inl h)
theorem Inv.list (I : Inv X pins σ H s) (h : SqL X.K H a xs) : ∃ its : List Value, Vals xs its ∧ PlainL s.heap a its.toArray ∧ xs.length ≤ sizeLine := by
  rcases h with h | ⟨o, its, n, hk, hc, hd, hs, hz, r⟩
  · obtain ⟨z, its, n, r, e⟩ := h.ok I.hok
    exact ⟨its, r, ⟨_, n, e, rfl, rfl, rfl⟩, z⟩
  · refine ⟨its.toList, r, ⟨o, n, I.kIn a o hk, hc, hd, by simpa using hs⟩, ?_⟩
    have e := r.length
    simp only [Array.length_toList] at e
    lia
theorem Inv.tuple (I : Inv X pins σ H s) (h : SqT X.K H a xs) : ∃ its : List Value, Vals xs its ∧ IsTup s.heap a its.toArray ∧ xs.length ≤ sizeLine := by
  rcases h with h | ⟨o, its, n, hk, hc, hs, hz, r⟩
  · obtain ⟨z, its, r, p⟩ := h.ok I.hok
    exact ⟨its, r, p, z⟩
  · refine ⟨its.toList, r, ⟨o, I.kIn a o hk, hc, n, by simpa using hs⟩, ?_⟩
    have e := r.length
    simp only [Array.length_toList] at e
    lia
theorem Inv.list_inj (I : Inv X pins σ H s) (h : SqL X.K H a xs) (h' : SqL X.K H a ys) : xs = ys := by
  obtain ⟨its, r, ⟨o, n, e, _, _, d⟩, _⟩ := I.list h
  obtain ⟨its', r', ⟨o', n', e', _, _, d'⟩, _⟩ := I.list h'
  rw [e] at e'; cases e'
  rw [d] at d'
  injection d' with d1 _
  have : its = its' := by simpa using congrArg Array.toList d1
  subst this
  exact r.inj r'
theorem Inv.tuple_inj (I : Inv X pins σ H s) (h : SqT X.K H a xs) (h' : SqT X.K H a ys) : xs = ys := by
  obtain ⟨its, r, ⟨o, e, _, n, d⟩, _⟩ := I.tuple h
  obtain ⟨its', r', ⟨o', e', _, n', d'⟩, _⟩ := I.tuple h'
  rw [e] at e'; cases e'
  rw [d] at d'
  injection d' with d1 _
  have : its = its' := by simpa using congrArg Array.toList d1
  subst this
  exact r.inj r'
end
noncomputable abbrev Cx.wish (X : Cx) (E : Value → Shared → Prop) : Cx := { X with xe := E }
noncomputable abbrev Cx.nox (X : Cx) : Cx := X.wish fun _ _ => False
theorem Cx.Ok.wish {X : Cx} (ok : X.Ok) (E : Value → Shared → Prop) : (X.wish E).Ok :=
  ⟨ok.mod, ok.kind, ok.glob, ok.blt, ok.above, ok.inj, ok.has, ok.cab, ok.hd, ok.frames, ok.stk, ok.exf, ok.bs, ok.bsz, ok.noex, ok.exfs, ok.funs, ok.frf⟩
theorem Cx.Ok.unwish {X : Cx} {E : Value → Shared → Prop} (ok : (X.wish E).Ok) : X.Ok :=
  ⟨ok.mod, ok.kind, ok.glob, ok.blt, ok.above, ok.inj, ok.has, ok.cab, ok.hd, ok.frames, ok.stk, ok.exf, ok.bs, ok.bsz, ok.noex, ok.exfs, ok.funs, ok.frf⟩
section
variable {X : Cx} {pins : List (Addr × Obj)} {σ : St} {H : Hp} {s : Shared} {E : Value → Shared → Prop}
theorem Inv.wish (I : Inv X pins σ H s) (E : Value → Shared → Prop) : Inv (X.wish E) pins σ H s := ⟨I.ok.wish E, I.os, I.bare, I.base, I.loc, I.cell, I.free, I.freeC, I.pin, I.hok, I.len⟩
theorem Inv.unwish (I : Inv (X.wish E) pins σ H s) : Inv X pins σ H s := ⟨I.ok.unwish, I.os, I.bare, I.base, I.loc, I.cell, I.free, I.freeC, I.pin, I.hok, I.len⟩
theorem SP.unwish {D : Ends} {f : Flow} {s' : Shared} (h : SP (X.wish E) pins D f s') : SP X pins D f s' := by
  cases f with
  | next => obtain ⟨σ', H', I, q⟩ := h; exact ⟨σ', H', I.unwish, q⟩
  | brk => obtain ⟨σ', H', I, q⟩ := h; exact ⟨σ', H', I.unwish, q⟩
  | cont => obtain ⟨σ', H', I, q⟩ := h; exact ⟨σ', H', I.unwish, q⟩
  | ret u => obtain ⟨v, σ', H', I, r, q⟩ := h; exact ⟨v, σ', H', I.unwish, r, q⟩
theorem PSs.nox {st : List Stmt} {t : TS} (h : PSs X.nox st t) : PSs X st t := fun pins s σ H D I hw =>
  wpAny_mono (h pins s σ H D (I.wish _) hw) (fun _ _ q => q.unwish) fun _ _ z => False.elim z
end
section
variable {X : Cx} {st : Stmt} {rest : List Stmt} {t u : TS} {e : Expr} {te : TE} {pos : Pos}
noncomputable def tNext : TS := fun D σ H => D.nx σ H
noncomputable def tSeq (t u : TS) : TS := fun D σ H => t { D with nx := u D } σ H
theorem pss_nil : PSs X [] tNext := fun _ _ σ H _ I h => wpAny_execs_nil ⟨σ, H, I, h⟩
theorem pss_cons (h1 : PS X st t) (h2 : PSs X rest u) : PSs X (st :: rest) (tSeq t u) := by
  intro pins s σ H D I h
  refine wpAny_execs_cons (thn (h1 pins s σ H { D with nx := u D } I h) fun f s1 q => ?_)
  cases f with
  | next =>
    obtain ⟨σ', H', I', q⟩ := q
    exact h2 pins s1 σ' H' D I' q
  | ret v => exact q
  | brk => exact q
  | cont => exact q
theorem pss_one (h1 : PS X st t) : PSs X [st] t := by
  intro pins s σ H D I h
  refine wpAny_execs_cons (thn (h1 pins s σ H D I h) fun f s1 q => ?_)
  cases f with
  | next => exact wpAny_execs_nil q
  | ret v => exact q
  | brk => exact q
  | cont => exact q
theorem Inv.quiet {pins : List (Addr × Obj)} {σ : St} {H : Hp} {s : Shared} (I : Inv X pins σ H s) : interactive X.env = false := by simp [interactive, I.ok.kind]
noncomputable def tDrop (te : TE) : TS := fun D σ H => te σ H fun _ H1 => D.nx σ H1
theorem ps_expr (he : PE X e te) (hs : swapsWith e none pos.line X.env = pure false := by rfl) : PS X (.Expr e pos) (tDrop te) := by
  intro pins s σ H D I h
  exact wpAny_Expr_any (thn (he pins s σ H _ I h) fun v s1 zz => by obtain ⟨x, H1, I1, r1, q1⟩ := zz; exact ⟨σ, H1, I1, q1⟩) I.quiet hs
noncomputable def tRet (te : TE) : TS := fun D σ H => te σ H D.rt
theorem ps_ret (he : PE X e te) : PS X (.Return (some e) pos) (tRet te) := by
  intro pins s σ H D I h
  exact wpAny_Return_some (thn (he pins s σ H _ I h) fun v s1 zz => by obtain ⟨x, H1, I1, r1, q1⟩ := zz; exact ⟨x, σ, H1, I1, r1, q1⟩)
noncomputable def tIfS (c : TT) (t u : TS) : TS := fun D σ H => c σ H fun b H1 => if b = true then t D σ H1 else u D σ H1
theorem ps_if {c : Expr} {a b : List Stmt} {tc : TT} (hc : PT X c tc) (ha : PSs X a t) (hb : PSs X b u) : PS X (.If c a b pos) (tIfS tc t u) := by
  intro pins s σ H D I h
  refine wpAny_If (thn (hc pins s σ H _ I h) fun d s1 zz0 => ?_)
  obtain ⟨H1, I1, q1⟩ := zz0
  cases d with
  | true => exact ha pins s1 σ H1 D I1 q1
  | false => exact hb pins s1 σ H1 D I1 q1
noncomputable def tNever : TS := fun _ _ _ => False
theorem pss_never {sts : List Stmt} : PSs X sts tNever := fun _ _ _ _ _ _ h => h.elim
end
noncomputable abbrev TG := V → St → Hp → (St → Hp → Prop) → Prop
noncomputable abbrev TGs := List V → St → Hp → (St → Hp → Prop) → Prop
noncomputable def PG (X : Cx) (target : Expr) (t : TG) : Prop :=
  ∀ (pins : List (Addr × Obj)) (s : Shared) (σ : St) (H : Hp) (v : V) (u : Value) (Q : St → Hp → Prop), Inv X pins σ H s → RelV v u → t v σ H Q →
    wpAny (model X.prog X.w) X.A (assign target X.env u) (fun _ s' => ∃ σ' H', Inv X pins σ' H' s' ∧ Q σ' H') X.xe s
noncomputable def PGs (X : Cx) (ts : List Expr) (t : TGs) : Prop :=
  ∀ (pins : List (Addr × Obj)) (s : Shared) (σ : St) (H : Hp) (vs : List V) (us : List Value) (Q : St → Hp → Prop), Inv X pins σ H s → Vals vs us → t vs σ H Q →
    wpAny (model X.prog X.w) X.A (assignInOrder ((assignEach ts X.env).map (·.2)) us) (fun _ s' => ∃ σ' H', Inv X pins σ' H' s' ∧ Q σ' H') X.xe s
noncomputable abbrev TSet := V → V → V → Hp → (Hp → Prop) → Prop
noncomputable def PSet (X : Cx) (t : TSet) : Prop :=
  ∀ (pins : List (Addr × Obj)) (s : Shared) (σ : St) (H : Hp) (o i v : V) (ov iv u : Value) (Q : Hp → Prop), Inv X pins σ H s → RelV o ov → RelV i iv → RelV v u → t o i v H Q →
    wpAny (model X.prog X.w) X.A (setItem ov iv u) (fun _ s' => ∃ H', Inv X pins σ H' s' ∧ Q H') X.xe s
section
variable {X : Cx} {pos : Pos}
noncomputable def gName (i : Nat) : TG := fun v σ H Q => Q (σ.set i (some v)) H
theorem pg_name {i : Nat} {x : Str} (hN : X.N.Nodup) (hi : X.N[i]? = some x) (hx : Loc X.env.scope x) (hf : X.fn x = true ∨ X.env.scope.names.lookup x = some .local := by first | exact .inl rfl | exact .inr rfl | assumption) : PG X (.Name x pos) (gName i) := by
  intro pins s σ H v u Q I r h
  exact wpAny_assign_Name (store_ok I hN hi hx r (fun s' I' => ⟨_, H, I', h⟩) hf)
noncomputable def gNil : TGs := fun vs σ H Q => vs = [] ∧ Q σ H
noncomputable def gCons (t : TG) (u : TGs) : TGs := fun vs σ H Q => ∃ v r, vs = v :: r ∧ t v σ H fun σ' H' => u r σ' H' Q
theorem pgs_nil : PGs X [] gNil := by
  intro pins s σ H vs us Q I r h
  obtain ⟨e, h⟩ := h
  subst e
  cases r
  exact assignInOrder_nil ⟨σ, H, I, h⟩
theorem pgs_cons {e : Expr} {es : List Expr} {t : TG} {u : TGs} (h1 : PG X e t) (h2 : PGs X es u)
    (hs : (assignEach (e :: es) X.env).map (·.2) = assign e X.env :: (assignEach es X.env).map (·.2) := by rfl) : PGs X (e :: es) (gCons t u) := by
  intro pins s σ H vs us Q I r h
  obtain ⟨v, vr, e1, h⟩ := h
  subst e1
  cases r with
  | cons r rr =>
    rw [hs]
    refine assignInOrder_cons (thn (h1 pins s σ H _ _ _ I r h) fun _ s1 zz0 => ?_)
    obtain ⟨σ1, H1, I1, q1⟩ := zz0
    exact h2 pins s1 σ1 H1 _ _ Q I1 rr q1
noncomputable def gTup (K : PySem.W.Frag) (n : Nat) (t : TGs) : TG := fun v σ H Q => ∃ a xs, v = .ref a ∧ SqT K H a xs ∧ xs.length = n ∧ t xs σ H Q
theorem pg_tup {es : List Expr} {k : Nat} {t : TGs} {n : Nat} (hc : X.calm = true) (h : PGs X es t)
    (hn : (assignEach es X.env).length = n := by rfl) (hst : (assignEach es X.env).findIdx? (·.1) = none := by rfl) : PG X (.Tuple es k pos) (gTup X.K n t) := by
  intro pins s σ H v u Q I r hw
  obtain ⟨a, xs, e1, hq, hl, hw⟩ := hw
  subst e1
  cases r
  obtain ⟨its, rv, ht, hz⟩ := I.tuple hq
  refine assign_Tuple_tuple (I.ok.hd hc) ht (by simp [hn, ← hl, rv.length]) hst fun h' hx => ?_
  have I1 : Inv X pins σ H { s with heap := h' } := I.kept (t' := s.toks) fun b o e => hx b o (Nat.ne_of_lt (Heap.lt_size e)) e
  exact h pins _ σ H xs _ Q I1 (by simpa using rv) hw
noncomputable def gSub (to ti : TE) (t : TSet) : TG := fun v σ H Q => to σ H fun o H1 => ti σ H1 fun i H2 => t o i v H2 fun H3 => Q σ H3
theorem pg_sub {o i : Expr} {to ti : TE} {t : TSet} (ho : PE X o to) (hi : PE X i ti) (hs : PSet X t)
    (ha : ∀ v, assign (.Subscript o i pos) X.env v = (do
      let ov ← holding [v] (eval o X.env)
      let iv ← holding [v, ov] (eval i X.env)
      standAt pos
      holding [v, ov, iv] (setItem ov iv v)
      release [v, ov, iv] []) := by intro _; rfl) : PG X (.Subscript o i pos) (gSub to ti t) := by
  intro pins s σ H v u Q I r h
  rw [ha]
  refine wpAny_bind (wpAny_holding (thn (ho pins s σ H _ I h) fun ov s1 zz0 => ?_))
  obtain ⟨x, H1, I1, r1, q1⟩ := zz0
  refine wpAny_bind (wpAny_holding (thn (hi pins s1 σ H1 _ I1 q1) fun iv s2 zz0 => ?_))
  obtain ⟨y, H2, I2, r2, q2⟩ := zz0
  refine wpAny_bind (wpAny_standAt (wpAny_bind (wpAny_holding (thn (hs pins s2 σ H2 x y v ov iv u _ I2 r1 r2 r q2) fun _ s3 zz0 => ?_))))
  obtain ⟨H3, I3, q3⟩ := zz0
  exact wpAny_release ⟨σ, H3, I3, q3⟩
noncomputable def tAsg (te : TE) (g : TG) : TS := fun D σ H => te σ H fun x H1 => g x σ H1 D.nx
theorem ps_asg {tg e : Expr} {te : TE} {g : TG} (he : PE X e te) (hg : PG X tg g) (hs : swapsWithSole [tg] e pos.line X.env = pure false := by rfl) (hw : swappedStores [tg] e X.env = pure none := by rfl)
    (h1 : (assignEach [tg] X.env).map (·.2) = [assign tg X.env] := by rfl) : PS X (.Assign [tg] e pos) (tAsg te g) := by
  intro pins s σ H D I h
  refine wpAny_Assign_stores (thn (he pins s σ H _ I h) fun v s1 zz0 => ?_) hs hw
  obtain ⟨x, H1, I1, r1, q1⟩ := zz0
  rw [h1]
  exact thn (hg pins s1 σ H1 x v _ I1 r1 q1) fun _ s2 q => q
theorem ps_set {i : Nat} {x : Str} {e : Expr} {te : TE} {pos' : Pos} (hN : X.N.Nodup) (hi : X.N[i]? = some x) (hx : Loc X.env.scope x) (he : PE X e te) (hs : swapsWith e (some (.Name x pos')) pos.line X.env = pure false := by rfl) (hf : X.fn x = true ∨ X.env.scope.names.lookup x = some .local := by first | exact .inl rfl | exact .inr rfl | assumption) :
    PS X (.Assign [.Name x pos'] e pos) (tAsg te (gName i)) := by
  intro pins s σ H D I h
  refine wpAny_Assign_Name (thn (he pins s σ H _ I h) fun v s1 zz0 => ?_) hs
  obtain ⟨y, H1, I1, r1, q1⟩ := zz0
  exact store_ok I1 hN hi hx r1 (fun s2 I2 => ⟨_, H1, I2, q1⟩) hf
end
section
variable {X : Cx} {pos : Pos}
noncomputable def tWhile (c : TT) (tb : TS) : TS := fun D σ H => ∃ W : Nat → St → Hp → Prop, (∃ m, W m σ H) ∧ ∀ m σ H, W m σ H →
  c σ H fun b H1 => if b = true then ∃ N : St → Hp → Prop, (∀ σ' H', N σ' H' → ∃ m', m' < m ∧ W m' σ' H') ∧ tb { D with nx := N, ct := N, bk := D.nx } σ H1 else D.nx σ H1
theorem ps_while {c : Expr} {body : List Stmt} {tc : TT} {tb : TS} (hp : PassesOwn (model X.prog X.w) X.A X.env X.xe) (hc : PT X c tc) (hb : PSs X body tb) : PS X (.While c body [] pos) (tWhile tc tb) := by
  intro pins s σ H D I h
  obtain ⟨W, ⟨m0, w0⟩, turn⟩ := h
  refine wpAny_While (codeAny_whileLoop (fun n s' => ∃ σ' H', Inv X pins σ' H' s' ∧ W n σ' H') ?_ m0 ⟨σ, H, I, w0⟩)
  rintro n s1 ⟨σ1, H1, I1, w1⟩
  refine wpAny_passesOwn hp (thn (hc pins s1 σ1 H1 _ I1 (turn n σ1 H1 w1)) fun b s2 zz0 => ?_)
  obtain ⟨H2, I2, q2⟩ := zz0
  cases b with
  | true =>
    obtain ⟨N, hN, q2⟩ := q2
    rw [if_pos rfl]
    refine wpAny_passesOwn hp (thn (hb pins s2 σ1 H2 _ I2 q2) fun f s3 q3 => ?_)
    cases f with
    | next =>
      obtain ⟨σ3, H3, I3, n3⟩ := q3
      obtain ⟨m', hm, w3⟩ := hN σ3 H3 n3
      exact ⟨m', hm, σ3, H3, I3, w3⟩
    | cont =>
      obtain ⟨σ3, H3, I3, n3⟩ := q3
      obtain ⟨m', hm, w3⟩ := hN σ3 H3 n3
      exact ⟨m', hm, σ3, H3, I3, w3⟩
    | brk => exact q3
    | ret v => exact q3
  | false =>
    rw [if_neg Bool.false_ne_true]
    exact wpAny_execs_nil ⟨σ1, H2, I2, q2⟩
end
structure It where
  go : Nat → Hp → Prop
  yld : Nat → Hp → V → Hp → Prop
  stop : Nat → Hp → Prop
noncomputable def FpOk (X : Cx) (pins : List (Addr × Obj)) (H : Hp) (b : Addr) : Prop :=
  H b = none ∧ b ≠ X.env.locals ∧ b ∉ X.fs ∧ (b ∈ X.ex ∨ X.s₀.heap.objs.size ≤ b) ∧ (∀ x c, X.env.cells.lookup x = some c → c ≠ b) ∧ ∀ p ∈ X.pn ++ pins, p.1 ≠ b
theorem Inv.fpOk {X : Cx} {pins : List (Addr × Obj)} {σ : St} {H H' : Hp} {s : Shared} {b : Addr} (I : Inv X pins σ H s) (hb : s.heap.objs.size ≤ b) (hn : H' b = none) : FpOk X pins H' b := by
  refine ⟨hn, Nat.ne_of_gt (Nat.lt_of_lt_of_le I.lt hb), I.nofs hb, .inr (Nat.le_trans I.sz hb), fun x c e z => ?_, fun p hp z => ?_⟩
  · obtain ⟨v, q⟩ := I.cell x c e
    exact absurd (Nat.lt_of_lt_of_le q.lt (by rw [z]; exact hb)) (Nat.lt_irrefl _)
  · exact absurd (Nat.lt_of_lt_of_le (Heap.lt_size (I.pin p hp).1) (by rw [z]; exact hb)) (Nat.lt_irrefl _)
structure Turn (P : Program) (w : World) (K : PySem.W.Frag) (tg : Expr) (J : It) (fp : List Addr) (it : Addr) (tn : Nat → Heap → Prop) : Prop where
  mem : it ∈ fp
  obj : ∀ i h, tn i h → ∀ b ∈ fp, ∃ o, h.get? b = some o ∧ ∀ v, o.data ≠ .cell v
  keep : ∀ i h h', tn i h → (∀ b ∈ fp, ∀ o, h.get? b = some o → h'.get? b = some o) → tn i h'
  item : ∀ (X : Cx), X.prog = P → X.w = w → X.K = K → X.calm = true → ∀ (i : Nat) (pins : List (Addr × Obj)) (s : Shared) (σ : St) (H : Hp) (E : Value → Shared → Prop), Inv X pins σ H s → (∀ b ∈ fp, FpOk X pins H b) → tn i s.heap → J.go i H →
    wpAny (model P w) X.A (pyNext (.ref it)) (fun r s1 => ∃ u, r = some u ∧
      wpAny (model P w) X.A (letOwnedTupleGo tg (.ref it) u) (fun _ s2 => ∃ x H', Inv X pins σ H' s2 ∧ RelV x u ∧ J.yld i H x H' ∧ tn (i + 1) s2.heap ∧ ∀ b ∈ fp, H' b = none) E s1) E s
  done : ∀ (X : Cx), X.prog = P → X.w = w → X.K = K → X.calm = true → ∀ (i : Nat) (pins : List (Addr × Obj)) (s : Shared) (σ : St) (H : Hp) (E : Value → Shared → Prop), Inv X pins σ H s → (∀ b ∈ fp, FpOk X pins H b) → tn i s.heap → J.stop i H →
    wpAny (model P w) X.A (pyNext (.ref it)) (fun r s1 => r = none ∧ Inv X pins σ H s1) E s
  self : ∀ (A : Around) (i : Nat) (s : Shared) (Q : Value → Shared → Prop) (E : Value → Shared → Prop), tn i s.heap → Q (.ref it) s → wpAny (model P w) A (pyIter (.ref it)) Q E s
noncomputable abbrev TI := St → Hp → (It → Hp → Prop) → Prop
noncomputable def PIE (X : Cx) (pins : List (Addr × Obj)) (σ : St) (tg : Expr) (R : It → Hp → Prop) (itv : Value) (s2 : Shared) : Prop :=
  ∃ (it : Addr) (fp : List Addr) (tn : Nat → Heap → Prop) (J : It) (H' : Hp), itv = .ref it ∧ Inv X pins σ H' s2 ∧ Turn X.prog X.w X.K tg J fp it tn ∧ tn 0 s2.heap ∧ (∀ b ∈ fp, FpOk X pins H' b) ∧ R J H'
noncomputable def PI (X : Cx) (tg iter : Expr) (wi : TI) : Prop :=
  ∀ (pins : List (Addr × Obj)) (s : Shared) (σ : St) (H : Hp) (R : It → Hp → Prop), Inv X pins σ H s → wi σ H R →
    wpAny (model X.prog X.w) X.A (eval iter X.env) (fun v s1 => wpAny (model X.prog X.w) X.A (pyIter v) (PIE X pins σ tg R) X.xe s1) X.xe s
theorem go_of {M : Model} {A : Around} {E : Value → Shared → Prop} {s : Shared} {tg : Expr} {it : Addr} {u : Value} {o : Obj} {n : String} {vs : Array Value} {Q : Unit → Shared → Prop} (ho : s.heap.get? it = some o) (hc : o.cls = .type n) (hd : o.data = .fields vs)
    (hn : ["enumerate", "zip", "dict_itemiterator", "dict_reverseitemiterator", "odict_iterator", "itertools.zip_longest", "itertools.pairwise"].contains n = false) (hQ : Q () s) : wpAny M A (letOwnedTupleGo tg (.ref it) u) Q E s := by
  unfold letOwnedTupleGo
  cases tg <;> first
    | exact wpAny_pure hQ
    | (cases u <;> first
        | exact wpAny_pure hQ
        | (refine wpAny_bind (wpAny_load ho ?_)
           rw [hc, hd]
           show wpAny M A (if (["enumerate", "zip", "dict_itemiterator", "dict_reverseitemiterator", "odict_iterator", "itertools.zip_longest", "itertools.pairwise"].contains n && vs[0]? == some (rawInt _)) = true then _ else _) Q E s
           rw [if_neg (by intro h; rw [hn, Bool.false_and] at h; cases h)]
           exact wpAny_pure hQ))
noncomputable def Itl (K : PySem.W.Frag) (a : Addr) : It :=
  ⟨fun i H => ∃ xs x, SqL K H a xs ∧ xs[i]? = some x, fun i H x H' => H' = H ∧ ∀ xs, SqL K H a xs → xs[i]? = some x, fun i H => ∃ xs, SqL K H a xs ∧ xs.length ≤ i⟩
noncomputable def Itt (K : PySem.W.Frag) (a : Addr) : It :=
  ⟨fun i H => ∃ xs x, SqT K H a xs ∧ xs[i]? = some x, fun i H x H' => H' = H ∧ ∀ xs, SqT K H a xs → xs[i]? = some x, fun i H => ∃ xs, SqT K H a xs ∧ xs.length ≤ i⟩
noncomputable def Itr (lo : Int) (n : Nat) : It := ⟨fun i _ => i < n, fun i H x H' => H' = H ∧ x = .int (lo + i), fun i _ => n ≤ i⟩
theorem turn_list {P : Program} {w : World} {K : PySem.W.Frag} {tg : Expr} (a it : Addr) : Turn P w K tg (Itl K a) [it] it (fun i h => h.IsListIter it a i) where
  mem := by simp
  obj := fun i h st b hb => by
    have e : b = it := by simpa using hb
    subst e
    obtain ⟨o, e, c, d⟩ := st
    exact ⟨o, e, fun v z => by rw [d] at z; cases z⟩
  keep := fun i h h' st k => st.at fun o e => k it (by simp) o e
  item := by
    intro X hP hw hK hc i pins s σ H E I hf st hg
    subst hP hw hK
    obtain ⟨xs, x, hq, hx⟩ := hg
    obtain ⟨its, rv, p, hz⟩ := I.list hq
    obtain ⟨u, hu, ru⟩ := rv.get hx
    obtain ⟨f0, f1, f2, f3, f4, f5⟩ := hf it (by simp)
    refine wpAny_pyNext_list_item st p.isList (x := u) (by simpa using hu) fun h' st' sb => ?_
    have I1 : Inv X pins σ H { s with heap := h' } := I.turned (t' := s.toks) (fun b o hb e => (sb.2 b hb).trans e) f0 f1 f3 f4 f5
    obtain ⟨o, e, c, d⟩ := id st'
    exact ⟨u, rfl, go_of (s := { s with heap := h' }) e c d (by decide) ⟨x, H, I1, ru, ⟨rfl, fun ys hy => by rw [I.list_inj hy hq]; exact hx⟩, st', fun b hb => (hf b hb).1⟩⟩
  done := by
    intro X hP hw hK hc i pins s σ H E I hf st hg
    subst hP hw hK
    obtain ⟨xs, hq, hx⟩ := hg
    obtain ⟨its, rv, p, hz⟩ := I.list hq
    obtain ⟨f0, f1, f2, f3, f4, f5⟩ := hf it (by simp)
    have hl := rv.length
    exact wpAny_pyNext_list_end (I.ok.hd hc) st p.isList (by simp; lia) fun h' eb => ⟨rfl, I.turned (t' := s.toks) (fun b o hb e => eb b o hb e) f0 f1 f3 f4 f5⟩
  self := fun _ _ _ _ _ st h => wpAny_pyIter_listiter st h
theorem turn_tuple {P : Program} {w : World} {K : PySem.W.Frag} {tg : Expr} (a it : Addr) : Turn P w K tg (Itt K a) [it] it (fun i h => h.IsTupleIter it a i) where
  mem := by simp
  obj := fun i h st b hb => by
    have e : b = it := by simpa using hb
    subst e
    obtain ⟨o, e, c, d⟩ := st
    exact ⟨o, e, fun v z => by rw [d] at z; cases z⟩
  keep := fun i h h' st k => st.at fun o e => k it (by simp) o e
  item := by
    intro X hP hw hK hc i pins s σ H E I hf st hg
    subst hP hw hK
    obtain ⟨xs, x, hq, hx⟩ := hg
    obtain ⟨its, rv, p, hz⟩ := I.tuple hq
    obtain ⟨u, hu, ru⟩ := rv.get hx
    obtain ⟨f0, f1, f2, f3, f4, f5⟩ := hf it (by simp)
    refine wpAny_pyNext_tuple_item st (show s.heap.IsTuple a its.toArray from p) (x := u) (by simpa using hu) fun h' st' sb => ?_
    have I1 : Inv X pins σ H { s with heap := h' } := I.turned (t' := s.toks) (fun b o hb e => (sb.2 b hb).trans e) f0 f1 f3 f4 f5
    obtain ⟨o, e, c, d⟩ := id st'
    exact ⟨u, rfl, go_of (s := { s with heap := h' }) e c d (by decide) ⟨x, H, I1, ru, ⟨rfl, fun ys hy => by rw [I.tuple_inj hy hq]; exact hx⟩, st', fun b hb => (hf b hb).1⟩⟩
  done := by
    intro X hP hw hK hc i pins s σ H E I hf st hg
    subst hP hw hK
    obtain ⟨xs, hq, hx⟩ := hg
    obtain ⟨its, rv, p, hz⟩ := I.tuple hq
    obtain ⟨f0, f1, f2, f3, f4, f5⟩ := hf it (by simp)
    have hl := rv.length
    exact wpAny_pyNext_tuple_end (I.ok.hd hc) st (show s.heap.IsTuple a its.toArray from p) (by simp; lia) fun h' eb => ⟨rfl, I.turned (t' := s.toks) (fun b o hb e => eb b o hb e) f0 f1 f3 f4 f5⟩
  self := fun _ _ _ _ _ st h => wpAny_pyIter_tupleiter st h
theorem turn_range {P : Program} {w : World} {K : PySem.W.Frag} {tg : Expr} (it : Addr) (lo : Int) (n : Nat) : Turn P w K tg (Itr lo n) [it] it (fun i h => IsRangeIter h it (lo + (i : Nat) * 1) ((n : Int) - (i : Nat)) 1) where
  mem := by simp
  obj := fun i h st b hb => by
    have e : b = it := by simpa using hb
    subst e
    exact ⟨_, st, fun v z => by
      have z' : Data.fields _ = Data.cell v := z
      cases z'⟩
  keep := fun i h h' st k => k it (by simp) _ st
  item := by
    intro X hP hw hK hc i pins s σ H E I hf st hg
    subst hP hw hK
    obtain ⟨f0, f1, f2, f3, f4, f5⟩ := hf it (by simp)
    have W := Walks.range (prog := X.prog) (w := X.w) (I.ok.hd hc) it lo 1 n
    refine W.item i s _ _ hg st fun v h' tk hv st' kk => ?_
    obtain ⟨t, rfl⟩ := hv
    have I1 : Inv X pins σ H { s with heap := h', toks := tk } := I.turned (fun b o hb e => kk b o (by simpa using hb) e) f0 f1 f3 f4 f5
    refine ⟨_, rfl, go_of (s := { s with heap := h', toks := tk }) (n := "range_iterator") st' rfl rfl (by decide) ⟨.int (lo + i), H, I1, ⟨t, ?_⟩, ⟨rfl, rfl⟩, st', fun b hb => (hf b hb).1⟩⟩
    rw [Int.mul_one]
  done := by
    intro X hP hw hK hc i pins s σ H E I hf st hg
    subst hP hw hK
    obtain ⟨f0, f1, f2, f3, f4, f5⟩ := hf it (by simp)
    exact wpAny_pyNext_range_end (I.ok.hd hc) st (by have : n ≤ i := hg; lia) fun h' eb => ⟨rfl, I.turned (t' := s.toks) (fun b o hb e => eb b o hb e) f0 f1 f3 f4 f5⟩
  self := fun _ _ _ _ _ st h => wpAny_pyIter_rangeiter st h
end L2
namespace L2
open PySem PySem.Spec PyProof.Rows
section
variable {X : Cx} {tg : Expr}
noncomputable def iList (K : PySem.W.Frag) (tl : TE) : TI := fun σ H R => tl σ H fun x H1 => ∃ a, x = .ref a ∧ (∃ xs, SqL K H1 a xs) ∧ R (Itl K a) H1
noncomputable def iTup (K : PySem.W.Frag) (tl : TE) : TI := fun σ H R => tl σ H fun x H1 => ∃ a, x = .ref a ∧ (∃ xs, SqT K H1 a xs) ∧ R (Itt K a) H1
theorem pi_list {l : Expr} {tl : TE} (hl : PE X l tl) : PI X tg l (iList X.K tl) := by
  intro pins s σ H R I h
  refine thn (hl pins s σ H _ I h) fun v s1 zz0 => ?_
  obtain ⟨x, H1, I1, r1, q1⟩ := zz0
  obtain ⟨a, e, ⟨xs, hq⟩, q⟩ := q1
  subst e
  cases r1
  obtain ⟨its, rv, p, hz⟩ := I1.list hq
  refine wpAny_pyIter_list p.isList ?_
  refine ⟨s1.heap.objs.size, [s1.heap.objs.size], _, _, H1, rfl, I1.kept (t' := s1.toks) fun b o e => Heap.get?_push_of_some _ e, turn_list a _, ⟨_, Heap.get?_push_size _ rfl, rfl, rfl⟩, fun b hb => ?_, q⟩
  have e : b = s1.heap.objs.size := by simpa using hb
  subst e
  exact I1.fpOk (Nat.le_refl _) (I1.hok.fresh (Nat.le_refl _))
theorem pi_tup {l : Expr} {tl : TE} (hl : PE X l tl) : PI X tg l (iTup X.K tl) := by
  intro pins s σ H R I h
  refine thn (hl pins s σ H _ I h) fun v s1 zz0 => ?_
  obtain ⟨x, H1, I1, r1, q1⟩ := zz0
  obtain ⟨a, e, ⟨xs, hq⟩, q⟩ := q1
  subst e
  cases r1
  obtain ⟨its, rv, p, hz⟩ := I1.tuple hq
  refine wpAny_pyIter_tuple (show s1.heap.IsTuple a its.toArray from p) ?_
  refine ⟨s1.heap.objs.size, [s1.heap.objs.size], _, _, H1, rfl, I1.kept (t' := s1.toks) fun b o e => Heap.get?_push_of_some _ e, turn_tuple a _, ⟨_, Heap.get?_push_size _ rfl, rfl, rfl⟩, fun b hb => ?_, q⟩
  have e : b = s1.heap.objs.size := by simpa using hb
  subst e
  exact I1.fpOk (Nat.le_refl _) (I1.hok.fresh (Nat.le_refl _))
theorem range_it {pins : List (Addr × Obj)} {σ : St} {H : Hp} {s : Shared} {R : It → Hp → Prop} {E : Value → Shared → Prop} {lo hi : Int} {t u v : Tok} {tk : Nat} (I : Inv X pins σ H s) (h1 : -(2 ^ 62) ≤ lo) (h2 : lo < 2 ^ 62) (h3 : -(2 ^ 62) ≤ hi) (h4 : hi < 2 ^ 62)
    (q : R (Itr lo (hi - lo).toNat) H) : wpAny (model X.prog X.w) X.A (pyIter (.ref s.heap.objs.size)) (PIE X pins σ tg R) E { s with heap := s.heap.push { cls := .type "range", data := .fields #[.int lo t, .int hi u, .int 1 v] }, toks := tk } := by
  refine wpAny_pyIter_range (IsRange.new ..) (small_one h1 h2 h3 h4) ?_
  have I1 : Inv X pins σ H { s with heap := s.heap.push { cls := .type "range", data := .fields #[.int lo t, .int hi u, .int 1 v] }, toks := tk } := I.kept fun b o e => Heap.get?_push_of_some _ e
  refine ⟨(s.heap.push { cls := .type "range", data := .fields #[.int lo t, .int hi u, .int 1 v] }).objs.size, [(s.heap.push { cls := .type "range", data := .fields #[.int lo t, .int hi u, .int 1 v] }).objs.size], _, _, H, rfl,
    I1.kept (t' := tk) fun b o e => Heap.get?_push_of_some _ e, turn_range _ lo (hi - lo).toNat, ?_, fun b hb => ?_, q⟩
  · have e1 : lo + ((0 : Nat) : Int) * 1 = lo := by simp
    have e2 : (((hi - lo).toNat : Nat) : Int) - ((0 : Nat) : Int) = Builtin.Range.rangeSize lo hi 1 := by rw [rangeSize_one]; split <;> lia
    show IsRangeIter _ _ (lo + ((0 : Nat) : Int) * 1) ((((hi - lo).toNat : Nat) : Int) - ((0 : Nat) : Int)) 1
    rw [e1, e2]
    exact Heap.get?_push_size _ rfl
  · have e : b = (s.heap.push { cls := .type "range", data := .fields #[.int lo t, .int hi u, .int 1 v] }).objs.size := by simpa using hb
    subst e
    exact I1.fpOk (Nat.le_refl _) (I1.hok.fresh (Nat.le_refl _))
noncomputable def iRng1 (ta : TA) : TI := fun σ H R => ta σ H fun vs H1 => ∃ j : Int, vs = [.int j] ∧ -(2 ^ 62) ≤ j ∧ j < 2 ^ 62 ∧ R (Itr 0 j.toNat) H1
noncomputable def iRng2 (ta : TA) : TI := fun σ H R => ta σ H fun vs H1 => ∃ i j : Int, vs = [.int i, .int j] ∧ (-(2 ^ 62) ≤ i ∧ i < 2 ^ 62 ∧ -(2 ^ 62) ≤ j ∧ j < 2 ^ 62) ∧ R (Itr i (j - i).toNat) H1
theorem pi_range1 {a : Expr} {ta : TA} {p pos : Pos} (hg : Gl X "range") (hm : X.mg "range" = none) (ha : PA X [a] ta) (hs : starEach [a] X.env = [(false, eval a X.env)] := by rfl) : PI X tg (.Call (.Name "range" p) [a] [] pos) (iRng1 ta) := by
  intro pins s σ H R I h
  refine Call_ (ld_blt I hg hm boot_range (PyProof.Rows.callWith_type1 (thn (ha pos pins s σ H _ I h) fun us s1 zz0 => ?_) hs rfl))
  obtain ⟨vs, H1, I1, r1, q1⟩ := zz0
  obtain ⟨j, e, q1, q2, q⟩ := q1
  subst e
  cases r1 with
  | cons r rr =>
    cases rr
    obtain ⟨t, rfl⟩ := r
    exact call_range_1 (range_it I1 (by lia) (by lia) q1 q2 (by simpa using q))
theorem pi_range2 {a b : Expr} {ta : TA} {p pos : Pos} (hg : Gl X "range") (hm : X.mg "range" = none) (ha : PA X [a, b] ta) (hs : starEach [a, b] X.env = [(false, eval a X.env), (false, eval b X.env)] := by rfl) (hs2 : starEach [b] X.env = [(false, eval b X.env)] := by rfl) :
    PI X tg (.Call (.Name "range" p) [a, b] [] pos) (iRng2 ta) := by
  intro pins s σ H R I h
  refine Call_ (ld_blt I hg hm boot_range (PyProof.Rows.callWith_type1 (thn (ha pos pins s σ H _ I h) fun us s1 zz0 => ?_) (by rw [hs, hs2]) (by rw [hs2]; rfl)))
  obtain ⟨vs, H1, I1, r1, q1⟩ := zz0
  obtain ⟨i, j, e, ⟨q1, q2, q3, q4⟩, q⟩ := q1
  subst e
  cases r1 with
  | cons r rr =>
    cases rr with
    | cons r' rr =>
      cases rr
      obtain ⟨t, rfl⟩ := r
      obtain ⟨t', rfl⟩ := r'
      exact call_range_2 (range_it I1 q1 q2 q3 q4 q)
noncomputable def tFor (wi : TI) (g : TG) (tb : TS) : TS := fun D σ H => wi σ H fun J H1 => ∃ W : Nat → Nat → St → Hp → Prop, (∃ m, W 0 m σ H1) ∧ ∀ i m σ H, W i m σ H →
  (J.stop i H ∧ D.nx σ H) ∨ (J.go i H ∧ ∃ N : St → Hp → Prop, (∀ σ' H', N σ' H' → ∃ m', m' < m ∧ W (i + 1) m' σ' H') ∧ ∀ x H', J.yld i H x H' → g x σ H' fun σ2 H2 => tb { D with nx := N, ct := N, bk := D.nx } σ2 H2)
noncomputable def pinsAt (fp : List Addr) (h : Heap) : List (Addr × Obj) := fp.filterMap fun b => (h.get? b).map fun o => (b, o)
theorem mem_pinsAt {fp : List Addr} {h : Heap} {b : Addr} {o : Obj} (hb : b ∈ fp) (e : h.get? b = some o) : (b, o) ∈ pinsAt fp h := List.mem_filterMap.mpr ⟨b, hb, by rw [e]; rfl⟩
theorem of_pinsAt {fp : List Addr} {h : Heap} {p : Addr × Obj} (hp : p ∈ pinsAt fp h) : p.1 ∈ fp ∧ h.get? p.1 = some p.2 := by
  obtain ⟨b, hb, e⟩ := List.mem_filterMap.mp hp
  cases q : h.get? b with
  | none => rw [q] at e; cases e
  | some o =>
    rw [q] at e
    have e' : (b, o) = p := Option.some.inj e
    subst e'
    exact ⟨hb, q⟩
theorem Inv.pinned {pins : List (Addr × Obj)} {σ : St} {H : Hp} {s : Shared} {fp : List Addr} (I : Inv X pins σ H s) (hf : ∀ b ∈ fp, FpOk X pins H b) (ho : ∀ b ∈ fp, ∃ o, s.heap.get? b = some o ∧ ∀ v, o.data ≠ .cell v) : Inv X (pins ++ pinsAt fp s.heap) σ H s :=
  I.pins_of fun p hp => (List.mem_append.mp hp).elim (fun z => I.pin p (List.mem_append_right _ z)) fun z => by
    obtain ⟨hb, e⟩ := of_pinsAt z
    obtain ⟨f0, f1, f2, _⟩ := hf p.1 hb
    obtain ⟨o, e', d⟩ := ho p.1 hb
    rw [e] at e'; cases e'
    exact ⟨e, f0, f1, f2, d⟩
theorem Inv.unpinned {pins pl : List (Addr × Obj)} {σ : St} {H : Hp} {s : Shared} (I : Inv X (pins ++ pl) σ H s) : Inv X pins σ H s := I.pins_of fun p hp => I.pin p (List.mem_append_right _ (List.mem_append_left _ hp))
theorem ps_for {iter : Expr} {body : List Stmt} {wi : TI} {g : TG} {tb : TS} {pos : Pos} (hp : PassesOwn (model X.prog X.w) X.A X.env X.xe) (hc : X.calm = true) (hi : PI X tg iter wi) (hg : PG X tg g) (hb : PSs X body tb)
    (hs : ∀ x, foldedSetIterable iter X.env x = pure x := by intro _; rfl) : PS X (.For tg iter body [] pos) (tFor wi g tb) := by
  intro pins s σ H D I h
  refine wpAny_For (thn (hi pins s σ H _ I h) fun v s1 h1 => thn h1 fun itv s2 h2 => ?_) hs
  obtain ⟨it, fp, tn, J, H2, e, I2, T, st2, f2, W, ⟨m0, w0⟩, turn⟩ := h2
  subst e
  have stat : ∀ {H' : Hp}, (∀ b ∈ fp, H' b = none) → ∀ b ∈ fp, FpOk X pins H' b := fun hn b hb => ⟨hn b hb, (f2 b hb).2⟩
  refine codeAny_forLoop_any (fun n s' => ∃ i σ' H', Inv X pins σ' H' s' ∧ tn i s'.heap ∧ (∀ b ∈ fp, H' b = none) ∧ W i n σ' H') ?_ m0 ⟨0, σ, H2, I2, st2, fun b hb => (f2 b hb).1, w0⟩
  rintro n s3 ⟨i, σ3, H3, I3, st3, fr3, w3⟩
  rcases turn i n σ3 H3 w3 with ⟨stop, qn⟩ | ⟨go, N, hN, step⟩
  · refine wpAny_passesOwn hp (thn (T.done X rfl rfl rfl hc i pins s3 σ3 H3 X.xe I3 (stat fr3) st3 stop) fun r s4 zz0 => ?_)
    obtain ⟨hr, I4⟩ := zz0
    subst hr
    exact wpAny_execs_nil ⟨σ3, H3, I4, qn⟩
  · refine wpAny_passesOwn hp (thn (T.item X rfl rfl rfl hc i pins s3 σ3 H3 X.xe I3 (stat fr3) st3 go) fun r s4 zz0 => ?_)
    obtain ⟨u, hr, h4⟩ := zz0
    subst hr
    refine wpAny_passesOwn hp (thn h4 fun _ s5 zz0 => ?_)
    obtain ⟨x, H5, I5, r5, y5, st5, fr5⟩ := zz0
    have I5' := I5.pinned (stat fr5) (T.obj _ _ st5)
    refine wpAny_passesOwn hp (thn (hg _ s5 σ3 H5 x u _ I5' r5 (step x H5 y5)) fun _ s6 zz0 => ?_)
    obtain ⟨σ6, H6, I6, q6⟩ := zz0
    refine wpAny_passesOwn hp (thn (hb _ s6 σ6 H6 _ I6 q6) fun f s7 q7 => ?_)
    have again : ∀ {σ7 : St} {H7 : Hp}, Inv X (pins ++ pinsAt fp s5.heap) σ7 H7 s7 → N σ7 H7 → ∃ m, m < n ∧ ∃ i σ' H', Inv X pins σ' H' s7 ∧ tn i s7.heap ∧ (∀ b ∈ fp, H' b = none) ∧ W i m σ' H' := fun {σ7 H7} I7 n7 => by
      obtain ⟨m', hm, w7⟩ := hN σ7 H7 n7
      refine ⟨m', hm, i + 1, σ7, H7, I7.unpinned, T.keep _ _ _ st5 fun b hb o e => (I7.pin (b, o) (List.mem_append_right _ (List.mem_append_right _ (mem_pinsAt hb e)))).1, fun b hb => ?_, w7⟩
      obtain ⟨o, e, d⟩ := T.obj _ _ st5 b hb
      exact (I7.pin (b, o) (List.mem_append_right _ (List.mem_append_right _ (mem_pinsAt hb e)))).2.1
    cases f with
    | next => obtain ⟨σ7, H7, I7, n7⟩ := q7; exact again I7 n7
    | cont => obtain ⟨σ7, H7, I7, n7⟩ := q7; exact again I7 n7
    | brk => obtain ⟨σ7, H7, I7, q7⟩ := q7; exact ⟨σ7, H7, I7.unpinned, q7⟩
    | ret v => obtain ⟨x7, σ7, H7, I7, r7, q7⟩ := q7; exact ⟨x7, σ7, H7, I7.unpinned, r7, q7⟩
end
theorem for_list {K : PySem.W.Frag} {a : Addr} {xs : List V} {g : TG} {tb : TS} {D : Ends} {σ : St} {H : Hp} (Pv : Nat → St → Hp → Prop) (h0 : Pv 0 σ H) (hl : ∀ i σ H, i ≤ xs.length → Pv i σ H → SqL K H a xs)
    (hs : ∀ i x σ H, xs[i]? = some x → Pv i σ H → g x σ H fun σ2 H2 => tb { D with nx := Pv (i + 1), ct := Pv (i + 1), bk := D.nx } σ2 H2) (hd : ∀ σ H, Pv xs.length σ H → D.nx σ H) :
    ∃ W : Nat → Nat → St → Hp → Prop, (∃ m, W 0 m σ H) ∧ ∀ i m σ H, W i m σ H →
      ((Itl K a).stop i H ∧ D.nx σ H) ∨ ((Itl K a).go i H ∧ ∃ N : St → Hp → Prop, (∀ σ' H', N σ' H' → ∃ m', m' < m ∧ W (i + 1) m' σ' H') ∧ ∀ x H', (Itl K a).yld i H x H' → g x σ H' fun σ2 H2 => tb { D with nx := N, ct := N, bk := D.nx } σ2 H2) := by
  refine ⟨fun i m σ H => m = xs.length - i ∧ i ≤ xs.length ∧ Pv i σ H, ⟨xs.length, by simp, Nat.zero_le _, h0⟩, ?_⟩
  rintro i m σ H ⟨rfl, hi, p⟩
  have q := hl i σ H hi p
  by_cases hlt : i < xs.length
  · refine .inr ⟨⟨xs, xs[i], q, by simp [hlt]⟩, Pv (i + 1), fun σ' H' p' => ⟨xs.length - (i + 1), by lia, rfl, hlt, p'⟩, fun x H' y => ?_⟩
    obtain ⟨e, y⟩ := y
    subst e
    exact hs i x σ _ (y xs q) p
  · have e : i = xs.length := by lia
    subst e
    exact .inl ⟨⟨xs, q, Nat.le_refl _⟩, hd σ H p⟩
theorem for_tup {K : PySem.W.Frag} {a : Addr} {xs : List V} {g : TG} {tb : TS} {D : Ends} {σ : St} {H : Hp} (Pv : Nat → St → Hp → Prop) (h0 : Pv 0 σ H) (hl : ∀ i σ H, i ≤ xs.length → Pv i σ H → SqT K H a xs)
    (hs : ∀ i x σ H, xs[i]? = some x → Pv i σ H → g x σ H fun σ2 H2 => tb { D with nx := Pv (i + 1), ct := Pv (i + 1), bk := D.nx } σ2 H2) (hd : ∀ σ H, Pv xs.length σ H → D.nx σ H) :
    ∃ W : Nat → Nat → St → Hp → Prop, (∃ m, W 0 m σ H) ∧ ∀ i m σ H, W i m σ H →
      ((Itt K a).stop i H ∧ D.nx σ H) ∨ ((Itt K a).go i H ∧ ∃ N : St → Hp → Prop, (∀ σ' H', N σ' H' → ∃ m', m' < m ∧ W (i + 1) m' σ' H') ∧ ∀ x H', (Itt K a).yld i H x H' → g x σ H' fun σ2 H2 => tb { D with nx := N, ct := N, bk := D.nx } σ2 H2) := by
  refine ⟨fun i m σ H => m = xs.length - i ∧ i ≤ xs.length ∧ Pv i σ H, ⟨xs.length, by simp, Nat.zero_le _, h0⟩, ?_⟩
  rintro i m σ H ⟨rfl, hi, p⟩
  have q := hl i σ H hi p
  by_cases hlt : i < xs.length
  · refine .inr ⟨⟨xs, xs[i], q, by simp [hlt]⟩, Pv (i + 1), fun σ' H' p' => ⟨xs.length - (i + 1), by lia, rfl, hlt, p'⟩, fun x H' y => ?_⟩
    obtain ⟨e, y⟩ := y
    subst e
    exact hs i x σ _ (y xs q) p
  · have e : i = xs.length := by lia
    subst e
    exact .inl ⟨⟨xs, q, Nat.le_refl _⟩, hd σ H p⟩
theorem for_range {lo : Int} {n : Nat} {g : TG} {tb : TS} {D : Ends} {σ : St} {H : Hp} (Pv : Nat → St → Hp → Prop) (h0 : Pv 0 σ H)
    (hs : ∀ i σ H, i < n → Pv i σ H → g (.int (lo + i)) σ H fun σ2 H2 => tb { D with nx := Pv (i + 1), ct := Pv (i + 1), bk := D.nx } σ2 H2) (hd : ∀ σ H, Pv n σ H → D.nx σ H) :
    ∃ W : Nat → Nat → St → Hp → Prop, (∃ m, W 0 m σ H) ∧ ∀ i m σ H, W i m σ H →
      ((Itr lo n).stop i H ∧ D.nx σ H) ∨ ((Itr lo n).go i H ∧ ∃ N : St → Hp → Prop, (∀ σ' H', N σ' H' → ∃ m', m' < m ∧ W (i + 1) m' σ' H') ∧ ∀ x H', (Itr lo n).yld i H x H' → g x σ H' fun σ2 H2 => tb { D with nx := N, ct := N, bk := D.nx } σ2 H2) := by
  refine ⟨fun i m σ H => m = n - i ∧ i ≤ n ∧ Pv i σ H, ⟨n, by simp, Nat.zero_le _, h0⟩, ?_⟩
  rintro i m σ H ⟨rfl, hi, p⟩
  by_cases hlt : i < n
  · refine .inr ⟨hlt, Pv (i + 1), fun σ' H' p' => ⟨n - (i + 1), by lia, rfl, hlt, p'⟩, fun x H' y => ?_⟩
    obtain ⟨e, y⟩ := y
    subst e y
    exact hs i σ _ hlt p
  · have e : i = n := by lia
    subst e
    exact .inl ⟨Nat.le_refl _, hd σ H p⟩
end L2
namespace L2
open PySem PySem.Spec PyProof.Rows
noncomputable abbrev R2 := V → V → Hp → VK → Prop
noncomputable def OpR (X : Cx) (f : Value → Value → Sem Value) (r : R2) : Prop :=
  ∀ (pins : List (Addr × Obj)) (s : Shared) (σ : St) (H : Hp) (x y : V) (v u : Value) (Q : VK), Inv X pins σ H s → RelV x v → RelV y u → r x y H Q →
    wpAny (model X.prog X.w) X.A (f v u) (EP X pins σ Q) X.xe s
noncomputable def UnR (X : Cx) (f : Value → Sem Value) (r : V → Hp → VK → Prop) : Prop :=
  ∀ (pins : List (Addr × Obj)) (s : Shared) (σ : St) (H : Hp) (x : V) (v : Value) (Q : VK), Inv X pins σ H s → RelV x v → r x H Q →
    wpAny (model X.prog X.w) X.A (f v) (EP X pins σ Q) X.xe s
noncomputable def CallR (X : Cx) (f : Value) (r : List V → Hp → VK → Prop) : Prop :=
  ∀ (pins : List (Addr × Obj)) (s : Shared) (σ : St) (H : Hp) (xs : List V) (us : List Value) (Q : VK), Inv X pins σ H s → Vals xs us → r xs H Q →
    wpAny (model X.prog X.w) X.A (call f us) (EP X pins σ Q) X.xe s
noncomputable def tOp (r : R2) (ta tb : TE) : TE := fun σ H Q => ta σ H fun x H1 => tb σ H1 fun y H2 => r x y H2 Q
noncomputable def tUn (r : V → Hp → VK → Prop) (ta : TE) : TE := fun σ H Q => ta σ H fun x H1 => r x H1 Q
noncomputable def rI (C : Int → Int → Prop) (g : Int → Int → V) : R2 := fun x y H Q => ∃ i j, x = .int i ∧ y = .int j ∧ C i j ∧ Q (g i j) H
noncomputable def rI0 (g : Int → Int → V) : R2 := fun x y H Q => ∃ i j, x = .int i ∧ y = .int j ∧ Q (g i j) H
noncomputable def rU (g : Int → V) : V → Hp → VK → Prop := fun x H Q => ∃ i, x = .int i ∧ Q (g i) H
section
variable {X : Cx} {a b c : Expr} {ta tb tc : TE} {pos : Pos}
theorem binT (ha : PE X a ta) (hb : PE X b tb) {pins : List (Addr × Obj)} {s : Shared} {σ : St} {H : Hp} {R : V → V → Hp → Prop} (I : Inv X pins σ H s)
    (h : ta σ H fun x H1 => tb σ H1 fun y H2 => R x y H2) {Q : Value → Shared → Prop} {f : Value → Value → Sem Value}
    (hf : ∀ v u s2 x y H2, Inv X pins σ H2 s2 → RelV x v → RelV y u → R x y H2 → wpAny (model X.prog X.w) X.A (f v u) Q X.xe s2) :
    wpAny (model X.prog X.w) X.A (eval a X.env) (fun v s₁ => wpAny (model X.prog X.w) X.A (eval b X.env) (fun u s₂ => wpAny (model X.prog X.w) X.A (f v u) Q X.xe s₂) X.xe s₁) X.xe s := by
  refine thn (ha pins s σ H _ I h) fun v s1 zz0 => ?_
  obtain ⟨x, H1, I1, r1, q1⟩ := zz0
  refine thn (hb pins s1 σ H1 _ I1 q1) fun u s2 zz0 => ?_
  obtain ⟨y, H2, I2, r2, q2⟩ := zz0
  exact hf v u s2 x y H2 I2 r1 r2 q2
theorem pe_op {op : Operator} {r : R2} (ho : OpR X (binaryOp op) r) (ha : PE X a ta) (hb : PE X b tb) : PE X (.BinOp a op b pos) (tOp r ta tb) := by
  intro pins s σ H Q I h
  exact wpAny_BinOp (binT ha hb I h fun v u s2 x y H2 I2 rx ry q => ho pins s2 σ H2 x y v u Q I2 rx ry q)
theorem pe_un {op : UnaryOp} {r : V → Hp → VK → Prop} (ho : UnR X (unaryOp op) r) (ha : PE X a ta) : PE X (.UnaryOp op a pos) (tUn r ta) := by
  intro pins s σ H Q I h
  exact UnaryOp_ (thn (ha pins s σ H _ I h) fun v s1 zz => by obtain ⟨x, H1, I1, r1, q1⟩ := zz; exact ho pins s1 σ H1 x v Q I1 r1 q1)
theorem opI {f : Value → Value → Sem Value} {C : Int → Int → Prop} {g : Int → Int → Int}
    (rule : ∀ (i j : Int) (t u : Tok) (s : Shared) (Q : Value → Shared → Prop) (E : Value → Shared → Prop), C i j → Q (.int (g i j) s.toks) { s with toks := s.toks + 1 } → wpAny (model X.prog X.w) X.A (f (.int i t) (.int j u)) Q E s) :
    OpR X f (rI C fun i j => .int (g i j)) := by
  intro pins s σ H x y v u Q I rx ry h
  obtain ⟨i, j, rfl, rfl, hc, q⟩ := h
  obtain ⟨t, rfl⟩ := rx
  obtain ⟨t', rfl⟩ := ry
  exact rule i j t t' s _ _ hc ⟨.int (g i j), H, I.tok _, ⟨_, rfl⟩, q⟩
theorem opI0 {f : Value → Value → Sem Value} {g : Int → Int → Int}
    (rule : ∀ (i j : Int) (t u : Tok) (s : Shared) (Q : Value → Shared → Prop) (E : Value → Shared → Prop), Q (.int (g i j) s.toks) { s with toks := s.toks + 1 } → wpAny (model X.prog X.w) X.A (f (.int i t) (.int j u)) Q E s) :
    OpR X f (rI0 fun i j => .int (g i j)) := by
  intro pins s σ H x y v u Q I rx ry h
  obtain ⟨i, j, rfl, rfl, q⟩ := h
  obtain ⟨t, rfl⟩ := rx
  obtain ⟨t', rfl⟩ := ry
  exact rule i j t t' s _ _ ⟨.int (g i j), H, I.tok _, ⟨_, rfl⟩, q⟩
theorem opB0 {f : Value → Value → Sem Value} {g : Int → Int → Bool}
    (rule : ∀ (i j : Int) (t u : Tok) (s : Shared) (Q : Value → Shared → Prop) (E : Value → Shared → Prop), Q (.bool (g i j)) s → wpAny (model X.prog X.w) X.A (f (.int i t) (.int j u)) Q E s) :
    OpR X f (rI0 fun i j => .bl (g i j)) := by
  intro pins s σ H x y v u Q I rx ry h
  obtain ⟨i, j, rfl, rfl, q⟩ := h
  obtain ⟨t, rfl⟩ := rx
  obtain ⟨t', rfl⟩ := ry
  exact rule i j t t' s _ _ ⟨.bl (g i j), H, I, rfl, q⟩
noncomputable def CDiv (i j : Int) : Prop := 0 < j ∧ j < 1073741824
noncomputable def CMul (i j : Int) : Prop := (-(2 ^ 64) < i ∧ i < 2 ^ 64) ∨ (-(2 ^ 64) < j ∧ j < 2 ^ 64)
theorem CMul.ok {i j : Int} (h : CMul i j) : IntMulOk i j := by
  rcases h with ⟨h1, h2⟩ | ⟨h1, h2⟩
  · exact .of_left (intBits_le_64 h1 h2)
  · exact .of_right (intBits_le_64 h1 h2)
theorem op_add : OpR X (binaryOp .Add) (rI0 fun i j => .int (i + j)) := opI0 fun _ _ _ _ _ _ _ q => add_int q
theorem op_sub : OpR X (binaryOp .Sub) (rI0 fun i j => .int (i - j)) := opI0 fun _ _ _ _ _ _ _ q => sub_int q
theorem op_mul : OpR X (binaryOp .Mult) (rI CMul fun i j => .int (i * j)) := opI fun _ _ _ _ _ _ _ hc q => mul_int q hc.ok
theorem op_fdiv : OpR X (binaryOp .FloorDiv) (rI CDiv fun i j => .int (i / j)) := opI fun i j _ _ _ _ _ hc q => by
  have h1 : (0 : Int) < j := hc.1
  have h2 : j < 1073741824 := hc.2
  exact floordiv_int (by lia) (by rw [Int.fdiv_eq_ediv_of_nonneg i (by lia)]; exact q) (.inl (PyProof.noPylong_small (by lia)))
theorem op_mod : OpR X (binaryOp .Mod) (rI (fun _ j => 0 < j) fun i j => .int (i % j)) := opI fun i j _ _ _ _ _ hc q => by
  have h1 : (0 : Int) < j := hc
  exact mod_int' (by lia) (by rw [Int.fmod_eq_emod_of_nonneg i (by lia)]; exact q)
theorem unI {f : Value → Sem Value} {g : Int → Int}
    (rule : ∀ (i : Int) (t : Tok) (s : Shared) (Q : Value → Shared → Prop) (E : Value → Shared → Prop), Q (.int (g i) s.toks) { s with toks := s.toks + 1 } → wpAny (model X.prog X.w) X.A (f (.int i t)) Q E s) :
    UnR X f (rU fun i => .int (g i)) := by
  intro pins s σ H x v Q I rx h
  obtain ⟨i, rfl, q⟩ := h
  obtain ⟨t, rfl⟩ := rx
  exact rule i t s _ _ ⟨.int (g i), H, I.tok _, ⟨_, rfl⟩, q⟩
theorem un_neg : UnR X (unaryOp .USub) (rU fun i => .int (-i)) := unI fun _ _ _ _ _ q => neg_int q
end
noncomputable def scal : V → V → Bool
  | .non, .non => true | .non, .int _ => true | .int _, .non => true | .non, .bl _ => true | .bl _, .non => true | .non, .str _ => true | .str _, .non => true
  | .int _, .int _ => true | .bl _, .bl _ => true | .str _, .str _ => true | .byt _, .byt _ => true
  | .int _, .str _ => true | .str _, .int _ => true | .bl _, .str _ => true | .str _, .bl _ => true
  | _, _ => false
noncomputable def rEq : R2 := fun x y H Q => scal x y = true ∧ Q (.bl (decide (x = y))) H
noncomputable def rNe : R2 := fun x y H Q => scal x y = true ∧ Q (.bl (!decide (x = y))) H
theorem dec_int {i j : Int} : decide (V.int i = V.int j) = (i == j) := by
  rw [Bool.eq_iff_iff]
  simp
theorem dec_bl {i j : Bool} : decide (V.bl i = V.bl j) = (i == j) := by
  rw [Bool.eq_iff_iff]
  simp
theorem dec_str {i j : Str} : decide (V.str i = V.str j) = (i == j) := by
  rw [Bool.eq_iff_iff]
  simp
theorem dec_byt {i j : Array UInt8} : decide (V.byt i = V.byt j) = (i.toList == j.toList) := by
  rw [Bool.eq_iff_iff]
  cases i
  cases j
  simp
section
variable {X : Cx} {a b c : Expr} {ta tb tc : TE} {pos : Pos}
theorem fin_bl {pins : List (Addr × Obj)} {σ : St} {H : Hp} {s : Shared} {Q : VK} {k k' : Bool} (I : Inv X pins σ H s) (q : Q (.bl k) H) (e : k = k') : EP X pins σ Q (.bool k') s := by
  subst e
  exact ⟨.bl k, H, I, rfl, q⟩
theorem op_eq : OpR X (compareOp .Eq) rEq := by
  intro pins s σ H x y v u Q I rx ry h
  obtain ⟨hs, q⟩ := h
  cases x with
  | non =>
    cases rx
    cases y with
    | non => cases ry; exact PySem.EqNone.eq_none_none (fin_bl I q (by simp))
    | bl j => cases ry; exact PySem.EqNone.eq_none_bool (fin_bl I q (by simp))
    | int j => obtain ⟨t', rfl⟩ := ry; exact PySem.EqNone.eq_none_int (fin_bl I q (by simp))
    | str j => obtain ⟨t', rfl⟩ := ry; exact PySem.EqNone.eq_none_str (fin_bl I q (by simp))
    | _ => exact absurd (show false = true from hs) Bool.false_ne_true
  | bl i =>
    cases rx
    cases y with
    | non => cases ry; exact PySem.EqNone.eq_bool_none (fin_bl I q (by simp))
    | bl j => cases ry; exact eq_bool (fin_bl I q dec_bl)
    | str j => obtain ⟨t', rfl⟩ := ry; exact PySem.EqMixed.eq_bool_str (fin_bl I q (by simp))
    | _ => exact absurd (show false = true from hs) Bool.false_ne_true
  | int i =>
    obtain ⟨t, rfl⟩ := rx
    cases y with
    | non => cases ry; exact PySem.EqNone.eq_int_none (fin_bl I q (by simp))
    | int j => obtain ⟨t', rfl⟩ := ry; exact eq_int (fin_bl I q dec_int)
    | str j => obtain ⟨t', rfl⟩ := ry; exact PySem.EqMixed.eq_int_str (fin_bl I q (by simp))
    | _ => exact absurd (show false = true from hs) Bool.false_ne_true
  | str i =>
    obtain ⟨t, rfl⟩ := rx
    cases y with
    | non => cases ry; exact PySem.EqNone.eq_str_none (fin_bl I q (by simp))
    | bl j => cases ry; exact PySem.EqMixed.eq_str_bool (fin_bl I q (by simp))
    | int j => obtain ⟨t', rfl⟩ := ry; exact PySem.EqMixed.eq_str_int (fin_bl I q (by simp))
    | str j => obtain ⟨t', rfl⟩ := ry; exact eq_str (fin_bl I q dec_str)
    | _ => exact absurd (show false = true from hs) Bool.false_ne_true
  | byt i =>
    obtain ⟨t, rfl⟩ := rx
    cases y with
    | byt j => obtain ⟨t', rfl⟩ := ry; exact PySem.W.eq_bytes (fin_bl I q dec_byt)
    | _ => exact absurd (show false = true from hs) Bool.false_ne_true
  | _ => cases y <;> exact absurd (show false = true from hs) Bool.false_ne_true
theorem op_ne : OpR X (compareOp .NotEq) rNe := by
  intro pins s σ H x y v u Q I rx ry h
  obtain ⟨hs, q⟩ := h
  cases x with
  | non =>
    cases rx
    cases y with
    | non => cases ry; exact PySem.EqNone.ne_none_none (fin_bl I q (by simp))
    | bl j => cases ry; exact PySem.EqNone.ne_none_bool (fin_bl I q (by simp))
    | int j => obtain ⟨t', rfl⟩ := ry; exact PySem.EqNone.ne_none_int (fin_bl I q (by simp))
    | str j => obtain ⟨t', rfl⟩ := ry; exact PySem.EqNone.ne_none_str (fin_bl I q (by simp))
    | _ => exact absurd (show false = true from hs) Bool.false_ne_true
  | bl i =>
    cases rx
    cases y with
    | non => cases ry; exact PySem.EqNone.ne_bool_none (fin_bl I q (by simp))
    | bl j => cases ry; exact ne_bool (fin_bl I q (congrArg not dec_bl))
    | str j => obtain ⟨t', rfl⟩ := ry; exact PySem.EqMixed.ne_bool_str (fin_bl I q (by simp))
    | _ => exact absurd (show false = true from hs) Bool.false_ne_true
  | int i =>
    obtain ⟨t, rfl⟩ := rx
    cases y with
    | non => cases ry; exact PySem.EqNone.ne_int_none (fin_bl I q (by simp))
    | int j => obtain ⟨t', rfl⟩ := ry; exact ne_int (fin_bl I q (congrArg not dec_int))
    | str j => obtain ⟨t', rfl⟩ := ry; exact PySem.EqMixed.ne_int_str (fin_bl I q (by simp))
    | _ => exact absurd (show false = true from hs) Bool.false_ne_true
  | str i =>
    obtain ⟨t, rfl⟩ := rx
    cases y with
    | non => cases ry; exact PySem.EqNone.ne_str_none (fin_bl I q (by simp))
    | bl j => cases ry; exact PySem.EqMixed.ne_str_bool (fin_bl I q (by simp))
    | int j => obtain ⟨t', rfl⟩ := ry; exact PySem.EqMixed.ne_str_int (fin_bl I q (by simp))
    | str j => obtain ⟨t', rfl⟩ := ry; exact ne_str (fin_bl I q (congrArg not dec_str))
    | _ => exact absurd (show false = true from hs) Bool.false_ne_true
  | byt i =>
    obtain ⟨t, rfl⟩ := rx
    cases y with
    | byt j => obtain ⟨t', rfl⟩ := ry; exact PySem.W.ne_bytes (fin_bl I q (congrArg not dec_byt))
    | _ => exact absurd (show false = true from hs) Bool.false_ne_true
  | _ => cases y <;> exact absurd (show false = true from hs) Bool.false_ne_true
theorem op_lt : OpR X (compareOp .Lt) (rI0 fun i j => .bl (decide (i < j))) := opB0 fun _ _ _ _ _ _ _ q => lt_int q
theorem op_le : OpR X (compareOp .LtE) (rI0 fun i j => .bl (decide (i ≤ j))) := opB0 fun _ _ _ _ _ _ _ q => le_int q
theorem op_gt : OpR X (compareOp .Gt) (rI0 fun i j => .bl (decide (j < i))) := opB0 fun _ _ _ _ _ _ _ q => gt_int q
theorem op_in_str : OpR X (compareOp .In) (fun x y H Q => ∃ i j, x = .str i ∧ y = .str j ∧ Q (.bl (!(Builtin.Str.occurrences j i 0 j.length 1).isEmpty)) H) := by
  intro pins s σ H x y v u Q I rx ry h
  obtain ⟨i, j, rfl, rfl, q⟩ := h
  obtain ⟨t, rfl⟩ := rx
  obtain ⟨t', rfl⟩ := ry
  exact in_str (fin_bl I q rfl)
theorem op_notin_str : OpR X (compareOp .NotIn) (fun x y H Q => ∃ i j, x = .str i ∧ y = .str j ∧ Q (.bl (!(!(Builtin.Str.occurrences j i 0 j.length 1).isEmpty))) H) := by
  intro pins s σ H x y v u Q I rx ry h
  obtain ⟨i, j, rfl, rfl, q⟩ := h
  obtain ⟨t, rfl⟩ := rx
  obtain ⟨t', rfl⟩ := ry
  exact notIn_str (fin_bl I q rfl)
theorem nomark (b : Expr) {op : CmpOp} (h : op ≠ .In := by decide) (h2 : op ≠ .NotIn := by decide) : behindInMarks op b = false := by
  have e1 : (op == CmpOp.In) = false := by cases op <;> first | rfl | exact absurd rfl h
  have e2 : (op == CmpOp.NotIn) = false := by cases op <;> first | rfl | exact absurd rfl h2
  cases b <;> simp [behindInMarks, e1, e2]
theorem pe_cmpR {op : CmpOp} {r : R2} (ho : OpR X (compareOp op) r) (ha : PE X a ta) (hb : PE X b tb) (hm : behindInMarks op b = false) : PE X (.Compare a [op] [b] pos) (tOp r ta tb) := by
  intro pins s σ H Q I h
  exact wpAny_Compare1 (binT ha hb I h fun v u s2 x y H2 I2 rx ry q => ho pins s2 σ H2 x y v u Q I2 rx ry q) hm
noncomputable def tTest (t : TE) : TT := fun σ H Q => t σ H fun x H' => ∃ k, x = .bl k ∧ Q k H'
theorem pt_cmpR {op : CmpOp} {r : R2} (ho : OpR X (compareOp op) r) (ha : PE X a ta) (hb : PE X b tb) (hm : behindInMarks op b = false) : PT X (.Compare a [op] [b] pos) (tTest (tOp r ta tb)) := by
  intro pins s σ H Q I h
  refine wpAny_isTrue_Compare1 (thn (ha pins s σ H _ I h) fun v s1 ⟨x, H1, I1, r1, q1⟩ => thn (hb pins s1 σ H1 _ I1 q1) fun u s2 ⟨y, H2, I2, r2, q2⟩ =>
    thn (ho pins s2 σ H2 x y v u _ I2 r1 r2 q2) fun c s3 ⟨z, H3, I3, r3, k, e, q3⟩ => ?_) hm
  subst e
  cases r3
  exact wpAny_truthy_bool ⟨H3, I3, q3⟩
noncomputable def tChain (r r' : R2) (ta tb tc : TE) : TE := fun σ H Q => ta σ H fun x H1 => tb σ H1 fun y H2 => r x y H2 fun z H3 => ∃ k, z = .bl k ∧
  (if k = true then tc σ H3 fun w' H4 => r' y w' H4 Q else Q (.bl false) H3)
theorem pt_chain {op op' : CmpOp} {r r' : R2} (ho : OpR X (compareOp op) r) (ho' : OpR X (compareOp op') r') (ha : PE X a ta) (hb : PE X b tb) (hc : PE X c tc)
    (hm : lastMarks [op, op'] [b, c] = false := by with_unfolding_all rfl) : PT X (.Compare a [op, op'] [b, c] pos) (tTest (tChain r r' ta tb tc)) := by
  intro pins s σ H Q I h
  refine isTrue_chain (thn (ha pins s σ H _ I h) fun v s1 ⟨x, H1, I1, r1, q1⟩ => test_link (thn (hb pins s1 σ H1 _ I1 q1) fun u s2 ⟨y, H2, I2, r2, q2⟩ =>
    thn (ho pins s2 σ H2 x y v u _ I2 r1 r2 q2) fun d s3 ⟨z, H3, I3, r3, k, e, q3⟩ => ?_)) hm
  subst e
  cases r3
  refine wpAny_truthy_bool ?_
  cases k with
  | false =>
    obtain ⟨k', e', q'⟩ := q3
    cases e'
    exact ite_ff ⟨H3, I3, q'⟩
  | true =>
    refine ite_tt (test_last (thn (hc pins s3 σ H3 _ I3 q3) fun w' s4 ⟨z', H4, I4, r4, q4⟩ => thn (ho' pins s4 σ H4 y z' u w' _ I4 r2 r4 q4) fun d' s5 zz0 => ?_))
    obtain ⟨z2, H5, I5, r5, k2, e2, q5⟩ := zz0
    subst e2
    cases r5
    exact wpAny_truthy_bool ⟨H5, I5, q5⟩
theorem line63 : (sizeLine : Nat) < 2 ^ 63 := by rw [sizeLine_eq]; decide
theorem op_add_str : OpR X (binaryOp .Add) (fun x y H Q => ∃ i j, x = .str i ∧ y = .str j ∧ i.length + j.length ≤ sizeLine ∧ Q (.str (i ++ j)) H) := by
  intro pins s σ H x y v u Q I rx ry h
  obtain ⟨i, j, rfl, rfl, hz, q⟩ := h
  obtain ⟨t, rfl⟩ := rx
  obtain ⟨t', rfl⟩ := ry
  exact add_str (fun t' tk => ⟨.str (i ++ j), H, I.tok _, ⟨_, rfl⟩, q⟩) hz
theorem vals1 {x : V} {us : List Value} (r : Vals [x] us) : ∃ u, us = [u] ∧ RelV x u := by
  cases r with
  | cons r1 r2 => cases r2; exact ⟨_, rfl, r1⟩
theorem vals2 {x y : V} {us : List Value} (r : Vals [x, y] us) : ∃ u w', us = [u, w'] ∧ RelV x u ∧ RelV y w' := by
  cases r with
  | cons r1 r2 =>
    cases r2 with
    | cons r3 r4 => cases r4; exact ⟨_, _, rfl, r1, r3⟩
theorem call_max2 (hc : X.calm = true) : CallR X (.builtin "max") (fun xs H Q => ∃ i j, xs = [.int i, .int j] ∧ Q (.int (if j > i then j else i)) H) := by
  intro pins s σ H xs us Q I r h
  obtain ⟨i, j, rfl, q⟩ := h
  obtain ⟨u, w', rfl, ⟨t, rfl⟩, ⟨t', rfl⟩⟩ := vals2 r
  refine max_two_ints (I.ok.hd hc) fun h' tk k => ⟨_, H, I.kept k, ?_, q⟩
  by_cases hj : j > i
  · rw [if_pos hj, if_pos hj]; exact ⟨_, rfl⟩
  · rw [if_neg hj, if_neg hj]; exact ⟨_, rfl⟩
theorem call_min2 (hc : X.calm = true) : CallR X (.builtin "min") (fun xs H Q => ∃ i j, xs = [.int i, .int j] ∧ Q (.int (if j < i then j else i)) H) := by
  intro pins s σ H xs us Q I r h
  obtain ⟨i, j, rfl, q⟩ := h
  obtain ⟨u, w', rfl, ⟨t, rfl⟩, ⟨t', rfl⟩⟩ := vals2 r
  refine min_two_ints (I.ok.hd hc) fun h' tk k => ⟨_, H, I.kept k, ?_, q⟩
  by_cases hj : j < i
  · rw [if_pos hj, if_pos hj]; exact ⟨_, rfl⟩
  · rw [if_neg hj, if_neg hj]; exact ⟨_, rfl⟩
theorem call_ord : CallR X (.builtin "ord") (fun xs H Q => ∃ x, xs = [.str x] ∧ x.length = 1 ∧ Q (.int (x.cps.getD 0 0 : Nat)) H) := by
  intro pins s σ H xs us Q I r h
  obtain ⟨x, rfl, hz, q⟩ := h
  obtain ⟨u, rfl, t, rfl⟩ := vals1 r
  exact ord_of_one hz ⟨.int _, H, I.tok _, ⟨_, rfl⟩, q⟩
end
end L2
namespace L2
open PySem PySem.Spec PyProof.Rows
structure ObjM (h : Heap) (x dx C : Addr) (mA : Str → Option Value) : Prop where
  obj : h.get? x = some (PySem.W.instObj C dx)
  ns : h.Ns1 dx mA
  ne : dx ≠ x
theorem lookIn_ns {h : Heap} {dx : Addr} {mA : Str → Option Value} (n : h.Ns1 dx mA) : ∃ od, h.get? dx = some od ∧ ∀ name, PySem.W.lookIn name od = some (mA name) := by
  obtain ⟨o, es, ep, ho, hd, hk, _, hm⟩ := n
  refine ⟨o, ho, fun name => ?_⟩
  have e := hm name
  unfold nsFind findBy at e
  rw [← Array.find?_toList] at e
  unfold PySem.W.lookIn
  rw [hd]
  dsimp only
  split
  · rename_i y q
    rw [q] at e
    exact congrArg some e
  · rename_i q
    rw [q] at e
    have a : es.toList.any (·.refKey) = false := by
      rw [List.any_eq_false]
      intro y hy
      obtain ⟨z, t, hkey⟩ := hk y (Array.mem_toList_iff.mp hy)
      simp [DictEntry.refKey, hkey]
    have a' : ¬ es.toList.any (·.refKey) = true := by rw [a]; exact Bool.false_ne_true
    rw [if_neg a']
    exact congrArg some e
theorem ObjM.look {h : Heap} {x dx C : Addr} {mA : Str → Option Value} (I : ObjM h x dx C mA) : ∃ od, PySem.W.InstAt h x (PySem.W.instObj C dx) C (some od) ∧ ∀ name, PySem.W.lookIn name od = some (mA name) :=
  let ⟨od, ho, hl⟩ := lookIn_ns I.ns
  ⟨od, ⟨I.obj, rfl, rfl, ho⟩, hl⟩
section
variable {prog : Program} {w : World} {A : Around} {E : Value → Shared → Prop} {s : Shared} {K : PySem.W.Frag} {x dx C f : Addr} {mA : Str → Option Value} {name : Str} {v : Value}
theorem get_map {expr : Bool} {Q : Value → Shared → Prop} (X : K.In s.heap) (I : ObjM s.heap x dx C mA) (hg : PySem.W.plainGet K C name = true) (hh : PySem.W.hasDictIn K C = true)
    (ha : PySem.W.findIn K (.ref C) name = some none) (hv : mA name = some v) (hv' : PySem.W.handedIn v = true) (h : Q v { s with toks := s.toks + 1 }) :
    wpAny (model prog w) A (getAttr (.ref x) name expr) Q E s := by
  obtain ⟨od, J, hl⟩ := I.look
  exact PySem.W.get_value X J (PySem.W.plainGet_of hg).1 (PySem.W.findObj_own hh ha rfl (by rw [hl, hv])) hv' h
theorem get_meth {pl : Sem Bool} {Q : Value × List Value → Shared → Prop} (X : K.In s.heap) (I : ObjM s.heap x dx C mA) (hg : PySem.W.plainGet K C name = true)
    (hf : PySem.W.findIn K (.ref C) name = some (some (.ref f))) (ht : PySem.W.isFn K (.ref f) = true) (hv : mA name = none) (h : Q (.ref f, [.ref x]) s) :
    wpAny (model prog w) A (getMethod (.ref x) name pl) Q E s := by
  obtain ⟨od, J, hl⟩ := I.look
  exact PySem.W.method_fn X J (PySem.W.plainGet_of hg).1 (PySem.W.plainGet_of hg).2 hf (beq_iff_eq.mp ht) (by show (PySem.W.lookIn name od).map (·.isSome) = some false; rw [hl, hv]; rfl) h
theorem set_map {ns : List Str} {Q : Unit → Shared → Prop} (X : K.In s.heap) (I : ObjM s.heap x dx C mA)
    (hs : PySem.W.findIn K (.ref C) "__setattr__" = some (some (.builtin "object.__setattr__"))) (hp : PySem.W.plainOver K C = true) (ht : PySem.W.takerIn K C name = some none) (hh : PySem.W.hasDictIn K C = true)
    (hw : PySem.Within mA ns) (hsz : ns.length ≤ sizeLine)
    (h : ∀ h', ObjM h' x dx C (fun y => if y = name then some v else mA y) → Heap.SameBut dx s.heap h' → Q () { s with heap := h', toks := s.toks + 2 }) :
    wpAny (model prog w) A (setAttr (.ref x) name v) Q E s := by
  obtain ⟨od, J, hl⟩ := I.look
  refine PySem.W.set_plain X J hs (PySem.W.osa_open (s := { s with toks := s.toks + 1 }) (r := none) X J hp ht fun b => ?_)
  obtain ⟨cd, hc, hd'⟩ := PySem.W.any_some hh
  have hx : s.heap.get? x = some ⟨.ref C, some dx, .plain, #[]⟩ := I.obj
  refine wpAny_bind (wpAny_pure (wpAny_bind (wpAny_bind (wpAny_loadPart hx (wpAny_bind (PySem.W.Looks.here (s := { s with toks := s.toks + 1 }) (PySem.W.looks_clsIn X hc) ?_))))))
  rw [hd']
  refine wpAny_pure (a := some dx) (wpAny_bind (wpAny_pure (wpAny_bind ?_)))
  refine wpAny_nsSet1 (s := { s with toks := s.toks + 1 }) I.ns fun h' hn2 hs2 => ?_
  obtain ⟨oD, esD, epD, hoD, hdD, hcD⟩ := hn2.count (PySem.Within.cons name v hw)
  refine wpAny_bind (wpAny_lookBehind hoD (by rw [hdD]; exact pastItsLine_dict (Nat.le_trans hcD (by rw [List.length_cons]; lia))) ?_)
  exact wpAny_pure (h _ ⟨(hs2.2 _ (Ne.symm I.ne)).trans I.obj, hn2, I.ne⟩ hs2)
theorem make_map {R : Result → Shared → Prop} {vs : List Value} {kw : List (Str × Value)} (X : K.In s.heap) (hm : PySem.W.makesIn K C = true)
    (hi : PySem.W.findIn K (.ref C) "__init__" = some (some (.ref f))) (hf : PySem.W.typeIn K (.ref f) = some (.type "function"))
    (h : codeAny (model prog w) (A.under (.builtin "type.__call__" ⟨.ref C :: vs, kw⟩)) (.call (.ref f) ⟨.ref (s.heap.objs.size + 1) :: vs, kw⟩) (PySem.W.InitBack (s.heap.objs.size + 1) R)
      { s with heap := (s.heap.push PySem.W.emptyDict).push (PySem.W.instObj C s.heap.objs.size) }) :
    codeAny (model prog w) A (.call (.ref C) ⟨vs, kw⟩) R s := by
  obtain ⟨hh, g, d, t, os⟩ := s
  exact PySem.W.make_core (PySem.W.makes_of X hm) (PySem.W.looks_findIn X hi) (fun self => PySem.W.bind_fn X self hf) (.inl rfl) h
end
noncomputable def putF (f : Str) (v : V) : List (Str × V) → List (Str × V)
  | [] => [(f, v)]
  | (g, x) :: r => if g = f then (g, v) :: r else (g, x) :: putF f v r
theorem lookup_putF (f g : Str) (v : V) : ∀ fs : List (Str × V), (putF f v fs).lookup g = if g = f then some v else fs.lookup g
  | [] => by
    show List.lookup g [(f, v)] = _
    by_cases h : g = f
    · have hb : (g == f) = true := beq_iff_eq.mpr h
      simp only [List.lookup, hb, if_pos h]
    · have hb : (g == f) = false := beq_eq_false_iff_ne.mpr h
      simp only [List.lookup, hb, if_neg h]
  | (k, x) :: r => by
    have ih := lookup_putF f g v r
    rw [show putF f v ((k, x) :: r) = (if k = f then (k, v) :: r else (k, x) :: putF f v r) from rfl]
    by_cases hk : k = f
    · rw [if_pos hk]
      by_cases h : g = k
      · have hb : (g == k) = true := beq_iff_eq.mpr h
        simp only [List.lookup, hb, if_pos (h.trans hk)]
      · have hb : (g == k) = false := beq_eq_false_iff_ne.mpr h
        simp only [List.lookup, hb, if_neg (fun e : g = f => h (e.trans hk.symm))]
    · rw [if_neg hk]
      by_cases h : g = k
      · have hb : (g == k) = true := beq_iff_eq.mpr h
        simp only [List.lookup, hb, if_neg (fun e : g = f => hk (h.symm.trans e))]
      · have hb : (g == k) = false := beq_eq_false_iff_ne.mpr h
        simp only [List.lookup, hb]
        exact ih
theorem keys_putF (f : Str) (v : V) : ∀ fs : List (Str × V), f ∈ (putF f v fs).map (·.1) ∧ ∀ g, g ∈ fs.map (·.1) → g ∈ (putF f v fs).map (·.1)
  | [] => ⟨by simp [putF], fun g h => by simp at h⟩
  | (k, x) :: r => by
    obtain ⟨i1, i2⟩ := keys_putF f v r
    rw [show putF f v ((k, x) :: r) = (if k = f then (k, v) :: r else (k, x) :: putF f v r) from rfl]
    by_cases hk : k = f
    · rw [if_pos hk]
      subst hk
      exact ⟨by simp, fun g h => by simpa using h⟩
    · rw [if_neg hk]
      refine ⟨?_, fun g h => ?_⟩
      · rw [List.map_cons]
        exact List.mem_cons_of_mem _ i1
      · rw [List.map_cons] at h ⊢
        rcases List.mem_cons.mp h with e | e
        · exact List.mem_cons.mpr (.inl e)
        · exact List.mem_cons_of_mem _ (i2 g e)
theorem length_putF (f : Str) (v : V) : ∀ fs : List (Str × V), (putF f v fs).length ≤ fs.length + 1
  | [] => by simp [putF]
  | (k, x) :: r => by
    have ih := length_putF f v r
    rw [show putF f v ((k, x) :: r) = (if k = f then (k, v) :: r else (k, x) :: putF f v r) from rfl]
    by_cases hk : k = f
    · rw [if_pos hk, List.length_cons, List.length_cons]; lia
    · rw [if_neg hk, List.length_cons, List.length_cons]; lia
theorem RelO.some_of {v : V} {o : Option Value} (r : RelO (some v) o) : ∃ u, o = some u ∧ RelV v u := by
  cases o with
  | none => exact (show False from r).elim
  | some u => exact ⟨u, rfl, r⟩
theorem RelO.none_of {o : Option Value} (r : RelO none o) : o = none := by
  cases o with
  | none => rfl
  | some u => exact (show False from r).elim
theorem handed_of {v : V} {u : Value} (r : RelV v u) : PySem.W.handedIn u = true := by
  cases v with
  | non => cases (show u = Value.none from r); rfl
  | bl b => cases (show u = Value.bool b from r); rfl
  | int i => obtain ⟨t, e⟩ := (show ∃ t, u = Value.int i t from r); cases e; rfl
  | str x => obtain ⟨t, e⟩ := (show ∃ t, u = Value.str x t from r); cases e; rfl
  | byt b => obtain ⟨t, e⟩ := (show ∃ t, u = Value.bytes b t from r); cases e; rfl
  | flt b => obtain ⟨t, e⟩ := (show ∃ t, u = Value.float b t from r); cases e; rfl
  | ref a => cases (show u = Value.ref a from r); rfl
  | ty n => cases (show u = Value.type n from r); rfl
section
variable {P : Program} {w : World} {H H' : Hp} {h h' : Heap} {a C dx : Addr} {fs fs' : List (Str × V)}
theorem ins_get (hok : HOk P w H h) (e : H a = some (.ins C dx fs)) : ∃ mA, ObjM h a dx C mA ∧ (∀ f, RelO (fs.lookup f) (mA f)) ∧ PySem.Within mA (fs.map (·.1)) ∧ fs.length ≤ 1000 ∧ H dx = some (.own a) := by
  obtain ⟨d, z, ne, ob, mA, n, r, q⟩ := (show ObjOk P w H h a (.ins C dx fs) from hok a _ e)
  exact ⟨mA, ⟨ob, n, ne⟩, r, q, z, d⟩
end
structure Cls (K : PySem.W.Frag) (C : Addr) : Prop where
  pg : PySem.W.plainGet K C Str.empty = true
  hd : PySem.W.hasDictIn K C = true
  po : PySem.W.plainOver K C = true
  sa : PySem.W.findIn K (.ref C) "__setattr__" = some (some (.builtin "object.__setattr__"))
theorem Cls.get {K : PySem.W.Frag} {C : Addr} (c : Cls K C) (f : Str) : PySem.W.plainGet K C f = true := c.pg
noncomputable def NoAttr (K : PySem.W.Frag) (C : Addr) (f : Str) : Prop := PySem.W.findIn K (.ref C) f = some none
theorem NoAttr.taker {K : PySem.W.Frag} {C : Addr} {f : Str} (n : NoAttr K C f) : PySem.W.takerIn K C f = some none := by
  unfold PySem.W.takerIn
  rw [show PySem.W.findIn K (.ref C) f = some none from n]
  rfl
structure Meth (K : PySem.W.Frag) (C : Addr) (m : Str) (f : Addr) : Prop where
  at_ : PySem.W.findIn K (.ref C) m = some (some (.ref f))
  fn : PySem.W.isFn K (.ref f) = true
  kp : PySem.W.keepIn K (.ref f) = true
section
variable {X : Cx} {pins : List (Addr × Obj)} {σ : St} {H : Hp} {s : Shared} {a C dx : Addr} {fs : List (Str × V)} {f : Str} {v : V} {A : Around} {E : Value → Shared → Prop}
theorem getattr_ok {b : Bool} {Q : Value → Shared → Prop} (I : Inv X pins σ H s) (e : H a = some (.ins C dx fs)) (c : Cls X.K C) (n : NoAttr X.K C f) (l : fs.lookup f = some v)
    (h : ∀ u s', Inv X pins σ H s' → RelV v u → Q u s') : wpAny (model X.prog X.w) A (getAttr (.ref a) f b) Q E s := by
  obtain ⟨mA, O, r, _, _, _⟩ := ins_get I.hok e
  obtain ⟨u, hu, ru⟩ := RelO.some_of (v := v) (o := mA f) (by rw [← l]; exact r f)
  exact get_map I.kIn O (c.get f) c.hd n hu (handed_of ru) (h u _ (I.tok _) ru)
theorem getmeth_ok {m : Str} {g : Addr} {pl : Sem Bool} {Q : Value × List Value → Shared → Prop} (I : Inv X pins σ H s) (e : H a = some (.ins C dx fs)) (c : Cls X.K C) (k : Meth X.K C m g) (l : fs.lookup m = none)
    (h : Q (.ref g, [.ref a]) s) : wpAny (model X.prog X.w) A (getMethod (.ref a) m pl) Q E s := by
  obtain ⟨mA, O, r, _, _, _⟩ := ins_get I.hok e
  have hn : mA m = none := RelO.none_of (by rw [← l]; exact r m)
  exact get_meth I.kIn O (c.get m) k.at_ k.fn hn h
theorem setattr_ok {y : V} {u : Value} {Q : Unit → Shared → Prop} (I : Inv X pins σ H s) (e : H a = some (.ins C dx fs)) (c : Cls X.K C) (n : NoAttr X.K C f) (hl : fs.length < 1000) (ry : RelV y u)
    (h : ∀ s', Inv X pins σ (upd H a (.ins C dx (putF f y fs))) s' → Q () s') : wpAny (model X.prog X.w) A (setAttr (.ref a) f u) Q E s := by
  obtain ⟨mA, O, r, wi, _, ho⟩ := ins_get I.hok e
  have hz : (fs.map (·.1)).length ≤ sizeLine := by rw [List.length_map, sizeLine_eq]; lia
  refine set_map I.kIn O c.sa c.po n.taker c.hd wi hz fun h' O' sb => h _ ?_
  have hd : ∃ o, h'.get? dx = some o := let ⟨o, _, _, e', _⟩ := O'.ns; ⟨o, e'⟩
  refine I.write (x := a) (e := dx) (by rw [e]; exact True.intro) (.inr ho) (fun b q hb z => (sb.2 b hb).trans z) hd ?_
  refine ⟨by rw [upd_ne O.ne]; exact ho, ?_, O.ne, O'.obj, _, O'.ns, fun g => ?_, fun g hg => ?_⟩
  · have := length_putF f y fs; lia
  · show RelO ((putF f y fs).lookup g) (if g = f then some u else mA g)
    rw [lookup_putF]
    by_cases q : g = f
    · rw [if_pos q, if_pos q]; exact ry
    · rw [if_neg q, if_neg q]; exact r g
  · by_cases q : g = f
    · rw [q]; exact (keys_putF f y fs).1
    · refine (keys_putF f y fs).2 g (wi g fun z => hg ?_)
      show (if g = f then some u else mA g) = none
      rw [if_neg q]; exact z
theorem Inv.made (I : Inv X pins σ H s) : Inv X pins σ (upd (upd H s.heap.objs.size (.own (s.heap.objs.size + 1))) (s.heap.objs.size + 1) (.ins C s.heap.objs.size []))
    { s with heap := (s.heap.push PySem.W.emptyDict).push (PySem.W.instObj C s.heap.objs.size) } := by
  have e1 : (s.heap.push PySem.W.emptyDict).get? s.heap.objs.size = some PySem.W.emptyDict := Heap.get?_push_size s.heap rfl
  have e2 : ((s.heap.push PySem.W.emptyDict).push (PySem.W.instObj C s.heap.objs.size)).get? (s.heap.objs.size + 1) = some (PySem.W.instObj C s.heap.objs.size) := by
    have := Heap.get?_push_size (s.heap.push PySem.W.emptyDict) (o := PySem.W.instObj C s.heap.objs.size) rfl
    rwa [Heap.size_push] at this
  have e3 : (s.heap.push PySem.W.emptyDict).Ns s.heap.objs.size (fun _ => none) := ⟨PySem.W.emptyDict, #[], _, e1, rfl, (fun e he => absurd he (by simp)), fun _ => rfl⟩
  have I1 := I.laid (a := s.heap.objs.size) (o := .own (s.heap.objs.size + 1)) (h' := s.heap.push PySem.W.emptyDict) (t' := s.toks) (fun b u q => Heap.get?_push_of_some _ q) (Nat.le_refl _) ⟨_, e1⟩
  refine I1.laid (a := s.heap.objs.size + 1) (o := .ins C s.heap.objs.size []) (t' := s.toks) (fun b u q => Heap.get?_push_of_some _ q) (Nat.le_of_eq (Heap.size_push _ _)) ?_
  have ne : s.heap.objs.size ≠ s.heap.objs.size + 1 := Nat.ne_of_lt (Nat.lt_succ_self _)
  refine ⟨by rw [upd_ne ne, upd_same], Nat.zero_le _, ne, e2, fun _ => none, (Heap.Ns1.of_empty e3).at fun o q => Heap.get?_push_of_some _ q, fun _ => True.intro, fun y hy => absurd rfl hy⟩
theorem attr_of {prog : Program} {w : World} {env : Env} {e : Expr} {f : Str} {pos : Pos} {s : Shared} {Q : Value → Shared → Prop} (hb : attributeBase e f env (eval e env) = eval e env)
    (h : wpAny (model prog w) A (eval e env) (fun o s₁ => wpAny (model prog w) A (getAttr o f true) Q E s₁) E s) : wpAny (model prog w) A (eval (.Attribute e f pos) env) Q E s :=
  Attribute_any_ h (by rw [arm_eval_Attribute, hb])
end
noncomputable def tFld (K : PySem.W.Frag) (ta : TE) (f : Str) : TE := fun σ H Q => ta σ H fun x H1 => ∃ a C dx fs v, x = .ref a ∧ H1 a = some (.ins C dx fs) ∧ Cls K C ∧ NoAttr K C f ∧ fs.lookup f = some v ∧ Q v H1
noncomputable def sFld (K : PySem.W.Frag) (ta tv : TE) (f : Str) : TS := fun D σ H => tv σ H fun y H1 => ta σ H1 fun x H2 => ∃ a C dx fs, x = .ref a ∧ H2 a = some (.ins C dx fs) ∧ Cls K C ∧ NoAttr K C f ∧ fs.length < 1000 ∧
  D.nx σ (upd H2 a (.ins C dx (putF f y fs)))
section
variable {X : Cx} {o e value : Expr} {f : Str} {pos pos' tpos : Pos} {ta tv : TE}
theorem pe_fld (he : PE X e ta) (hb : attributeBase e f X.env (eval e X.env) = eval e X.env) : PE X (.Attribute e f pos) (tFld X.K ta f) := by
  intro pins s σ H Q I h
  refine attr_of hb (thn (he pins s σ H _ I h) fun u s1 zz0 => ?_)
  obtain ⟨x, H1, I1, rx, a, C, dx, fs, v, ex, ea, c, n, l, q⟩ := zz0
  subst ex
  obtain rfl : u = Value.ref a := rx
  exact getattr_ok I1 ea c n l fun u' s2 I2 ru => ⟨v, H1, I2, ru, q⟩
theorem ps_fld (ha : PE X o ta) (hv : PE X value tv) (hs : swapsWith value (some (.Attribute o f pos')) pos.line X.env = pure false) : PS X (.Assign [.Attribute o f pos'] value pos) (sFld X.K ta tv f) := by
  intro pins s σ H D I h
  refine plainObj_wpAny_Assign_Attribute (thn (hv pins s σ H _ I h) fun u s1 ⟨y, H1, I1, ry, q⟩ => thn (ha pins s1 σ H1 _ I1 q) fun ov s2 zz0 => ?_) hs
  obtain ⟨x, H2, I2, rx, a, C, dx, fs, ex, ea, c, n, l, q2⟩ := zz0
  subst ex
  obtain rfl : ov = Value.ref a := rx
  exact setattr_ok I2 ea c n l ry fun s3 I3 => ⟨σ, _, I3, q2⟩
end
section
variable {X : Cx} {pins : List (Addr × Obj)} {σ : St} {H : Hp} {s : Shared} {A : Around} {E : Value → Shared → Prop} {Q : Value → Shared → Prop} {c : Value} {b : Bool}
inductive TyOf (K : PySem.W.Frag) (H : Hp) : V → Value → Prop where
  | non : TyOf K H .non (.type "NoneType")
  | bl (x : Bool) : TyOf K H (.bl x) (.type "bool")
  | int (i : Int) : TyOf K H (.int i) (.type "int")
  | str (x : Str) : TyOf K H (.str x) (.type "str")
  | flt (x : UInt64) : TyOf K H (.flt x) (.type "float")
  | lst {a : Addr} {xs : List V} (e : H a = some (.lst xs)) : TyOf K H (.ref a) (.type "list")
  | frz {a : Addr} {o : Obj} {xs : List V} (e : H a = some (.frz o (.lst xs))) : TyOf K H (.ref a) (.type "list")
  | tup {a : Addr} {xs : List V} (e : H a = some (.tup xs)) : TyOf K H (.ref a) (.type "tuple")
  | dK {a : Addr} {kvs : List (Key × V)} (e : H a = some (.dK kvs)) : TyOf K H (.ref a) (.type "dict")
  | dT {a : Addr} {kvs : List (List Key × V)} (e : H a = some (.dT kvs)) : TyOf K H (.ref a) (.type "dict")
  | ins {a C dx : Addr} {fs : List (Str × V)} (e : H a = some (.ins C dx fs)) (cl : Cls K C) (ha : PySem.W.findIn K (.ref C) "__class__" = some (some (.builtin "object.__class__")))
      (hn : PySem.W.specialIn K (.builtin "object.__class__") "__get__" = some (some (.builtin "getset_descriptor.__get__"))) (htk : PySem.W.takesIn K (.builtin "object.__class__") = some true)
      (hm : PySem.W.mroIn K C (.type "object") = some true) : TyOf K H (.ref a) (.ref C)
theorem isinst_ok {x : V} {u t : Value} (I : Inv X pins σ H s) (rx : RelV x u) (ty : TyOf X.K H x t) (e : PySem.W.kitOne X.K t c = some b) (h : ∀ tk, Q (.bool b) { s with toks := tk }) :
    wpAny (model X.prog X.w) A (call (.builtin "isinstance") [u, c]) Q E s := by
  cases ty with
  | non => cases (show u = Value.none from rx); exact PySem.W.kia_one PySem.W.kitx_none I.kIn True.intro e (fun z => nomatch z) h
  | bl y => cases (show u = Value.bool y from rx); exact PySem.W.kia_one PySem.W.kitx_bool I.kIn True.intro e (fun z => nomatch z) h
  | int i => obtain ⟨t, q⟩ := (show ∃ t, u = Value.int i t from rx); cases q; exact PySem.W.kia_one PySem.W.kitx_int I.kIn True.intro e (fun z => nomatch z) h
  | str y => obtain ⟨t, q⟩ := (show ∃ t, u = Value.str y t from rx); cases q; exact PySem.W.kia_one PySem.W.kitx_str I.kIn True.intro e (fun z => nomatch z) h
  | flt y => obtain ⟨t, q⟩ := (show ∃ t, u = Value.float y t from rx); cases q; exact PySem.W.kia_one PySem.W.kitx_float I.kIn True.intro e (fun z => nomatch z) h
  | @lst a xs ea =>
    cases (show u = Value.ref a from rx)
    obtain ⟨_, _, n, _, h1⟩ := (show ObjOk X.prog X.w H s.heap a (.lst xs) from I.hok a _ ea)
    exact PySem.W.kia_one PySem.W.kitx_list I.kIn ⟨_, h1, rfl⟩ e (fun z => nomatch z) h
  | @frz a ob xs ea =>
    cases (show u = Value.ref a from rx)
    obtain ⟨_, _, _, n, _, h1⟩ := (show ObjOk X.prog X.w H s.heap a (.frz ob (.lst xs)) from I.hok a _ ea)
    exact PySem.W.kia_one PySem.W.kitx_list I.kIn ⟨_, h1, rfl⟩ e (fun z => nomatch z) h
  | @tup a xs ea =>
    cases (show u = Value.ref a from rx)
    obtain ⟨_, _, _, p⟩ := (show ObjOk X.prog X.w H s.heap a (.tup xs) from I.hok a _ ea)
    obtain ⟨o, h1, h2, _⟩ := p
    exact PySem.W.kia_one PySem.W.kitx_tuple I.kIn ⟨o, h1, h2⟩ e (fun z => nomatch z) h
  | @dK a kvs ea =>
    cases (show u = Value.ref a from rx)
    obtain ⟨_, _, vs, _, p⟩ := (show ObjOk X.prog X.w H s.heap a (.dK kvs) from I.hok a _ ea)
    obtain ⟨o, es, ep, h1, h2, _⟩ := p
    exact PySem.W.kia_one PySem.W.kitx_dict I.kIn ⟨o, h1, h2.1⟩ e (fun z => nomatch z) h
  | @dT a kvs ea =>
    cases (show u = Value.ref a from rx)
    obtain ⟨_, _, xs, _, o, es, ep, h1, h2, _⟩ := (show ObjOk X.prog X.w H s.heap a (.dT kvs) from I.hok a _ ea)
    exact PySem.W.kia_one PySem.W.kitx_dict I.kIn ⟨o, h1, h2.1⟩ e (fun z => nomatch z) h
  | @ins a C dx fs ea cl ha hn htk hm =>
    cases (show u = Value.ref a from rx)
    obtain ⟨mA, O, _⟩ := ins_get I.hok ea
    obtain ⟨od, J, _⟩ := O.look
    exact PySem.W.kia_one (PySem.W.kitx_own (cl.get _) cl.hd ha hn htk hm) I.kIn J e (fun z => nomatch z) h
end
end L2
namespace L2
open PySem PySem.Spec PyProof.Rows
structure Room (k : Nat) (A : Around) : Prop where
  hd : A.handled = none
  dp : A.depth + 3 * k + 5 < recursionLimit
  un : A.units + 16 * k + 200 < cLine
theorem Room.mono {j k : Nat} {A : Around} (r : Room k A) (h : j ≤ k) : Room j A := ⟨r.hd, by have := r.dp; lia, by have := r.un; lia⟩
theorem Room.deeper {k : Nat} {A : Around} (r : Room (k + 1) A) (env : Env) : Room k (A.deeper env) :=
  ⟨r.hd, by have := r.dp; show A.depth + 1 + 3 * k + 5 < _; lia, by have := r.un; show A.units + 3 + 16 * k + 200 < _; lia⟩
theorem make_depth {A : Around} {C : Addr} {us : List Value} {kw : List (Str × Value)} : (A.under (.builtin "type.__call__" ⟨.ref C :: us, kw⟩)).depth = A.depth + 1 := by
  first | rfl | simp [Around.under, Code.weight, Code.isCreation, Code.isGuard, Code.isCaller, Code.frames, Code.isFrame, guardIds]
theorem make_units {A : Around} {C : Addr} {us : List Value} {kw : List (Str × Value)} : (A.under (.builtin "type.__call__" ⟨.ref C :: us, kw⟩)).units = A.units + 1 := by
  first | rfl | simp [Around.under, Code.cUnits, Code.frames, Code.isFrame]
theorem Room.make {k : Nat} {A : Around} (r : Room (k + 1) A) (C : Addr) (us : List Value) (kw : List (Str × Value)) : Room k (A.under (.builtin "type.__call__" ⟨.ref C :: us, kw⟩)) :=
  ⟨r.hd, by have := r.dp; rw [make_depth]; lia, by have := r.un; rw [make_units]; lia⟩
theorem Room.depth {k : Nat} {A : Around} (r : Room k A) : A.depth < recursionLimit := by have := r.dp; lia
theorem Room.units {k : Nat} {A : Around} (r : Room k A) : A.units + 64 < cLine := by have := r.un; lia
noncomputable def tNil : TA := fun _ H Q => Q [] H
noncomputable def tCons (ta : TE) (tr : TA) : TA := fun σ H Q => ta σ H fun x H1 => tr σ H1 fun xs H2 => Q (x :: xs) H2
section
variable {X : Cx} {e : Expr} {es : List Expr} {te : TE} {t : TA} {pos : Pos}
theorem pa_nil : PA X [] tNil := fun _ _ _ _ H Q I h => Calls.spliced_nil ⟨[], H, I, .nil, h⟩
theorem pa_cons (ha : PE X e te) (hr : PA X es t) (hs : starEach (e :: es) X.env = (false, eval e X.env) :: starEach es X.env := by rfl) : PA X (e :: es) (tCons te t) := by
  intro pos pins s σ H Q I h
  rw [hs]
  show wpAny _ _ (spliced ((false, eval e X.env) :: backTo pos (starEach es X.env))) _ _ s
  refine Calls.spliced_cons (thn (ha pins s σ H _ I h) fun u s1 zz0 => ?_)
  obtain ⟨x, H1, I1, r1, q1⟩ := zz0
  exact thn (hr pos pins s1 σ H1 _ I1 q1) fun us s2 ⟨xs, H2, I2, r2, q2⟩ => ⟨x :: xs, H2, I2, .cons r1 r2, q2⟩
noncomputable def tTup (t : TA) : TE := fun σ H Q => t σ H fun xs H1 => xs.length ≤ sizeLine ∧ ∀ p, H1 p = none → Q (.ref p) (upd H1 p (.tup xs))
noncomputable def tLst (t : TA) : TE := fun σ H Q => t σ H fun xs H1 => xs.length ≤ sizeLine ∧ ∀ p, H1 p = none → Q (.ref p) (upd H1 p (.lst xs))
theorem pe_tup {x1} (h : PA X es t) : PE X (.Tuple es x1 pos) (tTup t) := by
  intro pins s σ H Q I hq
  refine wpAny_Tuple_spliced (thn (h pos pins s σ H _ I hq) fun us s1 ⟨xs, H1, I1, r, z, q⟩ => ⟨by rw [← r.length]; exact z, ?_⟩)
  have hf : H1 s1.heap.objs.size = none := I1.hok.fresh (Nat.le_refl _)
  refine ⟨.ref s1.heap.objs.size, upd H1 s1.heap.objs.size (.tup xs), I1.laid (t' := s1.toks) (fun b u e => Heap.get?_push_of_some _ e) (Nat.le_refl _) ?_, rfl, q _ hf⟩
  exact ⟨z, us, r, ⟨_, Heap.get?_push_size _ rfl, rfl, _, rfl⟩⟩
theorem pe_lst (h : PA X es t) : PE X (.List es pos) (tLst t) := by
  intro pins s σ H Q I hq
  refine wpAny_List_spliced (thn (h pos pins s σ H _ I hq) fun us s1 ⟨xs, H1, I1, r, z, q⟩ => ⟨by rw [← r.length]; exact z, ?_⟩)
  have hf : H1 s1.heap.objs.size = none := I1.hok.fresh (Nat.le_refl _)
  refine ⟨.ref s1.heap.objs.size, upd H1 s1.heap.objs.size (.lst xs), I1.laid (t' := s1.toks) (fun b u e => Heap.get?_push_of_some _ e) (Nat.le_refl _) ?_, rfl, q _ hf⟩
  exact ⟨z, us, 0, r, Heap.get?_push_size _ rfl⟩
end
noncomputable abbrev Sp := List V → Hp → VK → XK → Prop
noncomputable abbrev CXT := List Env → Hp → Shared → XK → Value → Shared → Prop
structure Env0 (P : Program) (w : World) (K : PySem.W.Frag) (mg : Str → Option Value) (base : Heap) (A : Around) (outer : List Env) (s : Shared) (H : Hp) : Prop where
  frames : A.frames = some outer
  mod : Mod K mg base
  bs : ∀ b o, base.get? b = some o → s.heap.get? b = some o ∧ H b = none
  bsz : base.objs.size ≤ s.heap.objs.size
  funs : s.heap.FunFrames base outer
  frf : ∀ b ∈ frs outer, H b = none
  hok : HOk P w H s.heap
  bare : AllBare s.gens
noncomputable def CE (outer : List Env) (P : Program) (w : World) (H : Hp) (s : Shared) (Q : VK) (u : Value) (s' : Shared) : Prop :=
  ∃ v H', s'.os = s.os ∧ AllBare s'.gens ∧ Un (frs outer) [] H H' s.heap s'.heap ∧ HOk P w H' s'.heap ∧ RelV v u ∧ Q v H'
noncomputable def CR (CX : CXT) (outer : List Env) (P : Program) (w : World) (H : Hp) (s : Shared) (Q : VK) (E : XK) (r : Result) (s' : Shared) : Prop :=
  match r with
  | .ok (.ret u) => CE outer P w H s Q u s'
  | .ok _ => False
  | .error e => CX outer H s E e s'
structure FnOk (P : Program) (w : World) (K : PySem.W.Frag) (mg : Str → Option Value) (base : Heap) (CX : CXT) (k : Nat) (f : Addr) (fd : FuncData) (ps : List Str) (sp : Sp) : Prop where
  len : ∀ vs H Q E, sp vs H Q E → vs.length = ps.length
  run : ∀ (A : Around) (outer : List Env) (s : Shared) (H : Hp) (args : Args) (us : List Value) (vs : List V) (Q : VK) (E : XK), Room k A → Env0 P w K mg base A outer s H → BindsTo s fd args (ps.zip us) → Vals vs us → sp vs H Q E →
    codeAny (model P w) A (.call (.ref f) args) (CR CX outer P w H s Q E) s
theorem Env0.make {P : Program} {w : World} {K : PySem.W.Frag} {mg : Str → Option Value} {base : Heap} {A : Around} {outer : List Env} {s : Shared} {H : Hp} (e : Env0 P w K mg base A outer s H) (C : Addr) (us : List Value) (kw : List (Str × Value)) :
    Env0 P w K mg base (A.under (.builtin "type.__call__" ⟨.ref C :: us, kw⟩)) outer s H := ⟨by first | exact e.frames | (simpa [Around.under, Code.envs, Code.isFrame, pushEnvs] using e.frames), e.mod, e.bs, e.bsz, e.funs, e.frf, e.hok, e.bare⟩
section
variable {X : Cx} {pins : List (Addr × Obj)} {σ : St} {H : Hp} {s s' : Shared}
theorem Inv.env0 (I : Inv X pins σ H s) : Env0 X.prog X.w X.K X.mg X.base X.A X.stack s H :=
  ⟨I.ok.frames, I.ok.mod, I.bs, Nat.le_trans I.ok.bsz I.sz, I.stack, I.stkFree, I.hok, I.bare⟩
theorem Inv.after {Q : VK} {u : Value} (I : Inv X pins σ H s) (h : CE X.stack X.prog X.w H s Q u s') : EP X pins σ Q u s' := by
  obtain ⟨v, H', os, bare, un, hok, r, q⟩ := h
  obtain ⟨hh, g, d, t, os'⟩ := s'
  obtain rfl : os' = s.os := os
  exact ⟨v, H', I.call (h' := hh) (g' := g) (d' := d) (t' := t) (ch := []) un hok bare (fun b z => absurd z (by simp)), r, q⟩
end
noncomputable def tCall (sp : Sp) (dvs : List V) (E : XK) (t : TA) : TE := fun σ H Q => t σ H fun vs H1 => sp (vs ++ dvs) H1 Q E
noncomputable def tMeth (C : Addr) (m : Str) (sp : Sp) (dvs : List V) (E : XK) (ta : TE) (t : TA) : TE := fun σ H Q => ta σ H fun x H1 => ∃ a dx fs, x = .ref a ∧ H1 a = some (.ins C dx fs) ∧ fs.lookup m = none ∧
  t σ H1 fun vs H2 => sp (x :: (vs ++ dvs)) H2 Q E
noncomputable def tMake (C : Addr) (sp : Sp) (dvs : List V) (E : XK) (t : TA) : TE := fun σ H Q => t σ H fun vs H1 => ∀ x dx, H1 x = none → H1 dx = none → dx ≠ x →
  sp (.ref x :: (vs ++ dvs)) (upd (upd H1 dx (.own x)) x (.ins C dx [])) (fun v H2 => v = .non ∧ Q (.ref x) H2) E
noncomputable def Binds (K : PySem.W.Frag) (fd : FuncData) (ps : List Str) (ds : List Value) : Prop :=
  ∀ (s : Shared) (us : List Value), K.In s.heap → (us ++ ds).length = ps.length → BindsTo s fd ⟨us, []⟩ (ps.zip (us ++ ds))
theorem Binds.all {K : PySem.W.Frag} {fd : FuncData} {ps : List Str} (h : ∀ us : List Value, us.length = ps.length → bindArgs fd ⟨us, []⟩ = pure (ps.zip us)) : Binds K fd ps [] := fun s us _ hl => by
  rw [List.append_nil] at hl ⊢
  exact .of_eq (h us hl)
noncomputable def Passes (CX : CXT) (X : Cx) (E : XK) : Prop := ∀ (pins : List (Addr × Obj)) (σ : St) (H : Hp) (s : Shared) (e : Value) (s' : Shared), Inv X pins σ H s → CX X.stack H s E e s' → X.xe e s'
section
variable {X : Cx} {CX : CXT} {k : Nat} {f C : Addr} {fd : FuncData} {ps : List Str} {sp : Sp} {dvs : List V} {ds : List Value} {E : XK} {x m : Str} {p pos apos : Pos} {e o : Expr} {es : List Expr} {ta : TE} {t : TA}
theorem run_fn {pins : List (Addr × Obj)} {σ : St} {H : Hp} {s : Shared} {Q : VK} {us : List Value} {vs : List V} (F : FnOk X.prog X.w X.K X.mg X.base CX k f fd ps sp) (hr : Room k X.A) (hb : Binds X.K fd ps ds) (hd : Vals dvs ds) (hx : Passes CX X E)
    (I : Inv X pins σ H s) (r : Vals vs us) (h : sp (vs ++ dvs) H Q E) : wpAny (model X.prog X.w) X.A (call (.ref f) us) (EP X pins σ Q) X.xe s := by
  have r2 : Vals (vs ++ dvs) (us ++ ds) := r.append hd
  have hl : (us ++ ds).length = ps.length := by rw [← r2.length]; exact F.len _ _ _ _ h
  refine wpAny_call (codeAny_mono (F.run X.A X.stack s H ⟨us, []⟩ (us ++ ds) (vs ++ dvs) Q E hr I.env0 (hb s us I.kIn hl) r2 h) fun r s' hq => ?_)
  cases r with
  | error e => exact hx pins σ H s e s' I hq
  | ok fl =>
    cases fl with
    | ret u => exact I.after hq
    | next => exact False.elim hq
    | brk => exact False.elim hq
    | cont => exact False.elim hq
theorem pe_call (F : FnOk X.prog X.w X.K X.mg X.base CX k f fd ps sp) (hr : Room k X.A) (hg : Gl X x) (hm : X.mg x = some (.ref f)) (hk : PySem.W.keepIn X.K (.ref f) = true) (hb : Binds X.K fd ps ds) (hd : Vals dvs ds) (hx : Passes CX X E)
    (ha : PA X (e :: es) t) (hdb : (x == ("__debug__" : Str)) = false := by decide) (he : starEach (e :: es) X.env = (false, eval e X.env) :: starEach es X.env := by rfl) (hpl : (backTo pos (starEach es X.env)).any (·.1) = false := by rfl) :
    PE X (.Call (.Name x p) (e :: es) [] pos) (tCall sp dvs E t) := by
  intro pins s σ H Q I h
  refine wpAny_Call_Name_kw (ld_glob I hg hm ?_ hdb)
  refine PySem.W.callWith_K (h₀ := X.base) I.ok.mod.kin hk (thn (ha pos pins s σ H _ I h) fun us s1 ⟨vs, H1, I1, r, q⟩ => ⟨I1.kIn, ?_⟩) he hpl
  exact run_fn F hr hb hd hx I1 r q
theorem pe_meth {pl : Sem Bool} (he : PE X o ta) (c : Cls X.K C) (hm : Meth X.K C m f) (F : FnOk X.prog X.w X.K X.mg X.base CX k f fd ps sp) (hr : Room k X.A) (hb : Binds X.K fd ps ds) (hd : Vals dvs ds) (hx : Passes CX X E) (ha : PA X (e :: es) t)
    (hst : starEach (e :: es) X.env = (false, eval e X.env) :: starEach es X.env := by rfl) (hpl : (backTo pos (starEach es X.env)).any (·.1) = false := by rfl)
    (ht : eval (.Call (.Attribute o m apos) (e :: es) [] pos) X.env = (do
      let ov ← eval o X.env
      standAt apos.atName
      let (f, first) ← holding [ov] (getMethod ov m pl)
      callWith pos f first (backTo pos (starEach (e :: es) X.env)) (backToKw pos (keywordEach [] X.env))) := by rfl) :
    PE X (.Call (.Attribute o m apos) (e :: es) [] pos) (tMeth C m sp dvs E ta t) := by
  intro pins s σ H Q I h
  refine PySem.W.methodCall_KW (pl := pl) (thn (he pins s σ H _ I h) fun u s1 zz0 => ?_) ht
  obtain ⟨x, H1, I1, rx, a, dx, fs, ex, ea, l, q⟩ := zz0
  subst ex
  obtain rfl : u = Value.ref a := rx
  refine getmeth_ok I1 ea c hm l ?_
  refine PySem.W.callWith_K (first := [.ref a]) (h₀ := X.base) I.ok.mod.kin hm.kp (thn (ha pos pins s1 σ H1 _ I1 q) fun us s2 ⟨vs, H2, I2, r, q2⟩ => ⟨I2.kIn, ?_⟩) hst hpl
  exact run_fn (us := .ref a :: us) (vs := .ref a :: vs) F hr hb hd hx I2 (.cons rfl r) q2
structure Mk (K : PySem.W.Frag) (C f : Addr) : Prop where
  makes : PySem.W.makesIn K C = true
  init : PySem.W.findIn K (.ref C) "__init__" = some (some (.ref f))
  fn : PySem.W.isFn K (.ref f) = true
  kp : PySem.W.keepIn K (.ref C) = true
theorem run_make {pins : List (Addr × Obj)} {σ : St} {H : Hp} {s : Shared} {Q : VK} {us : List Value} {vs : List V} (M : Mk X.K C f) (F : FnOk X.prog X.w X.K X.mg X.base CX k f fd ps sp) (hr : Room (k + 1) X.A) (hb : Binds X.K fd ps ds) (hd : Vals dvs ds)
    (hx : Passes CX X E) (I : Inv X pins σ H s) (r : Vals vs us)
    (h : ∀ x dx, H x = none → H dx = none → dx ≠ x → sp (.ref x :: (vs ++ dvs)) (upd (upd H dx (.own x)) x (.ins C dx [])) (fun v H2 => v = .non ∧ Q (.ref x) H2) E) :
    wpAny (model X.prog X.w) X.A (call (.ref C) us) (EP X pins σ Q) X.xe s := by
  have hq := h (s.heap.objs.size + 1) s.heap.objs.size (I.hok.fresh (Nat.le_succ _)) (I.hok.fresh (Nat.le_refl _)) (Nat.ne_of_lt (Nat.lt_succ_self _))
  have I2 := Inv.made (C := C) I
  have r2 : Vals (V.ref (s.heap.objs.size + 1) :: (vs ++ dvs)) (Value.ref (s.heap.objs.size + 1) :: (us ++ ds)) := .cons rfl (r.append hd)
  have hl : (Value.ref (s.heap.objs.size + 1) :: us ++ ds).length = ps.length := by
    have e := r2.length
    rw [F.len _ _ _ _ hq] at e
    exact e.symm
  refine wpAny_call (make_map (f := f) I.kIn M.makes M.init (beq_iff_eq.mp M.fn) (codeAny_mono (F.run _ X.stack _ _ ⟨Value.ref (s.heap.objs.size + 1) :: us, []⟩ (Value.ref (s.heap.objs.size + 1) :: (us ++ ds)) _ _ E (hr.make C us [])
    (I2.env0.make C us []) (hb _ (Value.ref (s.heap.objs.size + 1) :: us) I2.kIn hl) r2 hq) fun r s' hq' => ?_))
  cases r with
  | error e => exact hx pins σ _ _ e s' I2 hq'
  | ok fl =>
    cases fl with
    | ret u =>
      obtain ⟨v, H', I3, rv, ev, q3⟩ := I2.after hq'
      subst ev
      exact ⟨rv, ⟨V.ref (s.heap.objs.size + 1), H', I3, rfl, q3⟩⟩
    | next => exact False.elim hq'
    | brk => exact False.elim hq'
    | cont => exact False.elim hq'
theorem pe_make (M : Mk X.K C f) (F : FnOk X.prog X.w X.K X.mg X.base CX k f fd ps sp) (hr : Room (k + 1) X.A) (hg : Gl X x) (hm : X.mg x = some (.ref C)) (hb : Binds X.K fd ps ds) (hd : Vals dvs ds) (hx : Passes CX X E)
    (ha : PA X (e :: es) t) (hdb : (x == ("__debug__" : Str)) = false := by decide) (he : starEach (e :: es) X.env = (false, eval e X.env) :: starEach es X.env := by rfl) (hpl : (backTo pos (starEach es X.env)).any (·.1) = false := by rfl) :
    PE X (.Call (.Name x p) (e :: es) [] pos) (tMake C sp dvs E t) := by
  intro pins s σ H Q I h
  refine wpAny_Call_Name_kw (ld_glob I hg hm ?_ hdb)
  refine PySem.W.callWith_K (h₀ := X.base) I.ok.mod.kin M.kp (thn (ha pos pins s σ H _ I h) fun us s1 ⟨vs, H1, I1, r, q⟩ => ⟨I1.kIn, ?_⟩) he hpl
  exact run_make M F hr hb hd hx I1 r q
end
section
variable {X : Cx} {CX : CXT} {k : Nat} {f C : Addr} {fd : FuncData} {ps ks : List Str} {sp : Sp} {E : XK} {x m : Str} {p pos apos kpos : Pos} {e o : Expr} {es : List Expr} {kws : List Keyword} {te ta : TE} {t tk : TA} {nm : Option Str}
variable {g : List Value → List Value → List Value} {gV : List V → List V → List V}
end
structure FnScope (N P : List Str) (sc : Scope) : Prop where
  kind : sc.kind = .function
  co : sc.isCoroutine = false
  gen : sc.isGenerator = false
  nd : N.Nodup
  pre : N.take P.length = P
  par : ∀ x ∈ P, sc.names.lookup x = some .local ∨ sc.names.lookup x = some .cell
  nofree : ∀ y ∈ sc.names, y.2 ≠ .free
theorem bindL_out {kindOf : Str → Option NameKind} {x : Str} : ∀ {binds : List (Str × Value)} {m : Str → Option Value}, (∀ v, (x, v) ∉ binds) → bindL kindOf binds m x = m x
  | [], _, _ => rfl
  | (n, v) :: r, m, h => by
    unfold bindL
    rw [bindL_out fun w hw => h w (List.mem_cons_of_mem _ hw)]
    split
    · have : x ≠ n := by rintro rfl; exact h v List.mem_cons_self
      simp [this]
    · rfl
theorem bindC_out {kindOf : Str → Option NameKind} {x : Str} : ∀ {binds : List (Str × Value)} {m : Str → Option Value}, (∀ v, (x, v) ∉ binds) → bindC kindOf binds m x = m x
  | [], _, _ => rfl
  | (n, v) :: r, m, h => by
    unfold bindC
    rw [bindC_out fun w hw => h w (List.mem_cons_of_mem _ hw)]
    split
    · rfl
    · have : x ≠ n := by rintro rfl; exact h v List.mem_cons_self
      simp [this]
theorem bindL_get {kindOf : Str → Option NameKind} {x : Str} {v : Value} : ∀ {P : List Str} {vs : List Value} {i : Nat} {m : Str → Option Value}, P.Nodup → P[i]? = some x → vs[i]? = some v → kindOf x = some .local →
    bindL kindOf (P.zip vs) m x = some v
  | [], _, _, _, _, h, _, _ => by simp at h
  | _ :: _, [], _, _, _, _, h, _ => by simp at h
  | p :: P, w :: vs, 0, m, nd, h1, h2, hk => by
    simp at h1 h2; subst h1; subst h2
    show bindL kindOf ((p, w) :: P.zip vs) m p = _
    unfold bindL
    rw [bindL_out fun v hv => (List.nodup_cons.mp nd).1 (List.of_mem_zip hv).1, if_pos hk]
    simp
  | p :: P, w :: vs, i + 1, m, nd, h1, h2, hk => by
    show bindL kindOf ((p, w) :: P.zip vs) m x = _
    unfold bindL
    exact bindL_get (i := i) (List.nodup_cons.mp nd).2 (by simpa using h1) (by simpa using h2) hk
theorem bindC_get {kindOf : Str → Option NameKind} {x : Str} {v : Value} : ∀ {P : List Str} {vs : List Value} {i : Nat} {m : Str → Option Value}, P.Nodup → P[i]? = some x → vs[i]? = some v → kindOf x ≠ some .local →
    bindC kindOf (P.zip vs) m x = some v
  | [], _, _, _, _, h, _, _ => by simp at h
  | _ :: _, [], _, _, _, _, h, _ => by simp at h
  | p :: P, w :: vs, 0, m, nd, h1, h2, hk => by
    simp at h1 h2; subst h1; subst h2
    show bindC kindOf ((p, w) :: P.zip vs) m p = _
    unfold bindC
    rw [bindC_out fun v hv => (List.nodup_cons.mp nd).1 (List.of_mem_zip hv).1, if_neg hk]
    simp
  | p :: P, w :: vs, i + 1, m, nd, h1, h2, hk => by
    show bindC kindOf ((p, w) :: P.zip vs) m x = _
    unfold bindC
    exact bindC_get (i := i) (List.nodup_cons.mp nd).2 (by simpa using h1) (by simpa using h2) hk
noncomputable def start (N : List Str) (vs : List V) : St := vs.map some ++ List.replicate (N.length - vs.length) none
noncomputable def cxOf (CX : CXT) (P : Program) (w : World) (K : PySem.W.Frag) (mg : Str → Option Value) (base : Heap) (N : List Str) (qual : Str) (scope : Scope) (f : Addr) (cd : Value) (A : Around) (outer : List Env) (s : Shared) (H : Hp) (E : XK) : Cx where
  prog := P
  w := w
  K := K
  mg := mg
  base := base
  A := A.deeper (envOfC qual scope s.heap.objs.size f cd)
  N := N
  s₀ := s
  H₀ := H
  env := envOfC qual scope s.heap.objs.size f cd
  outer := outer
  stack := envOfC qual scope s.heap.objs.size f cd :: outer
  ex := []
  calm := true
  fn := fun _ => true
  pn := []
  xe := fun e s' => wpAny (model P w) (A.deeper (envOfC qual scope s.heap.objs.size f cd)) (leaving (envOfC qual scope s.heap.objs.size f cd) e) (fun _ s'' => CX outer H s E e s'') (fun e' s'' => CX outer H s E e' s'') s'
theorem cell_has {sc : Scope} {n : Nat} {x : Str} (h : sc.names.lookup x = some .cell) : ∃ c, (cellsFrom n sc.names []).lookup x = some c := by
  have q := PySem.W.cellsFrom_some sc.names n [] (.inl h)
  exact Option.isSome_iff_exists.mp q
theorem inv_start {CX : CXT} {P : Program} {w : World} {K : PySem.W.Frag} {mg : Str → Option Value} {base : Heap} {N ps : List Str} {qual : Str} {scope : Scope} {f : Addr} {cd : Value} {A : Around} {outer : List Env} {s s1 : Shared} {H : Hp} {E : XK} {us : List Value} {vs : List V}
    (S : FnScope N ps scope) (hd : A.handled = none) (e0 : Env0 P w K mg base A outer s H) (hl : vs.length = ps.length) (r : Vals vs us)
    (x : InCallC s s.heap.objs.size (bindL (envOfC qual scope s.heap.objs.size f cd).kindOf (ps.zip us) fun _ => none) (cellsFrom (s.heap.objs.size + 1) scope.names []) (bindC (envOfC qual scope s.heap.objs.size f cd).kindOf (ps.zip us) fun _ => none) s1) :
    Inv (cxOf CX P w K mg base N qual scope f cd A outer s H E) [] (start N vs) H s1 := by
  have hpl : ps.length ≤ N.length := by have := congrArg List.length S.pre; rw [List.length_take] at this; lia
  obtain ⟨h1, tk, rfl, hk⟩ := x.done
  have noA : ∀ b : Addr, b ∉ (cxOf CX P w K mg base N qual scope f cd A outer s H E).ex := fun b z => absurd (show b ∈ ([] : List Addr) from z) (by simp)
  refine ⟨⟨e0.mod, S.kind, rfl, rfl, Nat.le_refl _, fun y z c h1 h2 => ?_, fun y hy => ?_, fun y c _ h => ?_, fun _ => hd, Around.frames_deeper e0.frames, .inr ⟨rfl, rfl⟩, fun b z => absurd z (noA b), e0.bs, e0.bsz, fun b _ _ => noA b, fun b z => absurd z (noA b), e0.funs, e0.frf⟩,
    rfl, e0.bare, Un.kept hk, ⟨_, x.toInCall.ns, fun i y v h1 h2 h3 => ?_⟩, fun y c h => ⟨_, x.cell y c h⟩, e0.hok.fresh (Nat.le_refl _), fun y c h => ?_, fun p hp => absurd (show p ∈ ([] : List (Addr × Obj)) from hp) (by simp), e0.hok.kept hk, ?_⟩
  · exact name_of_addr x.apart (PySem.mem_of_lookup h1) (PySem.mem_of_lookup h2)
  · have hy : scope.names.lookup y = some .cell ∨ scope.names.lookup y = some .free := hy
    rcases hy with hy | hy
    · exact cell_has hy
    · exact absurd rfl (S.nofree _ (PySem.mem_of_lookup hy))
  · exact Nat.le_of_lt (x.above y c (PySem.mem_of_lookup h))
  · have hi : i < vs.length := by
      unfold start at h2
      by_cases hi : i < vs.length
      · exact hi
      · rw [List.getElem?_append_right (by simpa using hi)] at h2
        rw [List.getElem?_replicate] at h2
        split at h2 <;> cases h2
    have ha : vs[i]? = some v := by
      unfold start at h2
      rw [List.getElem?_append_left (by simpa using hi), List.getElem?_map] at h2
      cases e : vs[i]? with
      | none => rw [e] at h2; cases h2
      | some a => rw [e] at h2; cases h2; rfl
    obtain ⟨u, hu, rv⟩ := r.get ha
    have hp : ps[i]? = some y := by
      rw [← S.pre, List.getElem?_take_of_lt (by lia)]; exact h1
    have ndP : ps.Nodup := by rw [← S.pre]; exact S.nd.sublist (List.take_sublist _ _)
    refine ⟨u, rv, ?_⟩
    rcases S.par y (List.mem_of_getElem? hp) with k | k
    · exact .inl ⟨k, bindL_get ndP hp hu k⟩
    · obtain ⟨c, e⟩ := cell_has (n := s.heap.objs.size + 1) k
      refine .inr ⟨.inl k, c, e, ?_⟩
      have q := x.cell y c e
      rw [bindC_get ndP hp hu (by show scope.names.lookup y ≠ _; rw [k]; decide)] at q
      exact q
  · exact e0.hok.fresh (Nat.le_of_lt (x.above y c (PySem.mem_of_lookup h)))
  · unfold start
    show _ = N.length
    rw [List.length_append, List.length_map, List.length_replicate]
    lia
theorem fn_of {CX : CXT} {P : Program} {w : World} {K : PySem.W.Frag} {mg : Str → Option Value} {base : Heap} {k : Nat} {f : Addr} {name qual : Str} {params : Arguments} {body : List Stmt} {scope : Scope} {dV kV doc pm cdv ct oc : Value} {an od : Option Addr}
    {osl : Array (Option Value)} {N ps : List Str} {sp : Sp} (lk : K.lookup f = some ⟨oc, od, .func (PySem.W.fnOf name qual params body scope dV kV doc pm an cdv ct), osl⟩) (hcd : PySem.W.codeIn K cdv qual = true) (S : FnScope N ps scope)
    (len : ∀ vs H Q E, sp vs H Q E → vs.length = ps.length)
    (hbody : ∀ (A : Around) (outer : List Env) (s : Shared) (H : Hp) (vs : List V) (Q : VK) (E : XK), Room k (A.deeper (envOfC qual scope s.heap.objs.size f cdv)) → sp vs H Q E →
      ∃ t, PSs (cxOf CX P w K mg base N qual scope f cdv A outer s H E) body t ∧ t { nx := fun _ H' => Q .non H', rt := Q } (start N vs) H) :
    FnOk P w K mg base CX (k + 1) f (PySem.W.fnOf name qual params body scope dV kV doc pm an cdv ct) ps sp := by
  refine ⟨len, fun A outer s H args us vs Q E hr e0 hb r hsp => ?_⟩
  have hl := len _ _ _ _ hsp
  have KX : K.In s.heap := e0.mod.kin.keeps fun b o e => (e0.bs b o e).1
  have lim : s.heap.NoLimit := e0.mod.nolimit.keeps fun b o e => (e0.bs b o e).1
  have hkind : ∀ y ∈ ps.zip us, scope.names.lookup y.1 = some .local ∨ (scope.names.lookup y.1 = some .cell ∧ ((cellsFrom (s.heap.objs.size + 1) scope.names []).lookup y.1).isSome = true) := fun ⟨n, v⟩ hy => by
    rcases S.par n (List.of_mem_zip hy).1 with q | q
    · exact .inl q
    · exact .inr ⟨q, PySem.W.cellsFrom_some _ _ _ (.inl q)⟩
  refine codeAny_call_function hr.depth (KX _ _ lk) rfl S.co S.gen rfl (PySem.W.codeRec_of KX hcd) (hb _ _ _ _ ?_)
  refine wpAny_newFunctionEnv_cells S.kind hkind fun env he s1 x => ?_
  subst he
  refine ⟨lim.keeps x.toInCall.keep, codeAny_func ?_⟩
  obtain ⟨t, ht, hq⟩ := hbody A outer s H vs Q E (hr.deeper _) hsp
  have I : Inv (cxOf CX P w K mg base N qual scope f cdv A outer s H E) [] (start N vs) H s1 := inv_start S hr.hd e0 hl r x
  refine wpAny_mono (ht [] s1 (start N vs) H _ I hq) (fun fl s' hs => ?_) fun e s' hs => hs
  have fin : ∀ {σ' : St} {H' : Hp} {v : V} {u : Value}, Inv (cxOf CX P w K mg base N qual scope f cdv A outer s H E) [] σ' H' s' → RelV v u → Q v H' → CE outer P w H s Q u s' :=
    fun {σ' H' v u} J rv q => ⟨v, H', J.os, J.bare, J.base, J.hok, rv, q⟩
  cases fl with
  | ret u =>
    obtain ⟨v, σ', H', J, rv, q⟩ := hs
    exact fin J rv q
  | next =>
    obtain ⟨σ', H', J, q⟩ := hs
    exact fin (v := V.non) (u := Value.none) J rfl q
  | brk =>
    obtain ⟨_, _, _, q⟩ := hs
    exact False.elim q
  | cont =>
    obtain ⟨_, _, _, q⟩ := hs
    exact False.elim q
end L2
namespace L2
open PySem PySem.Spec PyProof.Rows
section
variable {X : Cx} {x : Str} {p pos : Pos} {e : Expr} {es : List Expr} {t : TA} {id T : String} {r : List V → Hp → VK → Prop}
noncomputable def tCB (r : List V → Hp → VK → Prop) (t : TA) : TE := fun σ H Q => t σ H fun vs H1 => r vs H1 Q
theorem pe_callB (hc : CallR X (.builtin id) r) (hg : Gl X x) (hm : X.mg x = none) (hv : bootBuiltins x = some (.builtin id)) (ha : PA X (e :: es) t) (hn : x ≠ "__name__" := by decide) (hdb : (x == ("__debug__" : Str)) = false := by decide)
    (he : starEach (e :: es) X.env = (false, eval e X.env) :: starEach es X.env := by rfl) (hpl : (backTo pos (starEach es X.env)).any (·.1) = false := by rfl) : PE X (.Call (.Name x p) (e :: es) [] pos) (tCB r t) := by
  intro pins s σ H Q I h
  refine wpAny_Call_Name_kw (ld_blt I hg hm hv ?_ hn hdb)
  exact PyProof.Rows.callWith_builtin1 (thn (ha pos pins s σ H _ I h) fun us s1 zz => by obtain ⟨vs, H1, I1, r1, q1⟩ := zz; exact hc pins s1 σ H1 vs us Q I1 r1 q1) he hpl
theorem pe_callTy (hc : CallR X (.type T) r) (hg : Gl X x) (hm : X.mg x = none) (hv : bootBuiltins x = some (.type T)) (ha : PA X (e :: es) t) (hn : x ≠ "__name__" := by decide) (hdb : (x == ("__debug__" : Str)) = false := by decide)
    (he : starEach (e :: es) X.env = (false, eval e X.env) :: starEach es X.env := by rfl) (hpl : (backTo pos (starEach es X.env)).any (·.1) = false := by rfl) : PE X (.Call (.Name x p) (e :: es) [] pos) (tCB r t) := by
  intro pins s σ H Q I h
  refine wpAny_Call_Name_kw (ld_blt I hg hm hv ?_ hn hdb)
  exact PyProof.Rows.callWith_type1 (thn (ha pos pins s σ H _ I h) fun us s1 zz => by obtain ⟨vs, H1, I1, r1, q1⟩ := zz; exact hc pins s1 σ H1 vs us Q I1 r1 q1) he hpl
end
end L2
namespace HT
open PySem PyProof.Rows
section
open PySem.SeqAt
open PySem.AutoSeq1 (wpAny_loadPart')
open PySem.MeetsSeq PySem.MeetsSeq2 PySem.MeetsSeq3
end
section
variable {prog : Program} {w : World} {A : Around} {E : Value → Shared → Prop} {s : Shared}
noncomputable def sIx (n d : Nat) : Option Int → Nat
  | none => d
  | some v => if v < 0 then (v + (n : Int)).toNat else min v.toNat n
theorem sIx_none (n d : Nat) : sIx n d none = d := rfl
theorem sIx_nat (n d k : Nat) : sIx n d (some (k : Int)) = min k n := by
  show (if (k : Int) < 0 then ((k : Int) + (n : Int)).toNat else min (k : Int).toNat n) = min k n
  rw [if_neg (by lia), Int.toNat_natCast]
theorem sIx_le (n d : Nat) (hd : d ≤ n) (o : Option Int) : sIx n d o ≤ n := by
  cases o with
  | none => exact hd
  | some v =>
    show (if v < 0 then (v + (n : Int)).toNat else min v.toNat n) ≤ n
    by_cases hv : v < 0
    · rw [if_pos hv]; lia
    · rw [if_neg hv]; exact Nat.min_le_right _ _
end
end HT
namespace L2
open PySem PySem.Spec PyProof.Rows
noncomputable abbrev TO := St → Hp → (Option Int → Hp → Prop) → Prop
noncomputable def PO (X : Cx) (e : Option Expr) (t : TO) : Prop :=
  ∀ (pins : List (Addr × Obj)) (s : Shared) (σ : St) (H : Hp) (Q : Option Int → Hp → Prop), Inv X pins σ H s → t σ H Q →
    wpAny (model X.prog X.w) X.A (evalPart e X.env) (fun u s' => ∃ o H', Inv X pins σ H' s' ∧ IsPart u o ∧ Q o H') X.xe s
noncomputable def tNoPart : TO := fun _ H Q => Q none H
noncomputable def tPart (t : TE) : TO := fun σ H Q => t σ H fun x H1 => ∃ i, x = .int i ∧ Q (some i) H1
theorem intsAre_of {ns : List Int} : ∀ {us : List Value}, Vals (ns.map V.int) us → IntsAre us ns := by
  induction ns with
  | nil => intro us r; rw [List.map_nil] at r; cases r; exact .nil
  | cons n ns ih =>
    intro us r
    rw [List.map_cons] at r
    cases r with
    | cons r1 r2 =>
      obtain ⟨t, e⟩ := r1
      subst e
      exact .cons n t (ih r2)
section
variable {X : Cx} {e : Expr} {te : TE} {lo hi : Option Expr} {tl th : TO} {pos p2 : Pos}
theorem po_none : PO X none tNoPart := by
  intro pins s σ H Q I h
  rw [evalPart_none]
  exact wpAny_pure ⟨none, H, I, .none, h⟩
theorem po_some (h : PE X e te) : PO X (some e) (tPart te) := by
  intro pins s σ H Q I hw
  rw [evalPart_some]
  refine thn (h pins s σ H _ I hw) fun u s1 zz0 => ?_
  obtain ⟨x, H1, I1, r1, q1⟩ := zz0
  obtain ⟨i, rfl, q⟩ := q1
  obtain ⟨t, rfl⟩ := r1
  exact ⟨some i, H1, I1, .int i t, q⟩
noncomputable def SlR (X : Cx) (r : V → Option Int → Option Int → Hp → VK → Prop) : Prop :=
  ∀ (pins : List (Addr × Obj)) (s : Shared) (σ : St) (H : Hp) (x : V) (v vl vu : Value) (lo hi : Option Int) (sl : Addr) (Q : VK), Inv X pins σ H s → RelV x v → s.heap.IsSliceOf sl vl vu .none → IsPart vl lo → IsPart vu hi → r x lo hi H Q →
    ∃ T id, typeLookup (.type T) "__getitem__" = pure (some (.builtin id)) ∧ s.TypeIs v T ∧ wpAny (model X.prog X.w) X.A (getItem v (.ref sl)) (EP X pins σ Q) X.xe s
noncomputable def tSl (r : V → Option Int → Option Int → Hp → VK → Prop) (te : TE) (tl th : TO) : TE := fun σ H Q => te σ H fun x H1 => tl σ H1 fun l H2 => th σ H2 fun u H3 => r x l u H3 Q
theorem pe_slice {r : V → Option Int → Option Int → Hp → VK → Prop} (hr : SlR X r) (he : PE X e te) (hl : PO X lo tl) (hu : PO X hi th) : PE X (.Subscript e (.Slice lo hi none p2) pos) (tSl r te tl th) := by
  intro pins s σ H Q I h
  refine Subscript_ (thn (he pins s σ H _ I h) fun v s1 zz0 => ?_)
  obtain ⟨x, H1, I1, r1, q1⟩ := zz0
  refine wpAny_Slice (thn (hl pins s1 σ H1 _ I1 q1) fun vl s2 ⟨l, H2, I2, pl, q2⟩ => thn (hu pins s2 σ H2 _ I2 q2) fun vu s3 zz0 => ?_)
  obtain ⟨u, H3, I3, pu, q3⟩ := zz0
  rw [evalPart_none]
  refine wpAny_pure ?_
  have I4 : Inv X pins σ H3 { s3 with heap := s3.heap.push { cls := .type "slice", data := .fields #[vl, vu, .none] } } := I3.kept (t' := s3.toks) fun b ob q => Heap.get?_push_of_some _ q
  obtain ⟨T, id, hT, ht, hg⟩ := hr pins { s3 with heap := s3.heap.push { cls := .type "slice", data := .fields #[vl, vu, .none] } } σ H3 x v vl vu l u s3.heap.objs.size Q I4 r1 (Heap.IsSliceOf.new ..) pl pu q3
  show wpAny (model X.prog X.w) X.A (subscriptTail e (.Slice lo hi none p2) v (.ref s3.heap.objs.size)) (EP X pins σ Q) X.xe { s3 with heap := s3.heap.push { cls := .type "slice", data := .fields #[vl, vu, .none] } }
  exact tail_any (ops := [.ref s3.heap.objs.size, v]) ht hT hg (by with_unfolding_all rfl)
noncomputable def cutV (xs : List V) (lo hi : Option Int) : List V := (xs.drop (HT.sIx xs.length 0 lo)).take (HT.sIx xs.length xs.length hi - HT.sIx xs.length 0 lo)
theorem cutV_length (xs : List V) (lo hi : Option Int) : (cutV xs lo hi).length ≤ xs.length := by
  unfold cutV
  rw [List.length_take, List.length_drop]
  lia
end
end L2
namespace L2
open PySem PySem.Spec PyProof.Rows
noncomputable def ixN (n : Nat) (i : Int) : Option Nat := if 0 ≤ i then (if i < n then some i.toNat else none) else if -(n : Int) ≤ i then some (i + n).toNat else none
noncomputable def atI {α : Type} (xs : List α) (i : Int) : Option α := (ixN xs.length i).bind fun j => xs[j]?
theorem ixN_seq {n : Nat} {i : Int} {j : Nat} (h : ixN n i = some j) : seqIndex? i n = some j ∧ j < n ∧ -(n : Int) ≤ i ∧ i < n := by
  unfold ixN at h
  by_cases h0 : 0 ≤ i
  · rw [if_pos h0] at h
    by_cases h1 : i < n
    · rw [if_pos h1] at h
      have e : i.toNat = j := Option.some.inj h
      exact ⟨by rw [seqIndex_of h0 h1, e], by lia, by lia, h1⟩
    · rw [if_neg h1] at h; cases h
  · rw [if_neg h0] at h
    by_cases h1 : -(n : Int) ≤ i
    · rw [if_pos h1] at h
      have e : (i + n).toNat = j := Option.some.inj h
      exact ⟨by rw [seqIndex_neg (by lia) h1, e], by lia, h1, by lia⟩
    · rw [if_neg h1] at h; cases h
theorem atI_get {α : Type} {xs : List α} {i : Int} {v : α} (h : atI xs i = some v) : ∃ j, seqIndex? i xs.length = some j ∧ xs[j]? = some v ∧ j < xs.length ∧ -(xs.length : Int) ≤ i ∧ i < xs.length := by
  unfold atI at h
  cases e : ixN xs.length i with
  | none => rw [e] at h; cases h
  | some j =>
    rw [e] at h
    obtain ⟨h1, h2, h3, h4⟩ := ixN_seq e
    exact ⟨j, h1, h, h2, h3, h4⟩
theorem atI_nat {α : Type} {xs : List α} {j : Nat} {v : α} (h : xs[j]? = some v) : atI xs (j : Int) = some v := by
  have hj : j < xs.length := (List.getElem?_eq_some_iff.mp h).1
  have e : ixN xs.length (j : Int) = some j := by
    unfold ixN
    rw [if_pos (by lia), if_pos (by lia)]; simp
  unfold atI; rw [e]; exact h
noncomputable def PlainIx (b : Expr) : Prop := ∀ o i, subscripted b false o i = operate [o, i] (getItem o i)
noncomputable def IxR (X : Cx) (r : R2) : Prop :=
  ∀ (value slice : Expr) (pins : List (Addr × Obj)) (s : Shared) (σ : St) (H : Hp) (x y : V) (v u : Value) (Q : VK), Inv X pins σ H s → RelV x v → RelV y u → r x y H Q →
    subscripted slice false v u = operate [v, u] (getItem v u) → wpAny (model X.prog X.w) X.A (subscriptTail value slice v u) (EP X pins σ Q) X.xe s
noncomputable def MtR (X : Cx) (id : String) (r : V → List V → Hp → VK → Prop) : Prop :=
  ∀ (pins : List (Addr × Obj)) (s : Shared) (σ : St) (H : Hp) (x : V) (xs : List V) (v : Value) (us : List Value) (Q : VK), Inv X pins σ H s → RelV x v → Vals xs us → r x xs H Q →
    wpAny (model X.prog X.w) X.A (call (.builtin id) (v :: us)) (EP X pins σ Q) X.xe s
section
variable {X : Cx} {a b : Expr} {ta tb : TE} {pos : Pos}
theorem pe_ix {r : R2} (hr : IxR X r) (ha : PE X a ta) (hb : PE X b tb) (hs : PlainIx b) : PE X (.Subscript a b pos) (tOp r ta tb) := by
  intro pins s σ H Q I h
  exact Subscript_ (binT ha hb I h fun v u s2 x y H2 I2 rx ry q => hr a b pins s2 σ H2 x y v u Q I2 rx ry q (hs _ _))
noncomputable def rIxL (K : PySem.W.Frag) : R2 := fun x y H Q => ∃ p xs i v, x = .ref p ∧ y = .int i ∧ SqL K H p xs ∧ atI xs i = some v ∧ Q v H
noncomputable def rIxT (K : PySem.W.Frag) : R2 := fun x y H Q => ∃ p xs i v, x = .ref p ∧ y = .int i ∧ SqT K H p xs ∧ atI xs i = some v ∧ Q v H
noncomputable def rIxS : R2 := fun x y H Q => ∃ z i c, x = .str z ∧ y = .int i ∧ z.length ≤ sizeLine ∧ atI z.cps.toList i = some c ∧ Q (.str ⟨#[c]⟩) H
theorem ix_list : IxR X (rIxL X.K) := by
  intro value slice pins s σ H x y v u Q I rx ry h hs
  obtain ⟨p, xs, i, z, rfl, rfl, hq, he, q⟩ := h
  cases rx
  obtain ⟨t, rfl⟩ := ry
  obtain ⟨its, r, pl, hz⟩ := I.list hq
  obtain ⟨j, h1, h2, h3, h4, h5⟩ := atI_get he
  obtain ⟨w, ew, rw'⟩ := r.get h2
  have hl := r.length
  have hn := line63
  have fin : EP X pins σ Q w s := ⟨z, H, I, rw', q⟩
  by_cases h0 : 0 ≤ i
  · have hj : i.toNat = j := by
      rw [seqIndex_of h0 h5] at h1
      exact Option.some.inj h1
    exact item_listR pl.isList h0 (by lia) (by rw [hj]; simpa using ew) fin hs
  · have hj : (i + (its.toArray.size : Int)).toNat = j := by
      rw [seqIndex_neg (by lia) h4] at h1
      rw [List.size_toArray, ← hl]
      exact Option.some.inj h1
    exact subscriptTail_builtinR (x := w) pl.isList.typeIs slot_list_getitem.lookup
      (wpAny_getItem_list_neg (Q := fun r s' => r = w ∧ EP X pins σ Q r s') pl.isList (by lia) (by rw [List.size_toArray] <;> lia) (by lia) (by rw [hj]; simpa using ew) ⟨rfl, fin⟩) hs
theorem ix_tup : IxR X (rIxT X.K) := by
  intro value slice pins s σ H x y v u Q I rx ry h hs
  obtain ⟨p, xs, i, z, rfl, rfl, hq, he, q⟩ := h
  cases rx
  obtain ⟨t, rfl⟩ := ry
  obtain ⟨its, r, pl, hz⟩ := I.tuple hq
  obtain ⟨j, h1, h2, h3, h4, h5⟩ := atI_get he
  obtain ⟨w, ew, rw'⟩ := r.get h2
  have hl := r.length
  have hn := line63
  have fin : EP X pins σ Q w s := ⟨z, H, I, rw', q⟩
  exact subscriptTail_builtinR (x := w) pl.typeIs slot_tuple_getitem.lookup
    (getItem_tuple (j := j) (Q := fun r s' => r = w ∧ EP X pins σ Q r s') pl (by lia) (by lia) (by rw [List.size_toArray, ← hl]; exact h1) (by simpa using ew) ⟨rfl, fin⟩) hs
theorem ix_str : IxR X rIxS := by
  intro value slice pins s σ H x y v u Q I rx ry h hs
  obtain ⟨z, i, c, rfl, rfl, hz, he, q⟩ := h
  obtain ⟨t, rfl⟩ := rx
  obtain ⟨t', rfl⟩ := ry
  obtain ⟨j, h1, h2, h3, h4, h5⟩ := atI_get he
  have hl : z.cps.toList.length = z.length := by simp [Str.length]
  rw [hl] at h1 h4 h5
  have hn := line63
  exact tail_any (typeIs_str s z t) slot_str_getitem.lookup (getItem_str (c := c) (by
    have e1 : decide (i < -(2 ^ 63 : Int)) = false := decide_eq_false (by lia)
    have e2 : decide (i ≥ 2 ^ 63) = false := decide_eq_false (by lia)
    rw [e1, e2, Bool.or_false]) (by rw [h1]; simpa using h2) ⟨.str ⟨#[c]⟩, H, I.tok _, ⟨_, rfl⟩, q⟩) hs
theorem mapSeq_set (its : List Value) (n j : Nat) (u : Value) : Obj.mapSeq (·.setIfInBounds j u) { cls := .type "list", data := .seq its.toArray n } = { cls := .type "list", data := .seq (its.set j u).toArray n } := by
  simp [Obj.mapSeq]
theorem Inv.lst {pins : List (Addr × Obj)} {σ : St} {H : Hp} {s : Shared} {p : Addr} {xs : List V} (I : Inv X pins σ H s) (h : H p = some (.lst xs)) :
    ∃ (its : List Value) (n : Nat), Vals xs its ∧ s.heap.get? p = some { cls := .type "list", data := .seq its.toArray n } ∧ xs.length ≤ sizeLine := by
  obtain ⟨z, its, n, r, e⟩ := I.hok p _ h
  exact ⟨its, n, r, e, z⟩
theorem Inv.lstUpd {pins : List (Addr × Obj)} {σ : St} {H : Hp} {s : Shared} {p : Addr} {xs ys : List V} {its its' : List Value} {n n' : Nat} {f : Obj → Obj} (I : Inv X pins σ H s) (h : H p = some (.lst xs))
    (ho : s.heap.get? p = some { cls := .type "list", data := .seq its.toArray n }) (hf : f { cls := .type "list", data := .seq its.toArray n } = { cls := .type "list", data := .seq its'.toArray n' }) (r : Vals ys its') (hz : ys.length ≤ sizeLine) (t : Nat) :
    Inv X pins σ (upd H p (.lst ys)) { s with heap := s.heap.update p f, toks := t } := by
  have e : (s.heap.update p f).get? p = some { cls := .type "list", data := .seq its'.toArray n' } := by
    rw [Heap.get?_update_self f ho (by rw [hf] <;> rfl), hf]
  refine I.write (x := p) (e := p) (by rw [h]; trivial) (.inl rfl) (fun b u hb q => (Heap.get?_update_other _ _ (Ne.symm hb)).trans q) ⟨_, e⟩ ?_
  exact ⟨hz, its', n', r, e⟩
noncomputable def rSetL : V → V → V → Hp → (Hp → Prop) → Prop := fun o i v H Q => ∃ p xs k j, o = .ref p ∧ i = .int k ∧ H p = some (.lst xs) ∧ ixN xs.length k = some j ∧ Q (upd H p (.lst (xs.set j v)))
theorem set_list : PSet X rSetL := by
  intro pins s σ H o i v ov iv u Q I ro ri rv h
  obtain ⟨p, xs, k, j, rfl, rfl, hp, hj, q⟩ := h
  cases ro
  obtain ⟨t, rfl⟩ := ri
  obtain ⟨its, n, r, ho, hz⟩ := I.lst hp
  obtain ⟨h1, h2, h3, h4⟩ := ixN_seq hj
  have hl := r.length
  have hn := line63
  have I' : Inv X pins σ (upd H p (.lst (xs.set j v))) { s with heap := s.heap.update p (Obj.mapSeq (·.setIfInBounds j u)) } :=
    I.lstUpd hp ho (mapSeq_set its n j u) (r.set rv j) (by rw [List.length_set]; exact hz) s.toks
  by_cases h0 : 0 ≤ k
  · have hk : k.toNat = j := by
      rw [seqIndex_of h0 h4] at h1
      exact Option.some.inj h1
    exact PySem.W.ki_setAt ho h0 (by lia) (by rw [List.size_toArray, ← hl]; exact h4) (by rw [hk]; exact ⟨_, I', q⟩)
  · have hk : (k + (its.toArray.size : Int)).toNat = j := by
      rw [seqIndex_neg (by lia) h3] at h1
      rw [List.size_toArray, ← hl]
      exact Option.some.inj h1
    exact PySem.W.ki_setBack ho (by lia) (by rw [List.size_toArray, ← hl]; exact h3) (by lia) (by rw [hk]; exact ⟨_, I', q⟩)
theorem slice_bounds (lo hi : Option Int) (n : Nat) : (sliceBounds lo hi none n).1 = ((HT.sIx n 0 lo : Nat) : Int) ∧ (sliceBounds lo hi none n).2.1 = ((HT.sIx n n hi : Nat) : Int) ∧ (sliceBounds lo hi none n).2.2 = 1 := by
  refine ⟨?_, ?_, rfl⟩
  · cases lo with
    | none => simp [sliceBounds, HT.sIx]
    | some i =>
      simp only [sliceBounds, HT.sIx, Option.getD_none, show (1 : Int) > 0 by decide, if_true]
      by_cases h : i < 0
      · simp only [h, if_true] <;> lia
      · simp only [h, if_false] <;> lia
  · cases hi with
    | none => simp [sliceBounds, HT.sIx]
    | some i =>
      simp only [sliceBounds, HT.sIx, Option.getD_none, show (1 : Int) > 0 by decide, if_true]
      by_cases h : i < 0
      · simp only [h, if_true] <;> lia
      · simp only [h, if_false] <;> lia
theorem slicePick_cut (its : List Value) (lo hi : Option Int) : slicePick its.toArray lo hi none = ((its.drop (HT.sIx its.length 0 lo)).take (HT.sIx its.length its.length hi - HT.sIx its.length 0 lo)).toArray := by
  obtain ⟨h1, h2, h3⟩ := slice_bounds lo hi its.toArray.size
  unfold slicePick
  rw [h1, h2, h3]
  simp only [sliceRange_one, pick_run, List.size_toArray] <;> rfl
noncomputable def rSlL (K : PySem.W.Frag) : V → Option Int → Option Int → Hp → VK → Prop := fun x lo hi H Q => ∃ a xs, x = .ref a ∧ SqL K H a xs ∧ ∀ p, H p = none → Q (.ref p) (upd H p (.lst (cutV xs lo hi)))
theorem sl_list : SlR X (rSlL X.K) := by
  intro pins s σ H x v vl vu lo hi sl Q I rx hs pl pu h
  obtain ⟨a, xs, rfl, hx, q⟩ := h
  cases rx
  obtain ⟨its, r, ht, hz⟩ := I.list hx
  have hlen := r.length
  refine ⟨"list", _, slot_list_getitem.lookup, ht.isList.typeIs, ?_⟩
  refine wpAny_getItem_list_slice ht.isList hs pl pu .none (by simp) ?_ (by rw [List.size_toArray] <;> lia)
  rw [slicePick_cut, ← hlen]
  refine ⟨.ref s.heap.objs.size, _, I.laid (t' := s.toks) (o := .lst (cutV xs lo hi)) (fun b ob q => Heap.get?_push_of_some _ q) (Nat.le_refl _) ?_, rfl, q _ (I.hok.fresh (Nat.le_refl _))⟩
  exact ⟨Nat.le_trans (cutV_length xs lo hi) hz, _, 0, (r.drop (HT.sIx xs.length 0 lo)).take (HT.sIx xs.length xs.length hi - HT.sIx xs.length 0 lo), Heap.get?_push_size _ rfl⟩
noncomputable def flatV : V → Bool
  | .non => true
  | .bl _ => true
  | .int _ => true
  | .str _ => true
  | _ => false
noncomputable def eqV : V → V → Bool
  | .non, .non => true
  | .bl a, .bl b => a == b
  | .bl a, .int b => (if a then 1 else 0) == b
  | .int a, .bl b => a == (if b then 1 else 0)
  | .int a, .int b => a == b
  | .str a, .str b => a == b
  | _, _ => false
theorem eqAt_V {A : Around} {s : Shared} {y x : V} {u v : Value} (ry : RelV y u) (rx : RelV x v) (fy : flatV y = true) (fx : flatV x = true) : SeqAt.EqAt A s u v (eqV y x) := by
  cases y with
  | non =>
    cases ry
    cases x with
    | non => cases rx; exact SeqAt.EqAt.same _
    | bl b => cases rx; exact SeqAt.EqAt.none_bool b
    | int b => obtain ⟨t, rfl⟩ := rx; exact SeqAt.EqAt.none_int b t
    | str b => obtain ⟨t, rfl⟩ := rx; exact SeqAt.EqAt.none_str b t
    | _ => exact absurd (show false = true from fx) Bool.false_ne_true
  | bl a =>
    cases ry
    cases x with
    | non => cases rx; exact SeqAt.EqAt.bool_none a
    | bl b => cases rx; exact SeqAt.EqAt.bool_bool a b
    | int b => obtain ⟨t, rfl⟩ := rx; exact SeqAt.EqAt.bool_int a b t
    | str b => obtain ⟨t, rfl⟩ := rx; exact SeqAt.EqAt.bool_str a b t
    | _ => exact absurd (show false = true from fx) Bool.false_ne_true
  | int a =>
    obtain ⟨t', rfl⟩ := ry
    cases x with
    | non => cases rx; exact SeqAt.EqAt.int_none a t'
    | bl b => cases rx; exact SeqAt.EqAt.int_bool a t' b
    | int b => obtain ⟨t, rfl⟩ := rx; exact SeqAt.EqAt.int_int a t' b t
    | str b => obtain ⟨t, rfl⟩ := rx; exact SeqAt.EqAt.int_str a t' b t
    | _ => exact absurd (show false = true from fx) Bool.false_ne_true
  | str a =>
    obtain ⟨t', rfl⟩ := ry
    cases x with
    | non => cases rx; exact SeqAt.EqAt.str_none a t'
    | bl b => cases rx; exact SeqAt.EqAt.str_bool a t' b
    | int b => obtain ⟨t, rfl⟩ := rx; exact SeqAt.EqAt.str_int a t' b t
    | str b => obtain ⟨t, rfl⟩ := rx; exact SeqAt.EqAt.str_str a t' b t
    | _ => exact absurd (show false = true from fx) Bool.false_ne_true
  | _ => exact absurd (show false = true from fy) Bool.false_ne_true
noncomputable def eqU (x : V) (u : Value) : Bool := match u with
  | .none => eqV .non x
  | .bool b => eqV (.bl b) x
  | .int i _ => eqV (.int i) x
  | .str z _ => eqV (.str z) x
  | _ => false
theorem eqU_of {x y : V} {u : Value} (r : RelV y u) (f : flatV y = true) : eqU x u = eqV y x := by
  cases y with
  | non => cases r; rfl
  | bl b => cases r; rfl
  | int i => obtain ⟨t, rfl⟩ := r; rfl
  | str z => obtain ⟨t, rfl⟩ := r; rfl
  | _ => exact absurd (show false = true from f) Bool.false_ne_true
theorem any_eqU {x : V} : ∀ {xs : List V} {us : List Value}, Vals xs us → xs.all flatV = true → us.any (eqU x) = xs.any fun y => eqV y x
  | _, _, .nil, _ => rfl
  | y :: xs, u :: us, .cons r t, f => by
    rw [List.all_cons, Bool.and_eq_true] at f
    rw [List.any_cons, List.any_cons, eqU_of r f.1, any_eqU t f.2]
theorem mem_eqAt {A : Around} {s : Shared} {x : V} {v : Value} (rx : RelV x v) (fx : flatV x = true) : ∀ {xs : List V} {us : List Value}, Vals xs us → xs.all flatV = true → ∀ u ∈ us, SeqAt.EqAt A s u v (eqU x u)
  | _, _, .nil, _ => fun u hu => by cases hu
  | y :: xs, u :: us, .cons r t, f => fun u' hu => by
    rw [List.all_cons, Bool.and_eq_true] at f
    rcases List.mem_cons.mp hu with rfl | hu
    · rw [eqU_of r f.1]; exact eqAt_V r rx f.1 fx
    · exact mem_eqAt rx fx t f.2 u' hu
noncomputable def inV (x : V) (xs : List V) : Bool := xs.any fun y => eqV y x
noncomputable def rIn (K : PySem.W.Frag) (neg : Bool) : R2 := fun x y H Q => ∃ p xs, y = .ref p ∧ (SqL K H p xs ∨ SqT K H p xs) ∧ flatV x = true ∧ xs.all flatV = true ∧ Q (.bl (if neg then !inV x xs else inV x xs)) H
theorem op_notIn_seq : OpR X (compareOp .NotIn) (rIn X.K true) := by
  intro pins s σ H x y v u Q I rx ry h
  obtain ⟨p, xs, rfl, hq, fx, fs, q⟩ := h
  cases ry
  rcases hq with hq | hq
  · obtain ⟨its, r, pl, hz⟩ := I.list hq
    refine SeqAt.notIn_listAt (eqU x) pl.isList (fun w hw => mem_eqAt rx fx r fs w (by simpa using hw)) ⟨.bl _, H, I, rfl, ?_⟩
    rw [show its.toArray.any (eqU x) = its.any (eqU x) by simp, any_eqU r fs]
    exact q
  · obtain ⟨its, r, pl, hz⟩ := I.tuple hq
    refine SeqAt.notIn_tupleAt (eqU x) pl (fun w hw => mem_eqAt rx fx r fs w (by simpa using hw)) ⟨.bl _, H, I, rfl, ?_⟩
    rw [show its.toArray.any (eqU x) = its.any (eqU x) by simp, any_eqU r fs]
    exact q
theorem call_len_seq : CallR X (.builtin "len") (fun xs H Q => ∃ p ys, xs = [.ref p] ∧ (SqL X.K H p ys ∨ SqT X.K H p ys) ∧ Q (.int ys.length) H) := by
  intro pins s σ H xs us Q I r h
  obtain ⟨p, ys, rfl, hq, q⟩ := h
  obtain ⟨u, rfl, rx⟩ := vals1 r
  cases rx
  have hn := line63
  rcases hq with hq | hq
  · obtain ⟨its, r', pl, hz⟩ := I.list hq
    have hlen := r'.length
    exact Calls.call_len_list pl.isList (by simp only [List.size_toArray] <;> lia) ⟨.int ys.length, H, I.tok _, ⟨s.toks + 1, by rw [List.size_toArray, hlen]⟩, q⟩
  · obtain ⟨its, r', pl, hz⟩ := I.tuple hq
    have hlen := r'.length
    exact len_tuple pl (by simp only [List.size_toArray] <;> lia) ⟨.int ys.length, H, I.tok _, ⟨s.toks + 1, by rw [List.size_toArray, hlen]⟩, q⟩
theorem call_len_str : CallR X (.builtin "len") (fun xs H Q => ∃ z, xs = [.str z] ∧ z.length ≤ sizeLine ∧ Q (.int z.length) H) := by
  intro pins s σ H xs us Q I r h
  obtain ⟨z, rfl, hz, q⟩ := h
  obtain ⟨u, rfl, t, rfl⟩ := vals1 r
  have hn := line63
  exact len_str (by lia) ⟨.int z.length, H, I.tok _, ⟨_, rfl⟩, q⟩
theorem call_list_of : CallR X (.type "list") (fun xs H Q => ∃ p ys, xs = [.ref p] ∧ (SqL X.K H p ys ∨ SqT X.K H p ys) ∧ ∀ l, H l = none → Q (.ref l) (upd H l (.lst ys))) := by
  intro pins s σ H xs us Q I r h
  obtain ⟨p, ys, rfl, hq, q⟩ := h
  obtain ⟨u, rfl, rx⟩ := vals1 r
  cases rx
  have fin : ∀ (its : List Value), Vals ys its → ys.length ≤ sizeLine → ∀ (h' : Heap) (c' : Nat), (∀ b o', s.heap.get? b = some o' → h'.get? b = some o') →
      h'.get? s.heap.objs.size = some { cls := .type "list", dict := none, data := .seq its.toArray c', slots := #[] } → EP X pins σ Q (.ref s.heap.objs.size) { s with heap := h' } := fun its r' hz h' c' kp e =>
    ⟨.ref s.heap.objs.size, _, I.laid (t' := s.toks) kp (Nat.le_refl _) (show ObjOk X.prog X.w _ h' _ (.lst ys) from ⟨hz, its, c', r', e⟩), rfl, q _ (I.hok.fresh (Nat.le_refl _))⟩
  rcases hq with hq | hq
  · obtain ⟨its, r', pl, hz⟩ := I.list hq
    have hlen := r'.length
    obtain ⟨o, ho, hc, n, hd⟩ := pl.isList
    exact call_list_seq p (.inl rfl) ho hc hd (fun h' c' kp e => fin its r' hz h' c' kp e) (by simp only [List.size_toArray] <;> lia)
  · obtain ⟨its, r', pl, hz⟩ := I.tuple hq
    have hlen := r'.length
    obtain ⟨o, ho, hc, n, hd⟩ := pl
    exact call_list_seq p (.inr rfl) ho hc hd (fun h' c' kp e => fin its r' hz h' c' kp e) (by simp only [List.size_toArray] <;> lia)
noncomputable def tyV (K : PySem.W.Frag) (T : String) (x : V) (H : Hp) : Prop := match x with
  | .str _ => T = "str"
  | .int _ => T = "int"
  | .ref p => (T = "list" ∧ ∃ xs, SqL K H p xs) ∨ (T = "tuple" ∧ ∃ o, K.lookup p = some o ∧ o.cls = .type "tuple" ∧ o.dict = none) ∨
      (T = "dict" ∧ ((∃ kvs, H p = some (.dK kvs)) ∨ ∃ kvs, H p = some (.dT kvs))) ∨ (T = "set" ∧ ∃ S n, H p = some (.set S n))
  | _ => False
theorem tyV_is {pins : List (Addr × Obj)} {σ : St} {H : Hp} {s : Shared} {T : String} {x : V} {v : Value} (I : Inv X pins σ H s) (r : RelV x v) (ty : tyV X.K T x H) :
    s.TypeIs v T ∧ ∀ a, v = .ref a → ∃ ob, s.heap.get? a = some ob ∧ ob.dict = none := by
  cases x with
  | str z =>
    obtain ⟨t, rfl⟩ := r
    cases (show T = "str" from ty)
    exact ⟨typeIs_str s z t, fun _ e => nomatch e⟩
  | int i =>
    obtain ⟨t, rfl⟩ := r
    cases (show T = "int" from ty)
    exact ⟨typeIs_int s i t, fun _ e => nomatch e⟩
  | ref p =>
    cases r
    rcases ty with ⟨rfl, xs, hq⟩ | ⟨rfl, o, hk, hc, hd⟩ | ⟨rfl, hk⟩ | ⟨rfl, S, n, hk⟩
    · obtain ⟨its, _, pl, _⟩ := I.list hq
      refine ⟨pl.isList.typeIs, fun a e => ?_⟩
      cases e
      obtain ⟨o, n, e, c, hd, _⟩ := pl
      exact ⟨o, e, hd⟩
    · refine ⟨⟨o, I.kIn p o hk, hc⟩, fun a e => ?_⟩
      cases e
      exact ⟨o, I.kIn _ o hk, hd⟩
    · have z : ∃ o, s.heap.get? p = some o ∧ o.ExactDict := by
        rcases hk with ⟨kvs, hk⟩ | ⟨kvs, hk⟩
        · obtain ⟨_, _, _, _, o, _, _, e, ex, _⟩ := I.hok p _ hk
          exact ⟨o, e, ex⟩
        · obtain ⟨_, _, _, _, o, _, _, e, ex, _⟩ := I.hok p _ hk
          exact ⟨o, e, ex⟩
      obtain ⟨o, e, ex⟩ := z
      refine ⟨⟨o, e, ex.1⟩, fun a e2 => ?_⟩
      cases e2
      exact ⟨o, e, ex.2.1⟩
    · obtain ⟨o, _, _, _, e, ex, _⟩ := I.hok p _ hk
      refine ⟨⟨o, e, ex.1⟩, fun a e2 => ?_⟩
      cases e2
      exact ⟨o, e, ex.2.1⟩
  | _ => exact False.elim ty
noncomputable def tBM (K : PySem.W.Frag) (T : String) (r : V → List V → Hp → VK → Prop) (to : TE) (t : TA) : TE := fun σ H Q => to σ H fun x H1 => tyV K T x H1 ∧ t σ H1 fun xs H2 => r x xs H2 Q
variable {o e : Expr} {es : List Expr} {to : TE} {t : TA} {name : Str} {apos cpos : Pos} {T id : String} {r : V → List V → Hp → VK → Prop}
theorem pe_bm (pa : PlainAttrs T) (slot : Slot T name id) (hty : typeOf (.builtin id) = pure (.type "method_descriptor")) (hm : MtR X id r) (ho : PE X o to) (ha : PA X (e :: es) t)
    (hbase : attributeBase o name X.env (eval o X.env) = eval o X.env := by rfl)
    (hfew : ((backTo cpos (starEach (e :: es) X.env)).all (fun x => !x.1) && (backToKw cpos (keywordEach [] X.env)).all (fun x => x.1.isSome)
      && decide ((e :: es).length + ([] : List Keyword).length + (if ([] : List Keyword).isEmpty then 0 else 1) < 30)) = true := by rfl)
    (hline : (apos.endLine == cpos.line) = true := by rfl) (hs : starEach (e :: es) X.env = (false, eval e X.env) :: starEach es X.env := by rfl) (hplain : (backTo cpos (starEach es X.env)).any (·.1) = false := by rfl) :
    PE X (.Call (.Attribute o name apos) (e :: es) [] cpos) (tBM X.K T r to t) := by
  intro pins s σ H Q I h
  refine wpAny_Call_method_late hbase hfew hline rfl (thn (ho pins s σ H _ I h) fun v s1 zz0 => ?_)
  obtain ⟨x, H1, I1, r1, ty, q1⟩ := zz0
  obtain ⟨h1, h2⟩ := tyV_is I1 r1 ty
  refine ⟨T, id, pa, slot, hty, h1, h2, ?_⟩
  have hA := ha cpos pins s1 σ H1 _ I1 q1
  rw [hs] at hA ⊢
  refine Calls.callWith_builtin (by show (false || (backTo cpos (starEach es X.env)).any (·.1)) = false; rw [hplain] <;> rfl) (Calls.evalArgs_plain ?_)
  exact thn hA fun us s2 ⟨vs, H2, I2, r2, q2⟩ => hm pins s2 σ H2 x vs v us Q I2 r1 r2 q2
end
end L2
namespace L2
open PySem PySem.Spec PyProof.Rows
noncomputable def MtM (X : Cx) (id : String) (r : V → List V → Hp → VK → Prop) : Prop :=
  ∀ (pins : List (Addr × Obj)) (s : Shared) (σ : St) (H : Hp) (x : V) (xs : List V) (v : Value) (us : List Value) (Q : VK), Inv X pins σ H s → RelV x v → Vals xs us → r x xs H Q →
    wpAny (model X.prog X.w) X.A (call (.builtin id) (v :: us)) (EP X pins σ Q) X.xe s
theorem Vals.one : ∀ {x : V} {us : List Value}, Vals [x] us → ∃ u, us = [u] ∧ RelV x u
  | _, _, .cons r .nil => ⟨_, rfl, r⟩
theorem Vals.rep {xs : List V} {us : List Value} (h : Vals xs us) : ∀ k : Nat, Vals (List.replicate k xs).flatten (List.replicate k us).flatten
  | 0 => .nil
  | k + 1 => by
    rw [List.replicate_succ, List.replicate_succ, List.flatten_cons, List.flatten_cons]
    exact Vals.append h (Vals.rep h k)
theorem foldl_rep (its : List Value) : ∀ (k : Nat) (acc : List Value),
    List.foldl (fun x1 x2 => x1 ++ x2) acc.toArray (List.replicate k its.toArray) = (acc ++ (List.replicate k its).flatten).toArray
  | 0, acc => by simp
  | k + 1, acc => by
    have e : acc.toArray ++ its.toArray = (acc ++ its).toArray := by simp
    have e2 : (acc ++ its) ++ (List.replicate k its).flatten = acc ++ (List.replicate (k + 1) its).flatten := by
      rw [List.replicate_succ, List.flatten_cons, List.append_assoc]
    rw [← e2, ← foldl_rep its k (acc ++ its), ← e, List.replicate_succ, List.foldl_cons]
section
variable {X : Cx} {pins : List (Addr × Obj)} {σ : St} {H : Hp} {s : Shared} {l b : Addr} {xs ys zs : List V}
theorem Inv.lset {its its' : List Value} {n : Nat} {f : Array Value → Array Value} {t' : Nat} (I : Inv X pins σ H s) (hH : H l = some (.lst xs))
    (e : s.heap.get? l = some { cls := .type "list", data := .seq its.toArray n }) (hf : f its.toArray = its'.toArray) (hv : Vals ys its') (hz : ys.length ≤ sizeLine) :
    Inv X pins σ (upd H l (.lst ys)) { s with heap := s.heap.update l (Obj.mapSeq f), toks := t' } := by
  have q := PySem.IsL.update e f
  rw [hf] at q
  refine I.write (x := l) (e := l) (by rw [hH]; exact trivial) (.inl rfl) (fun b' u hb hu => (Heap.get?_update_other s.heap (Obj.mapSeq f) (Ne.symm hb)).trans hu) ⟨_, q⟩ ?_
  exact ⟨hz, its', _, hv, q⟩
theorem Inv.lnew {its : List Value} {t' : Nat} (I : Inv X pins σ H s) (hv : Vals ys its) (hz : ys.length ≤ sizeLine) :
    Inv X pins σ (upd H s.heap.objs.size (.lst ys)) { s with heap := s.heap.push { cls := .type "list", data := .seq its.toArray }, toks := t' } :=
  I.laid (fun _ _ q => Heap.get?_push_of_some _ q) (Nat.le_refl _) ⟨hz, its, 0, hv, Heap.get?_push_size _ rfl⟩
theorem Inv.fresh (I : Inv X pins σ H s) : H s.heap.objs.size = none := I.hok.fresh (Nat.le_refl _)
theorem Inv.lstM (I : Inv X pins σ H s) (hH : H l = some (.lst xs)) : xs.length ≤ sizeLine ∧ ∃ (its : List Value) (n : Nat), Vals xs its ∧ xs.length = its.length ∧ s.heap.get? l = some { cls := .type "list", data := .seq its.toArray n } := by
  obtain ⟨z, its, n, r, e⟩ := I.hok l _ hH
  exact ⟨z, its, n, r, r.length, e⟩
theorem notLongL {n : Nat} (h : n ≤ sizeLine) : Builtin.List.listTooLong n = false := by
  unfold Builtin.List.listTooLong
  exact decide_eq_false (by lia)
end
section
variable {X : Cx}
noncomputable def rAppend : V → List V → Hp → VK → Prop := fun x vs H Q => ∃ l xs y, x = .ref l ∧ vs = [y] ∧ H l = some (.lst xs) ∧ xs.length < sizeLine ∧ Q .non (upd H l (.lst (xs ++ [y])))
theorem mt_append : MtM X "list.append" rAppend := by
  intro pins s σ H x vs v us Q I rx rv h
  obtain ⟨l, xs, y, rfl, rfl, hH, hz, q⟩ := h
  cases rx
  obtain ⟨u, rfl, ru⟩ := rv.one
  obtain ⟨z, its, n, r, hl, e⟩ := I.lstM hH
  refine call_meets F.slot_list_append ⟨_, e, rfl⟩ F.entry_list_append (F.args_list_append_2 _ _) (PySem.list_append l its.toArray n u (by rw [List.size_toArray]; lia)) ⟨e, ?_⟩
  refine ⟨.non, _, I.lset (its' := its ++ [u]) hH e (by simp) (r.append (.cons ru .nil)) ?_, rfl, q⟩
  rw [List.length_append, List.length_singleton]
  lia
noncomputable def rCat : R2 := fun x y H Q => ∃ l b xs zs, x = .ref l ∧ y = .ref b ∧ H l = some (.lst xs) ∧ H b = some (.lst zs) ∧ xs.length + zs.length ≤ sizeLine ∧ ∀ p, H p = none → Q (.ref p) (upd H p (.lst (xs ++ zs)))
theorem op_cat : OpR X (binaryOp .Add) rCat := by
  intro pins s σ H x y v u Q I rx ry h
  obtain ⟨l, b, xs, zs, rfl, rfl, hH, hB, hz, q⟩ := h
  cases rx
  cases ry
  obtain ⟨z, its, n, r, hl, e⟩ := I.lstM hH
  obtain ⟨z2, its2, n2, r2, hl2, e2⟩ := I.lstM hB
  refine PySem.P.add_list e e2 ?_ (by rw [List.size_toArray, List.size_toArray]; lia)
  have ea : its.toArray ++ its2.toArray = (its ++ its2).toArray := by simp
  rw [ea]
  exact ⟨.ref _, _, I.lnew (t' := s.toks) (r.append r2) (by rw [List.length_append]; lia), rfl, q _ I.fresh⟩
noncomputable def rRep : R2 := fun x y H Q => ∃ l k xs, x = .ref l ∧ y = .int k ∧ H l = some (.lst xs) ∧ -(2 ^ 63) ≤ k ∧ k < 2 ^ 63 ∧ xs.length * k.toNat ≤ sizeLine ∧
  ∀ p, H p = none → Q (.ref p) (upd H p (.lst (List.replicate k.toNat xs).flatten))
theorem len_rep {α : Type} (xs : List α) (k : Nat) : (List.replicate k xs).flatten.length = k * xs.length := by
  induction k with
  | zero => simp
  | succ k ih => rw [List.replicate_succ, List.flatten_cons, List.length_append, ih, Nat.succ_mul, Nat.add_comm]
theorem op_rep : OpR X (binaryOp .Mult) rRep := by
  intro pins s σ H x y v u Q I rx ry h
  obtain ⟨l, k, xs, rfl, rfl, hH, h1, h2, hz, q⟩ := h
  cases rx
  obtain ⟨t, rfl⟩ := ry
  obtain ⟨z, its, n, r, hl, e⟩ := I.lstM hH
  have hlen : its.toArray.size * k.toNat ≤ sizeLine := by rw [List.size_toArray, ← hl]; exact hz
  have hcap : ¬ its.toArray.size * k.toNat > (2 ^ 63 - 1) / 8 := by
    have : (sizeLine : Nat) ≤ (2 ^ 63 - 1) / 8 := by decide
    lia
  have hfit : ¬ (!Builtin.List.listFitsIndex k) = true := by
    rw [fitsIndex_both h1 h2]
    exact Bool.false_ne_true
  have hlong : ¬ Builtin.List.listTooLong (its.toArray.size * k.toNat) = true := by
    rw [notLongL hlen]
    exact Bool.false_ne_true
  have hnew : List.foldl (fun x1 x2 => x1 ++ x2) #[] (List.replicate (if its.toArray.isEmpty = true then 0 else k.toNat) its.toArray) = (List.replicate k.toNat its).flatten.toArray := by
    have f0 : ∀ m : Nat, List.foldl (fun x1 x2 => x1 ++ x2) #[] (List.replicate m its.toArray) = (List.replicate m its).flatten.toArray := fun m => by
      have := foldl_rep its m []
      rw [List.nil_append] at this
      exact this
    rw [f0]
    cases its with
    | nil => simp
    | cons a r' => rw [if_neg (by simp)]
  refine wpAny_binaryOp_repeat_ref (T := "list") (U := "int") (by decide) ⟨_, e, rfl⟩ (fun s' => typeIs_int s' k t) noFill_list_mul F.fills_int_mul F.slot_int_rmul repeat_list F.slot_int_index.lookup
    (call_meets F.slot_int_rmul (typeIs_int s k t) F.entry_int_rmul (F.args_int_rmul_2 _ _) (int___rmul___int_list k t l its.toArray n)
      ⟨e, rfl, ⟨_, e, rfl⟩, call_meets F.slot_list_mul ⟨_, e, rfl⟩ F.entry_list_mul (F.args_list_mul_2 _ _) (AutoListH.list___mul___list_int_3 l its.toArray n k t hfit hcap hlong) ⟨e, ?_⟩⟩)
  rw [hnew]
  exact ⟨.ref _, _, I.lnew (t' := s.toks) (r.rep k.toNat) (by rw [len_rep, Nat.mul_comm]; exact hz), rfl, q _ I.fresh⟩
end
section
variable {prog : Program} {w : World} {A : Around} {E : Value → Shared → Prop} {s : Shared}
set_option maxRecDepth 100000 in
end
section
variable {X : Cx}
end
end L2
namespace Att
open PySem PySem.W PySem.Calls PyProof.Rows
theorem ints_of_wellAll {P : Params} {h : Heap} : ∀ (ns : List Int) (vs : List Value), WellAll P h vs (ns.map WData.int) → IntsAre vs ns := by
  intro ns
  induction ns with
  | nil =>
    intro vs w
    rw [List.map_nil] at w
    cases w
    exact .nil
  | cons n ns ih =>
    intro vs w
    rw [List.map_cons] at w
    cases w with
    | cons a b =>
      cases a
      exact .cons _ _ (ih _ b)
theorem script_of {l : OpenLaw} {n : Nat} (hn : l.most = some n) {P : Params} {h : Heap} {args : List WData} {vals : List Value}
    (hpre : l.row.toRowW.claim.pre args = true) (hwl : WellAll P h vals args) :
    ∃ a vs ns, vals = [Value.ref a] ∧ args = [WData.list (ns.map WData.int)] ∧ h.get? a = some { cls := .type "list", data := .seq vs.toArray } ∧ IntsAre vs ns ∧ ns.length ≤ n := by
  have hsh : WShape.hasAll [] args [.list .int] = true := (pre_splitW hpre).1
  have hc : l.pre.holds [] { args := args } = true := (pre_splitW hpre).2
  obtain ⟨d, r, rfl, h1, h2⟩ := hasAllW_cons hsh
  obtain rfl := hasAllW_nil h2
  obtain ⟨xs, rfl, h3⟩ := hasW_list h1
  obtain ⟨ns, rfl⟩ := items_int h3
  have hlen : ns.length ≤ n := by
    unfold OpenLaw.pre at hc
    have h4 : (WTm.not (.lt (.lit (.int (n : Int))) (.len (.arg 0)))).holds [] { args := [.list (ns.map .int)] } = true := by
      have h4 := (holds_andW hc).1
      rw [hn] at h4
      exact h4
    have h5 := condW_of h4 (w_not (w_lt w_lit (w_len_list (w_arg rfl))))
    rw [List.length_map] at h5
    refine Nat.le_of_not_lt fun q => ?_
    have q' : (n : Int) < ((ns.length : Nat) : Int) := by lia
    first
      | (rw [decide_eq_true q'] at h5; exact absurd h5 (by decide))
      | (simp at h5; lia)
  cases hwl with
  | cons w1 w2 =>
    cases w2
    cases w1 with
    | list ho hall => exact ⟨_, _, ns, rfl, rfl, ho, ints_of_wellAll ns _ hall, hlen⟩
theorem post_true (l : OpenLaw) (args : List WData) : l.row.toRowW.claim.post args (.bool true) args = true :=
  postW_of (r := l.row.toRowW) (X := (true == true))
    (show WShape.has [] (.bool true) .bool = true by first | rfl | decide | simp [WShape.has, WShape.arms, WShape.armsAll])
    (show (WTm.eq .res (.lit (.bool true))).value [] { args := args, res := some (.bool true), after := args } = some (.bool (true == true)) from w_eq_bool (w_res rfl) w_lit) rfl
theorem attach_call {l : OpenLaw} {n : Nat} {q : Program} {loose : List Str} {XP : (Str → Option Value) → Heap → Prop} {YP : World → Heap → Prop} {d : DefRec}
    (hn : l.most = some n) (hdf : d.params.defaults = [])
    (call : ∀ (w : World) (s₀ s₁ : Shared) (mg mb : Str → Option Value) (fa : Addr) (o : Obj) (pm cd doc : Value) (a : Addr) (vs : List Value) (ns : List Int),
      Ground q loose [] XP w s₀ mg mb s₁.heap → YP w s₁.heap →
      s₁.heap.get? fa = some o → o.data = .func (docDef d.name d.params d.body d.scope pm cd doc) → s₁.heap.CodeRec cd d.name → mg d.name = some (.ref fa) →
      s₁.heap.get? a = some { cls := .type "list", data := .seq vs.toArray } → IntsAre vs ns → ns.length ≤ n → s₁.gens = #[] →
      codeAny (model l.prog w) callerA (.call (.ref fa) ⟨[.ref a], []⟩) (fun r s' => r = .ok (.ret (.bool true)) ∧ OldK s₁.heap s'.heap ∧ s'.os = s₁.os ∧ AllBare s'.gens) s₁) :
    WalkO q loose XP YP l.row.toRowW d [] (fun f vs => PySem.call f vs) := by
  intro w s₀ s₁ mg mb G Y fa o pm cd doc dV kV ho hd hcd hD hmg hg args vals as hpre hlay hrd hwl hlo
  obtain rfl : dV = .none := Dflts.none hD hdf
  obtain rfl : kV = .none := Dflts.noKw hD
  obtain ⟨a, vs, ns, rfl, rfl, hobj, hints, hlen⟩ := script_of hn hpre hwl
  refine enter_call (codeAny_mono (call w s₀ s₁ mg mb fa o pm cd doc a vs ns G Y ho (fd_plain hd) hcd hmg hobj hints hlen hg) fun r s' hq => ?_)
  obtain ⟨rfl, h2, h3, h4⟩ := hq
  exact ⟨.inl ⟨.bool true, .bool true, [], rfl, fun _ => rfl, .bool true, post_true l _, fun _ => ⟨List.Pairwise.nil, fun _ hm => (nomatch hm)⟩⟩, h2, h3, h4⟩
section
variable {prog : Program} {w : World} {A : Around} {E : Value → Shared → Prop} {s : Shared} {K : Frag}
end
end Att
namespace L2
open PySem PySem.Spec PyProof.Rows
theorem vals_ints : ∀ {vs : List Value} {ns : List Int}, IntsAre vs ns → Vals (ns.map V.int) vs
  | _, _, .nil => .nil
  | _, _, .cons n t h => .cons ⟨t, rfl⟩ (vals_ints h)
noncomputable def Only (H : Hp) : Prop := ∀ b, H b = none ∨ ∃ o xs, H b = some (.frz o (.lst xs))
theorem law_call {P : Program} {w : World} {K : PySem.W.Frag} {mg mb : Str → Option Value} {CX : CXT} {k : Nat} {fa a : Addr} {fd : FuncData} {x : Str} {sp : Sp} {s₁ : Shared} {vs : List Value} {ns : List Int}
    (KX : K.In s₁.heap) (hns : s₁.heap.Ns mainGlobals mg) (hb : s₁.heap.Ns builtinsNs mb) (hbb : ∀ x : Str, x ≠ "__name__" → mb x = bootBuiltins x) (hlim : s₁.heap.NoLimit) (hg : s₁.gens = #[])
    (ha : s₁.heap.get? a = some { cls := .type "list", data := .seq vs.toArray }) (hi : IntsAre vs ns) (hl : ns.length ≤ sizeLine) (hr : Room k callerA)
    (F : ∀ base : Heap, K.In base → base.Ns mainGlobals mg → FnOk P w K mg base CX k fa fd [x] sp) (hbind : ∀ (s : Shared) (u : Value), BindsTo s fd ⟨[u], []⟩ [(x, u)])
    (hsp : ∀ H : Hp, Only H → SqL K H a (ns.map V.int) → sp [.ref a] H (fun v _ => v = .bl true) fun _ _ _ => False)
    (hCX : ∀ H e s', CX [] H s₁ (fun _ _ _ => False) e s' → False) :
    codeAny (model P w) callerA (.call (.ref fa) ⟨[.ref a], []⟩) (fun r s' => r = .ok (.ret (.bool true)) ∧ OldK s₁.heap s'.heap ∧ s'.os = s₁.os ∧ AllBare s'.gens) s₁ := by
  have rv := vals_ints hi
  have lenV := hi.length
  have core : ∀ H : Hp, Only H → SqL K H a (ns.map V.int) → HOk P w H s₁.heap → (∀ b, H b ≠ none → b = a) → (H a ≠ none → K.lookup a = none) →
      codeAny (model P w) callerA (.call (.ref fa) ⟨[.ref a], []⟩) (fun r s' => r = .ok (.ret (.bool true)) ∧ OldK s₁.heap s'.heap ∧ s'.os = s₁.os ∧ AllBare s'.gens) s₁ := by
    intro H hO hS hok hA hK
    have base_of : ∀ {b : Addr} {o : Obj}, s₁.heap.get? b = some o → H b = none → (hidT s₁.heap H).get? b = some o := fun e n => hidT_get e n
    have noA : ∀ {b : Addr} {o : Obj} {es : Array DictEntry} {ep : Nat}, s₁.heap.get? b = some o → o.data = .dict es ep → H b = none := fun {b o es ep} e d => by
      cases q : H b with
      | none => rfl
      | some u =>
        have e' : b = a := hA b (by rw [q]; simp)
        subst e'
        rw [ha] at e; cases e
        have d' : Data.seq vs.toArray _ = Data.dict es ep := d
        cases d'
    have nsK : ∀ {b : Addr} {m : Str → Option Value}, s₁.heap.Ns b m → (hidT s₁.heap H).Ns b m := fun {b m} ⟨o, es, ep, e, d, r⟩ => ⟨o, es, ep, base_of e (noA e d), d, r⟩
    have hKb : K.In (hidT s₁.heap H) := fun b o e => base_of (KX b o e) (by
      cases q : H b with
      | none => rfl
      | some u =>
        have e' : b = a := hA b (by rw [q]; simp)
        subst e'
        rw [hK (by rw [q]; simp)] at e; cases e)
    have hM : Mod K mg (hidT s₁.heap H) := ⟨hKb, nsK hns, ⟨mb, nsK hb, hbb⟩, let ⟨mc, h1, h2⟩ := hlim; ⟨mc, nsK h1, h2⟩⟩
    have e0 : Env0 P w K mg (hidT s₁.heap H) callerA [] s₁ H := ⟨rfl, hM, fun b o e => of_hidT e, Nat.le_of_eq (hidT_size _ _), trivial, fun b hb => absurd (show b ∈ ([] : List Addr) from hb) (by simp), hok, .of_eq hg⟩
    refine codeAny_mono ((F _ hKb (nsK hns)).run callerA [] s₁ H ⟨[.ref a], []⟩ [.ref a] [.ref a] _ _ hr e0 (hbind s₁ (.ref a)) (.cons rfl .nil) (hsp H hO hS)) fun r s' h => ?_
    cases r with
    | error e => exact (hCX H e s' h).elim
    | ok fl =>
      cases fl with
      | next => exact False.elim h
      | brk => exact False.elim h
      | cont => exact False.elim h
      | ret u =>
        obtain ⟨v, H', os, bare, un, hok', r', q⟩ := h
        have q' : v = .bl true := q
        subst q'
        obtain rfl : u = Value.bool true := r'
        refine ⟨rfl, OldK.of_keep fun b o e => ?_, os, bare⟩
        cases q : H b with
        | none => exact un.keep b o e q (by intro z; exact absurd (show b ∈ ([] : List Addr) from z) (by simp)) (by simp)
        | some u =>
          rcases hO b with z | ⟨ob, xs, z⟩
          · rw [q] at z; cases z
          · have z2 := un.frzs b ob _ z
            obtain ⟨e1, _⟩ := hok b _ z
            obtain ⟨e2, _⟩ := hok' b _ z2
            rw [e] at e1; cases e1
            exact e2
  cases hk : K.lookup a with
  | some o =>
    have e := KX a o hk
    rw [ha] at e
    cases e
    refine core (fun _ => none) (fun _ => .inl rfl) (.inr ⟨_, vs.toArray, _, hk, rfl, rfl, rfl, by rw [List.size_toArray, lenV]; exact hl, by simpa using rv⟩) (fun b u z => by have z' : (none : Option HO) = some u := z; cases z') (fun b z => absurd rfl z) fun z => absurd rfl z
  | none =>
    refine core (fun b => if b = a then some (.frz { cls := .type "list", data := .seq vs.toArray } (.lst (ns.map V.int))) else none) (fun b => ?_) (.inl (.inr ⟨{ cls := .type "list", data := .seq vs.toArray }, if_pos rfl⟩)) (fun b u z => ?_) (fun b z => ?_) fun _ => hk
    · by_cases hb : b = a
      · exact .inr ⟨_, _, if_pos hb⟩
      · exact .inl (if_neg hb)
    · by_cases hb : b = a
      · have z' := (if_pos hb).symm.trans z
        cases z'
        subst hb
        exact ⟨ha, by rw [List.length_map]; exact hl, vs, _, rv, ha⟩
      · have z' := (if_neg hb).symm.trans z
        cases z'
    · by_cases hb : b = a
      · exact hb
      · exact absurd (if_neg hb) z
end L2
namespace L2
open PySem PySem.Spec PyProof.Rows
theorem walk_of {l : PySem.W.OpenLaw} {n k : Nat} {q : Program} {loose : List Str} {XP : (Str → Option Value) → Heap → Prop} {YP : World → Heap → Prop} {d : DefRec} {K : Params → PySem.W.Frag} {CX : World → CXT} {sp : World → Sp} {x : Str}
    (hn : l.most = some n) (hn2 : n ≤ sizeLine) (hdf : d.params.defaults = []) (hr : Room k callerA)
    (hY : ∀ (w : World) (h : Heap), YP w h → (K w.params).In h)
    (F : ∀ (w : World) (mg : Str → Option Value) (fa : Addr) (h : Heap), (K w.params).In h → h.Ns mainGlobals mg → mg d.name = some (.ref fa) →
      ∃ fd : FuncData, (∀ (s : Shared) (u : Value), BindsTo s fd ⟨[u], []⟩ [(x, u)]) ∧
        ∀ base : Heap, (K w.params).In base → base.Ns mainGlobals mg → FnOk l.prog w (K w.params) mg base (CX w) k fa fd [x] (sp w))
    (hsp : ∀ (w : World) (H : Hp) (a : Addr) (ns : List Int), ns.length ≤ n → Only H → SqL (K w.params) H a (ns.map V.int) → sp w [.ref a] H (fun v _ => v = .bl true) fun _ _ _ => False)
    (hCX : ∀ (w : World) (H : Hp) (s : Shared) (e : Value) (s' : Shared), CX w [] H s (fun _ _ _ => False) e s' → False) :
    PySem.W.WalkO q loose XP YP l.row.toRowW d [] (fun f vs => PySem.call f vs) := by
  refine Att.attach_call hn hdf fun w s₀ s₁ mg mb fa o pm cd doc a vs ns G Y ho hd hcd hmg hobj hints hlen hg => ?_
  have KX := hY w _ Y
  obtain ⟨fd, hb, hF⟩ := F w mg fa _ KX G.T.g hmg
  exact law_call KX G.T.g G.T.b G.T.builtins G.T.nolimit hg hobj hints (Nat.le_trans hlen hn2) hr hF hb (fun H hO hS => hsp w H a ns hlen hO hS) fun H e s' => hCX w H s₁ e s'
end L2
namespace L2
open PySem PySem.Spec PyProof.Rows
noncomputable def inClass (s : Stmt) (j : Nat) : Stmt := match s with
  | .ClassDef _ _ _ body _ _ _ _ _ _ _ => body.getD j (.Pass ⟨0, 0, 0, 0⟩)
  | _ => .Pass ⟨0, 0, 0, 0⟩
noncomputable def defArgs (s : Stmt) : Arguments := match s with
  | .FunctionDef _ a _ _ _ _ _ _ _ _ => a
  | _ => { posonlyargs := [], args := [], vararg := none, kwonlyargs := [], kw_defaults := [], kwarg := none, defaults := [] }
noncomputable def defBody (s : Stmt) : List Stmt := match s with
  | .FunctionDef _ _ b _ _ _ _ _ _ _ => b
  | _ => []
noncomputable def defScope (s : Stmt) : Scope := match s with
  | .FunctionDef _ _ _ _ _ _ sc _ _ _ => sc
  | _ => { kind := .function, names := [], isGenerator := false, isCoroutine := false }
noncomputable abbrev CX0 : CXT := fun _ _ _ _ _ _ => False
noncomputable abbrev E0 : XK := fun _ _ _ => False
theorem pass0 {X : Cx} : Passes CX0 X E0 := fun _ _ _ _ _ _ _ h => h.elim
structure Fun (K : PySem.W.Frag) (x qual : Str) (st : Stmt) (f : Addr) (fd : FuncData) : Prop where
  ex : ∃ (oc : Value) (od : Option Addr) (kV doc pm : Value) (an : Option Addr) (cdv ct : Value) (osl : Array (Option Value)),
    fd = PySem.W.fnOf x qual (defArgs st) (defBody st) (defScope st) .none kV doc pm an cdv ct ∧ K.lookup f = some ⟨oc, od, .func fd, osl⟩ ∧ PySem.W.codeIn K cdv qual = true
  kp : PySem.W.keepIn K (.ref f) = true
section
variable {P : Program} {w : World} {K : PySem.W.Frag} {mg : Str → Option Value} {base : Heap}
theorem Fun.ok {x qual : Str} {st : Stmt} {f : Addr} {fd : FuncData} {N ps : List Str} {k : Nat} {sp : Sp} (F : Fun K x qual st f fd) (S : FnScope N ps (defScope st)) (len : ∀ vs H Q E, sp vs H Q E → vs.length = ps.length)
    (hbody : ∀ (cdv : Value) (A : Around) (outer : List Env) (s : Shared) (H : Hp) (vs : List V) (Q : VK) (E : XK), Room k (A.deeper (envOfC qual (defScope st) s.heap.objs.size f cdv)) → sp vs H Q E →
      ∃ t, PSs (cxOf CX0 P w K mg base N qual (defScope st) f cdv A outer s H E).nox (defBody st) t ∧ t { nx := fun _ H' => Q .non H', rt := Q } (start N vs) H) : FnOk P w K mg base CX0 (k + 1) f fd ps sp := by
  obtain ⟨oc, od, kV, doc, pm, an, cdv, ct, osl, rfl, lk, hcd⟩ := F.ex
  refine fn_of lk hcd S len fun A outer s H vs Q E hr hsp => ?_
  obtain ⟨t, h, q⟩ := hbody cdv A outer s H vs Q E hr hsp
  exact ⟨t, h.nox, q⟩
theorem Fun.binds {x qual : Str} {st : Stmt} {f : Addr} {fd : FuncData} {ps : List Str} (F : Fun K x qual st f fd)
    (h : ∀ (kV doc pm : Value) (an : Option Addr) (cdv ct : Value) (us : List Value), us.length = ps.length → bindArgs (PySem.W.fnOf x qual (defArgs st) (defBody st) (defScope st) .none kV doc pm an cdv ct) ⟨us, []⟩ = pure (ps.zip us)) : Binds K fd ps [] := by
  obtain ⟨oc, od, kV, doc, pm, an, cdv, ct, osl, rfl, lk, hcd⟩ := F.ex
  exact .all (h kV doc pm an cdv ct)
theorem fun_mk {x qual : Str} {st : Stmt} {f : Addr} {oc : Value} {od an : Option Addr} {osl : Array (Option Value)} {kV doc pm cdv ct : Value} (l : K.lookup f = some ⟨oc, od, .func (PySem.W.fnOf x qual (defArgs st) (defBody st) (defScope st) .none kV doc pm an cdv ct), osl⟩)
    (c : PySem.W.codeIn K cdv qual = true) (k : PySem.W.keepIn K (.ref f) = true) : Fun K x qual st f (PySem.W.fnOf x qual (defArgs st) (defBody st) (defScope st) .none kV doc pm an cdv ct) := ⟨⟨oc, od, kV, doc, pm, an, cdv, ct, osl, rfl, l, c⟩, k⟩
end
theorem hu_of {A : Around} {k : Nat} (hr : Room k A) : A.units + 1 < cLine := Nat.lt_of_le_of_lt (Nat.add_le_add_left (by decide : 1 ≤ 64) _) hr.units
section
variable {X : Cx}
theorem pv (i : Nat) {x : Str} {pos : Pos} (hN : X.N[i]? = some x := by rfl) (hv : Vis X.env.scope x := by first | exact Or.inl rfl | exact Or.inr (Or.inl rfl) | exact Or.inr (Or.inr rfl)) (hd : (x == ("__debug__" : Str)) = false := by decide)
    (hcd : (x == ("__classdict__" : Str)) = false := by decide) : PE X (.Name x pos) (tVar i) := pe_var hN hv hd hcd
end
theorem iteF {A B : Prop} (h : B) : if false = true then A else B := by
  rw [if_neg Bool.false_ne_true]
  exact h
theorem iteT {A B : Prop} (h : A) : if true = true then A else B := by
  rw [if_pos rfl]
  exact h
theorem ite2 {c A B : Prop} [Decidable c] (h1 : c → A) (h2 : ¬ c → B) : if c then A else B := by
  by_cases h : c
  · rw [if_pos h]
    exact h1 h
  · rw [if_neg h]
    exact h2 h
theorem iteNS {c A B : Prop} [Decidable c] (hc : c) (h : B) : if (!decide c) = true then A else B := by
  rw [decide_eq_true hc]
  exact iteF h
noncomputable def Same (H H' : Hp) : Prop := ∀ b o, H b = some o → H' b = some o
theorem Same.refl (H : Hp) : Same H H := fun _ _ h => h
theorem Same.trans {H H1 H2 : Hp} (a : Same H H1) (b : Same H1 H2) : Same H H2 := fun c o h => b c o (a c o h)
theorem Same.free {H H' : Hp} (e : Same H H') {l : Addr} (h : H' l = Option.none) : H l = Option.none := by
  cases q : H l with
  | none => rfl
  | some o =>
    rw [e l o q] at h
    cases h
theorem Same.seq {K : PySem.W.Frag} {H H' : Hp} {a : Addr} {xs : List V} (e : Same H H') (h : SqL K H a xs) : SqL K H' a xs := by
  rcases h with (h | ⟨o, h⟩) | h
  · exact .inl (.inl (e _ _ h))
  · exact .inl (.inr ⟨o, e _ _ h⟩)
  · exact .inr h
end L2
namespace L2
open PySem PySem.Spec PyProof.Rows
section
variable {κ : Type} [DecidableEq κ]
noncomputable def valV (kvs : List (κ × V)) (k : κ) : Option V := (kvs.find? fun kv => decide (kv.1 = k)).map (·.2)
noncomputable def putK (kvs : List (κ × V)) (k : κ) (v : V) : List (κ × V) :=
  if (kvs.any fun kv => decide (kv.1 = k)) = true then kvs.map (fun kv => if kv.1 = k then (kv.1, v) else kv) else kvs ++ [(k, v)]
theorem valV_pos {p : κ × V} {r : List (κ × V)} {k : κ} (e : p.1 = k) : valV (p :: r) k = some p.2 := by simp [valV, List.find?_cons, e]
theorem valV_neg {p : κ × V} {r : List (κ × V)} {k : κ} (e : ¬ p.1 = k) : valV (p :: r) k = valV r k := by simp [valV, List.find?_cons, e]
theorem valV_any (k : κ) : ∀ kvs : List (κ × V), (kvs.any fun kv => decide (kv.1 = k)) = (valV kvs k).isSome
  | [] => rfl
  | p :: r => by
    rw [List.any_cons]
    by_cases e : p.1 = k
    · simp only [valV_pos e, decide_eq_true e, Bool.true_or, Option.isSome_some]
    · rw [valV_neg e, decide_eq_false e, Bool.false_or]; exact valV_any k r
theorem valV_map (k j : κ) (y : V) : ∀ kvs : List (κ × V), valV (kvs.map fun kv => if kv.1 = k then (kv.1, y) else kv) j = (valV kvs j).map fun x => if j = k then y else x
  | [] => rfl
  | p :: r => by
    have ih := valV_map k j y r
    rw [List.map_cons]
    by_cases h : p.1 = k
    · rw [if_pos h]
      by_cases e : p.1 = j
      · rw [valV_pos (p := (p.1, y)) e, valV_pos e, Option.map_some, if_pos (e.symm.trans h)]
      · rw [valV_neg (p := (p.1, y)) e, valV_neg e, ih]
    · rw [if_neg h]
      by_cases e : p.1 = j
      · rw [valV_pos (p := p) e, valV_pos e, Option.map_some, if_neg (fun z => h (e.trans z))]
      · rw [valV_neg (p := p) e, valV_neg e, ih]
theorem valV_snoc (k j : κ) (y : V) : ∀ kvs : List (κ × V), valV kvs k = none → valV (kvs ++ [(k, y)]) j = if j = k then some y else valV kvs j
  | [], _ => by
    by_cases e : k = j
    · rw [if_pos e.symm]; exact valV_pos (p := (k, y)) e
    · rw [if_neg (fun z => e z.symm)]; exact valV_neg (p := (k, y)) e
  | p :: r, hn => by
    rw [List.cons_append]
    have hk : ¬ p.1 = k := fun z => by rw [valV_pos z] at hn; cases hn
    rw [valV_neg hk] at hn
    have ih := valV_snoc k j y r hn
    by_cases e : p.1 = j
    · rw [valV_pos e, valV_pos e, if_neg (fun z => hk (e.trans z))]
    · rw [valV_neg e, valV_neg e, ih]
theorem valV_put (kvs : List (κ × V)) (k j : κ) (y : V) : valV (putK kvs k y) j = if j = k then some y else valV kvs j := by
  unfold putK
  by_cases a : (kvs.any fun kv => decide (kv.1 = k)) = true
  · rw [if_pos a, valV_map]
    rw [valV_any] at a
    by_cases e : j = k
    · obtain ⟨x, hx⟩ := Option.isSome_iff_exists.mp a
      rw [if_pos e, e, hx, Option.map_some, if_pos rfl]
    · rw [if_neg e]
      cases valV kvs j with
      | none => rfl
      | some x => rw [Option.map_some, if_neg e]
  · rw [if_neg a]
    refine valV_snoc k j y kvs ?_
    rw [valV_any] at a
    cases q : valV kvs k with
    | none => rfl
    | some x => rw [q] at a; exact (a rfl).elim
theorem length_putK (kvs : List (κ × V)) (k : κ) (v : V) : (putK kvs k v).length ≤ kvs.length + 1 := by
  unfold putK
  split
  · rw [List.length_map]; lia
  · rw [List.length_append, List.length_cons, List.length_nil]; lia
theorem putK_new {kvs : List (κ × V)} {k : κ} (v : V) (h : valV kvs k = none) : putK kvs k v = kvs ++ [(k, v)] := by
  unfold putK
  rw [valV_any, h]
  exact if_neg (by decide)
theorem RelO.isSome_eq {o : Option V} {u : Option Value} (r : RelO o u) : o.isSome = u.isSome := by
  cases o with
  | none => cases u with
    | none => rfl
    | some _ => exact (show False from r).elim
  | some _ => cases u with
    | none => exact (show False from r).elim
    | some _ => rfl
theorem KV.val {kvs : List (κ × V)} {vs : List (κ × Value)} (r : KV kvs vs) (k : κ) : RelO (valV kvs k) (valueAt vs k) := by
  unfold KV at r
  induction r with
  | nil => exact True.intro
  | @cons p q ps qs h t ih =>
    obtain ⟨h1, h2⟩ := h
    by_cases e : p.1 = k
    · have e' : q.1 = k := h1.symm.trans e
      have b : valueAt (q :: qs) k = some q.2 := by simp [valueAt, List.find?_cons, e']
      rw [valV_pos e, b]; exact h2
    · have e' : ¬ q.1 = k := fun z => e (h1.trans z)
      have b : valueAt (q :: qs) k = valueAt qs k := by simp [valueAt, List.find?_cons, e']
      rw [valV_neg e, b]; exact ih
theorem KV.any {kvs : List (κ × V)} {vs : List (κ × Value)} (r : KV kvs vs) (k : κ) : (kvs.any fun kv => decide (kv.1 = k)) = vs.any fun kv => decide (kv.1 = k) := by
  unfold KV at r
  induction r with
  | nil => rfl
  | cons h t ih => rw [List.any_cons, List.any_cons, ih, h.1]
theorem KV.repl {kvs : List (κ × V)} {vs : List (κ × Value)} (r : KV kvs vs) (k : κ) {y : V} {u : Value} (ry : RelV y u) :
    KV (kvs.map fun kv => if kv.1 = k then (kv.1, y) else kv) (vs.map fun kv => if kv.1 = k then (kv.1, u) else kv) := by
  unfold KV at r ⊢
  induction r with
  | nil => exact .nil
  | @cons p q ps qs h t ih =>
    rw [List.map_cons, List.map_cons]
    refine .cons ?_ ih
    obtain ⟨h1, h2⟩ := h
    by_cases e : p.1 = k
    · rw [if_pos e, if_pos (h1.symm.trans e)]; exact ⟨h1, ry⟩
    · rw [if_neg e, if_neg (fun z => e (h1.trans z))]; exact ⟨h1, h2⟩
theorem KV.put {kvs : List (κ × V)} {vs : List (κ × Value)} (r : KV kvs vs) (k : κ) {y : V} {u : Value} (ry : RelV y u) : KV (putK kvs k y) (stored vs k u) := by
  unfold putK stored
  rw [r.any k]
  by_cases e : (vs.any fun kv => decide (kv.1 = k)) = true
  · rw [if_pos e, if_pos e]; exact r.repl k ry
  · rw [if_neg e, if_neg e]; exact Paired.snoc r ⟨rfl, ry⟩
theorem KV.keys {kvs : List (κ × V)} {vs : List (κ × Value)} (r : KV kvs vs) : kvs.map (·.1) = vs.map (·.1) := by
  unfold KV at r
  induction r with
  | nil => rfl
  | cons h t ih => rw [List.map_cons, List.map_cons, ih, h.1]
theorem KV.length {kvs : List (κ × V)} {vs : List (κ × Value)} (r : KV kvs vs) : kvs.length = vs.length := Paired.length r
end
theorem kV_is {P : Program} {w : World} {k : Key} {u : Value} (r : RelV (kV k) u) : (mixKind P w).is k u = true := by
  cases k with
  | inl i => obtain ⟨t, e⟩ := (show ∃ t, u = Value.int i t from r); subst e; exact mixKind_int P w i t
  | inr x => obtain ⟨t, e⟩ := (show ∃ t, u = Value.str x t from r); subst e; exact mixKind_str P w x t
theorem items_are {P : Program} {w : World} : ∀ {ks : List Key} {us : List Value}, Vals (ks.map kV) us → ItemsAre (mixKind P w) ks us
  | [], _, r => by rw [List.map_nil] at r; cases r; exact .nil
  | k :: ks, _, r => by
    rw [List.map_cons] at r
    cases r with
    | cons h t => exact .cons (kV_is h) (items_are t)
noncomputable abbrev KT (H : Hp) : List (List Key × V) → List (List Key × Addr × Value) → Prop := Paired fun p q => p.1 = q.1 ∧ H q.2.1 = some (.tup (p.1.map kV)) ∧ RelV p.2 q.2.2
theorem KT.val {H : Hp} {kvs : List (List Key × V)} {xs : List (List Key × Addr × Value)} (r : KT H kvs xs) (k : List Key) : RelO (valV kvs k) ((atKey xs k).map (·.2)) := by
  induction r with
  | nil => exact True.intro
  | @cons p q ps qs h t ih =>
    obtain ⟨h1, _, h2⟩ := h
    by_cases e : p.1 = k
    · have e' : q.1 = k := h1.symm.trans e
      have b : atKey (q :: qs) k = some q.2 := by simp [atKey, List.find?_cons, e']
      rw [valV_pos e, b]; exact h2
    · have e' : ¬ q.1 = k := fun z => e (h1.trans z)
      have b : atKey (q :: qs) k = atKey qs k := by simp [atKey, List.find?_cons, e']
      rw [valV_neg e, b]; exact ih
theorem KT.repl {H : Hp} {kvs : List (List Key × V)} {xs : List (List Key × Addr × Value)} (r : KT H kvs xs) (k : List Key) {y : V} {u : Value} (ry : RelV y u) :
    KT H (kvs.map fun kv => if kv.1 = k then (kv.1, y) else kv) (xs.map (putAt k u)) := by
  induction r with
  | nil => exact .nil
  | @cons p q ps qs h t ih =>
    rw [List.map_cons, List.map_cons]
    refine .cons ?_ ih
    obtain ⟨h1, h2, h3⟩ := h
    unfold putAt
    by_cases e : p.1 = k
    · rw [if_pos e, if_pos (h1.symm.trans e)]; exact ⟨h1, h2, ry⟩
    · rw [if_neg e, if_neg (fun z => e (h1.trans z))]; exact ⟨h1, h2, h3⟩
theorem KT.put {H : Hp} {kvs : List (List Key × V)} {xs : List (List Key × Addr × Value)} (r : KT H kvs xs) (k : List Key) {b : Addr} {y : V} {u : Value} (hb : H b = some (.tup (k.map kV))) (ry : RelV y u) :
    KT H (putK kvs k y) (storedH xs k b u) := by
  have e : (kvs.any fun kv => decide (kv.1 = k)) = (atKey xs k).isSome := by
    rw [valV_any, (r.val k).isSome_eq, Option.isSome_map]
  unfold putK storedH
  rw [e]
  by_cases q : (atKey xs k).isSome = true
  · rw [if_pos q, if_pos q]; exact r.repl k ry
  · rw [if_neg q, if_neg q]; exact Paired.snoc r ⟨rfl, hb, ry⟩
theorem KT.keeps {H H' : Hp} {kvs : List (List Key × V)} {xs : List (List Key × Addr × Value)} (r : KT H kvs xs) (ht : ∀ b ys, H b = some (.tup ys) → H' b = some (.tup ys)) : KT H' kvs xs :=
  Paired.mapP r fun _ _ z => ⟨z.1, ht _ _ z.2.1, z.2.2⟩
section
variable {P : Program} {w : World} {H : Hp} {h : Heap} {a : Addr}
theorem rd_of {u : HO} (ok : HOk P w H h) (e : Rd H a u) : ObjOk P w H h a u := e.ok ok
theorem dk_rd {kvs : List (Key × V)} (ok : HOk P w H h) (e : Rd H a (.dK kvs)) : kvs.length ≤ sizeLine ∧ (a == sysModules) = false ∧ ∃ vs, KV kvs vs ∧ h.DictOf (mixKind P w) a vs :=
  show ObjOk P w H h a (.dK kvs) from rd_of ok e
theorem dk_of {kvs : List (Key × V)} (ok : HOk P w H h) (e : H a = some (.dK kvs)) : kvs.length ≤ sizeLine ∧ (a == sysModules) = false ∧ ∃ vs, KV kvs vs ∧ h.DictOf (mixKind P w) a vs := dk_rd ok (.inl e)
theorem key_of {ks : List Key} (ok : HOk P w H h) (e : H a = some (.tup (ks.map kV))) : (tupleKind (mixKind P w)).is h ks a := by
  obtain ⟨_, its, r, o, h1, h2, n, h3⟩ := (show ObjOk P w H h a (.tup (ks.map kV)) from ok a _ e)
  exact ⟨o, its.toArray, n, h1, h2, h3, by simpa using items_are r⟩
theorem dt_rd {kvs : List (List Key × V)} (ok : HOk P w H h) (e : Rd H a (.dT kvs)) : kvs.length ≤ sizeLine ∧ (a == sysModules) = false ∧
    ∃ xs, KT H kvs xs ∧ h.DictOfH (tupleKind (mixKind P w)) a xs := by
  obtain ⟨z, y, xs, r, o, es, ep, h1, h2, h3, h4, h5⟩ := (show ObjOk P w H h a (.dT kvs) from rd_of ok e)
  refine ⟨z, y, xs, r, o, es, ep, h1, h2, h3, h4, fun x hx => ?_, h5⟩
  have all : ∀ {l : List (List Key × V)} {m : List (List Key × Addr × Value)}, KT H l m → ∀ x ∈ m, (tupleKind (mixKind P w)).is h x.1 x.2.1 := by
    intro l m q
    induction q with
    | nil => intro x hx; exact nomatch hx
    | @cons p q ps qs hq t ih =>
      intro x hx
      rcases List.mem_cons.mp hx with e | hx
      · subst e
        exact key_of ok (by rw [← hq.1]; exact hq.2.1)
      · exact ih x hx
  exact all r x hx
theorem dt_of {kvs : List (List Key × V)} (ok : HOk P w H h) (e : H a = some (.dT kvs)) : kvs.length ≤ sizeLine ∧ (a == sysModules) = false ∧
    ∃ xs, KT H kvs xs ∧ h.DictOfH (tupleKind (mixKind P w)) a xs := dt_rd ok (.inl e)
end
noncomputable def DGet (H : Hp) (a : Addr) (y : V) (r : Option V) : Prop :=
  (∃ kvs k, Rd H a (.dK kvs) ∧ y = kV k ∧ r = valV kvs k) ∨ ∃ kvs k b, Rd H a (.dT kvs) ∧ y = .ref b ∧ H b = some (.tup (k.map kV)) ∧ r = valV kvs k
noncomputable def DPut (H : Hp) (a : Addr) (y v : V) (H' : Hp) : Prop :=
  (∃ kvs k, H a = some (.dK kvs) ∧ y = kV k ∧ kvs.length < sizeLine ∧ H' = upd H a (.dK (putK kvs k v))) ∨
  ∃ kvs k b, H a = some (.dT kvs) ∧ y = .ref b ∧ H b = some (.tup (k.map kV)) ∧ kvs.length < sizeLine ∧ H' = upd H a (.dT (putK kvs k v))
theorem DGet.k {H : Hp} {a : Addr} {kvs : List (Key × V)} {k : Key} (e : H a = some (.dK kvs)) : DGet H a (kV k) (valV kvs k) := .inl ⟨kvs, k, .inl e, rfl, rfl⟩
theorem DPut.k {H : Hp} {a : Addr} {kvs : List (Key × V)} {k : Key} {v : V} (e : H a = some (.dK kvs)) (hl : kvs.length < sizeLine) : DPut H a (kV k) v (upd H a (.dK (putK kvs k v))) := .inl ⟨kvs, k, e, rfl, hl, rfl⟩
section
variable {X : Cx} {pins : List (Addr × Obj)} {σ : St} {H : Hp} {s : Shared} {a : Addr} {y v : V} {u r : Value} {o : Option V} {A : Around} {E : Value → Shared → Prop}
theorem Inv.big (I : Inv X pins σ H s) : sysModules < s.heap.objs.size := by
  have h : mainGlobals < s.heap.objs.size := (I.mod.glob.keeps I.bk).lt
  exact Nat.lt_trans (by decide) h
theorem d_getItem {Q : Value → Shared → Prop} (hu : A.units + 1 < cLine) (I : Inv X pins σ H s) (g : DGet H a y (some v)) (ry : RelV y u) (h : ∀ w' s', Inv X pins σ H s' → RelV v w' → Q w' s') :
    wpAny (model X.prog X.w) A (getItem (.ref a) u) Q E s := by
  rcases g with ⟨kvs, k, e, ey, l⟩ | ⟨kvs, k, b, e, ey, eb, l⟩
  · subst ey
    obtain ⟨z, hd, vs, rel, dd⟩ := dk_rd I.hok e
    obtain ⟨w', hw, rw'⟩ := RelO.some_of (v := v) (o := valueAt vs k) (by rw [l]; exact rel.val k)
    exact wpAny_getItem_of (kV_is ry) dd.mapOf hw (h w' _ (I.tok _) rw')
  · subst ey
    cases (show u = Value.ref b from ry)
    obtain ⟨z, hd, xs, rel, dd⟩ := dt_rd I.hok e
    obtain ⟨w', hw, rw'⟩ := RelO.some_of (v := v) (o := (atKey xs k).map (·.2)) (by rw [l]; exact rel.val k)
    obtain ⟨p, hp, hp2⟩ := Option.map_eq_some_iff.mp hw
    refine wpAny_getItem_heap (tupleKind_room_in1 hu) (key_of I.hok eb) dd hp ?_
    rw [hp2]
    exact h w' _ (I.tok _) rw'
theorem d_notIn {Q : Value → Shared → Prop} (hu : A.units + 1 < cLine) (I : Inv X pins σ H s) (g : DGet H a y o) (ry : RelV y u) (h : ∀ s', Inv X pins σ H s' → Q (.bool (!o.isSome)) s') :
    wpAny (model X.prog X.w) A (compareOp .NotIn u (.ref a)) Q E s := by
  rcases g with ⟨kvs, k, e, ey, l⟩ | ⟨kvs, k, b, e, ey, eb, l⟩
  · subst ey
    obtain ⟨z, hd, vs, rel, dd⟩ := dk_rd I.hok e
    refine wpAny_notIn_of (kV_is ry) hd dd.mapOf ?_
    rw [← (rel.val k).isSome_eq, ← l]
    exact h _ (I.tok _)
  · subst ey
    cases (show u = Value.ref b from ry)
    obtain ⟨z, hd, xs, rel, dd⟩ := dt_rd I.hok e
    refine wpAny_notIn_heap (tupleKind_room_in1 hu) (key_of I.hok eb) hd dd ?_
    have q := (rel.val k).isSome_eq
    rw [Option.isSome_map] at q
    rw [← q, ← l]
    exact h _ (I.tok _)
theorem d_write {h' : Heap} {t' : Nat} {ob : HO} (I : Inv X pins σ H s) (mu : Mut (H a)) (hs : Heap.SameBut a s.heap h') (he : ∃ q, h'.get? a = some q) (new : ObjOk X.prog X.w (upd H a ob) h' a ob) :
    Inv X pins σ (upd H a ob) { s with heap := h', toks := t' } :=
  I.write (x := a) (e := a) mu (.inl rfl) (fun b q hb z => (hs.2 b hb).trans z) he new
theorem dk_new {P : Program} {w : World} {H' : Hp} {h' : Heap} {kvs : List (Key × V)} {vs : List (Key × Value)} (z : kvs.length ≤ sizeLine) (hd : (a == sysModules) = false) (rel : KV kvs vs) (dd : h'.DictOf (mixKind P w) a vs) :
    ObjOk P w H' h' a (.dK kvs) := ⟨z, hd, vs, rel, dd⟩
theorem d_setItem {H' : Hp} {Q : Unit → Shared → Prop} (hu : A.units + 1 < cLine) (I : Inv X pins σ H s) (g : DPut H a y v H') (ry : RelV y u) (rv : RelV v r) (h : ∀ s', Inv X pins σ H' s' → Q () s') :
    wpAny (model X.prog X.w) A (setItem (.ref a) u r) Q E s := by
  rcases g with ⟨kvs, k, e, ey, l, eH⟩ | ⟨kvs, k, b, e, ey, eb, l, eH⟩
  · subst ey eH
    obtain ⟨z, hd, vs, rel, dd⟩ := dk_of I.hok e
    have hz : vs.length ≤ sizeLine := by rw [← rel.length]; exact z
    have hl : (putK kvs k v).length ≤ sizeLine := by have := length_putK kvs k v; lia
    refine wpAny_setItem_pairs (hsz := hz) (kV_is ry) dd fun h' dd' hs => h _ ?_
    have he : ∃ q, h'.get? a = some q := let ⟨q, _, _, hq, _⟩ := dd'; ⟨q, hq⟩
    exact d_write I (by rw [e]; exact True.intro) hs he (dk_new hl hd (rel.put k rv) dd')
  · subst ey eH
    cases (show u = Value.ref b from ry)
    obtain ⟨z, hd, xs, rel, dd⟩ := dt_of I.hok e
    have hz : xs.length ≤ sizeLine := by rw [← Paired.length rel]; exact z
    have hl : (putK kvs k v).length ≤ sizeLine := by have := length_putK kvs k v; lia
    refine wpAny_setItem_heap (hsz := hz) (tupleKind_room_in1 hu) (key_of I.hok eb) dd fun h' dd' hs => h _ ?_
    obtain ⟨q, es, ep, hq, h2, h3, h4, _, h5⟩ := dd'
    refine d_write I (by rw [e]; exact True.intro) hs ⟨q, hq⟩ ⟨hl, hd, _, (rel.put k eb rv).keeps fun c ys ec => ?_, q, es, ep, hq, h2, h3, h4, h5⟩
    rw [upd_ne (ne_of ec e (fun z => nomatch z))]
    exact ec
end
section
variable {X : Cx} {pins : List (Addr × Obj)} {σ : St} {H : Hp} {s : Shared} {a : Addr} {kvs : List (Key × V)} {k : Key} {u : Value} {A : Around} {E : Value → Shared → Prop}
end
noncomputable def NoSl (i : Expr) : Prop := ∀ ov iv, subscripted i false ov iv = operate [ov, iv] (getItem ov iv)
theorem subD_of {prog : Program} {w : World} {A : Around} {E : Value → Shared → Prop} {s : Shared} {env : Env} {value slice : Expr} {pos : Pos} {T id : String} {Q : Value → Shared → Prop}
    (hl : typeLookup (.type T) "__getitem__" = pure (some (.builtin id))) (hs : NoSl slice)
    (h : wpAny (model prog w) A (eval value env) (fun o s₁ => wpAny (model prog w) A (eval slice env) (fun i s₂ => s₂.TypeIs o T ∧ wpAny (model prog w) A (getItem o i) Q E s₂) E s₁) E s) :
    wpAny (model prog w) A (eval (.Subscript value slice pos) env) Q E s := by
  refine Subscript_ (wpAny_mono h (fun o s₁ h₁ => wpAny_mono h₁ (fun i s₂ h₂ => ?_) fun _ _ x => x) fun _ _ x => x)
  obtain ⟨hT, h₂⟩ := h₂
  unfold subscriptTail
  refine wpAny_bind ?_
  rw [getitemInPython_of_ne hT.not_modules]
  refine wpAny_bind (wpAny_specialOf hT hl ?_)
  have fin : wpAny (model prog w) A (subscripted slice false o i) (fun r s₃ => wpAny (model prog w) A (letTemporaryGo value o r >>= fun _ => pure r) Q E s₃) E s₂ := by
    rw [hs o i]
    exact wpAny_operating (wpAny_mono h₂ (fun r s₃ h₃ => wpAny_bind (wpAny_letTemporaryGo (wpAny_pure h₃))) fun _ _ x => x)
  first
    | exact wpAny_pure (wpAny_bind fin)
    | exact wpAny_bind (wpAny_pure (wpAny_bind fin))
    | exact wpAny_bind fin
theorem dict_typeIs {X : Cx} {pins : List (Addr × Obj)} {σ : St} {H : Hp} {s : Shared} {a : Addr} {y : V} {o : Option V} (I : Inv X pins σ H s) (g : DGet H a y o) : s.TypeIs (.ref a) "dict" := by
  rcases g with ⟨kvs, k, e, _, _⟩ | ⟨kvs, k, b, e, _, _, _⟩
  · obtain ⟨_, _, vs, _, dd⟩ := dk_rd I.hok e
    exact dd.typeIs
  · obtain ⟨_, _, xs, _, dd⟩ := dt_rd I.hok e
    exact dd.typeIs
noncomputable def tDGet (td ty : TE) : TE := fun σ H Q => td σ H fun x H1 => ty σ H1 fun y H2 => ∃ a v, x = .ref a ∧ DGet H2 a y (some v) ∧ Q v H2
noncomputable def tDNotIn (ty td : TE) : TE := fun σ H Q => ty σ H fun y H1 => td σ H1 fun x H2 => ∃ a o, x = .ref a ∧ DGet H2 a y o ∧ Q (.bl (!o.isSome)) H2
noncomputable def sDPut (td ty tv : TE) : TS := fun D σ H => tv σ H fun v H1 => td σ H1 fun x H2 => ty σ H2 fun y H3 => ∃ a H4, x = .ref a ∧ DPut H3 a y v H4 ∧ D.nx σ H4
section
variable {X : Cx} {o i e value : Expr} {pos pos' tpos : Pos} {td ty tv : TE}
theorem pe_dget (hu : X.A.units + 1 < cLine) (ho : PE X o td) (hi : PE X i ty) (hs : NoSl i) : PE X (.Subscript o i pos) (tDGet td ty) := by
  intro pins s σ H Q I h
  refine subD_of PySem.F.slot_dict_getitem.lookup hs (thn (ho pins s σ H _ I h) fun u s1 ⟨x, H1, I1, rx, q1⟩ => thn (hi pins s1 σ H1 _ I1 q1) fun iv s2 zz0 => ?_)
  obtain ⟨y, H2, I2, ry, a, v, ex, g, q2⟩ := zz0
  subst ex
  obtain rfl : u = Value.ref a := rx
  exact ⟨dict_typeIs I2 g, d_getItem hu I2 g ry fun w' s3 I3 rw' => ⟨v, H2, I3, rw', q2⟩⟩
theorem pc_dnotin (hu : X.A.units + 1 < cLine) (hi : PE X i ty) (ho : PE X o td) : PC X .NotIn i o (tDNotIn ty td) := by
  intro pins s σ H Q I h
  refine thn (hi pins s σ H _ I h) fun iv s1 ⟨y, H1, I1, ry, q1⟩ => thn (ho pins s1 σ H1 _ I1 q1) fun u s2 zz0 => ?_
  obtain ⟨x, H2, I2, rx, a, ov, ex, g, q2⟩ := zz0
  subst ex
  obtain rfl : u = Value.ref a := rx
  exact d_notIn hu I2 g ry fun s3 I3 => ⟨.bl (!ov.isSome), H2, I3, rfl, q2⟩
theorem ps_dput (hu : X.A.units + 1 < cLine) (ho : PE X o td) (hi : PE X i ty) (hv : PE X value tv) (hs : swapsWith value (some (.Subscript o i pos')) pos.line X.env = pure false) :
    PS X (.Assign [.Subscript o i pos'] value pos) (sDPut td ty tv) := by
  intro pins s σ H D I h
  refine wpAny_Assign_Subscript (thn (hv pins s σ H _ I h) fun r s1 ⟨v, H1, I1, rv, q1⟩ => thn (ho pins s1 σ H1 _ I1 q1) fun u s2 ⟨x, H2, I2, rx, q2⟩ => thn (hi pins s2 σ H2 _ I2 q2) fun iv s3 zz0 => ?_) hs
  obtain ⟨y, H3, I3, ry, a, H4, ex, g, q3⟩ := zz0
  subst ex
  obtain rfl : u = Value.ref a := rx
  exact d_setItem hu I3 g ry rv fun s4 I4 => ⟨σ, H4, I4, q3⟩
end
theorem dk_empty {P : Program} {w : World} {H : Hp} (h : Heap) (hb : sysModules < h.objs.size) : ObjOk P w H (h.push { cls := .type "dict", data := .dict #[] }) h.objs.size (.dK []) :=
  ⟨Nat.zero_le _, beq_eq_false_iff_ne.mpr (Ne.symm (Nat.ne_of_lt hb)), [], .nil, Heap.DictOf.new h⟩
noncomputable def tDNewK : TE := fun _ H Q => ∀ p, H p = none → Q (.ref p) (upd H p (.dK []))
section
variable {X : Cx} {pos : Pos}
theorem pe_dnewK : PE X (.Dict [] [] pos) tDNewK := fun pins s σ H Q I h =>
  wpAny_Dict_empty ⟨.ref s.heap.objs.size, _, I.laid (a := s.heap.objs.size) (o := .dK []) (t' := s.toks) (fun _ _ q => Heap.get?_push_of_some _ q) (Nat.le_refl _) (dk_empty s.heap I.big), rfl, h _ (I.hok.fresh (Nat.le_refl _))⟩
end
noncomputable def mergeK (kvs more : List (Key × V)) : List (Key × V) := more.foldl (fun acc kv => putK acc kv.1 kv.2) kvs
theorem KV.merge : ∀ {more : List (Key × V)} {rs : List (Key × Value)} {kvs : List (Key × V)} {vs : List (Key × Value)}, KV more rs → KV kvs vs → KV (mergeK kvs more) (merged vs rs) := by
  intro more rs kvs vs r
  unfold KV at r
  induction r generalizing kvs vs with
  | nil => intro q; exact q
  | @cons p q ps qs h t ih =>
    intro r0
    have e : KV (putK kvs p.1 p.2) (stored vs q.1 q.2) := by
      have := r0.put p.1 h.2
      rw [← h.1]; exact this
    exact ih e
theorem length_mergeK : ∀ (more kvs : List (Key × V)), (mergeK kvs more).length ≤ kvs.length + more.length
  | [], kvs => by show kvs.length ≤ kvs.length + 0; lia
  | p :: r, kvs => by
    have h1 := length_mergeK r (putK kvs p.1 p.2)
    have h2 := length_putK kvs p.1 p.2
    show (mergeK (putK kvs p.1 p.2) r).length ≤ _
    rw [List.length_cons]; lia
structure M1 (X : Cx) (o : Expr) (m : Str) (apos : Pos) (e : Expr) (cpos : Pos) : Prop where
  base : attributeBase o m X.env (eval o X.env) = eval o X.env
  few : ((backTo cpos (starEach [e] X.env)).all (fun x => !x.1) && (backToKw cpos (keywordEach [] X.env)).all (fun x => x.1.isSome)
    && decide (([e] : List Expr).length + ([] : List Keyword).length + (if ([] : List Keyword).isEmpty then 0 else 1) < 30)) = true
  line : (apos.endLine == cpos.line) = true
  trees : backTo cpos (starEach [e] X.env) = [(false, eval e X.env)]
noncomputable def IsD (H : Hp) (a : Addr) : Prop := (∃ kvs, Rd H a (.dK kvs)) ∨ ∃ kvs, Rd H a (.dT kvs)
theorem isD_at {X : Cx} {pins : List (Addr × Obj)} {σ : St} {H : Hp} {s : Shared} {a : Addr} (I : Inv X pins σ H s) (d : IsD H a) :
    s.TypeIs (.ref a) "dict" ∧ (∀ b, Value.ref a = .ref b → ∃ ob, s.heap.get? b = some ob ∧ ob.dict = none) ∧ (a == sysModules) = false := by
  rcases d with ⟨kvs, e⟩ | ⟨kvs, e⟩
  · obtain ⟨_, hd, vs, _, dd⟩ := dk_rd I.hok e
    refine ⟨dd.typeIs, fun b q => ?_, hd⟩
    cases q
    obtain ⟨ob, _, _, h1, h2, _⟩ := dd
    exact ⟨ob, h1, h2.2.1⟩
  · obtain ⟨_, hd, xs, _, dd⟩ := dt_rd I.hok e
    refine ⟨dd.typeIs, fun b q => ?_, hd⟩
    cases q
    obtain ⟨ob, _, _, h1, h2, _⟩ := dd
    exact ⟨ob, h1, h2.2.1⟩
section
variable {X : Cx} {pins : List (Addr × Obj)} {σ : St} {H : Hp} {s : Shared} {a : Addr} {y d : V} {u r : Value} {o : Option V} {A : Around} {E : Value → Shared → Prop}
end
section
variable {X : Cx} {o e f : Expr} {apos cpos : Pos} {td ty tx : TE}
end
section
variable {X : Cx} {pins : List (Addr × Obj)} {σ : St} {H : Hp} {s : Shared} {a : Addr} {kvs : List (Key × V)} {A : Around} {E : Value → Shared → Prop}
end
section
variable {X : Cx} {pins : List (Addr × Obj)} {σ : St} {H : Hp} {s : Shared} {a : Addr} {y : V} {u : Value} {A : Around} {E : Value → Shared → Prop}
end
end L2
namespace L2
open PySem PySem.Spec PyProof.Rows
theorem forIn_yield_gen {α β : Type} {f : α → β → Sem (ForInStep β)} (g : β → α → β) : ∀ (l : List α) (b : β), (∀ x ∈ l, ∀ b, f x b = pure (.yield (g b x))) → forIn l b f = pure (l.foldl g b) := by
  intro l
  induction l with
  | nil => intro b _; rfl
  | cons x l ih =>
    intro b h
    rw [List.forIn_cons, h x List.mem_cons_self, pure_bind]
    exact ih _ fun y hy => h y (List.mem_cons_of_mem _ hy)
noncomputable def closStep (env : Env) (cs : List (Str × Addr)) (p : Str × NameKind) : List (Str × Addr) := if p.2 == .free then (p.1, (env.cells.lookup p.1).getD 0) :: cs else cs
noncomputable def clos (env : Env) (names : List (Str × NameKind)) : List (Str × Addr) := names.foldl (closStep env) []
theorem closureFor_clos {scope : Scope} {env : Env} (h : ∀ p ∈ scope.names, p.2 = .free → ∃ c, env.cells.lookup p.1 = some c) : closureFor scope env = pure (clos env scope.names) := by
  simp only [closureFor]
  rw [forIn_yield_gen (closStep env) scope.names [] (fun x hx b => by
    obtain ⟨n, k⟩ := x
    cases e : (k == NameKind.free) with
    | false => simp only [closStep, e, Bool.false_eq_true, if_false]
    | true =>
      have ek : k = .free := by simpa using e
      obtain ⟨c, hc⟩ := h _ hx ek
      simp only [] at hc
      simp only [closStep, e, if_true, cellOf, hc, Option.getD_some, pure_bind])]
  rfl
theorem clos_pairs {env : Env} : ∀ (names : List (Str × NameKind)) (cs : List (Str × Addr)), (∀ p ∈ names, p.2 = .free → ∃ c, env.cells.lookup p.1 = some c) → (∀ q ∈ cs, env.cells.lookup q.1 = some q.2) →
    ∀ q ∈ names.foldl (closStep env) cs, env.cells.lookup q.1 = some q.2
  | [], _, _, hc => hc
  | (n, k) :: r, cs, h, hc => by
    refine clos_pairs r _ (fun p hp => h p (List.mem_cons_of_mem _ hp)) fun q hq => ?_
    unfold closStep at hq
    split at hq
    · rename_i e
      rcases List.mem_cons.mp hq with rfl | hq
      · obtain ⟨c, e'⟩ := h (n, k) List.mem_cons_self (by simpa using e)
        simp only [] at e'
        simp only [e', Option.getD_some]
      · exact hc q hq
    · exact hc q hq
theorem clos_keep {env : Env} : ∀ (names : List (Str × NameKind)) (cs : List (Str × Addr)) (q : Str × Addr), q ∈ cs → q ∈ names.foldl (closStep env) cs
  | [], _, _, h => h
  | (n, k) :: r, cs, q, h => by
    refine clos_keep r _ q ?_
    unfold closStep
    split
    · exact List.mem_cons_of_mem _ h
    · exact h
theorem clos_mem {env : Env} : ∀ (names : List (Str × NameKind)) (cs : List (Str × Addr)) (x : Str), (x, NameKind.free) ∈ names → ∃ a, (x, a) ∈ names.foldl (closStep env) cs
  | [], _, _, h => by simp at h
  | (n, k) :: r, cs, x, h => by
    rcases List.mem_cons.mp h with e | h
    · cases e
      exact ⟨_, clos_keep r _ _ (by unfold closStep; rw [if_pos (by simp)]; exact List.mem_cons_self)⟩
    · exact clos_mem r _ x h
theorem lookup_of_mem {α : Type} {x : Str} {a : α} : ∀ {l : List (Str × α)}, (x, a) ∈ l → ∃ b, l.lookup x = some b
  | [], h => by simp at h
  | (n, b) :: r, h => by
    by_cases e : x = n
    · subst e; exact ⟨b, by simp [List.lookup_cons]⟩
    · rcases List.mem_cons.mp h with z | z
      · cases z; exact absurd rfl e
      · obtain ⟨c, hc⟩ := lookup_of_mem z
        have e' : (x == n) = false := by simpa using e
        exact ⟨c, by simp only [List.lookup_cons, e']; exact hc⟩
theorem clos_lookup {env : Env} {names : List (Str × NameKind)} (h : ∀ p ∈ names, p.2 = .free → ∃ c, env.cells.lookup p.1 = some c) {x : Str} {c : Addr} (e : (clos env names).lookup x = some c) : env.cells.lookup x = some c :=
  clos_pairs names [] h (fun _ hq => absurd hq (by simp)) (x, c) (PySem.mem_of_lookup e)
theorem clos_free {env : Env} {names : List (Str × NameKind)} (h : ∀ p ∈ names, p.2 = .free → ∃ c, env.cells.lookup p.1 = some c) {x : Str} (hx : (x, NameKind.free) ∈ names) : ∃ c, (clos env names).lookup x = some c ∧ env.cells.lookup x = some c := by
  obtain ⟨a, ha⟩ := clos_mem (env := env) names [] x hx
  obtain ⟨c, hc⟩ := lookup_of_mem ha
  exact ⟨c, hc, clos_lookup h hc⟩
theorem relabel_lookup {env : Env} : ∀ {names : List (Str × NameKind)} {x : Str},
    (names.map fun (n, k) => if (k == NameKind.free && env.scope.kind == .function && env.kindOf n == some .cell) then (n, NameKind.cell) else (n, k)).lookup x = names.lookup x ∨
      (names.lookup x = some .free ∧ (names.map fun (n, k) => if (k == NameKind.free && env.scope.kind == .function && env.kindOf n == some .cell) then (n, NameKind.cell) else (n, k)).lookup x = some .cell)
  | [], _ => .inl rfl
  | (n, k) :: r, x => by
    have ih := @relabel_lookup env r x
    show List.lookup x ((if (k == NameKind.free && env.scope.kind == .function && env.kindOf n == some .cell) = true then (n, NameKind.cell) else (n, k)) :: _) = _ ∨ (_ ∧ List.lookup x ((if (k == NameKind.free && env.scope.kind == .function && env.kindOf n == some .cell) = true then (n, NameKind.cell) else (n, k)) :: _) = _)
    cases hx : x == n with
    | true =>
      by_cases hc : (k == NameKind.free && env.scope.kind == .function && env.kindOf n == some .cell) = true
      · have hk : k = .free := by simp only [Bool.and_eq_true] at hc; simpa using hc.1.1
        rw [if_pos hc]
        simp only [List.lookup_cons, hx]
        exact .inr ⟨by rw [hk], by first | rfl | trivial⟩
      · rw [if_neg hc]
        simp only [List.lookup_cons, hx]
        first | exact .inl rfl | exact .inl trivial
    | false =>
      by_cases hc : (k == NameKind.free && env.scope.kind == .function && env.kindOf n == some .cell) = true
      · rw [if_pos hc]; simp only [List.lookup_cons, hx]; exact ih
      · rw [if_neg hc]; simp only [List.lookup_cons, hx]; exact ih
structure LcSc (N : List Str) (sc : Scope) (own : List Str) (cap : List Nat) (scope : Scope) : Prop where
  kind : scope.kind = .function
  nocell : ∀ y ∈ scope.names, y.2 ≠ .cell
  loc : ∀ y ∈ scope.names, y.2 = .local → scope.names.lookup y.1 = some .local
  fr : ∀ y ∈ scope.names, y.2 = .free → sc.names.lookup y.1 = some .cell ∨ sc.names.lookup y.1 = some .free
  cap : ∀ i ∈ cap, i < N.length ∧ scope.names.lookup (N.getD i Str.empty) = some .free
noncomputable def lcN (N own : List Str) (cap : List Nat) : List Str := own ++ cap.map fun i => N.getD i Str.empty
noncomputable def lcSt (own : List Str) (cap : List Nat) (σ : St) : St := List.replicate own.length none ++ cap.map fun i => σ.getD i none
noncomputable abbrev cxLc (X : Cx) (N' : List Str) (scope : Scope) (cl : List (Str × Addr)) (C : Addr) (s : Shared) (H : Hp) (fp : List Addr) : Cx where
  prog := X.prog
  w := X.w
  K := X.K
  mg := X.mg
  base := X.base
  A := X.A
  N := N'
  s₀ := s
  H₀ := H
  env := compEnvC scope cl C X.env
  outer := X.stack
  stack := X.stack
  ex := fp
  fn := fun _ => false
  calm := X.calm
  pn := []
  xe := fun _ _ => False
section
variable {X : Cx} {pins : List (Addr × Obj)} {σ : St} {H : Hp} {s : Shared} {N own : List Str} {cap : List Nat} {sc scope : Scope} {fp : List Addr}
theorem LcSc.cells (L : LcSc N sc own cap scope) (hsc : X.env.scope = sc) (ok : X.Ok) : ∀ p ∈ scope.names, p.2 = .free → ∃ c, X.env.cells.lookup p.1 = some c := fun p hp e => by
  refine ok.has p.1 ?_
  show X.env.scope.names.lookup p.1 = _ ∨ X.env.scope.names.lookup p.1 = _
  rw [hsc]
  exact L.fr p hp e
theorem lc_start (L : LcSc N sc own cap scope) (hN : X.N = N) (hsc : X.env.scope = sc) (I : Inv X pins σ H s) (hf : ∀ b ∈ fp, FpOk X pins H b) (hlt : ∀ b ∈ fp, b < s.heap.objs.size)
    {h4 : Heap} {tk : Nat} (hns : h4.Ns s.heap.objs.size fun _ => none) (hk : ∀ b o, s.heap.get? b = some o → h4.get? b = some o) :
    Inv (cxLc X (lcN N own cap) scope (clos X.env scope.names) s.heap.objs.size s H fp) [] (lcSt own cap σ) H { s with heap := h4, toks := tk } := by
  have hcs := L.cells hsc I.ok
  have kinds : ∀ x, ((relabel scope X.env).names.lookup x = some .cell ∨ (relabel scope X.env).names.lookup x = some .free) → scope.names.lookup x = some .free := fun x hx => by
    rcases @relabel_lookup X.env scope.names x with e | ⟨e, _⟩
    · have hx' : scope.names.lookup x = some .cell ∨ scope.names.lookup x = some .free := by rw [← e]; exact hx
      rcases hx' with z | z
      · exact absurd rfl (L.nocell _ (PySem.mem_of_lookup z))
      · exact z
    · exact e
  refine ⟨⟨I.ok.mod, L.kind, I.ok.glob, I.ok.blt, Nat.le_refl _, fun x y c h1 h2 => I.ok.inj x y c (clos_lookup hcs h1) (clos_lookup hcs h2), fun x hx => ?_, fun x c h _ => absurd h (by simp), I.ok.hd, I.ok.frames, .inl rfl, fun b hb => ⟨Nat.ne_of_lt (hlt b hb), fun x c e => (hf b hb).2.2.2.2.1 x c (clos_lookup hcs e)⟩,
    I.bs, Nat.le_trans I.ok.bsz I.sz, fun b o e hb => ?_, fun b hb z => ?_, I.stack, I.stkFree⟩,
    rfl, I.bare, Un.kept hk, ⟨_, hns, fun i x v h1 h2 h3 => ?_⟩, fun x c e => ?_, I.hok.fresh (Nat.le_refl _), fun x c e => I.freeC x c (clos_lookup hcs e), fun p hp => absurd (show p ∈ ([] : List (Addr × Obj)) from hp) (by simp), I.hok.kept hk, ?_⟩
  · obtain ⟨c, e, _⟩ := clos_free hcs (PySem.mem_of_lookup (kinds x hx))
    exact ⟨c, e⟩
  · rcases (hf b hb).2.2.2.1 with z | z
    · exact I.ok.noex b o e z
    · exact absurd (Nat.lt_of_lt_of_le (Heap.lt_size (I.ok.bs b o e).1) z) (Nat.lt_irrefl _)
  · rcases List.mem_cons.mp (I.stkSub b z) with e | e
    · exact (hf b hb).2.1 e
    · exact (hf b hb).2.2.1 e
  · -- a captured name's value stands in its cell
    have hi : own.length ≤ i := by
      by_cases hi : own.length ≤ i
      · exact hi
      · have h2' : (List.replicate own.length none ++ cap.map fun i => σ.getD i none)[i]? = some (some v) := h2
        rw [List.getElem?_append_left (by simp only [List.length_replicate]; lia), List.getElem?_replicate] at h2'
        split at h2' <;> cases h2'
    have h2' : (List.replicate own.length none ++ cap.map fun i => σ.getD i none)[i]? = some (some v) := h2
    rw [List.getElem?_append_right (by simp only [List.length_replicate]; lia), List.length_replicate, List.getElem?_map] at h2'
    have h1' : (own ++ cap.map fun i => N.getD i Str.empty)[i]? = some x := h1
    rw [List.getElem?_append_right hi, List.getElem?_map] at h1'
    cases ec : cap[i - own.length]? with
    | none => rw [ec] at h1'; cases h1'
    | some k =>
      rw [ec] at h1' h2'
      have ex : N.getD k Str.empty = x := Option.some.inj h1'
      have ev : σ.getD k none = some v := Option.some.inj h2'
      obtain ⟨hkl, hfr⟩ := L.cap k (List.mem_of_getElem? ec)
      rw [ex] at hfr
      have hNk : X.N[k]? = some x := by
        rw [hN, List.getElem?_eq_getElem hkl]
        rw [List.getD_eq_getElem?_getD, List.getElem?_eq_getElem hkl] at ex
        exact congrArg some ex
      have hσk : σ[k]? = some (some v) := by
        rw [List.getD_eq_getElem?_getD] at ev
        cases e : σ[k]? with
        | none => rw [e] at ev; cases ev
        | some z => rw [e] at ev; exact congrArg some ev
      have hmem := PySem.mem_of_lookup hfr
      have hkd : X.env.scope.names.lookup x = some .cell ∨ X.env.scope.names.lookup x = some .free := by rw [hsc]; exact L.fr _ hmem rfl
      obtain ⟨m, _, hl⟩ := I.loc
      obtain ⟨u, ru, lk⟩ := hl k x v hNk hσk (.inr hkd)
      obtain ⟨c, e1, e2⟩ := clos_free hcs hmem
      rcases lk with ⟨z, _⟩ | ⟨_, c', e3, z⟩
      · have z' : X.env.scope.names.lookup x = some .local := z
        rcases hkd with q | q <;> (rw [q] at z'; cases z')
      · rw [e2] at e3; cases e3
        refine ⟨u, ru, .inr ⟨?_, c, e1, ?_⟩⟩
        · show (relabel scope X.env).names.lookup x = _ ∨ (relabel scope X.env).names.lookup x = _
          rcases @relabel_lookup X.env scope.names x with q | ⟨_, q⟩
          · exact .inr (q.trans hfr)
          · exact .inl q
        · obtain ⟨o, ho, hd⟩ := z
          exact ⟨o, hk _ _ ho, hd⟩
  · obtain ⟨v, o, ho, hd⟩ := I.cell x c (clos_lookup hcs e)
    exact ⟨v, o, hk _ _ ho, hd⟩
  · show (List.replicate own.length none ++ cap.map fun i => σ.getD i none).length = (own ++ cap.map fun i => N.getD i Str.empty).length
    simp only [List.length_append, List.length_replicate, List.length_map]
theorem lc_back {N' : List Str} {cl : List (Str × Addr)} {C : Addr} {σ' : St} {H' : Hp} {s' : Shared} {pins' : List (Addr × Obj)} (I : Inv X pins σ H s) (hf : ∀ b ∈ fp, FpOk X pins H b) (J : Inv (cxLc X N' scope cl C s H fp) pins' σ' H' s') : Inv X pins σ H' s' :=
  I.call' (ch := fp) J.os J.base J.hok J.bare fun b hb => ⟨(hf b hb).2.2.2.1, (hf b hb).2.1, (hf b hb).2.2.2.2.1, (hf b hb).2.2.2.2.2⟩
end
noncomputable def PIf (X : Cx) (ifs : List Expr) (tc : TT) : Prop :=
  ∀ (pins : List (Addr × Obj)) (s : Shared) (σ : St) (H : Hp) (Q : Bool → Hp → Prop), Inv X pins σ H s → tc σ H Q →
    wpAny (model X.prog X.w) X.A (forIn ifs true fun c r => if r = true then do let ok ← isTrue c X.env (eval c X.env); pure (ForInStep.yield ok) else pure (ForInStep.yield r)) (TP X pins σ Q) X.xe s
noncomputable def tYes : TT := fun _ H Q => Q true H
theorem pif_nil {X : Cx} : PIf X [] tYes := fun _ _ _ H _ I h => wpAny_tests_nil ⟨H, I, h⟩
section
variable {prog : Program} {w : World} {A : Around} {R : Result → Shared → Prop} {s : Shared}
theorem compLoop_gen {elt target iter : Expr} {ifs : List Expr} {scope : Scope} {pos : Pos} {it acc : Value} {env : Env} (I : Nat → Shared → Prop)
    (turn : ∀ n s, I n s → wpAny (model prog w) A (pyNext it) (fun r s₁ => match r with
      | none => R (.ok .next) s₁
      | some v => wpAny (model prog w) A (letOwnedTupleGo target it v) (fun _ s₁' => wpAny (model prog w) A (assign target env v) (fun _ s₂ =>
          wpAny (model prog w) A (forIn ifs true fun c r => if r = true then do let ok ← isTrue c env (eval c env); pure (ForInStep.yield ok) else pure (ForInStep.yield r)) (fun ok s₃ =>
            if ok = true then wpAny (model prog w) A (eval elt env) (fun x s₄ =>
              wpAny (model prog w) A (call (.builtin "list.append") [acc, x]) (fun _ s₅ => ∃ m, m < n ∧ I m s₅) (fun _ _ => False) s₄) (fun _ _ => False) s₃
            else ∃ m, m < n ∧ I m s₃) (fun _ _ => False) s₂) (fun _ _ => False) s₁') (fun _ _ => False) s₁) (fun _ _ => False) s)
    (n : Nat) (h : I n s) :
    codeAny (model prog w) A (.compLoop (.ListComp elt [⟨target, iter, ifs, 0⟩] scope pos) 0 it acc env) R s := by
  refine codeAny_loop rfl I (fun n s hI => ?_) n h
  show wpAny _ A ((compTurn (.ListComp elt [⟨target, iter, ifs, 0⟩] scope pos) 0 it acc env).onRaise (fun x => do noteFrame x env; theTreesLotGoes x)) _ _ s
  refine wpAny_noted ?_
  rw [compTurn_list]
  refine wpAny_bind (wpAny_standAt (wpAny_bind (wpAny_mono (turn n s hI) (fun r s₁ h₁ => ?_) fun _ _ z => False.elim z)))
  cases r with
  | none => exact wpAny_pure h₁
  | some v =>
    refine wpAny_bind (wpAny_mono h₁ (fun _ s₁' h₁' => ?_) fun _ _ z => False.elim z)
    refine wpAny_bind (wpAny_mono h₁' (fun _ s₂ h₂ => wpAny_bind (wpAny_mono h₂ (fun ok s₃ h₃ => ?_) fun _ _ z => False.elim z)) fun _ _ z => False.elim z)
    cases ok with
    | false => exact wpAny_pure ⟨rfl, h₃⟩
    | true =>
      exact wpAny_bind (wpAny_bind (wpAny_mono h₃ (fun x s₄ h₄ => wpAny_bind (wpAny_mono h₄ (fun _ s₅ h₅ => wpAny_pure (wpAny_pure ⟨rfl, h₅⟩)) fun _ _ z => False.elim z)) fun _ _ z => False.elim z))
end
noncomputable def LcExt (own : List Str) (cap : List Nat) (σ σ2 : St) : Prop := ∀ i, own.length ≤ i → σ2[i]? = (lcSt own cap σ)[i]?
theorem lcExt_set {own : List Str} {cap : List Nat} {σ : St} {j : Nat} {v : Option V} (h : j < own.length) : LcExt own cap σ ((lcSt own cap σ).set j v) := fun i hi => List.getElem?_set_ne (by lia)
theorem lcExt_set2 {own : List Str} {cap : List Nat} {σ : St} {j k : Nat} {v w : Option V} (h : j < own.length) (h' : k < own.length) : LcExt own cap σ (((lcSt own cap σ).set j v).set k w) := fun i hi =>
  (List.getElem?_set_ne (by lia)).trans (List.getElem?_set_ne (by lia))
noncomputable def tLcB (own : List Str) (cap : List Nat) (g : TG) (tc : TT) (te : TE) (J : It) (σ : St) (H1 : Hp) (Q : VK) : Prop :=
  ∀ D, H1 D = none → ∃ W : Nat → Nat → List V → Hp → Prop, (∃ m, W 0 m [] (upd H1 D (.lst []))) ∧ ∀ i m ys H, W i m ys H →
    (J.stop i H ∧ Q (.ref D) H) ∨ (J.go i H ∧ ∀ x H', J.yld i H x H' → g x (lcSt own cap σ) H' fun σ2 H2 => LcExt own cap σ σ2 ∧ tc σ2 H2 fun b H3 =>
      if b = true then te σ2 H3 fun y H4 => H4 D = some (.lst ys) ∧ ys.length < sizeLine ∧ ∃ m', m' < m ∧ W (i + 1) m' (ys ++ [y]) (upd H4 D (.lst (ys ++ [y]))) else ∃ m', m' < m ∧ W (i + 1) m' ys H3)
section
variable {X : Cx} {N own : List Str} {cap : List Nat} {sc scope : Scope} {elt tg iter : Expr} {ifs : List Expr} {pos : Pos} {g : TG} {tc : TT} {te : TE}
theorem lc_block (L : LcSc N sc own cap scope) (hN : X.N = N) (hsc : X.env.scope = sc) (hc : X.calm = true)
    (hg : ∀ cl C s H fp, PG (cxLc X (lcN N own cap) scope cl C s H fp) tg g) (hi : ∀ cl C s H fp, PIf (cxLc X (lcN N own cap) scope cl C s H fp) ifs tc) (he : ∀ cl C s H fp, PE (cxLc X (lcN N own cap) scope cl C s H fp) elt te)
    {pins : List (Addr × Obj)} {σ : St} {H : Hp} {s : Shared} {it : Addr} {fp : List Addr} {tn : Nat → Heap → Prop} {J : It} {Q : VK} {E : Value → Shared → Prop} {RR : Value → Addr → Result → Shared → Prop}
    (I : Inv X pins σ H s) (T : Turn X.prog X.w X.K tg J fp it tn) (st : tn 0 s.heap) (hf : ∀ b ∈ fp, FpOk X pins H b) (q : tLcB own cap g tc te J σ H Q)
    (fin : ∀ D C H' s' m, Inv X pins σ H' s' → FpOk X pins H' C → s'.heap.Ns C m → Q (.ref D) H' → RR (.ref D) C (.ok .next) s') :
    wpAny (model X.prog X.w) X.A (newList []) (fun acc s₃ => wpAny (model X.prog X.w) X.A (newFunctionEnv scope X.env.globals (clos X.env scope.names) [] X.env.qual none .none (some X.env)) (fun cenv s₄ =>
      codeAny (model X.prog X.w) X.A (.compStart (.ListComp elt [⟨tg, iter, ifs, 0⟩] scope pos) 0 (.ref it) acc { cenv with scope := relabel scope X.env }) (RR acc cenv.locals) s₄) E s₃) E s := by
  refine wpAny_newObj_type (wpAny_newFunctionEnv L.nocell (by intro y hy; simp at hy) (fun h₁ hns₁ hsb₁ => ?_) L.kind)
  dsimp only at hns₁ hsb₁ ⊢
  have hD : H s.heap.objs.size = none := I.hok.fresh (Nat.le_refl _)
  obtain ⟨W, ⟨m0, w0⟩, turn⟩ := q _ hD
  have I3 : Inv X pins σ (upd H s.heap.objs.size (.lst [])) { s with heap := s.heap.push { cls := .type "list", data := .seq ([] : List Value).toArray }, toks := s.toks } := I.lnew (its := []) .nil (Nat.zero_le _)
  have ltb : ∀ b ∈ fp, b < s.heap.objs.size := fun b hb => by obtain ⟨o, e, _⟩ := T.obj _ _ st b hb; exact Heap.lt_size e
  have hf3 : ∀ b ∈ fp, FpOk X pins (upd H s.heap.objs.size (.lst [])) b := fun b hb => ⟨by rw [upd_ne (Nat.ne_of_lt (ltb b hb))]; exact (hf b hb).1, (hf b hb).2⟩
  generalize hH2 : s.heap.push { cls := .type "list", dict := none, data := .seq ([] : List Value).toArray } = h2 at hns₁ hsb₁ I3 ⊢
  have hz : h2.objs.size = s.heap.objs.size + 1 := by rw [← hH2, Heap.size_push]
  have kp2 : ∀ b o, h2.get? b = some o → h₁.get? b = some o := fun b o e => hsb₁.extBut b o (Nat.ne_of_lt (Heap.lt_size e)) (Heap.get?_push_of_some _ e)
  have kp1 : ∀ b o, s.heap.get? b = some o → h2.get? b = some o := fun b o e => by rw [← hH2]; exact Heap.get?_push_of_some _ e
  have I4 : Inv (cxLc X (lcN N own cap) scope (clos X.env scope.names) h2.objs.size { s with heap := h2, toks := s.toks } (upd H s.heap.objs.size (.lst [])) fp) [] (lcSt own cap σ) (upd H s.heap.objs.size (.lst [])) { s with heap := h₁, toks := s.toks + ([] : List (Str × Value)).length } :=
    lc_start L hN hsc I3 hf3 (fun b hb => by show b < h2.objs.size; rw [hz]; exact Nat.lt_succ_of_lt (ltb b hb)) hns₁ kp2
  have st4 : tn 0 h₁ := T.keep _ _ _ st fun b _ o e => kp2 b o (kp1 b o e)
  have loop : ∀ s₃ : Shared, s₃ = { s with heap := h₁, toks := s.toks + ([] : List (Str × Value)).length } →
      codeAny (model X.prog X.w) X.A (.compLoop (.ListComp elt [⟨tg, iter, ifs, 0⟩] scope pos) 0 (.ref it) (.ref s.heap.objs.size) (compEnvC scope (clos X.env scope.names) h2.objs.size X.env))
        (RR (.ref s.heap.objs.size) h2.objs.size) s₃ := by
    rintro s₃ rfl
    generalize hX' : cxLc X (lcN N own cap) scope (clos X.env scope.names) h2.objs.size { s with heap := h2, toks := s.toks } (upd H s.heap.objs.size (.lst [])) fp = X' at I4
    have eP : X'.prog = X.prog := by rw [← hX']
    have eA : X'.A = X.A := by rw [← hX']
    have stat : ∀ {H' : Hp} {pl : List (Addr × Obj)} {σ' : St} {s' : Shared}, Inv X' pl σ' H' s' → (∀ b ∈ fp, H' b = none) → pl = [] → ∀ b ∈ fp, FpOk X' pl H' b := fun {H' pl σ' s'} I' hn hp b hb => by
      subst hp
      have hex : b ∈ X'.ex := by rw [← hX']; exact hb
      refine ⟨hn b hb, (I'.ok.exf b hex).1, I'.ok.exfs b hex, .inl hex, (I'.ok.exf b hex).2, fun p hp => ?_⟩
      have hp' : p ∈ X'.pn ++ [] := hp
      rw [← hX'] at hp'
      exact absurd (show p ∈ ([] : List (Addr × Obj)) from hp') (by simp)
    subst hX'
    refine compLoop_gen (fun n s' => ∃ i ys H', Inv (cxLc X (lcN N own cap) scope (clos X.env scope.names) h2.objs.size { s with heap := h2, toks := s.toks } (upd H s.heap.objs.size (.lst [])) fp) [] (lcSt own cap σ) H' s' ∧ tn i s'.heap ∧ (∀ b ∈ fp, H' b = none) ∧ W i n ys H') ?_ m0
      ⟨0, [], _, I4, st4, fun b hb => (hf3 b hb).1, w0⟩
    rintro n s3 ⟨i, ys, H3, I3', st3, fr3, w3⟩
    rcases turn i n ys H3 w3 with ⟨stop, qn⟩ | ⟨go, step⟩
    · refine thn (T.done (cxLc X (lcN N own cap) scope (clos X.env scope.names) h2.objs.size { s with heap := h2, toks := s.toks } (upd H s.heap.objs.size (.lst [])) fp) rfl rfl rfl hc i [] s3 _ H3 (fun _ _ => False) I3' (stat I3' fr3 rfl) st3 stop) fun r s4 zz0 => ?_
      obtain ⟨hr, I4'⟩ := zz0
      subst hr
      obtain ⟨m', hm', _⟩ := I4'.loc
      exact fin _ _ H3 s4 m' (lc_back I3 hf3 I4') (I3.fpOk (Nat.le_refl _) I4'.free) hm' qn
    · refine thn (T.item (cxLc X (lcN N own cap) scope (clos X.env scope.names) h2.objs.size { s with heap := h2, toks := s.toks } (upd H s.heap.objs.size (.lst [])) fp) rfl rfl rfl hc i [] s3 _ H3 (fun _ _ => False) I3' (stat I3' fr3 rfl) st3 go) fun r s4 zz0 => ?_
      obtain ⟨u, hr, h4⟩ := zz0
      subst hr
      refine thn h4 fun _ s5 zz0 => ?_
      obtain ⟨x, H5, I5, r5, y5, st5, fr5⟩ := zz0
      have I5' := I5.pinned (stat I5 fr5 rfl) (T.obj _ _ st5)
      have pk : ∀ {σ7 : St} {H7 : Hp} {s7 : Shared}, Inv (cxLc X (lcN N own cap) scope (clos X.env scope.names) h2.objs.size { s with heap := h2, toks := s.toks } (upd H s.heap.objs.size (.lst [])) fp) ([] ++ pinsAt fp s5.heap) σ7 H7 s7 → tn (i + 1) s7.heap ∧ ∀ b ∈ fp, H7 b = none := fun {σ7 H7 s7} I7 =>
        ⟨T.keep _ _ _ st5 fun b hb o e => (I7.pin (b, o) (List.mem_append_right _ (List.mem_append_right _ (mem_pinsAt hb e)))).1, fun b hb => by
          obtain ⟨o, e, d⟩ := T.obj _ _ st5 b hb
          exact (I7.pin (b, o) (List.mem_append_right _ (List.mem_append_right _ (mem_pinsAt hb e)))).2.1⟩
      have wk : ∀ {σ7 : St} {H7 : Hp} {s7 : Shared}, LcExt own cap σ σ7 → Inv (cxLc X (lcN N own cap) scope (clos X.env scope.names) h2.objs.size { s with heap := h2, toks := s.toks } (upd H s.heap.objs.size (.lst [])) fp) ([] ++ pinsAt fp s5.heap) σ7 H7 s7 →
          Inv (cxLc X (lcN N own cap) scope (clos X.env scope.names) h2.objs.size { s with heap := h2, toks := s.toks } (upd H s.heap.objs.size (.lst [])) fp) [] (lcSt own cap σ) H7 s7 := fun {σ7 H7 s7} ext I7 =>
        Inv.weak I7.unpinned (by rw [I7.len, I5.len]) fun j v e => by
          have hj : own.length ≤ j := by
            by_cases hj : own.length ≤ j
            · exact hj
            · have e' : (List.replicate own.length none ++ cap.map fun i => σ.getD i none)[j]? = some (some v) := e
              rw [List.getElem?_append_left (by simp only [List.length_replicate]; lia), List.getElem?_replicate] at e'
              split at e' <;> cases e'
          rw [ext j hj]
          exact e
      refine thn (hg _ _ _ _ _ _ s5 _ H5 x u _ I5' r5 (step x H5 y5)) fun _ s6 zz0 => ?_
      obtain ⟨σ6, H6, I6, ext, q6⟩ := zz0
      refine thn (hi _ _ _ _ _ _ s6 σ6 H6 _ I6 q6) fun ok s7 zz0 => ?_
      obtain ⟨H7, I7, q7⟩ := zz0
      cases ok with
      | false =>
        rw [if_neg Bool.false_ne_true] at q7 ⊢
        obtain ⟨m', hm, w7⟩ := q7
        exact ⟨m', hm, i + 1, ys, H7, wk ext I7, (pk I7).1, (pk I7).2, w7⟩
      | true =>
        rw [if_pos rfl] at q7 ⊢
        refine thn (he _ _ _ _ _ _ s7 σ6 H7 _ I7 q7) fun y s8 zz0 => ?_
        obtain ⟨yv, H8, I8, r8, hl8, hz8, m', hm, w8⟩ := zz0
        refine thn (mt_append _ s8 σ6 H8 (.ref s.heap.objs.size) [yv] _ [y] (fun v H' => v = .non ∧ H' = upd H8 s.heap.objs.size (.lst (ys ++ [yv]))) I8 rfl (.cons r8 .nil) ⟨_, ys, yv, rfl, rfl, hl8, hz8, rfl, rfl⟩) fun _ s9 zz0 => ?_
        obtain ⟨v9, H9, I9, _, _, e9⟩ := zz0
        subst e9
        exact ⟨m', hm, i + 1, ys ++ [yv], _, wk ext I9, (pk I9).1, (pk I9).2, w8⟩
  exact codeAny_compStart_list (loop _ rfl) (T.self X.A 0 _ _ _ st4 (loop _ rfl))
noncomputable def tLc (own : List Str) (cap : List Nat) (wi : TI) (g : TG) (tc : TT) (te : TE) : TE := fun σ H Q => wi σ H fun J H1 => tLcB own cap g tc te J σ H1 Q
theorem pe_lc {wi : TI} (L : LcSc N sc own cap scope) (hp : PI X tg iter wi)
    (hg : ∀ cl C s H fp, PG (cxLc X (lcN N own cap) scope cl C s H fp) tg g) (hi : ∀ cl C s H fp, PIf (cxLc X (lcN N own cap) scope cl C s H fp) ifs tc) (he : ∀ cl C s H fp, PE (cxLc X (lcN N own cap) scope cl C s H fp) elt te)
    (hN : X.N = N := by rfl) (hsc : X.env.scope = sc := by rfl) (hc : X.calm = true := by rfl) (hs : ∀ x, foldedSetIterable iter X.env x = pure x := by intro _; rfl) :
    PE X (.ListComp elt [⟨tg, iter, ifs, 0⟩] scope pos) (tLc own cap wi g tc te) := by
  intro pins s σ H Q I h
  rw [eval_ListComp]
  refine wpAny_comprehension_free (use := none) rfl hs (closureFor_clos (L.cells hsc I.ok)) L.kind L.loc (thn (hp pins s σ H _ I h) fun v s1 h1 => thn h1 fun itv s2 h2 => ?_)
  obtain ⟨it, fp, tn, J, H2, e, I2, T, st2, f2, q2⟩ := h2
  subst e
  refine lc_block (RR := fun acc C => compPost (model X.prog X.w) X.A X.xe none (EP X pins σ Q) acc C) L hN hsc hc hg hi he I2 T st2 f2 q2 ?_
  intro D C H' s' m J' fC hm q
  refine ⟨m, hm, fun h' sb => ⟨.ref D, H', ?_, rfl, q⟩⟩
  exact J'.turned (t' := s'.toks) (it := C) (fun b o hb e => (sb.2 b hb).trans e) fC.1 fC.2.1 fC.2.2.2.1 fC.2.2.2.2.1 fC.2.2.2.2.2
theorem ps_set_lc {wi : TI} {i : Nat} {x : Str} {pos' spos : Pos} (hNd : X.N.Nodup) (hix : X.N[i]? = some x) (hx : X.env.scope.names.lookup x = some .local) (L : LcSc N sc own cap scope) (hp : PI X tg iter wi)
    (hg : ∀ cl C s H fp, PG (cxLc X (lcN N own cap) scope cl C s H fp) tg g) (hi : ∀ cl C s H fp, PIf (cxLc X (lcN N own cap) scope cl C s H fp) ifs tc) (he : ∀ cl C s H fp, PE (cxLc X (lcN N own cap) scope cl C s H fp) elt te)
    (hN : X.N = N := by rfl) (hsc : X.env.scope = sc := by rfl) (hc : X.calm = true := by rfl) (hs : ∀ x, foldedSetIterable iter X.env x = pure x := by intro _; rfl)
    (hsw : swapsWith (.ListComp elt [⟨tg, iter, ifs, 0⟩] scope pos) (some (.Name x pos')) spos.line X.env = pure true := by rfl) :
    PS X (.Assign [.Name x pos'] (.ListComp elt [⟨tg, iter, ifs, 0⟩] scope pos) spos) (tAsg (tLc own cap wi g tc te) (gName i)) := by
  intro pins s σ H D I h
  rw [exec_Assign_Name_used _ _ _ _ hsw]
  refine wpAny_bind (wpAny_standAt (wpAny_bind ?_))
  show wpAny _ X.A (do let _ ← comprehension (.ListComp elt [⟨tg, iter, ifs, 0⟩] scope pos) scope X.env _ (newList []) false (eval iter X.env) (some (assign (.Name x pos') X.env))) _ _ s
  refine wpAny_bind (thn (wpAny_comprehension_free (use := some (assign (.Name x pos') X.env)) (Q := fun _ s' => SP X pins D .next s') rfl hs (closureFor_clos (L.cells hsc I.ok)) L.kind L.loc (thn (hp pins s σ H _ I h) fun v s1 h1 => thn h1 fun itv s2 h2 => ?_)) fun _ s' hq => wpAny_pure (wpAny_pure hq))
  obtain ⟨it, fp, tn, J, H2, e, I2, T, st2, f2, q2⟩ := h2
  subst e
  refine lc_block (RR := fun acc C => compPost (model X.prog X.w) X.A X.xe (some (assign (.Name x pos') X.env)) (fun _ s' => SP X pins D .next s') acc C) L hN hsc hc hg hi he I2 T st2 f2 q2 ?_
  intro D' C H' s' m J' fC hm q
  show wpAny _ X.A (assign (.Name x pos') X.env (.ref D')) _ _ s'
  refine wpAny_assign_Name (store_ok2 (v := .ref D') J' hNd hix (.inl hx) rfl (fun s'' I'' chg => ?_) (.inr hx))
  obtain ⟨a, sb, ha⟩ := chg
  have hCa : C ≠ a := by
    rcases ha with e | e
    · rw [e]; exact fC.2.1
    · exact fun z => fC.2.2.2.2.1 x a e z.symm
  refine ⟨m, hm.sameBut sb hCa, fun h' sb' => ⟨_, H', ?_, q⟩⟩
  exact I''.turned (t' := s''.toks) (it := C) (fun b o hb e => (sb'.2 b hb).trans e) fC.1 fC.2.1 fC.2.2.2.1 fC.2.2.2.2.1 fC.2.2.2.2.2
end
end L2
namespace L2
open PySem PySem.Spec PyProof.Rows
noncomputable def tx (l : List Nat) : Str := ⟨l.toArray⟩
theorem tx_toList (l : List Nat) : (tx l).cps.toList = l := rfl
theorem tx_len (l : List Nat) : (tx l).length = l.length := by simp [tx, Str.length]
theorem tx_size (l : List Nat) : (tx l).cps.size = l.length := by simp [tx]
theorem tx_inj {a b : List Nat} (h : tx a = tx b) : a = b := by
  have := congrArg (fun x : Str => x.cps.toList) h
  simpa [tx] using this
theorem tx_of (x : Str) : tx x.cps.toList = x := by
  cases x; simp [tx]
theorem tx_app (a b : List Nat) : tx a ++ tx b = tx (a ++ b) := by
  show (⟨(tx a).cps ++ (tx b).cps⟩ : Str) = _
  simp [tx]
theorem dec_tx {a b : List Nat} : decide (V.str (tx a) = V.str (tx b)) = decide (a = b) := by
  refine decide_eq_decide.mpr ⟨fun h => tx_inj (by injection h), fun h => by rw [h]⟩
noncomputable def cutL (l : List Nat) (lo hi : Option Int) : List Nat := (l.drop (HT.sIx l.length 0 lo)).take (HT.sIx l.length l.length hi - HT.sIx l.length 0 lo)
theorem cutL_length (l : List Nat) (lo hi : Option Int) : (cutL l lo hi).length ≤ l.length := by
  unfold cutL
  rw [List.length_take, List.length_drop]
  lia
theorem cutL_to (l : List Nat) (k : Nat) : cutL l none (some (k : Int)) = l.take k := by
  unfold cutL
  rw [HT.sIx_none, HT.sIx_nat, List.drop_zero, Nat.sub_zero]
  by_cases h : k ≤ l.length
  · rw [Nat.min_eq_left h]
  · rw [Nat.min_eq_right (by lia), List.take_length, List.take_of_length_le (by lia)]
theorem cutL_from (l : List Nat) (k : Nat) : cutL l (some (k : Int)) none = l.drop k := by
  unfold cutL
  rw [HT.sIx_none, HT.sIx_nat]
  by_cases h : k ≤ l.length
  · rw [Nat.min_eq_left h, List.take_of_length_le (by rw [List.length_drop]; lia)]
  · rw [Nat.min_eq_right (by lia), Nat.sub_self, List.take_zero, List.drop_of_length_le (by lia)]
theorem strSliceIndices_one (lo hi : Option Int) (n : Nat) : Builtin.Str.strSliceIndices lo hi 1 n = (List.range (HT.sIx n n hi - HT.sIx n 0 lo)).map (HT.sIx n 0 lo + ·) := by
  rw [← sliceRange_one]
  unfold Builtin.Str.strSliceIndices
  simp only [show (1 : Int) > 0 by decide, if_true]
  congr 1
  · cases lo with
    | none => rfl
    | some i =>
      show max 0 (min (if i < 0 then i + (n : Int) else i) (n : Int)) = (((if i < 0 then (i + (n : Int)).toNat else min i.toNat n) : Nat) : Int)
      by_cases h : i < 0
      · simp only [if_pos h]; lia
      · simp only [if_neg h]; lia
  · cases hi with
    | none => rfl
    | some i =>
      show max 0 (min (if i < 0 then i + (n : Int) else i) (n : Int)) = (((if i < 0 then (i + (n : Int)).toNat else min i.toNat n) : Nat) : Int)
      by_cases h : i < 0
      · simp only [if_pos h]; lia
      · simp only [if_neg h]; lia
theorem picked_cut (l : List Nat) (lo hi : Option Int) : (Builtin.Str.strSliceIndices lo hi 1 (tx l).length).filterMap ((tx l).cps[·]?) = cutL l lo hi := by
  rw [strSliceIndices_one, tx_len, pick_run, tx_toList]
  rfl
noncomputable def rSlS : V → Option Int → Option Int → Hp → VK → Prop := fun x lo hi H Q => ∃ l, x = .str (tx l) ∧ l.length ≤ sizeLine ∧ Q (.str (tx (cutL l lo hi))) H
section
variable {X : Cx}
theorem isPart_of {v : Value} {o : Option Int} (p : IsPart v o) : ∃ q : Option (Int × Tok), v = partValue q ∧ q.map (·.1) = o := by
  cases p with
  | none => exact ⟨none, rfl, rfl⟩
  | int i t => exact ⟨some (i, t), rfl, rfl⟩
theorem sl_str : SlR X rSlS := by
  intro pins s σ H x v vl vu lo hi sl Q I rx hs pl pu h
  obtain ⟨l, rfl, hz, q⟩ := h
  obtain ⟨t, rfl⟩ := rx
  obtain ⟨ql, rfl, el⟩ := isPart_of pl
  obtain ⟨qu, rfl, eu⟩ := isPart_of pu
  refine ⟨"str", _, slot_str_getitem.lookup, typeIs_str s (tx l) t, ?_⟩
  obtain ⟨o, ho, hc, hd⟩ := hs
  refine wpAny_getItem_str_slice (l := ql) (u := qu) (st := none) ⟨o, ho, hc, hd⟩ rfl ?_
  have pk : slicePicked (tx l) ql qu none = Builtin.Str.strSliceIndices lo hi 1 (tx l).length := by
    unfold slicePicked
    rw [el, eu]
    rfl
  unfold sliceMade
  rw [pk]
  have pc := picked_cut l lo hi
  split
  · rename_i hw
    have hw2 : (Builtin.Str.strSliceIndices lo hi 1 (tx l).length).length = (tx l).length := by
      simp only [Bool.and_eq_true] at hw
      simpa using hw.2
    have e : cutL l lo hi = l := by
      rw [strSliceIndices_one, List.length_map, List.length_range, tx_len] at hw2
      have h1 := HT.sIx_le l.length 0 (Nat.zero_le _) lo
      have h2 := HT.sIx_le l.length l.length (Nat.le_refl _) hi
      unfold cutL
      have e1 : HT.sIx l.length 0 lo = 0 ∨ l.length = 0 := by lia
      rcases e1 with e1 | e1
      · rw [e1, List.drop_zero, List.take_of_length_le (by lia)]
      · have : l = [] := List.length_eq_zero_iff.mp e1
        subst this
        simp
    exact ⟨.str (tx l), H, I, ⟨t, rfl⟩, by rw [e] at q; exact q⟩
  · rw [pc]
    refine ⟨?_, ?_⟩
    · show (tx (cutL l lo hi)).length ≤ sizeLine
      rw [tx_len]
      exact Nat.le_trans (cutL_length l lo hi) hz
    · exact ⟨.str (tx (cutL l lo hi)), H, I.tok _, ⟨_, rfl⟩, q⟩
theorem op_add_tx : OpR X (binaryOp .Add) (fun x y H Q => ∃ a b, x = .str (tx a) ∧ y = .str (tx b) ∧ a.length + b.length ≤ sizeLine ∧ Q (.str (tx (a ++ b))) H) := by
  intro pins s σ H x y v u Q I rx ry h
  obtain ⟨a, b, rfl, rfl, hz, q⟩ := h
  exact op_add_str pins s σ H _ _ v u Q I rx ry ⟨_, _, rfl, rfl, by rw [tx_len, tx_len]; exact hz, by rw [tx_app]; exact q⟩
noncomputable def repL (n : Int) (l : List Nat) : List Nat := (List.replicate n.toNat l).flatten
theorem foldl_repA (c : Array Nat) : ∀ (k : Nat) (acc : Array Nat), List.foldl (fun x1 x2 => x1 ++ x2) acc (List.replicate k c) = (acc.toList ++ (List.replicate k c.toList).flatten).toArray
  | 0, acc => by simp
  | k + 1, acc => by
    rw [List.replicate_succ, List.foldl_cons, foldl_repA c k (acc ++ c), List.replicate_succ, List.flatten_cons]
    simp
theorem op_mul_tx : OpR X (binaryOp .Mult) (fun x y H Q => ∃ l n, x = .str (tx l) ∧ y = .int n ∧ -(2 ^ 62) < n ∧ n < 2 ^ 62 ∧ l.length * n.toNat ≤ sizeLine ∧ Q (.str (tx (repL n l))) H) := by
  intro pins s σ H x y v u Q I rx ry h
  obtain ⟨l, n, rfl, rfl, h1, h2, hz, q⟩ := h
  obtain ⟨t, rfl⟩ := rx
  obtain ⟨t', rfl⟩ := ry
  have hs : sizeLine = 16777216 := sizeLine_eq
  refine PySem.P.mul_str ?_ ?_ ?_ ?_
  · rw [decide_eq_false (by lia), decide_eq_false (by lia)]; rfl
  · intro hn _ hgt
    rw [tx_len] at hgt
    have hp : 0 < n := by lia
    have : (l.length : Int) * n ≤ 16777216 := by
      have e : ((l.length * n.toNat : Nat) : Int) = (l.length : Int) * n := by
        rw [Int.natCast_mul, Int.toNat_of_nonneg (by lia)]
      rw [← e]
      lia
    have h3 : (2 ^ 63 - 1) / n < (l.length : Int) := hgt
    have h4 : (2 ^ 63 - 1 : Int) < (l.length : Int) * n := Int.lt_mul_of_ediv_lt hp h3
    lia
  · intro _ _
    rw [tx_len]
    unfold Builtin.Str.tooLong
    exact decide_eq_false (by lia)
  · by_cases hn : n < 1
    · rw [if_pos hn]
      have e : repL n l = [] := by
        unfold repL
        rw [Int.toNat_of_nonpos (by lia)]
        rfl
      rw [e] at q
      exact ⟨by decide, .str (tx []), H, I.tok _, ⟨_, rfl⟩, q⟩
    · rw [if_neg hn]
      split
      · rename_i hw
        have e : repL n l = l := by
          unfold repL
          rw [Bool.or_eq_true] at hw
          rcases hw with hw | hw
          · have : n = 1 := by simpa using hw
            subst this
            simp
          · rw [tx_len] at hw
            have : l = [] := List.length_eq_zero_iff.mp (by simpa using hw)
            subst this
            simp
        rw [e] at q
        exact ⟨.str (tx l), H, I, ⟨_, rfl⟩, q⟩
      · have e : (⟨(List.replicate n.toNat (tx l).cps).foldl (· ++ ·) #[]⟩ : Str) = tx (repL n l) := by
          rw [foldl_repA, tx_toList]
          simp [tx, repL]
        rw [e]
        refine ⟨?_, .str (tx (repL n l)), H, I.tok _, ⟨_, rfl⟩, q⟩
        rw [tx_len]
        unfold repL
        rw [len_rep, Nat.mul_comm]
        exact hz
theorem glued_nil (ls : List (List Nat)) : Txt.join (tx []) (ls.map tx) = tx ls.flatten := by
  show (⟨((ls.map tx).drop 1).foldl (fun acc p => acc ++ (tx []).cps ++ p.cps) ((ls.map tx).headD Str.empty).cps⟩ : Str) = _
  have key : ∀ (r : List (List Nat)) (acc : Array Nat), (r.map tx).foldl (fun acc p => acc ++ (tx []).cps ++ p.cps) acc = (acc.toList ++ r.flatten).toArray := by
    intro r
    induction r with
    | nil => intro acc; simp
    | cons a r ih =>
      intro acc
      rw [List.map_cons, List.foldl_cons, ih]
      simp [tx]
  cases ls with
  | nil => rfl
  | cons a r =>
    rw [List.map_cons, List.drop_one, List.tail_cons, key]
    simp [tx]
theorem strsAre_of : ∀ {ls : List (List Nat)} {us : List Value}, Vals (ls.map fun l => V.str (tx l)) us → StrsAre us (ls.map tx)
  | [], us, r => by rw [List.map_nil] at r; cases r; exact .nil
  | l :: ls, us, r => by
    rw [List.map_cons] at r
    cases r with
    | cons r1 r2 =>
      obtain ⟨t, e⟩ := r1
      subst e
      exact .cons _ t (strsAre_of r2)
noncomputable def rJoin (K : PySem.W.Frag) : V → List V → Hp → VK → Prop := fun x vs H Q => ∃ (p : Addr) (ls : List (List Nat)), x = .str (tx []) ∧ vs = [.ref p] ∧ SqL K H p (ls.map fun l => V.str (tx l)) ∧ ls.flatten.length ≤ sizeLine ∧ Q (.str (tx ls.flatten)) H
theorem sum_len (ls : List (List Nat)) : ((ls.map tx).map (·.length)).sum = ls.flatten.length := by
  induction ls with
  | nil => rfl
  | cons a r ih =>
    rw [List.map_cons, List.map_cons, List.sum_cons, ih, List.flatten_cons, List.length_append, tx_len]
theorem mt_join : MtR X "str.join" (rJoin X.K) := by
  intro pins s σ H x vs v us Q I rx rv h
  obtain ⟨p, ls, rfl, rfl, hq, hz, q⟩ := h
  obtain ⟨t, rfl⟩ := rx
  obtain ⟨u, rfl, ru⟩ := vals1 rv
  cases ru
  obtain ⟨its, r, pl, hl⟩ := I.list hq
  have hs : sizeLine = 16777216 := sizeLine_eq
  refine join_list pl.isList (by simpa using strsAre_of r) ?_ fun t' k => ?_
  · rw [sum_len, tx_len]
    simp only [List.length_nil, Nat.mul_zero, Nat.add_zero]
    lia
  · rw [glued_nil]
    exact ⟨.str (tx ls.flatten), H, I.tok _, ⟨_, rfl⟩, q⟩
theorem call_len_tx : CallR X (.builtin "len") (fun xs H Q => ∃ l, xs = [.str (tx l)] ∧ l.length ≤ sizeLine ∧ Q (.int l.length) H) := by
  intro pins s σ H xs us Q I r h
  obtain ⟨l, rfl, hz, q⟩ := h
  exact call_len_str pins s σ H _ us Q I r ⟨_, rfl, by rw [tx_len]; exact hz, by rw [tx_len]; exact q⟩
noncomputable def rIxX : R2 := fun x y H Q => ∃ l k c, x = .str (tx l) ∧ y = .int ((k : Nat) : Int) ∧ l.length ≤ sizeLine ∧ l[k]? = some c ∧ Q (.str (tx [c])) H
theorem ix_tx : IxR X rIxX := by
  intro value slice pins s σ H x y v u Q I rx ry h hs
  obtain ⟨l, k, c, rfl, rfl, hz, hc, q⟩ := h
  exact ix_str value slice pins s σ H _ _ v u Q I rx ry ⟨tx l, _, c, rfl, rfl, by rw [tx_len]; exact hz, atI_nat (by rw [tx_toList]; exact hc), q⟩ hs
end
end L2
namespace L2
open PySem PySem.Spec PyProof.Rows
noncomputable def Itc (l : List Nat) : It := ⟨fun i _ => i < l.length, fun i H x H' => H' = H ∧ ∃ c, l[i]? = some c ∧ x = .str (tx [c]), fun i _ => l.length ≤ i⟩
theorem strIter_cases (x : Str) : strIterType x = "str_ascii_iterator" ∨ strIterType x = "str_iterator" := by
  unfold strIterType
  split
  · exact .inl rfl
  · exact .inr rfl
theorem turn_str {P : Program} {w : World} {K : PySem.W.Frag} {tg : Expr} (it : Addr) (l : List Nat) (t : Tok) (ty : String) (hty : ty = "str_ascii_iterator" ∨ ty = "str_iterator") : Turn P w K tg (Itc l) [it] it (fun i h => h.IsStrIter it ty (tx l) t i) where
  mem := by simp
  obj := fun i h st b hb => by
    have e : b = it := by simpa using hb
    subst e
    obtain ⟨o, e, c, d⟩ := st
    exact ⟨o, e, fun v z => by rw [d] at z; cases z⟩
  keep := fun i h h' st k => by
    obtain ⟨o, e, r⟩ := st
    exact ⟨o, k it (by simp) o e, r⟩
  item := by
    intro X hP hw hK hc i pins s σ H E I hf st hg
    subst hP hw hK
    obtain ⟨f0, f1, f2, f3, f4, f5⟩ := hf it (by simp)
    have hgl : i < l.length := hg
    have hx : (tx l).cps[i]? = some l[i] := by simp [tx, hgl]
    have fin : ∀ h' : Heap, h'.IsStrIter it ty (tx l) t (i + 1) → Heap.SameBut it s.heap h' → ∃ u, some (Value.str ⟨#[l[i]]⟩ s.toks) = some u ∧
        wpAny (model X.prog X.w) X.A (letOwnedTupleGo tg (.ref it) u) (fun _ s2 => ∃ x H', Inv X pins σ H' s2 ∧ RelV x u ∧ (Itc l).yld i H x H' ∧ s2.heap.IsStrIter it ty (tx l) t (i + 1) ∧ ∀ b ∈ [it], H' b = none) E { s with heap := h', toks := s.toks + 1 } := fun h' st' sb => by
      have I1 : Inv X pins σ H { s with heap := h', toks := s.toks + 1 } := I.turned (fun b o hb e => (sb.2 b hb).trans e) f0 f1 f3 f4 f5
      obtain ⟨o, e, c, d⟩ := id st'
      have nn : ["enumerate", "zip", "dict_itemiterator", "dict_reverseitemiterator", "odict_iterator", "itertools.zip_longest", "itertools.pairwise"].contains ty = false := by
        rcases hty with rfl | rfl <;> decide
      exact ⟨_, rfl, go_of (s := { s with heap := h', toks := s.toks + 1 }) e c d nn ⟨.str (tx [l[i]]), H, I1, ⟨s.toks, rfl⟩, ⟨rfl, l[i], by simp [hgl], rfl⟩, st', fun b hb => (hf b hb).1⟩⟩
    rcases hty with rfl | rfl
    · exact wpAny_pyNext_ascii_item st hx fin
    · exact wpAny_pyNext_wide_item st hx fin
  done := by
    intro X hP hw hK hc i pins s σ H E I hf st hg
    subst hP hw hK
    obtain ⟨f0, f1, f2, f3, f4, f5⟩ := hf it (by simp)
    have hgl : l.length ≤ i := hg
    have hx : (tx l).cps[i]? = none := by simp [tx, hgl]
    rcases hty with rfl | rfl
    · exact wpAny_pyNext_ascii_end (I.ok.hd hc) st hx fun h' eb => ⟨rfl, I.turned (t' := s.toks) (fun b o hb e => eb b o hb e) f0 f1 f3 f4 f5⟩
    · exact wpAny_pyNext_wide_end (I.ok.hd hc) st hx fun h' eb => ⟨rfl, I.turned (t' := s.toks) (fun b o hb e => eb b o hb e) f0 f1 f3 f4 f5⟩
  self := fun A i s Q E st h => by
    rcases hty with rfl | rfl
    · exact wpAny_pyIter_striter_ascii st h
    · exact wpAny_pyIter_striter_wide st h
section
variable {X : Cx} {tg : Expr}
noncomputable def iStr (te : TE) : TI := fun σ H R => te σ H fun x H1 => ∃ l, x = .str (tx l) ∧ R (Itc l) H1
theorem pi_str {e : Expr} {te : TE} (he : PE X e te) : PI X tg e (iStr te) := by
  intro pins s σ H R I h
  refine thn (he pins s σ H _ I h) fun v s1 zz0 => ?_
  obtain ⟨x, H1, I1, r1, q1⟩ := zz0
  obtain ⟨l, rfl, q⟩ := q1
  obtain ⟨t, rfl⟩ := r1
  refine wpAny_pyIter_strU ?_
  refine ⟨s1.heap.objs.size, [s1.heap.objs.size], _, _, H1, rfl, I1.kept (t' := s1.toks) fun b o e => Heap.get?_push_of_some _ e, turn_str _ l t (strIterType (tx l)) (strIter_cases _), ⟨_, Heap.get?_push_size _ rfl, rfl, rfl⟩, fun b hb => ?_, q⟩
  have e : b = s1.heap.objs.size := by simpa using hb
  subst e
  exact I1.fpOk (Nat.le_refl _) (I1.hok.fresh (Nat.le_refl _))
end
theorem for_str {l : List Nat} {g : TG} {tb : TS} {D : Ends} {σ : St} {H : Hp} (Pv : Nat → St → Hp → Prop) (h0 : Pv 0 σ H)
    (hs : ∀ i c σ H, l[i]? = some c → Pv i σ H → g (.str (tx [c])) σ H fun σ2 H2 => tb { D with nx := Pv (i + 1), ct := Pv (i + 1), bk := D.nx } σ2 H2) (hd : ∀ σ H, Pv l.length σ H → D.nx σ H) :
    ∃ W : Nat → Nat → St → Hp → Prop, (∃ m, W 0 m σ H) ∧ ∀ i m σ H, W i m σ H →
      ((Itc l).stop i H ∧ D.nx σ H) ∨ ((Itc l).go i H ∧ ∃ N : St → Hp → Prop, (∀ σ' H', N σ' H' → ∃ m', m' < m ∧ W (i + 1) m' σ' H') ∧ ∀ x H', (Itc l).yld i H x H' → g x σ H' fun σ2 H2 => tb { D with nx := N, ct := N, bk := D.nx } σ2 H2) := by
  refine ⟨fun i m σ H => m = l.length - i ∧ i ≤ l.length ∧ Pv i σ H, ⟨l.length, by simp, Nat.zero_le _, h0⟩, ?_⟩
  rintro i m σ H ⟨rfl, hi, p⟩
  by_cases hlt : i < l.length
  · refine .inr ⟨hlt, Pv (i + 1), fun σ' H' p' => ⟨l.length - (i + 1), by lia, rfl, hlt, p'⟩, fun x H' y => ?_⟩
    obtain ⟨e, c, hc, ex⟩ := y
    subst e ex
    exact hs i c σ _ hc p
  · have e : i = l.length := by lia
    subst e
    exact .inl ⟨Nat.le_refl _, hd σ H p⟩
section
variable {X : Cx} {pins : List (Addr × Obj)} {σ : St} {H : Hp} {s : Shared} {h' : Heap} {ch : List Addr}
theorem Inv.turnedLaid {t' : Nat} {o : HO} {a : Addr} (I : Inv X pins σ H s) (ha : s.heap.objs.size ≤ a) (k : ∀ b ob, b ∉ ch → s.heap.get? b = some ob → h'.get? b = some ob) (hf : ∀ b ∈ ch, FpOk X pins H b)
    (new : ObjOk X.prog X.w (upd H a o) h' a o) : Inv X pins σ (upd H a o) { s with heap := h', toks := t' } := by
  have hn : H a = none := I.hok.fresh ha
  have nlt : ∀ {b : Addr} {ob : Obj}, s.heap.get? b = some ob → b ≠ a := fun e => Nat.ne_of_lt (Nat.lt_of_lt_of_le (Heap.lt_size e) ha)
  have nch : ∀ b u, H b = some u → b ∉ ch := fun b u e z => by rw [(hf b z).1] at e; cases e
  refine I.step (g' := s.gens) (d' := s.drawn) (ch := ch) (fun b hb => ⟨(hf b hb).2.2.2.1, (hf b hb).2.1, (hf b hb).2.2.2.2.1, (hf b hb).2.2.2.2.2⟩) (fun b ob _ _ hc e _ => k b ob hc e) (fun b ob _ _ hc e _ => ⟨ob.slots, k b ob hc e⟩)
    (fun b ob hc e n => by rw [upd_ne (nlt e)]; exact n) (fun b ob hc e => ⟨ob, k b ob hc e⟩) (fun b xs e => by rw [upd_ne (ne_of_none e hn)]; exact e) (fun b ob u e => by rw [upd_ne (ne_of_none e hn)]; exact e)
    (fun b ps e => ⟨#[], by rw [upd_ne (ne_of_none e hn), e]; simp⟩) (fun m hm => ?_) (fun b u e => ?_) I.bare
  · obtain ⟨ob, es, ep, ho, r⟩ := hm
    exact ⟨ob, es, ep, k _ ob (fun z => (hf _ z).2.1 rfl) ho, r⟩
  · by_cases hb : b = a
    · subst hb; rw [upd_same] at e; cases e; exact new
    · rw [upd_ne hb] at e
      refine (I.hok b u e).stay (fun c v hc q => k c v ?_ q) (fun c q => by rw [upd_ne (ne_of_none q hn)]; exact q) fun c xs q => by rw [upd_ne (ne_of_none q hn)]; exact q
      rcases hc with z | z
      · rw [z]; exact nch b u e
      · exact nch c _ z
end
noncomputable def Ite (K : PySem.W.Frag) (a : Addr) : It :=
  ⟨fun i H => ∃ xs x, SqL K H a xs ∧ xs[i]? = some x, fun i H x H' => ∃ T y, H T = none ∧ (∀ xs, SqL K H a xs → xs[i]? = some y) ∧ x = .ref T ∧ H' = upd H T (.tup [.int i, y]), fun i H => ∃ xs, SqL K H a xs ∧ xs.length ≤ i⟩
theorem turn_enum {P : Program} {w : World} {K : PySem.W.Frag} {elts : List Expr} {x1} {tp : Pos} (e it a : Addr) (hne : e ≠ it) :
    Turn P w K (.Tuple elts x1 tp) (Ite K a) [e, it] e (fun i h => (∃ old, IsEnum h e it i old) ∧ h.IsListIter it a i) where
  mem := by simp
  obj := fun i h st b hb => by
    obtain ⟨⟨old, he⟩, o, ho, hc, hd⟩ := st
    rcases List.mem_cons.mp hb with rfl | hb
    · exact ⟨_, he, fun v z => by
        have z' : Data.fields _ = Data.cell v := z
        cases z'⟩
    · have e' : b = it := by simpa using hb
      subst e'
      exact ⟨o, ho, fun v z => by rw [hd] at z; cases z⟩
  keep := fun i h h' st k => ⟨let ⟨old, he⟩ := st.1; ⟨old, k e (by simp) _ he⟩, st.2.at fun o eo => k it (by simp) o eo⟩
  item := by
    intro X hP hw hK hc i pins s σ H E I hf st hg
    subst hP hw hK
    obtain ⟨xs, x, hq, hx⟩ := hg
    obtain ⟨its, rv, p, hz⟩ := I.list hq
    obtain ⟨u, hu, ru⟩ := rv.get hx
    obtain ⟨⟨old, he⟩, hit⟩ := st
    refine wpAny_pyNext_enum_item he hit p.isList (x := u) (by simpa using hu) hne fun h1 heo hit1 hT hsz hk => ?_
    refine ⟨_, rfl, wpAny_letOwnedTupleGo_enum heo fun h2 he2 sb => ?_⟩
    have elt : e < s.heap.objs.size := Heap.lt_size he
    have hT2 : h2.get? s.heap.objs.size = some { cls := .type "tuple", data := .seq #[.int i s.toks, u] } := (sb.2 _ (Nat.ne_of_gt elt)).trans hT
    have hnT : H s.heap.objs.size = none := I.hok.fresh (Nat.le_refl _)
    refine ⟨.ref s.heap.objs.size, upd H s.heap.objs.size (.tup [.int i, x]), ?_, rfl, ⟨_, x, hnT, fun ys hy => by rw [I.list_inj hy hq]; exact hx, rfl, rfl⟩, ⟨⟨_, by simpa using he2⟩, hit1.at fun o eo => (sb.2 it hne.symm).trans eo⟩, fun b hb => ?_⟩
    · refine I.turnedLaid (ch := [e, it]) (Nat.le_refl _) (fun b ob hb eo => ?_) hf ?_
      · have h1' : b ≠ e := fun z => hb (by simp [z])
        have h2' : b ≠ it := fun z => hb (by simp [z])
        exact (sb.2 b h1').trans (hk b ob h1' h2' eo)
      · exact ⟨by show 2 ≤ sizeLine; decide, [.int i s.toks, u], .cons ⟨_, rfl⟩ (.cons ru .nil), ⟨_, hT2, rfl, _, rfl⟩⟩
    · have hb' := (hf b hb).1
      obtain ⟨o, eo, _⟩ : ∃ o, s.heap.get? b = some o ∧ True := by
        rcases List.mem_cons.mp hb with rfl | hb
        · exact ⟨_, he, trivial⟩
        · have e' : b = it := by simpa using hb
          subst e'
          obtain ⟨o, ho, _⟩ := hit
          exact ⟨o, ho, trivial⟩
      rw [upd_ne (Nat.ne_of_lt (Heap.lt_size eo))]
      exact hb'
  done := by
    intro X hP hw hK hc i pins s σ H E I hf st hg
    subst hP hw hK
    obtain ⟨xs, hq, hx⟩ := hg
    obtain ⟨its, rv, p, hz⟩ := I.list hq
    obtain ⟨⟨old, he⟩, hit⟩ := st
    obtain ⟨f0, f1, f2, f3, f4, f5⟩ := hf it (by simp)
    have hl := rv.length
    exact wpAny_pyNext_enum_end (I.ok.hd hc) he hit p.isList (by simp; lia) fun h' eb => ⟨rfl, I.turned (t' := s.toks) (fun b o hb eo => eb b o hb eo) f0 f1 f3 f4 f5⟩
  self := fun _ _ _ _ _ st h => let ⟨old, he⟩ := st.1; wpAny_pyIter_enum he h
section
variable {X : Cx}
noncomputable def iEnum (K : PySem.W.Frag) (te : TA) : TI := fun σ H R => te σ H fun vs H1 => ∃ a, vs = [.ref a] ∧ (∃ xs, SqL K H1 a xs) ∧ R (Ite K a) H1
theorem pi_enum {elts : List Expr} {x1} {tp p pos : Pos} {e : Expr} {te : TA} (hg : Gl X "enumerate") (hm : X.mg "enumerate" = none) (ha : PA X [e] te) (hs : starEach [e] X.env = [(false, eval e X.env)] := by rfl) :
    PI X (.Tuple elts x1 tp) (.Call (.Name "enumerate" p) [e] [] pos) (iEnum X.K te) := by
  intro pins s σ H R I h
  refine Call_ (ld_blt I hg hm (by decide +kernel : bootBuiltins "enumerate" = some (.type "enumerate")) (PyProof.Rows.callWith_type1 (thn (ha pos pins s σ H _ I h) fun us s1 zz0 => ?_) hs rfl))
  obtain ⟨vs, H1, I1, r1, q1⟩ := zz0
  obtain ⟨a, rfl, ⟨xs, hq⟩, q⟩ := q1
  obtain ⟨u, rfl, ru⟩ := vals1 r1
  cases ru
  obtain ⟨its, rv, pl, hz⟩ := I1.list hq
  refine call_enumerate_list pl.isList fun h' he hit hsz hk => ?_
  refine wpAny_pyIter_enum he ?_
  have I2 : Inv X pins σ H1 { s1 with heap := h' } := I1.kept (t' := s1.toks) hk
  refine ⟨s1.heap.objs.size + 1, [s1.heap.objs.size + 1, s1.heap.objs.size], _, _, H1, rfl, I2, turn_enum _ _ a (Nat.succ_ne_self _), ⟨⟨.none, he⟩, hit⟩, fun b hb => ?_, q⟩
  have hb' : s1.heap.objs.size ≤ b := by
    rcases List.mem_cons.mp hb with rfl | hb
    · exact Nat.le_succ _
    · have e' : b = s1.heap.objs.size := by simpa using hb
      rw [e']; exact Nat.le_refl _
  exact I1.fpOk hb' (I1.hok.fresh hb')
end
noncomputable def Itr3 (lo st : Int) (n : Nat) : It := ⟨fun i _ => i < n, fun i H x H' => H' = H ∧ x = .int (lo + i * st), fun i _ => n ≤ i⟩
theorem turn_range3 {P : Program} {w : World} {K : PySem.W.Frag} {tg : Expr} (it : Addr) (lo sp : Int) (n : Nat) : Turn P w K tg (Itr3 lo sp n) [it] it (fun i h => IsRangeIter h it (lo + (i : Nat) * sp) ((n : Int) - (i : Nat)) sp) where
  mem := by simp
  obj := fun i h st b hb => by
    have e : b = it := by simpa using hb
    subst e
    exact ⟨_, st, fun v z => by
      have z' : Data.fields _ = Data.cell v := z
      cases z'⟩
  keep := fun i h h' st k => k it (by simp) _ st
  item := by
    intro X hP hw hK hc i pins s σ H E I hf st hg
    subst hP hw hK
    obtain ⟨f0, f1, f2, f3, f4, f5⟩ := hf it (by simp)
    have W := Walks.range (prog := X.prog) (w := X.w) (I.ok.hd hc) it lo sp n
    refine W.item i s _ _ hg st fun v h' tk hv st' kk => ?_
    obtain ⟨t, rfl⟩ := hv
    have I1 : Inv X pins σ H { s with heap := h', toks := tk } := I.turned (fun b o hb e => kk b o (by simpa using hb) e) f0 f1 f3 f4 f5
    exact ⟨_, rfl, go_of (s := { s with heap := h', toks := tk }) (n := "range_iterator") st' rfl rfl (by decide) ⟨.int (lo + i * sp), H, I1, ⟨t, rfl⟩, ⟨rfl, rfl⟩, st', fun b hb => (hf b hb).1⟩⟩
  done := by
    intro X hP hw hK hc i pins s σ H E I hf st hg
    subst hP hw hK
    obtain ⟨f0, f1, f2, f3, f4, f5⟩ := hf it (by simp)
    exact wpAny_pyNext_range_end (I.ok.hd hc) st (by have : n ≤ i := hg; lia) fun h' eb => ⟨rfl, I.turned (t' := s.toks) (fun b o hb e => eb b o hb e) f0 f1 f3 f4 f5⟩
  self := fun _ _ _ _ _ st h => wpAny_pyIter_rangeiter st h
section
variable {X : Cx} {tg : Expr}
noncomputable def iRng3 (ta : TA) : TI := fun σ H R => ta σ H fun vs H1 => ∃ i j k : Int, ∃ n : Nat, vs = [.int i, .int j, .int k] ∧ k ≠ 0 ∧ k.natAbs < 1073741824 ∧ Builtin.Range.small i j k = true ∧ Builtin.Range.rangeSize i j k = n ∧ R (Itr3 i k n) H1
theorem pi_range3 {a b c : Expr} {ta : TA} {p pos : Pos} (hg : Gl X "range") (hm : X.mg "range" = none) (ha : PA X [a, b, c] ta)
    (hs : starEach [a, b, c] X.env = (false, eval a X.env) :: starEach [b, c] X.env := by rfl) (hpl : (backTo pos (starEach [b, c] X.env)).any (·.1) = false := by rfl) : PI X tg (.Call (.Name "range" p) [a, b, c] [] pos) (iRng3 ta) := by
  intro pins s σ H R I h
  refine Call_ (ld_blt I hg hm boot_range (PyProof.Rows.callWith_type1 (thn (ha pos pins s σ H _ I h) fun us s1 zz0 => ?_) hs hpl))
  obtain ⟨vs, H1, I1, r1, q1⟩ := zz0
  obtain ⟨i, j, k, n, e, hk0, hk1, hsm, hn, q⟩ := q1
  subst e
  cases r1 with
  | cons r rr =>
    cases rr with
    | cons r' rr =>
      cases rr with
      | cons r'' rr =>
        cases rr
        obtain ⟨t, rfl⟩ := r
        obtain ⟨t', rfl⟩ := r'
        obtain ⟨t'', rfl⟩ := r''
        refine call_range_3 hk0 ?_ (.inl (PyProof.noPylong_small hk1))
        refine wpAny_pyIter_range (IsRange.new ..) hsm ?_
        have I2 : Inv X pins σ H1 { s1 with heap := s1.heap.push { cls := .type "range", data := .fields #[.int i t, .int j t', .int k t''] }, toks := s1.toks } := I1.kept fun b o e => Heap.get?_push_of_some _ e
        refine ⟨(s1.heap.push { cls := .type "range", data := .fields #[.int i t, .int j t', .int k t''] }).objs.size, [(s1.heap.push { cls := .type "range", data := .fields #[.int i t, .int j t', .int k t''] }).objs.size], _, _, H1, rfl,
          I2.kept (t' := s1.toks) fun b o e => Heap.get?_push_of_some _ e, turn_range3 _ i k n, ?_, fun b hb => ?_, q⟩
        · have e1 : i + ((0 : Nat) : Int) * k = i := by simp
          have e2 : (n : Int) - ((0 : Nat) : Int) = Builtin.Range.rangeSize i j k := by rw [hn]; simp
          show IsRangeIter _ _ (i + ((0 : Nat) : Int) * k) ((n : Int) - ((0 : Nat) : Int)) k
          rw [e1, e2]
          exact Heap.get?_push_size _ rfl
        · have e : b = (s1.heap.push { cls := .type "range", data := .fields #[.int i t, .int j t', .int k t''] }).objs.size := by simpa using hb
          subst e
          exact I2.fpOk (Nat.le_refl _) (I2.hok.fresh (Nat.le_refl _))
end
theorem for_range3 {lo sp : Int} {n : Nat} {g : TG} {tb : TS} {D : Ends} {σ : St} {H : Hp} (Pv : Nat → St → Hp → Prop) (h0 : Pv 0 σ H)
    (hs : ∀ i σ H, i < n → Pv i σ H → g (.int (lo + i * sp)) σ H fun σ2 H2 => tb { D with nx := Pv (i + 1), ct := Pv (i + 1), bk := D.nx } σ2 H2) (hd : ∀ σ H, Pv n σ H → D.nx σ H) :
    ∃ W : Nat → Nat → St → Hp → Prop, (∃ m, W 0 m σ H) ∧ ∀ i m σ H, W i m σ H →
      ((Itr3 lo sp n).stop i H ∧ D.nx σ H) ∨ ((Itr3 lo sp n).go i H ∧ ∃ N : St → Hp → Prop, (∀ σ' H', N σ' H' → ∃ m', m' < m ∧ W (i + 1) m' σ' H') ∧ ∀ x H', (Itr3 lo sp n).yld i H x H' → g x σ H' fun σ2 H2 => tb { D with nx := N, ct := N, bk := D.nx } σ2 H2) := by
  refine ⟨fun i m σ H => m = n - i ∧ i ≤ n ∧ Pv i σ H, ⟨n, by simp, Nat.zero_le _, h0⟩, ?_⟩
  rintro i m σ H ⟨rfl, hi, p⟩
  by_cases hlt : i < n
  · refine .inr ⟨hlt, Pv (i + 1), fun σ' H' p' => ⟨n - (i + 1), by lia, rfl, hlt, p'⟩, fun x H' y => ?_⟩
    obtain ⟨e, y⟩ := y
    subst e y
    exact hs i σ _ hlt p
  · have e : i = n := by lia
    subst e
    exact .inl ⟨Nat.le_refl _, hd σ H p⟩
section
variable {X : Cx}
theorem call_sum (hc : X.calm = true) : CallR X (.builtin "sum") (fun xs H Q => ∃ (p : Addr) (ns : List Int), xs = [.ref p] ∧ SqL X.K H p (ns.map V.int) ∧ Q (.int ns.sum) H) := by
  intro pins s σ H xs us Q I r h
  obtain ⟨p, ns, rfl, hq, q⟩ := h
  obtain ⟨u, rfl, ru⟩ := vals1 r
  cases ru
  obtain ⟨its, rv, pl, hz⟩ := I.list hq
  have hi : IntsAre its ns := intsAre_of rv
  obtain ⟨xs, hx⟩ := hi.allInts.items
  have hl' : s.heap.IsList p (intItems xs) := hx ▸ pl.isList
  refine sum_intListG (I.ok.hd hc) hl' fun h' tk t' hk => ?_
  have e1 : ns = xs.toList.map (·.1) := by
    rw [← nums_intItems, ← hx]
    exact (show numsOf its.toArray.toList = ns from hi.numsOf).symm
  have e2 : preSum (numAt xs) xs.size = ns.sum := by
    rw [preSum_eq, List.take_of_length_le (by simp), e1]
  rw [e2]
  exact ⟨.int ns.sum, H, I.kept hk, ⟨_, rfl⟩, q⟩
theorem call_all (hc : X.calm = true) : CallR X (.builtin "all") (fun xs H Q => ∃ (p : Addr) (bs : List Bool), xs = [.ref p] ∧ SqL X.K H p (bs.map V.bl) ∧ Q (.bl (bs.all id)) H) := by
  intro pins s σ H xs us Q I r h
  obtain ⟨p, bs, rfl, hq, q⟩ := h
  obtain ⟨u, rfl, ru⟩ := vals1 r
  cases ru
  obtain ⟨its, rv, pl, hz⟩ := I.list hq
  have hl := pl.isList
  have hlt : p < s.heap.objs.size := by obtain ⟨_, e, _⟩ := hl; exact Heap.lt_size e
  have hlen : its.length = bs.length := by have := rv.length; rw [List.length_map] at this; exact this.symm
  have hget : ∀ i v, its[i]? = some v → ∃ b, bs[i]? = some b ∧ v = Value.bool b := fun i v hv => by
    have hi : i < bs.length := by rw [← hlen]; exact (List.getElem?_eq_some_iff.mp hv).1
    obtain ⟨u', hu', ru'⟩ := rv.get (i := i) (x := V.bl bs[i]) (by simp [hi])
    rw [hv] at hu'; cases hu'
    cases ru'
    exact ⟨bs[i], List.getElem?_eq_getElem hi, rfl⟩
  refine call_all_walk (wpAny_pyIter_list hl ?_)
  refine ⟨s.heap.objs.size, [s.heap.objs.size, p], [s.heap.objs.size], its.toArray.size, _, _, fun i => (bs[i]?).getD true, rfl, Walks.list (A := X.A.in1) (I.ok.hd hc) _ p (Nat.ne_of_lt hlt) its.toArray,
    ⟨⟨_, Heap.get?_push_size _ rfl, rfl, rfl⟩, hl.push _⟩, fun i v s' Q' E' hP hQ => ?_, fun h' tk hk => ?_⟩
  · obtain ⟨b, e, rfl⟩ := hget i v (by have z : its.toArray[i]? = some v := hP; simpa using z)
    have eb : (bs[i]?).getD true = b := by rw [e]; rfl
    have hQ' : Q' ((bs[i]?).getD true) s' := hQ
    rw [eb] at hQ'
    exact wpAny_truthy_bool hQ'
  · have e : ((List.range its.toArray.size).all fun i => (bs[i]?).getD true) = bs.all id := by
      rw [List.size_toArray, hlen]; exact PyProof.Rows.LSm.range_all bs
    rw [e]
    exact ⟨.bl (bs.all id), H, I.kept (PyProof.Rows.LSm.kept_iter hk), rfl, q⟩
noncomputable def rIsi (K : PySem.W.Frag) : List V → Hp → VK → Prop := fun xs H Q => ∃ x t n b, xs = [x, .ty n] ∧ TyOf K H x t ∧ PySem.W.kitOne K t (.type n) = some b ∧ Q (.bl b) H
theorem call_isinst : CallR X (.builtin "isinstance") (rIsi X.K) := by
  intro pins s σ H xs us Q I r h
  obtain ⟨x, t, n, b, rfl, ty, e, q⟩ := h
  obtain ⟨u, u', rfl, rx, rn⟩ := vals2 r
  obtain rfl : u' = Value.type n := rn
  exact isinst_ok I rx ty e fun tk => ⟨.bl b, H, I.tok _, rfl, q⟩
noncomputable def rNeL (K : PySem.W.Frag) : R2 := fun x y H Q => ∃ (a b : Addr) (ns ms : List Int), x = .ref a ∧ y = .ref b ∧ SqL K H a (ns.map V.int) ∧ SqL K H b (ms.map V.int) ∧ Q (.bl (!decide (ns = ms))) H
theorem op_neL (hu : X.A.units + 64 < cLine) : OpR X (compareOp .NotEq) (rNeL X.K) := by
  intro pins s σ H x y v u Q I rx ry h
  obtain ⟨a, b, ns, ms, rfl, rfl, ha, hb, q⟩ := h
  cases rx
  cases ry
  obtain ⟨is1, r1, p1, _⟩ := I.list ha
  obtain ⟨is2, r2, p2, _⟩ := I.list hb
  exact PySem.W.ne_intsK p1.isList (intsAre_of r1) p2.isList (intsAre_of r2) hu ⟨.bl _, H, I, rfl, q⟩
end
end L2
namespace L2
open PySem PySem.Spec PyProof.Rows
theorem Same.upd {H H' : Hp} {a : Addr} {o : HO} (e : Same H H') (h : H a = none) : Same H (upd H' a o) := fun b u q => by
  rw [upd_ne (ne_of_none q h)]
  exact e b u q
theorem pe_tx {X : Cx} {x : Str} {j : Nat} {pos : Pos} {l : List Nat} (h : x = tx l := by decide +kernel) : PE X (.Constant (.str x) j pos) (tC (.str (tx l))) := by
  subst h
  exact pe_str
theorem filter_map_succ (sel : Nat → Bool) (val : Nat → V) (i : Nat) : ((List.range (i + 1)).filter sel).map val = ((List.range i).filter sel).map val ++ (if sel i = true then [val i] else []) := by
  rw [List.range_succ, List.filter_append, List.map_append]
  congr 1
  cases h : sel i <;> simp [h]
theorem lcb {own : List Str} {cap : List Nat} {g : TG} {tc : TT} {te : TE} {J : It} {σ : St} {H1 : Hp} {Q : VK} (n : Nat) (sel : Nat → Bool) (val : Nat → V) (hn : n ≤ sizeLine)
    (hgo : ∀ i H, i < n → Same H1 H → J.go i H) (hstop : ∀ H, Same H1 H → J.stop n H)
    (step : ∀ i H (K1 : VK) (K2 : Hp → Prop), i < n → Same H1 H → (sel i = true → ∀ H4, Same H H4 → K1 (val i) H4) → (sel i = false → ∀ H4, Same H H4 → K2 H4) → ∀ x H', J.yld i H x H' →
      g x (lcSt own cap σ) H' fun σ2 H2 => LcExt own cap σ σ2 ∧ tc σ2 H2 fun b H3 => if b = true then te σ2 H3 K1 else K2 H3)
    (fin : ∀ D H', H1 D = none → Same H1 H' → H' D = some (.lst (((List.range n).filter sel).map val)) → Q (.ref D) H') : tLcB own cap g tc te J σ H1 Q := by
  intro D hD
  refine ⟨fun i m ys H => m = n - i ∧ i ≤ n ∧ ys = ((List.range i).filter sel).map val ∧ Same H1 H ∧ H D = some (.lst ys), ⟨n, by simp, Nat.zero_le _, rfl, (Same.refl H1).upd hD, upd_same⟩, ?_⟩
  rintro i m ys H ⟨rfl, hi, rfl, hs, hd⟩
  by_cases hlt : i < n
  · refine .inr ⟨hgo i H hlt hs, fun x H' y => ?_⟩
    have hlen : (((List.range i).filter sel).map val).length < sizeLine := by
      rw [List.length_map]
      have h1 := List.length_filter_le sel (List.range i)
      rw [List.length_range] at h1
      lia
    refine step i H _ _ hlt hs (fun hsel H4 s4 => ?_) (fun hsel H4 s4 => ?_) x H' y
    · refine ⟨s4 _ _ hd, hlen, n - (i + 1), by lia, rfl, hlt, ?_, fun b o e => ?_, upd_same⟩
      · rw [filter_map_succ, if_pos hsel]
      · rw [upd_ne (ne_of_none e hD)]
        exact s4 _ _ (hs _ _ e)
    · refine ⟨n - (i + 1), by lia, rfl, hlt, ?_, hs.trans s4, s4 _ _ hd⟩
      rw [filter_map_succ, if_neg (by rw [hsel]; exact Bool.false_ne_true), List.append_nil]
  · have e : i = n := by lia
    subst e
    exact .inl ⟨hstop H hs, fin D H hD hs hd⟩
theorem lcb1 {own : List Str} {cap : List Nat} {g : TG} {te : TE} {J : It} {σ : St} {H1 : Hp} {Q : VK} (n : Nat) (val : Nat → V) (hn : n ≤ sizeLine)
    (hgo : ∀ i H, i < n → Same H1 H → J.go i H) (hstop : ∀ H, Same H1 H → J.stop n H)
    (step : ∀ i H (K1 : VK), i < n → Same H1 H → (∀ H4, Same H H4 → K1 (val i) H4) → ∀ x H', J.yld i H x H' → g x (lcSt own cap σ) H' fun σ2 H2 => LcExt own cap σ σ2 ∧ te σ2 H2 K1)
    (fin : ∀ D H', H1 D = none → Same H1 H' → H' D = some (.lst ((List.range n).map val)) → Q (.ref D) H') : tLcB own cap g tYes te J σ H1 Q := by
  refine lcb n (fun _ => true) val hn hgo hstop (fun i H K1 K2 hi hs k1 k2 x H' y => ?_) (fun D H' hD hs hd => fin D H' hD hs (by rw [hd, List.filter_eq_self.mpr (fun _ _ => rfl)]))
  have e : (fun (σ2 : St) (H2 : Hp) => LcExt own cap σ σ2 ∧ tYes σ2 H2 fun b H3 => if b = true then te σ2 H3 K1 else K2 H3) = fun σ2 H2 => LcExt own cap σ σ2 ∧ te σ2 H2 K1 := by
    funext σ2 H2
    show (LcExt own cap σ σ2 ∧ if true = true then te σ2 H2 K1 else K2 H2) = _
    rw [if_pos rfl]
  rw [e]
  exact step i H K1 hi hs (k1 rfl) x H' y
theorem range_map_getD {α β : Type} (f : α → β) (d : α) (l : List α) : (List.range l.length).map (fun i => f (l.getD i d)) = l.map f := by
  apply List.ext_getElem?
  intro i
  by_cases h : i < l.length
  · simp [h]
  · simp [h]
end L2
namespace PySem
section
variable {prog : Program} {w : World} {A : Around} {s : Shared} {R : Result → Shared → Prop}
variable {I : Addr} {fp wr : List Addr} {G : Array GenState → Array GenState → Prop} {n : Nat} {P : Nat → Value → Prop} {St : Nat → Shared → Prop}
end
section
variable {prog : Program} {w : World} {A : Around} {E : Value → Shared → Prop} {s : Shared}
end
end PySem
namespace L2
open PySem PySem.Spec PyProof.Rows
section
variable {X : Cx}
end
end L2
namespace FW
noncomputable def lngFrom (w t : List Nat) : Nat → Nat
  | 0 => 0
  | k + 1 => if (w.take (k + 1)) <:+ t then k + 1 else lngFrom w t k
noncomputable def lng (w t : List Nat) : Nat := lngFrom w t w.length
noncomputable def bord (w : List Nat) (k : Nat) : Nat := lng w ((w.take k).drop 1)
theorem lngFrom_le (w t : List Nat) : ∀ k, lngFrom w t k ≤ k
  | 0 => Nat.le_refl _
  | k + 1 => by
    unfold lngFrom
    split
    · exact Nat.le_refl _
    · exact Nat.le_succ_of_le (lngFrom_le w t k)
theorem lngFrom_suf (w t : List Nat) : ∀ k, w.take (lngFrom w t k) <:+ t
  | 0 => by simp [lngFrom]
  | k + 1 => by
    unfold lngFrom
    split
    · assumption
    · exact lngFrom_suf w t k
theorem lngFrom_max (w t : List Nat) : ∀ k j, j ≤ k → w.take j <:+ t → j ≤ lngFrom w t k
  | 0, j, h, _ => h
  | k + 1, j, h, hs => by
    unfold lngFrom
    split
    · exact h
    · rename_i hn
      by_cases e : j = k + 1
      · subst e; exact absurd hs hn
      · exact lngFrom_max w t k j (by lia) hs
theorem lng_le (w t : List Nat) : lng w t ≤ w.length := lngFrom_le _ _ _
theorem lng_suf (w t : List Nat) : w.take (lng w t) <:+ t := lngFrom_suf _ _ _
theorem lng_max {w t : List Nat} {j : Nat} (h : j ≤ w.length) (hs : w.take j <:+ t) : j ≤ lng w t := lngFrom_max _ _ _ _ h hs
theorem lng_le_t (w t : List Nat) : lng w t ≤ t.length := by
  have h := (lng_suf w t).length_le
  rw [List.length_take] at h
  have := lng_le w t
  lia
theorem lng_eq {w t : List Nat} {k : Nat} (h : k ≤ w.length) (hs : w.take k <:+ t) (hm : ∀ j, j ≤ w.length → w.take j <:+ t → j ≤ k) : lng w t = k :=
  Nat.le_antisymm (hm _ (lng_le w t) (lng_suf w t)) (lng_max h hs)
theorem lng_nil (w : List Nat) : lng w [] = 0 := by have := lng_le_t w []; simpa using this
theorem suf_snoc {u t : List Nat} {a c : Nat} : u ++ [a] <:+ t ++ [c] ↔ u <:+ t ∧ a = c := by
  constructor
  · rintro ⟨s, h⟩
    rw [← List.append_assoc] at h
    have h1 := List.append_inj' h rfl
    refine ⟨⟨s, h1.1⟩, ?_⟩
    have := h1.2
    simpa using this
  · rintro ⟨⟨s, h⟩, e⟩
    subst e
    exact ⟨s, by rw [← List.append_assoc, h]⟩
theorem take_succ_suf {w t : List Nat} {k c : Nat} (hk : k < w.length) : w.take (k + 1) <:+ t ++ [c] ↔ w.take k <:+ t ∧ w[k]? = some c := by
  have e : w.take (k + 1) = w.take k ++ [w[k]] := by rw [List.take_succ_eq_append_getElem hk]
  rw [e, suf_snoc, List.getElem?_eq_getElem hk]
  simp
theorem suf_of_le {a b t : List Nat} (ha : a <:+ t) (hb : b <:+ t) (h : a.length ≤ b.length) : a <:+ b := List.suffix_of_suffix_length_le ha hb h
theorem len_take {w : List Nat} {k : Nat} (h : k ≤ w.length) : (w.take k).length = k := by rw [List.length_take]; lia
theorem suf_drop {w : List Nat} {j k : Nat} (hk : k ≤ w.length) (hj : j < k) : w.take j <:+ w.take k ↔ w.take j <:+ (w.take k).drop 1 := by
  have lk := len_take hk
  have lj : (w.take j).length = j := len_take (by lia)
  have hd : (w.take k).drop 1 <:+ w.take k := List.drop_suffix _ _
  constructor
  · intro h
    exact suf_of_le h hd (by rw [List.length_drop]; lia)
  · intro h
    exact h.trans hd
theorem bord_lt {w : List Nat} {k : Nat} (hk : k ≤ w.length) (h0 : 0 < k) : bord w k < k := by
  have := lng_le_t w ((w.take k).drop 1)
  rw [List.length_drop, len_take hk] at this
  unfold bord
  lia
theorem bord_suf {w : List Nat} {k : Nat} (hk : k ≤ w.length) (h0 : 0 < k) : w.take (bord w k) <:+ w.take k :=
  (suf_drop hk (bord_lt hk h0)).mpr (lng_suf _ _)
theorem bord_max {w : List Nat} {j k : Nat} (hk : k ≤ w.length) (hj : j < k) (h : w.take j <:+ w.take k) : j ≤ bord w k :=
  lng_max (by lia) ((suf_drop hk hj).mp h)
theorem bord_zero (w : List Nat) : bord w 0 = 0 := by simp [bord, lng_nil]
theorem bord_one (w : List Nat) : bord w 1 = 0 := by
  cases w with
  | nil => simp [bord, lng_nil]
  | cons a r => simp [bord, lng_nil]
theorem lng_snoc {w t : List Nat} {c : Nat} : lng w (w.take (lng w t) ++ [c]) = lng w (t ++ [c]) := by
  have hr := lng_le w t
  have key : ∀ j, j ≤ w.length → (w.take j <:+ w.take (lng w t) ++ [c] ↔ w.take j <:+ t ++ [c]) := by
    intro j hj
    cases j with
    | zero => simp
    | succ k =>
      rw [take_succ_suf (by lia), take_succ_suf (by lia)]
      constructor
      · rintro ⟨h1, h2⟩
        exact ⟨h1.trans (lng_suf w t), h2⟩
      · rintro ⟨h1, h2⟩
        have hk : k ≤ lng w t := lng_max (by lia) h1
        exact ⟨suf_of_le h1 (lng_suf w t) (by rw [len_take (by lia), len_take hr]; exact hk), h2⟩
  refine Nat.le_antisymm ?_ ?_
  · exact lng_max (lng_le _ _) ((key _ (lng_le _ _)).mp (lng_suf _ _))
  · exact lng_max (lng_le _ _) ((key _ (lng_le _ _)).mpr (lng_suf _ _))
structure Going (w t : List Nat) (c r : Nat) : Prop where
  le : r ≤ w.length
  suf : w.take r <:+ t
  mx : ∀ k, k < w.length → w.take k <:+ t → w[k]? = some c → k ≤ r
theorem Going.start {w : List Nat} {c r : Nat} (h : r ≤ w.length) : Going w (w.take r) c r :=
  ⟨h, List.suffix_refl _, fun k hk hs _ => by
    have := hs.length_le
    rw [len_take (by lia), len_take h] at this
    exact this⟩
theorem Going.turn {w t : List Nat} {c r : Nat} (g : Going w t c r) (h0 : 0 < r) (hn : r = w.length ∨ w[r]? ≠ some c) : Going w t c (bord w r) := by
  have lt := bord_lt g.le h0
  refine ⟨by have := g.le; lia, (bord_suf g.le h0).trans g.suf, fun k hk hs hc => ?_⟩
  have hk' := g.mx k hk hs hc
  have ne : k ≠ r := by
    rintro rfl
    rcases hn with hn | hn
    · lia
    · exact hn hc
  have hlt : k < r := by lia
  exact bord_max g.le hlt (suf_of_le hs g.suf (by rw [len_take (by lia), len_take g.le]; lia))
theorem Going.yes {w t : List Nat} {c r : Nat} (g : Going w t c r) (hr : r < w.length) (hc : w[r]? = some c) : lng w (t ++ [c]) = r + 1 := by
  refine lng_eq (by lia) ((take_succ_suf hr).mpr ⟨g.suf, hc⟩) fun j hj hs => ?_
  cases j with
  | zero => lia
  | succ k =>
    obtain ⟨h1, h2⟩ := (take_succ_suf (by lia)).mp hs
    have := g.mx k (by lia) h1 h2
    lia
theorem Going.no {w t : List Nat} {c : Nat} (g : Going w t c 0) (hc : w[0]? ≠ some c) : lng w (t ++ [c]) = 0 := by
  refine lng_eq (Nat.zero_le _) (by simp) fun j hj hs => ?_
  cases j with
  | zero => lia
  | succ k =>
    obtain ⟨h1, h2⟩ := (take_succ_suf (by lia)).mp hs
    have := g.mx k (by lia) h1 h2
    have e : k = 0 := by lia
    subst e
    exact absurd h2 hc
noncomputable def shTab (w : List Nat) (n : Nat) : List Nat := (List.range n).map (bord w)
noncomputable def reTab (w t : List Nat) (n : Nat) : List Nat := (List.range n).map fun i => lng w (t.take i)
theorem range_map_succ {α : Type} (f : Nat → α) (n : Nat) : (List.range (n + 1)).map f = (List.range n).map f ++ [f n] := by
  rw [List.range_succ, List.map_append]; rfl
theorem shTab_succ (w : List Nat) (n : Nat) : shTab w (n + 1) = shTab w n ++ [bord w n] := range_map_succ _ _
theorem reTab_succ (w t : List Nat) (n : Nat) : reTab w t (n + 1) = reTab w t n ++ [lng w (t.take n)] := range_map_succ _ _
theorem shTab_two (w : List Nat) : shTab w 2 = [0, 0] := by simp [shTab, List.range_succ, bord_zero, bord_one]
theorem shTab_get {w : List Nat} {n k : Nat} (h : k < n) : (shTab w n)[k]? = some (bord w k) := by simp [shTab, h]
theorem reTab_get {w t : List Nat} {n k : Nat} (h : k < n) : (reTab w t n)[k]? = some (lng w (t.take k)) := by simp [reTab, h]
theorem bord_next {w : List Nat} {i c : Nat} (hi : i + 1 < w.length) (hc : w[i + 1]? = some c) : lng w (w.take (bord w (i + 1)) ++ [c]) = bord w (i + 2) := by
  unfold bord
  rw [lng_snoc]
  congr 1
  have e : w.take (i + 2) = w.take (i + 1) ++ [c] := by
    rw [List.take_succ_eq_append_getElem hi]
    rw [List.getElem?_eq_getElem hi] at hc
    rw [Option.some.inj hc]
  rw [e, List.drop_append_of_le_length (by rw [len_take (by lia)]; lia)]
theorem lng_next {w t : List Nat} {i c : Nat} (hc : t[i]? = some c) : lng w (w.take (lng w (t.take i)) ++ [c]) = lng w (t.take (i + 1)) := by
  rw [lng_snoc]
  congr 1
  obtain ⟨hi, e⟩ := List.getElem?_eq_some_iff.mp hc
  rw [List.take_succ_eq_append_getElem hi, e]
theorem lng_full {w t : List Nat} : lng w t = w.length ↔ w <:+ t := by
  constructor
  · intro h
    have := lng_suf w t
    rw [h, List.take_length] at this
    exact this
  · intro h
    exact Nat.le_antisymm (lng_le w t) (lng_max (Nat.le_refl _) (by rw [List.take_length]; exact h))
end FW
namespace FW
noncomputable def sumN (l : List Nat) (f : Nat → Nat) : Nat := (l.map f).sum
theorem sumN_cons (a : Nat) (l : List Nat) (f : Nat → Nat) : sumN (a :: l) f = f a + sumN l f := by simp [sumN]
theorem sumN_congr {l : List Nat} {f g : Nat → Nat} (h : ∀ x ∈ l, f x = g x) : sumN l f = sumN l g := by
  induction l with
  | nil => rfl
  | cons a l ih => rw [sumN_cons, sumN_cons, h a List.mem_cons_self, ih fun x hx => h x (List.mem_cons_of_mem _ hx)]
theorem sumN_add (l : List Nat) (f g : Nat → Nat) : sumN l (fun x => f x + g x) = sumN l f + sumN l g := by
  induction l with
  | nil => rfl
  | cons a l ih => rw [sumN_cons, sumN_cons, sumN_cons, ih]; lia
theorem sumN_zero (l : List Nat) : sumN l (fun _ => 0) = 0 := by
  induction l with
  | nil => rfl
  | cons a l ih => rw [sumN_cons, ih]
theorem sumN_one {l : List Nat} (hn : l.Nodup) {a : Nat} (ha : a ∈ l) (c : Nat) : sumN l (fun x => if a = x then c else 0) = c := by
  induction l with
  | nil => cases ha
  | cons b l ih =>
    rw [sumN_cons]
    have hb := List.nodup_cons.mp hn
    by_cases e : a = b
    · rw [if_pos e]
      have z : sumN l (fun x => if a = x then c else 0) = 0 := by
        refine (sumN_congr (g := fun _ => 0) fun x hx => if_neg ?_).trans (sumN_zero l)
        intro q
        exact hb.1 (by rw [← e, q]; exact hx)
      rw [z]; rfl
    · rw [if_neg e, ih hb.2 (by rcases List.mem_cons.mp ha with z | z; exact absurd z e; exact z)]
      lia
noncomputable def phi (q : Nat) (w s : List Nat) : Nat := sumN (List.range w.length) fun k => if w.take (k + 1) <:+ s then q ^ (k + 1) else 0
theorem phi_congr {q : Nat} {w s t : List Nat} (h : ∀ k, k ≤ w.length → (w.take k <:+ s ↔ w.take k <:+ t)) : phi q w s = phi q w t := by
  refine sumN_congr fun k hk => ?_
  have hk' := List.mem_range.mp hk
  by_cases e : w.take (k + 1) <:+ s
  · rw [if_pos e, if_pos ((h (k + 1) (by lia)).mp e)]
  · rw [if_neg e, if_neg fun z => e ((h (k + 1) (by lia)).mpr z)]
theorem phi_suf {q : Nat} {w s t : List Nat} (ht : t <:+ s) (h : ∀ k, k ≤ w.length → w.take k <:+ s → k ≤ t.length) : phi q w t = phi q w s :=
  phi_congr fun k hk => ⟨fun z => z.trans ht, fun z => suf_of_le z ht (by rw [len_take hk]; exact h k hk z)⟩
theorem phi_lng (q : Nat) (w s : List Nat) : phi q w (w.take (lng w s)) = phi q w s :=
  phi_suf (lng_suf w s) fun k hk z => by rw [len_take (lng_le w s)]; exact lng_max hk z
end FW
namespace FW
noncomputable def waitZ (q : Nat) (w : List Nat) (k : Nat) : Int := (phi q w w : Int) - (phi q w (w.take k) : Int)
noncomputable def sumZ (l : List Nat) (f : Nat → Int) : Int := (l.map f).sum
noncomputable def isSt (a b s : List Nat) : Bool := decide (s <+: a) || decide (s <+: b)
noncomputable def nxt (a b : List Nat) : List Nat → List Nat
  | [] => []
  | c :: r => if isSt a b (c :: r) then c :: r else nxt a b r
theorem isSt_nil (a b : List Nat) : isSt a b [] = true := by simp [isSt]
theorem isSt_takeA (a b : List Nat) (k : Nat) : isSt a b (a.take k) = true := by simp [isSt, List.take_prefix]
theorem isSt_takeB (a b : List Nat) (k : Nat) : isSt a b (b.take k) = true := by simp [isSt, List.take_prefix]
theorem nxt_st (a b : List Nat) : ∀ t, isSt a b (nxt a b t) = true
  | [] => isSt_nil a b
  | c :: r => by
    unfold nxt
    split
    · assumption
    · exact nxt_st a b r
theorem nxt_suf (a b : List Nat) : ∀ t, nxt a b t <:+ t
  | [] => List.suffix_refl _
  | c :: r => by
    unfold nxt
    split
    · exact List.suffix_refl _
    · exact (nxt_suf a b r).trans (List.suffix_cons c r)
theorem nxt_max (a b : List Nat) : ∀ t u, u <:+ t → isSt a b u = true → u.length ≤ (nxt a b t).length
  | [], u, h, _ => by simpa [nxt] using h.length_le
  | c :: r, u, h, hu => by
    unfold nxt
    split
    · exact h.length_le
    · rename_i hn
      rcases List.suffix_cons_iff.mp h with e | e
      · subst e; exact absurd hu hn
      · exact nxt_max a b r u e hu
theorem nxt_of_st {a b t : List Nat} (h : isSt a b t = true) : nxt a b t = t := by
  cases t with
  | nil => rfl
  | cons c r => unfold nxt; rw [if_pos h]
noncomputable def partZ (q : Nat) (a b s : List Nat) : Int := (phi q b b : Int) - phi q a b + phi q a s - phi q b s
noncomputable def wholeZ (q : Nat) (a b : List Nat) : Int := (phi q b b : Int) - phi q a b + phi q a a - phi q b a
section
variable {x : Nat} {b : List Nat} {n : Nat}
end
end FW
namespace FW
theorem lng_lead {w : List Nat} {m c : Nat} (hm : m < w.length) (h0 : 0 < m) (hc : w[m]? ≠ some c) : lng w (w.take m ++ [c]) = lng w (w.take (bord w m) ++ [c]) := by
  have e1 : lng w (w.take (bord w m) ++ [c]) = lng w ((w.take m).drop 1 ++ [c]) := lng_snoc
  rw [e1]
  have e2 : (w.take m).drop 1 ++ [c] = (w.take m ++ [c]).drop 1 := by
    rw [List.drop_append_of_le_length (by rw [len_take (by lia)]; lia)]
  apply Nat.le_antisymm
  · have h1 := lng_suf w (w.take m ++ [c])
    have h2 := lng_le w (w.take m ++ [c])
    apply lng_max h2
    rw [e2]
    have hlt : lng w (w.take m ++ [c]) ≤ m := by
      have h3 := lng_le_t w (w.take m ++ [c])
      rw [List.length_append, len_take (by lia), List.length_singleton] at h3
      by_cases e : lng w (w.take m ++ [c]) = m + 1
      · rw [e] at h1
        exact absurd ((take_succ_suf hm).mp h1).2 hc
      · lia
    refine suf_of_le h1 (List.drop_suffix _ _) ?_
    rw [len_take h2, List.length_drop, List.length_append, len_take (by lia), List.length_singleton]
    lia
  · refine lng_max (lng_le _ _) ((lng_suf w _).trans ?_)
    rw [e2]
    exact List.drop_suffix _ _
theorem lng_yes {w : List Nat} {m c : Nat} (hm : m < w.length) (hc : w[m]? = some c) : lng w (w.take m ++ [c]) = m + 1 := (Going.start (Nat.le_of_lt hm)).yes hm hc
theorem lng_no {w : List Nat} {c : Nat} (hc : w[0]? ≠ some c) : lng w [c] = 0 := (Going.start (c := c) (Nat.zero_le w.length)).no hc
noncomputable def rowL (q : Nat) (w : List Nat) (m : Nat) : List Nat := (List.range q).map fun i => lng w (w.take m ++ [97 + i])
theorem rowL_len (q : Nat) (w : List Nat) (m : Nat) : (rowL q w m).length = q := by simp [rowL]
theorem rowL_zero {q : Nat} {w : List Nat} {c : Nat} (hw : w[0]? = some c) (h1 : 97 ≤ c) : (List.replicate q 0).set (c - 97) 1 = rowL q w 0 := by
  have hp : 0 < w.length := (List.getElem?_eq_some_iff.mp hw).1
  apply List.ext_getElem?
  intro i
  rw [List.getElem?_set, rowL, List.getElem?_map, List.length_replicate]
  by_cases hi : i < q
  · by_cases e : c - 97 = i
    · rw [if_pos e, if_pos (by lia), List.getElem?_range hi]
      have := lng_yes (w := w) (m := 0) hp (show w[0]? = some (97 + i) by rw [hw]; congr 1; lia)
      simpa using this.symm
    · rw [if_neg e, List.getElem?_range hi, List.getElem?_replicate, if_pos hi]
      have := lng_no (w := w) (c := 97 + i) (by rw [hw]; intro z; have := Option.some.inj z; lia)
      simpa using this.symm
  · rw [List.getElem?_eq_none (l := List.range q) (by simpa using hi), List.getElem?_replicate, if_neg hi]
    by_cases e : c - 97 = i
    · rw [if_pos e, if_neg (by lia)]
      rfl
    · rw [if_neg e]
      rfl
theorem rowL_next {q : Nat} {w : List Nat} {m c : Nat} (hm : m < w.length) (h0 : 0 < m) (hw : w[m]? = some c) (h1 : 97 ≤ c) : (rowL q w (bord w m)).set (c - 97) (m + 1) = rowL q w m := by
  apply List.ext_getElem?
  intro i
  rw [List.getElem?_set, rowL_len, rowL, rowL, List.getElem?_map, List.getElem?_map]
  by_cases hi : i < q
  · by_cases e : c - 97 = i
    · rw [if_pos e, if_pos (by lia), List.getElem?_range hi]
      have := lng_yes (w := w) (m := m) hm (show w[m]? = some (97 + i) by rw [hw]; congr 1; lia)
      simpa using this.symm
    · rw [if_neg e, List.getElem?_range hi]
      have := lng_lead (w := w) (m := m) (c := 97 + i) hm h0 (by rw [hw]; intro z; have := Option.some.inj z; lia)
      simpa using this.symm
  · rw [List.getElem?_eq_none (l := List.range q) (by simpa using hi)]
    by_cases e : c - 97 = i
    · rw [if_pos e, if_neg (by lia)]
      rfl
    · rw [if_neg e]
      rfl
theorem phi_nil (q : Nat) (w : List Nat) : phi q w [] = 0 := by
  unfold phi
  refine (sumN_congr fun k hk => if_neg fun z => ?_).trans (sumN_zero _)
  have := z.length_le
  rw [List.length_take, List.length_nil] at this
  have := List.mem_range.mp hk
  lia
theorem phi_bord {q : Nat} {w : List Nat} {k : Nat} (hk : k ≤ w.length) (h0 : 0 < k) : phi q w (w.take k) = q ^ k + phi q w (w.take (bord w k)) := by
  unfold phi
  have h : sumN (List.range w.length) (fun j => if w.take (j + 1) <:+ w.take k then q ^ (j + 1) else 0) = sumN (List.range w.length) (fun j => (if k - 1 = j then q ^ k else 0) + if w.take (j + 1) <:+ w.take (bord w k) then q ^ (j + 1) else 0) := by
    refine sumN_congr fun j hj => ?_
    have hj' : j < w.length := List.mem_range.mp hj
    have hb := bord_lt hk h0
    by_cases e1 : k - 1 = j
    · have ek : j + 1 = k := by lia
      rw [if_pos e1, ek, if_pos (List.suffix_refl _), if_neg fun z => by
        have := z.length_le
        rw [len_take hk, len_take (by lia)] at this
        lia]
      rfl
    · rw [if_neg e1, Nat.zero_add]
      by_cases hs : w.take (j + 1) <:+ w.take k
      · have hle := hs.length_le
        rw [len_take (by lia), len_take hk] at hle
        have hjb := bord_max hk (by lia) hs
        rw [if_pos hs, if_pos (suf_of_le hs (bord_suf hk h0) (by rw [len_take (by lia), len_take (by lia)]; exact hjb))]
      · rw [if_neg hs, if_neg fun z => hs (z.trans (bord_suf hk h0))]
  rw [h, sumN_add, sumN_one List.nodup_range (List.mem_range.mpr (by lia))]
end FW
namespace FW
open PySem
end FW
namespace L2
open PySem PySem.Spec PyProof.Rows
section
variable {X : Cx} {pins : List (Addr × Obj)} {σ : St} {H : Hp} {s : Shared} {h' : Heap} {ch : List Addr}
theorem Inv.turnedMany {t' : Nat} (I : Inv X pins σ H s) (k : ∀ b ob, b ∉ ch → s.heap.get? b = some ob → h'.get? b = some ob) (hf : ∀ b ∈ ch, FpOk X pins H b) : Inv X pins σ H { s with heap := h', toks := t' } := by
  have nch : ∀ b u, H b = some u → b ∉ ch := fun b u e z => by rw [(hf b z).1] at e; cases e
  refine I.step (g' := s.gens) (d' := s.drawn) (ch := ch) (fun b hb => ⟨(hf b hb).2.2.2.1, (hf b hb).2.1, (hf b hb).2.2.2.2.1, (hf b hb).2.2.2.2.2⟩) (fun b ob _ _ hc e _ => k b ob hc e) (fun b ob _ _ hc e _ => ⟨ob.slots, k b ob hc e⟩)
    (fun b ob hc e n => n) (fun b ob hc e => ⟨ob, k b ob hc e⟩) (fun b xs e => e) (fun b ob u e => e)
    (fun b ps e => ⟨#[], by rw [e]; simp⟩) (fun m hm => ?_) (fun b u e => ?_) I.bare
  · obtain ⟨ob, es, ep, ho, r⟩ := hm
    exact ⟨ob, es, ep, k _ ob (fun z => (hf _ z).2.1 rfl) ho, r⟩
  · refine (I.hok b u e).stay (fun c v hc q => k c v ?_ q) (fun c q => q) fun c xs q => q
    rcases hc with z | z
    · rw [z]; exact nch b u e
    · exact nch c _ z
end
noncomputable def Itz (K : PySem.W.Frag) (a b : Addr) : It :=
  ⟨fun i H => ∃ xs ys x y, SqL K H a xs ∧ SqL K H b ys ∧ xs[i]? = some x ∧ ys[i]? = some y,
   fun i H v H' => ∃ T x y, H T = none ∧ (∀ xs, SqL K H a xs → xs[i]? = some x) ∧ (∀ ys, SqL K H b ys → ys[i]? = some y) ∧ v = .ref T ∧ H' = upd H T (.tup [x, y]),
   fun i H => ∃ xs ys, SqL K H a xs ∧ SqL K H b ys ∧ (xs.length ≤ i ∨ ys.length ≤ i)⟩
theorem turn_zip {P : Program} {w : World} {K : PySem.W.Frag} {elts : List Expr} {x1} {tp : Pos} (z TI TO i1 i2 a b : Addr) (D : ZipApart z TI TO i1 i2 a b) :
    Turn P w K (.Tuple elts x1 tp) (Itz K a b) [z, TI, TO, i1, i2] z (fun i h => IsZip h z TI TO .none ∧ IsPair h TI (.ref i1) (.ref i2) ∧ (∃ u v, IsPair h TO u v) ∧ h.IsListIter i1 a i ∧ h.IsListIter i2 b i) where
  mem := by simp
  obj := fun i h st c hc => by
    obtain ⟨hz, hTI, ⟨u, v, hTO⟩, ⟨o1, e1, c1, d1⟩, ⟨o2, e2, c2, d2⟩⟩ := st
    simp only [List.mem_cons, List.not_mem_nil, or_false] at hc
    rcases hc with rfl | rfl | rfl | rfl | rfl
    · exact ⟨_, hz, fun v z' => by
        have z'' : Data.fields _ = Data.cell v := z'
        cases z''⟩
    · exact ⟨_, hTI, fun v z' => by
        have z'' : Data.seq _ _ = Data.cell v := z'
        cases z''⟩
    · exact ⟨_, hTO, fun v z' => by
        have z'' : Data.seq _ _ = Data.cell v := z'
        cases z''⟩
    · exact ⟨o1, e1, fun v z' => by rw [d1] at z'; cases z'⟩
    · exact ⟨o2, e2, fun v z' => by rw [d2] at z'; cases z'⟩
  keep := fun i h h' st k => by
    obtain ⟨hz, hTI, ⟨u, v, hTO⟩, h1, h2⟩ := st
    exact ⟨k z (by simp) _ hz, k TI (by simp) _ hTI, ⟨u, v, k TO (by simp) _ hTO⟩, h1.at fun o e => k i1 (by simp) o e, h2.at fun o e => k i2 (by simp) o e⟩
  item := by
    intro X hP hw hK hc i pins s σ H E I hf st hg
    subst hP hw hK
    obtain ⟨xs, ys, x, y, hq1, hq2, hx, hy⟩ := hg
    obtain ⟨its1, rv1, p1, _⟩ := I.list hq1
    obtain ⟨its2, rv2, p2, _⟩ := I.list hq2
    obtain ⟨u1, hu1, ru1⟩ := rv1.get hx
    obtain ⟨u2, hu2, ru2⟩ := rv2.get hy
    obtain ⟨hz, hTI, ⟨u, v, hTO⟩, h1, h2⟩ := st
    refine wpAny_pyNext_zip_item D hz hTI hTO h1 h2 p1.isList p2.isList (x := u1) (y := u2) (by simpa using hu1) (by simpa using hu2) fun h3 a1 a2 a3 a4 a5 a6 hk => ?_
    refine ⟨_, rfl, wpAny_letOwnedTupleGo_zip (s := ⟨h3, s.gens, s.drawn, s.toks, s.os⟩) a1 fun h4 b1 sb => ?_⟩
    have zlt : z < s.heap.objs.size := Heap.lt_size hz
    have hT : IsPair h4 s.heap.objs.size u1 u2 := (sb.2 _ (Nat.ne_of_gt zlt)).trans a5
    have hnT : H s.heap.objs.size = none := I.hok.fresh (Nat.le_refl _)
    have kk : ∀ c o, c ∉ [z, TI, TO, i1, i2] → s.heap.get? c = some o → h4.get? c = some o := fun c o hc' e => by
      simp only [List.mem_cons, List.not_mem_nil, or_false, not_or] at hc'
      exact (sb.2 c hc'.1).trans (hk c o hc'.1 hc'.2.2.1 hc'.2.2.2.1 hc'.2.2.2.2 e)
    refine ⟨.ref s.heap.objs.size, upd H s.heap.objs.size (.tup [x, y]), ?_, rfl, ⟨_, x, y, hnT, fun zs hy' => by rw [I.list_inj hy' hq1]; exact hx, fun zs hy' => by rw [I.list_inj hy' hq2]; exact hy, rfl, rfl⟩,
      ⟨b1, (sb.2 _ D.TIz).trans (hk _ _ D.TIz D.TITO D.TIi1 D.TIi2 hTI), ⟨_, _, (sb.2 _ D.TOz).trans a2⟩, a3.at fun o e => (sb.2 _ D.i1z).trans e, a4.at fun o e => (sb.2 _ D.i2z).trans e⟩, fun c hc' => ?_⟩
    · refine I.turnedLaid (ch := [z, TI, TO, i1, i2]) (Nat.le_refl _) kk hf ?_
      exact ⟨by show 2 ≤ sizeLine; decide, [u1, u2], .cons ru1 (.cons ru2 .nil), ⟨_, hT, rfl, _, rfl⟩⟩
    · have lt : c < s.heap.objs.size := by
        simp only [List.mem_cons, List.not_mem_nil, or_false] at hc'
        rcases hc' with rfl | rfl | rfl | rfl | rfl
        · exact zlt
        · exact Heap.lt_size hTI
        · exact Heap.lt_size hTO
        · obtain ⟨_, e, _⟩ := h1; exact Heap.lt_size e
        · obtain ⟨_, e, _⟩ := h2; exact Heap.lt_size e
      rw [upd_ne (Nat.ne_of_lt lt)]
      exact (hf c hc').1
  done := by
    intro X hP hw hK hc i pins s σ H E I hf st hg
    subst hP hw hK
    obtain ⟨xs, ys, hq1, hq2, hend⟩ := hg
    obtain ⟨its1, rv1, p1, _⟩ := I.list hq1
    obtain ⟨its2, rv2, p2, _⟩ := I.list hq2
    have l1 := rv1.length
    have l2 := rv2.length
    obtain ⟨hz, hTI, ⟨u, v, hTO⟩, h1, h2⟩ := st
    refine wpAny_pyNext_zip_end (I.ok.hd hc) D hz hTI hTO h1 h2 p1.isList p2.isList (hend.imp (fun e => by simp; lia) fun e => by simp; lia) fun h' hk => ⟨rfl, I.turnedMany (ch := [z, TI, TO, i1, i2]) (fun c o hc' e => ?_) hf⟩
    simp only [List.mem_cons, List.not_mem_nil, or_false, not_or] at hc'
    exact hk c o hc'.1 hc'.2.2.1 hc'.2.2.2.1 hc'.2.2.2.2 e
  self := fun _ _ _ _ _ st h => wpAny_pyIter_zip st.1 h
section
variable {X : Cx}
noncomputable def iZip (K : PySem.W.Frag) (te : TA) : TI := fun σ H R => te σ H fun vs H1 => ∃ a b, vs = [.ref a, .ref b] ∧ (∃ xs, SqL K H1 a xs) ∧ (∃ ys, SqL K H1 b ys) ∧ R (Itz K a b) H1
theorem pi_zip {elts : List Expr} {x1} {tp p pos : Pos} {e f : Expr} {te : TA} (hg : Gl X "zip") (hm : X.mg "zip" = none) (ha : PA X [e, f] te) (hs : starEach [e, f] X.env = [(false, eval e X.env), (false, eval f X.env)] := by rfl) (hs2 : starEach [f] X.env = [(false, eval f X.env)] := by rfl) :
    PI X (.Tuple elts x1 tp) (.Call (.Name "zip" p) [e, f] [] pos) (iZip X.K te) := by
  intro pins s σ H R I h
  refine Call_ (ld_blt I hg hm (by decide +kernel : bootBuiltins "zip" = some (.type "zip")) (PyProof.Rows.callWith_type1 (thn (ha pos pins s σ H _ I h) fun us s1 zz0 => ?_) (by rw [hs, hs2]) (by rw [hs2]; rfl)))
  obtain ⟨vs, H1, I1, r1, q1⟩ := zz0
  obtain ⟨a, b, rfl, ⟨xs, hq1⟩, ⟨ys, hq2⟩, q⟩ := q1
  cases r1 with
  | cons ru r2 =>
    obtain ⟨u2, rfl, ru2⟩ := vals1 r2
    cases ru
    cases ru2
    obtain ⟨its1, rv1, p1, _⟩ := I1.list hq1
    obtain ⟨its2, rv2, p2, _⟩ := I1.list hq2
    obtain ⟨o1, e1, _⟩ := p1.isList
    obtain ⟨o2, e2, _⟩ := p2.isList
    refine call_zip_2 p1.isList p2.isList fun h' hz hTI hTO hit1 hit2 hsz hk => ?_
    refine wpAny_pyIter_zip (s := ⟨h', s1.gens, s1.drawn, s1.toks, s1.os⟩) hz ?_
    have I2 : Inv X pins σ H1 { s1 with heap := h' } := I1.kept (t' := s1.toks) hk
    refine ⟨_, _, _, _, H1, rfl, I2, turn_zip _ _ _ _ _ a b (zipApart_new (Heap.lt_size e1) (Heap.lt_size e2)), ⟨hz, hTI, ⟨_, _, hTO⟩, hit1, hit2⟩, fun c hc => ?_, q⟩
    have hb' : s1.heap.objs.size ≤ c := by
      simp only [List.mem_cons, List.not_mem_nil, or_false] at hc
      rcases hc with rfl | rfl | rfl | rfl | rfl
      · exact Nat.le_add_right _ _
      · exact Nat.le_add_right _ _
      · exact Nat.le_add_right _ _
      · exact Nat.le_refl _
      · exact Nat.le_add_right _ _
    exact I1.fpOk hb' (I1.hok.fresh hb')
theorem for_zip {K : PySem.W.Frag} {a b : Addr} {xs ys : List V} {g : TG} {tb : TS} {D : Ends} {σ : St} {H : Hp} (Pv : Nat → St → Hp → Prop) (h0 : Pv 0 σ H) (hl : ∀ i σ H, Pv i σ H → SqL K H a xs ∧ SqL K H b ys) (he : xs.length = ys.length)
    (hs : ∀ i x y T σ H, xs[i]? = some x → ys[i]? = some y → Pv i σ H → H T = none → g (.ref T) σ (upd H T (.tup [x, y])) fun σ2 H2 => tb { D with nx := Pv (i + 1), ct := Pv (i + 1), bk := D.nx } σ2 H2) (hd : ∀ σ H, Pv xs.length σ H → D.nx σ H) :
    ∃ W : Nat → Nat → St → Hp → Prop, (∃ m, W 0 m σ H) ∧ ∀ i m σ H, W i m σ H →
      ((Itz K a b).stop i H ∧ D.nx σ H) ∨ ((Itz K a b).go i H ∧ ∃ N : St → Hp → Prop, (∀ σ' H', N σ' H' → ∃ m', m' < m ∧ W (i + 1) m' σ' H') ∧ ∀ x H', (Itz K a b).yld i H x H' → g x σ H' fun σ2 H2 => tb { D with nx := N, ct := N, bk := D.nx } σ2 H2) := by
  refine ⟨fun i m σ H => m = xs.length - i ∧ i ≤ xs.length ∧ Pv i σ H, ⟨xs.length, by simp, Nat.zero_le _, h0⟩, ?_⟩
  rintro i m σ H ⟨rfl, hi, p⟩
  obtain ⟨q1, q2⟩ := hl i σ H p
  by_cases hlt : i < xs.length
  · have ex : xs[i]? = some xs[i] := List.getElem?_eq_getElem hlt
    have ey : ys[i]? = some (ys[i]'(by lia)) := List.getElem?_eq_getElem _
    refine .inr ⟨⟨xs, ys, _, _, q1, q2, ex, ey⟩, Pv (i + 1), fun σ' H' p' => ⟨xs.length - (i + 1), by lia, rfl, hlt, p'⟩, fun v H' y => ?_⟩
    obtain ⟨T, x, y, hT, hx, hy, rfl, rfl⟩ := y
    exact hs i x y T σ H (hx _ q1) (hy _ q2) p hT
  · have e : i = xs.length := by lia
    subst e
    exact .inl ⟨⟨xs, ys, q1, q2, .inl (Nat.le_refl _)⟩, hd σ H p⟩
end
end L2
namespace L2
open PySem PySem.Spec PyProof.Rows PySem.StrLaws
theorem at_iff (a b : List Nat) (i : Nat) : At (tx b) (tx a) (tx b).length i ↔ i + a.length ≤ b.length ∧ (b.drop i).take a.length = a := by
  unfold At
  rw [subAt_eq, tx_len, tx_len]
  show _ ∧ (((b.drop i).take a.length == a) = true) ↔ _
  rw [beq_iff_eq]
theorem infix_at (a b : List Nat) : a <:+: b ↔ ∃ i, i + a.length ≤ b.length ∧ (b.drop i).take a.length = a := by
  constructor
  · rintro ⟨u, v, rfl⟩
    refine ⟨u.length, by simp, ?_⟩
    rw [List.append_assoc, List.drop_left, List.take_left]
  · rintro ⟨i, hi, e⟩
    refine ⟨b.take i, (b.drop i).drop a.length, ?_⟩
    have h1 : a ++ (b.drop i).drop a.length = b.drop i := by
      have := List.take_append_drop a.length (b.drop i)
      rw [e] at this
      exact this
    rw [List.append_assoc, h1, List.take_append_drop]
theorem in_inf (a b : List Nat) : (!(Builtin.Str.occurrences (tx b) (tx a) 0 (tx b).length 1).isEmpty) = decide (a <:+: b) := by
  rw [Bool.eq_iff_iff, found_iff, decide_eq_true_eq, infix_at]
  exact ⟨fun zz => by obtain ⟨i, h⟩ := zz; exact ⟨i, (at_iff a b i).mp h⟩, fun zz => by obtain ⟨i, h⟩ := zz; exact ⟨i, (at_iff a b i).mpr h⟩⟩
section
variable {X : Cx}
theorem op_in_tx : OpR X (compareOp .In) (fun x y H Q => ∃ a b, x = .str (tx a) ∧ y = .str (tx b) ∧ Q (.bl (decide (a <:+: b))) H) := by
  intro pins s σ H x y v u Q I rx ry h
  obtain ⟨a, b, rfl, rfl, q⟩ := h
  exact op_in_str pins s σ H _ _ v u Q I rx ry ⟨_, _, rfl, rfl, by rw [in_inf]; exact q⟩
theorem op_notin_tx : OpR X (compareOp .NotIn) (fun x y H Q => ∃ a b, x = .str (tx a) ∧ y = .str (tx b) ∧ Q (.bl (!decide (a <:+: b))) H) := by
  intro pins s σ H x y v u Q I rx ry h
  obtain ⟨a, b, rfl, rfl, q⟩ := h
  exact op_notin_str pins s σ H _ _ v u Q I rx ry ⟨_, _, rfl, rfl, by rw [in_inf]; exact q⟩
end
noncomputable def pickBy {α : Type} (xs : List α) (lo hi : Option Int) (st : Int) : List α := (Builtin.Str.strSliceIndices lo hi st xs.length).filterMap (xs[·]?)
theorem pickBy_map {α β : Type} (f : α → β) (xs : List α) (lo hi : Option Int) (st : Int) : pickBy (xs.map f) lo hi st = (pickBy xs lo hi st).map f := by
  unfold pickBy
  rw [List.length_map, List.map_filterMap]
  congr 1
  funext i
  rw [List.getElem?_map]
theorem slicePick_by (items : Array Value) (lo hi : Option Int) (st : Int) : slicePick items lo hi (some st) = (pickBy items.toList lo hi st).toArray := by
  unfold slicePick pickBy
  rw [Array.length_toList]
  congr 1
  have e : (fun x => items.toList[x]?) = fun x => items[x]? := funext fun i => Array.getElem?_toList
  rw [e]
  rfl
theorem pickBy_len {α : Type} (xs : List α) (lo hi : Option Int) (st : Int) : (pickBy xs lo hi st).length ≤ xs.length := by
  have e := slicePick_size_le (xs.map fun _ => Value.none).toArray lo hi (some st)
  rw [slicePick_by, List.size_toArray, List.size_toArray, List.length_map, pickBy_map, List.length_map] at e
  exact e
theorem pickBy_rev {α : Type} (xs : List α) : pickBy xs none none (-1) = xs.reverse := by
  have e : Builtin.Str.strSliceIndices none none (-1) xs.length = (List.range xs.length).map fun k => xs.length - 1 - k := by
    unfold Builtin.Str.strSliceIndices sliceRange
    simp only [show ¬ ((-1 : Int) > 0) by decide, if_false]
    have c : (if ((xs.length : Int) - 1 > -1) then ((xs.length : Int) - 1 - -1 - -1 - 1) / (- -1) else 0).toNat = xs.length := by
      split
      · rw [show (- -1 : Int) = 1 from rfl, Int.ediv_one]; lia
      · lia
    rw [c]
    refine List.map_congr_left fun k hk => ?_
    have := List.mem_range.mp hk
    lia
  unfold pickBy
  rw [e, List.filterMap_map]
  apply List.ext_getElem?
  intro i
  have fm : ∀ n, n ≤ xs.length → List.filterMap ((fun x => xs[x]?) ∘ fun k => xs.length - 1 - k) (List.range n) = xs.reverse.take n := by
    intro n
    induction n with
    | zero => intro _; simp
    | succ n ih =>
      intro hn
      rw [List.range_succ, List.filterMap_append, ih (by lia), List.take_add_one, List.getElem?_reverse (by lia)]
      congr 1
  rw [fm _ (Nat.le_refl _), List.take_of_length_le (by simp)]
section
variable {X : Cx}
noncomputable def SlS (X : Cx) (r : V → Option Int → Option Int → Int → Hp → VK → Prop) : Prop :=
  ∀ (pins : List (Addr × Obj)) (s : Shared) (σ : St) (H : Hp) (x : V) (v vl vu vs : Value) (lo hi : Option Int) (st : Int) (sl : Addr) (Q : VK), Inv X pins σ H s → RelV x v → s.heap.IsSliceOf sl vl vu vs → IsPart vl lo → IsPart vu hi → IsPart vs (some st) → r x lo hi st H Q →
    ∃ T id, typeLookup (.type T) "__getitem__" = pure (some (.builtin id)) ∧ s.TypeIs v T ∧ wpAny (model X.prog X.w) X.A (getItem v (.ref sl)) (EP X pins σ Q) X.xe s
noncomputable def tSlS (r : V → Option Int → Option Int → Int → Hp → VK → Prop) (te : TE) (tl th ts : TO) : TE := fun σ H Q => te σ H fun x H1 => tl σ H1 fun lo H2 => th σ H2 fun hi H3 => ts σ H3 fun st H4 => ∃ k, st = some k ∧ r x lo hi k H4 Q
theorem pe_sliceS {e : Expr} {te : TE} {lo hi : Option Expr} {sp : Expr} {tl th ts : TO} {p2 pos : Pos} {r : V → Option Int → Option Int → Int → Hp → VK → Prop} (hr : SlS X r) (he : PE X e te) (hl : PO X lo tl) (hu : PO X hi th) (hs : PO X (some sp) ts) : PE X (.Subscript e (.Slice lo hi (some sp) p2) pos) (tSlS r te tl th ts) := by
  intro pins s σ H Q I h
  refine Subscript_ (thn (he pins s σ H _ I h) fun v s1 zz0 => ?_)
  obtain ⟨x, H1, I1, r1, q1⟩ := zz0
  refine wpAny_Slice (thn (hl pins s1 σ H1 _ I1 q1) fun vl s2 ⟨l, H2, I2, pl, q2⟩ => thn (hu pins s2 σ H2 _ I2 q2) fun vu s3 ⟨u, H3, I3, pu, q3⟩ => thn (hs pins s3 σ H3 _ I3 q3) fun vs s4 zz0 => ?_)
  obtain ⟨st, H4, I4, ps, k, ek, q4⟩ := zz0
  subst ek
  have I5 : Inv X pins σ H4 { s4 with heap := s4.heap.push { cls := .type "slice", data := .fields #[vl, vu, vs] } } := I4.kept (t' := s4.toks) fun b ob q => Heap.get?_push_of_some _ q
  obtain ⟨T, id, hT, ht, hg⟩ := hr pins { s4 with heap := s4.heap.push { cls := .type "slice", data := .fields #[vl, vu, vs] } } σ H4 x v vl vu vs l u k s4.heap.objs.size Q I5 r1 (Heap.IsSliceOf.new ..) pl pu ps q4
  show wpAny (model X.prog X.w) X.A (subscriptTail e (.Slice lo hi (some sp) p2) v (.ref s4.heap.objs.size)) (EP X pins σ Q) X.xe { s4 with heap := s4.heap.push { cls := .type "slice", data := .fields #[vl, vu, vs] } }
  exact tail_any (ops := [v, .ref s4.heap.objs.size]) ht hT hg (by with_unfolding_all rfl)
theorem vals_pick {xs : List V} {us : List Value} (r : Vals xs us) (is : List Nat) : Vals (is.filterMap (xs[·]?)) (is.filterMap (us[·]?)) := by
  induction is with
  | nil => exact .nil
  | cons i is ih =>
    rw [List.filterMap_cons, List.filterMap_cons]
    cases hx : xs[i]? with
    | none =>
      have hu : us[i]? = none := List.getElem?_eq_none (by rw [← r.length]; exact List.getElem?_eq_none_iff.mp hx)
      rw [hu]; exact ih
    | some x =>
      obtain ⟨u, hu, ru⟩ := r.get hx
      rw [hu]; exact .cons ru ih
noncomputable def rSlsL (K : PySem.W.Frag) : V → Option Int → Option Int → Int → Hp → VK → Prop := fun x lo hi st H Q => ∃ a xs, x = .ref a ∧ SqL K H a xs ∧ st ≠ 0 ∧ ∀ p, H p = none → Q (.ref p) (upd H p (.lst (pickBy xs lo hi st)))
theorem sls_list : SlS X (rSlsL X.K) := by
  intro pins s σ H x v vl vu vs lo hi st sl Q I rx hs pl pu ps h
  obtain ⟨a, xs, rfl, hx, h0, q⟩ := h
  cases rx
  obtain ⟨its, r, ht, hz⟩ := I.list hx
  have hlen := r.length
  refine ⟨"list", _, slot_list_getitem.lookup, ht.isList.typeIs, ?_⟩
  refine wpAny_getItem_list_slice ht.isList hs pl pu ps (by intro z; injection z with z; exact h0 z) ?_ (by rw [List.size_toArray] <;> lia)
  rw [slicePick_by]
  refine ⟨.ref s.heap.objs.size, _, I.laid (t' := s.toks) (o := .lst (pickBy xs lo hi st)) (fun b ob q => Heap.get?_push_of_some _ q) (Nat.le_refl _) ?_, rfl, q _ (I.hok.fresh (Nat.le_refl _))⟩
  refine ⟨Nat.le_trans (pickBy_len xs lo hi st) hz, pickBy its lo hi st, 0, ?_, Heap.get?_push_size _ rfl⟩
  unfold pickBy
  rw [hlen]
  exact vals_pick r _
end
end L2
namespace L2
open PySem PySem.Spec PyProof.Rows PySem.W PySem.SeqAt
section
variable {X : Cx}
end
end L2
namespace L2
open PySem PySem.Spec PyProof.Rows
noncomputable def IteS (l : List Nat) : It :=
  ⟨fun i _ => i < l.length, fun i H x H' => ∃ T c, H T = none ∧ l[i]? = some c ∧ x = .ref T ∧ H' = upd H T (.tup [.int i, .str (tx [c])]), fun i _ => l.length ≤ i⟩
theorem draws_str {prog : Program} {w : World} {A : Around} (hh : A.handled = none) (it : Addr) (x : Str) (t : Tok) (ty : String) (hty : ty = "str_ascii_iterator" ∨ ty = "str_iterator") :
    Draws prog w A it [it] x.cps.size (fun i v => ∃ c u, x.cps[i]? = some c ∧ v = .str ⟨#[c]⟩ u) (fun i h => h.IsStrIter it ty x t i) := by
  rcases hty with rfl | rfl
  · exact Draws.strAscii hh it x t
  · exact Draws.strWide hh it x t
theorem turn_enumS {P : Program} {w : World} {K : PySem.W.Frag} {elts : List Expr} {x1} {tp : Pos} (e it : Addr) (l : List Nat) (t : Tok) (ty : String) (hty : ty = "str_ascii_iterator" ∨ ty = "str_iterator") (hne : e ≠ it) :
    Turn P w K (.Tuple elts x1 tp) (IteS l) [e, it] e (fun i h => (∃ old, IsEnum h e it i old) ∧ h.IsStrIter it ty (tx l) t i) where
  mem := by simp
  obj := fun i h st b hb => by
    obtain ⟨⟨old, he⟩, o, ho, hc, hd⟩ := st
    rcases List.mem_cons.mp hb with rfl | hb
    · exact ⟨_, he, fun v z => by
        have z' : Data.fields _ = Data.cell v := z
        cases z'⟩
    · have e' : b = it := by simpa using hb
      subst e'
      exact ⟨o, ho, fun v z => by rw [hd] at z; cases z⟩
  keep := fun i h h' st k => ⟨let ⟨old, he⟩ := st.1; ⟨old, k e (by simp) _ he⟩, let ⟨o, eo, r⟩ := st.2; ⟨o, k it (by simp) o eo, r⟩⟩
  item := by
    intro X hP hw hK hc i pins s σ H E I hf st hg
    subst hP hw hK
    obtain ⟨⟨old, he⟩, hit⟩ := st
    have hgl : i < l.length := hg
    have hh : X.A.in1.handled = none := I.ok.hd hc
    refine wpAny_pyNext_enum_itemD (draws_str hh it (tx l) t ty hty) he hit (by rw [tx_size]; exact hgl) hne (by simpa using hne) fun x h1 tk hx heo hit1 hT hsz hk => ?_
    obtain ⟨c, u, hc', rfl⟩ := hx
    have hlc : l[i]? = some c := by
      rw [← hc']
      simp [tx]
    refine ⟨_, rfl, wpAny_letOwnedTupleGo_enum heo fun h2 he2 sb => ?_⟩
    have elt : e < s.heap.objs.size := Heap.lt_size he
    have hT2 : h2.get? s.heap.objs.size = some { cls := .type "tuple", data := .seq #[.int i tk, .str ⟨#[c]⟩ u] } := (sb.2 _ (Nat.ne_of_gt elt)).trans hT
    have hnT : H s.heap.objs.size = none := I.hok.fresh (Nat.le_refl _)
    refine ⟨.ref s.heap.objs.size, upd H s.heap.objs.size (.tup [.int i, .str (tx [c])]), ?_, rfl, ⟨_, c, hnT, hlc, rfl, rfl⟩, ⟨⟨_, by simpa using he2⟩, ?_⟩, fun b hb => ?_⟩
    · refine I.turnedLaid (ch := [e, it]) (Nat.le_refl _) (fun b ob hb eo => ?_) hf ?_
      · have h1' : b ≠ e := fun z => hb (by simp [z])
        have h2' : b ≠ it := fun z => hb (by simp [z])
        exact (sb.2 b h1').trans (hk b ob h1' h2' eo)
      · exact ⟨by show 2 ≤ sizeLine; decide, [.int i tk, .str ⟨#[c]⟩ u], .cons ⟨_, rfl⟩ (.cons ⟨u, rfl⟩ .nil), ⟨_, hT2, rfl, _, rfl⟩⟩
    · obtain ⟨o, eo, r⟩ := hit1
      exact ⟨o, (sb.2 it hne.symm).trans eo, r⟩
    · have hb' := (hf b hb).1
      obtain ⟨o, eo, _⟩ : ∃ o, s.heap.get? b = some o ∧ True := by
        rcases List.mem_cons.mp hb with rfl | hb
        · exact ⟨_, he, trivial⟩
        · have e' : b = it := by simpa using hb
          subst e'
          obtain ⟨o, ho, _⟩ := hit
          exact ⟨o, ho, trivial⟩
      rw [upd_ne (Nat.ne_of_lt (Heap.lt_size eo))]
      exact hb'
  done := by
    intro X hP hw hK hc i pins s σ H E I hf st hg
    subst hP hw hK
    obtain ⟨⟨old, he⟩, hit⟩ := st
    have hgl : l.length ≤ i := hg
    have hh : X.A.in1.handled = none := I.ok.hd hc
    obtain ⟨f0, f1, f2, f3, f4, f5⟩ := hf it (by simp)
    have hT : s.TypeIs (.ref e) "enumerate" := ⟨_, he, rfl⟩
    have hx : (tx l).cps[i]? = none := by simp [tx, hgl]
    unfold pyNext
    refine wpAny_bind (wpAny_attempt (wpAny_callSpecial?_slot (name := Str.ofString "__next__") hT F.slot_enumerate_next
      (wpAny_call_entry F.slot_enumerate_next hT F.entry_enumerate_next ?_ (F.args_enumerate_next_1 _))))
    show wpAny _ _ (field (.ref e) 2 >>= _) _ _ _
    refine wpAny_bind (wpAny_field he rfl (x := .ref it) rfl ?_)
    rcases hty with rfl | rfl
    · refine wpAny_bind (wpAny_nextOf_ascii_end hh hit hx fun h' x he' hx' => ?_)
      obtain ⟨o, ho, hc⟩ := hx'
      exact wpAny_bind (wpAny_isInstance (T := "StopIteration") (b := true) ⟨o, ho, hc⟩ isSubtype_stop (wpAny_pure ⟨rfl, I.turned (t' := s.toks) (fun b o hb eo => he' b o hb eo) f0 f1 f3 f4 f5⟩))
    · refine wpAny_bind (wpAny_nextOf_wide_end hh hit hx fun h' x he' hx' => ?_)
      obtain ⟨o, ho, hc⟩ := hx'
      exact wpAny_bind (wpAny_isInstance (T := "StopIteration") (b := true) ⟨o, ho, hc⟩ isSubtype_stop (wpAny_pure ⟨rfl, I.turned (t' := s.toks) (fun b o hb eo => he' b o hb eo) f0 f1 f3 f4 f5⟩))
  self := fun _ _ _ _ _ st h => let ⟨old, he⟩ := st.1; wpAny_pyIter_enum he h
section
variable {X : Cx}
noncomputable def iEnumS (te : TA) : TI := fun σ H R => te σ H fun vs H1 => ∃ l, vs = [.str (tx l)] ∧ R (IteS l) H1
theorem pi_enumS {elts : List Expr} {x1} {tp p pos : Pos} {e : Expr} {te : TA} (hg : Gl X "enumerate") (hm : X.mg "enumerate" = none) (ha : PA X [e] te) (hs : starEach [e] X.env = [(false, eval e X.env)] := by rfl) :
    PI X (.Tuple elts x1 tp) (.Call (.Name "enumerate" p) [e] [] pos) (iEnumS te) := by
  intro pins s σ H R I h
  refine Call_ (ld_blt I hg hm (by decide +kernel : bootBuiltins "enumerate" = some (.type "enumerate")) (PyProof.Rows.callWith_type1 (thn (ha pos pins s σ H _ I h) fun us s1 zz0 => ?_) hs rfl))
  obtain ⟨vs, H1, I1, r1, q1⟩ := zz0
  obtain ⟨l, rfl, q⟩ := q1
  obtain ⟨u, rfl, ru⟩ := vals1 r1
  obtain ⟨t, rfl⟩ := ru
  refine call_enumerate_str fun h' he hit hsz hk => ?_
  refine wpAny_pyIter_enum he ?_
  have I2 : Inv X pins σ H1 { s1 with heap := h' } := I1.kept (t' := s1.toks) hk
  refine ⟨s1.heap.objs.size + 1, [s1.heap.objs.size + 1, s1.heap.objs.size], _, _, H1, rfl, I2, turn_enumS _ _ l t (strIterType (tx l)) (strIter_cases _) (Nat.succ_ne_self _), ⟨⟨.none, he⟩, hit⟩, fun b hb => ?_, q⟩
  have hb' : s1.heap.objs.size ≤ b := by
    rcases List.mem_cons.mp hb with rfl | hb
    · exact Nat.le_succ _
    · have e' : b = s1.heap.objs.size := by simpa using hb
      rw [e']; exact Nat.le_refl _
  exact I1.fpOk hb' (I1.hok.fresh hb')
end
theorem for_enumS {l : List Nat} {g : TG} {tb : TS} {D : Ends} {σ : St} {H : Hp} (Pv : Nat → St → Hp → Prop) (h0 : Pv 0 σ H)
    (hs : ∀ i c T σ H, l[i]? = some c → H T = none → Pv i σ H → g (.ref T) σ (upd H T (.tup [.int i, .str (tx [c])])) fun σ2 H2 => tb { D with nx := Pv (i + 1), ct := Pv (i + 1), bk := D.nx } σ2 H2) (hd : ∀ σ H, Pv l.length σ H → D.nx σ H) :
    ∃ W : Nat → Nat → St → Hp → Prop, (∃ m, W 0 m σ H) ∧ ∀ i m σ H, W i m σ H →
      ((IteS l).stop i H ∧ D.nx σ H) ∨ ((IteS l).go i H ∧ ∃ N : St → Hp → Prop, (∀ σ' H', N σ' H' → ∃ m', m' < m ∧ W (i + 1) m' σ' H') ∧ ∀ x H', (IteS l).yld i H x H' → g x σ H' fun σ2 H2 => tb { D with nx := N, ct := N, bk := D.nx } σ2 H2) := by
  refine ⟨fun i m σ H => m = l.length - i ∧ i ≤ l.length ∧ Pv i σ H, ⟨l.length, by simp, Nat.zero_le _, h0⟩, ?_⟩
  rintro i m σ H ⟨rfl, hi, p⟩
  by_cases hlt : i < l.length
  · refine .inr ⟨hlt, Pv (i + 1), fun σ' H' p' => ⟨l.length - (i + 1), by lia, rfl, hlt, p'⟩, fun x H' y => ?_⟩
    obtain ⟨T, c, hT, hc, ex, e⟩ := y
    subst e ex
    exact hs i c T σ _ hc hT p
  · have e : i = l.length := by lia
    subst e
    exact .inl ⟨Nat.le_refl _, hd σ H p⟩
theorem for_enum {K : PySem.W.Frag} {a : Addr} {xs : List V} {g : TG} {tb : TS} {D : Ends} {σ : St} {H : Hp} (Pv : Nat → St → Hp → Prop) (h0 : Pv 0 σ H) (hl : ∀ i σ H, Pv i σ H → SqL K H a xs)
    (hs : ∀ i y T σ H, xs[i]? = some y → H T = none → Pv i σ H → g (.ref T) σ (upd H T (.tup [.int i, y])) fun σ2 H2 => tb { D with nx := Pv (i + 1), ct := Pv (i + 1), bk := D.nx } σ2 H2) (hd : ∀ σ H, Pv xs.length σ H → D.nx σ H) :
    ∃ W : Nat → Nat → St → Hp → Prop, (∃ m, W 0 m σ H) ∧ ∀ i m σ H, W i m σ H →
      ((Ite K a).stop i H ∧ D.nx σ H) ∨ ((Ite K a).go i H ∧ ∃ N : St → Hp → Prop, (∀ σ' H', N σ' H' → ∃ m', m' < m ∧ W (i + 1) m' σ' H') ∧ ∀ x H', (Ite K a).yld i H x H' → g x σ H' fun σ2 H2 => tb { D with nx := N, ct := N, bk := D.nx } σ2 H2) := by
  refine ⟨fun i m σ H => m = xs.length - i ∧ i ≤ xs.length ∧ Pv i σ H, ⟨xs.length, by simp, Nat.zero_le _, h0⟩, ?_⟩
  rintro i m σ H ⟨rfl, hi, p⟩
  by_cases hlt : i < xs.length
  · refine .inr ⟨⟨xs, xs[i], hl i σ H p, List.getElem?_eq_getElem hlt⟩, Pv (i + 1), fun σ' H' p' => ⟨xs.length - (i + 1), by lia, rfl, hlt, p'⟩, fun x H' y => ?_⟩
    obtain ⟨T, y, hT, hy, ex, e⟩ := y
    subst e ex
    exact hs i y T σ _ (hy xs (hl i σ H p)) hT p
  · have e : i = xs.length := by lia
    subst e
    exact .inl ⟨⟨xs, hl _ σ H p, Nat.le_refl _⟩, hd σ H p⟩
end L2
namespace L2
open PySem PySem.Spec PyProof.Rows
section
variable {X : Cx}
theorem call_ord_tx : CallR X (.builtin "ord") (fun xs H Q => ∃ c : Nat, xs = [.str (tx [c])] ∧ Q (.int (c : Int)) H) := by
  intro pins s σ H xs us Q I rv h
  obtain ⟨c, rfl, q⟩ := h
  exact call_ord pins s σ H _ us Q I rv ⟨tx [c], rfl, rfl, q⟩
end
theorem ixN_nat {n k : Nat} (h : k < n) : ixN n (k : Int) = some k := by
  unfold ixN
  rw [if_pos (by lia)]
  simp [h]
end L2
namespace L2
open PySem PySem.Spec
section
variable {M : Model} {A : Around} {E : Value → Shared → Prop} {s : Shared} {B : Heap} {env : Env} {outer : List Env} {l : List Env} {L e C : Addr} {fl : Value}
end
end L2
namespace L2
open PySem PySem.Spec PyProof.Rows
section
variable {X : Cx} {pins : List (Addr × Obj)} {σ : St} {H H' : Hp} {s s' : Shared} {B : Heap} {ea C : Addr} {h'' : Heap}
end
section
variable {P : Program} {w : World} {K : PySem.W.Frag} {mg : Str → Option Value} {base : Heap} {N : List Str} {qual : Str} {scope : Scope} {f : Addr} {cd : Value} {A : Around} {outer : List Env} {s : Shared} {H : Hp} {E : XK}
end
section
variable {X : Cx} {x : Str} {C : Addr} {np cpos pos : Pos} {e : Expr} {es : List Expr} {t : TA} {E : XK}
end
section
variable {P : Program} {w : World} {K : PySem.W.Frag} {mg : Str → Option Value} {base : Heap} {N : List Str} {qual : Str} {scope : Scope} {f : Addr} {cd : Value} {A : Around} {outer : List Env} {s : Shared} {H : Hp} {E : XK}
  {x : Str} {C : Addr} {np cpos pos : Pos} {e : Expr} {es : List Expr} {t : TA}
end
end L2
namespace L2
open PySem PySem.Spec PyProof.Rows
section
variable {X : Cx} {pins : List (Addr × Obj)} {σ : St} {H H' : Hp} {s s' : Shared} {E : Value → Shared → Prop}
end
section
variable {X : Cx} {x n : Str} {T : Addr} {np hpos pos : Pos} {body : List Stmt} {b₀ : Stmt} {suite : List Stmt} {tb : XK → TS} {ts : Addr → Addr → TS} {i : Nat}
end
end L2
namespace L2
open PySem PySem.Spec PyProof.Rows
section
variable {X : Cx}
end
end L2
namespace L2
open PySem PySem.Spec PyProof.Rows
section
variable {X : Cx} {ea C : Addr} {oe : Obj}
end
section
variable {prog : Program} {w : World} {A : Around} {E : Value → Shared → Prop} {s : Shared}
end
section
variable {X : Cx} {ea C : Addr} {oe : Obj}
end
end L2
namespace L2
open PySem PySem.Spec PyProof.Rows
end L2
namespace L2
open PySem PySem.Spec PyProof.Rows
section
variable {prog : Program} {w : World} {A : Around} {E : Value → Shared → Prop} {s : Shared}
theorem check_max2key (a b v : Value) : checkBuiltinCall "max" ⟨[a, b], [(Str.ofString "key", v)]⟩ = pure () := by kernel_rfl
theorem call_max_len2 {a b : Str} {ta tb : Tok} {Q : Value → Shared → Prop} (hh : A.handled = none) (la : a.length ≤ sizeLine) (lb : b.length ≤ sizeLine)
    (hQ : ∀ h' tk, (∀ c o, s.heap.get? c = some o → h'.get? c = some o) → Q (if (a.length : Int) < (b.length : Int) then .str b tb else .str a ta) { s with heap := h', toks := tk }) :
    wpAny (model prog w) A (call (.builtin "max") [.str a ta, .str b tb] [(Str.ofString "key", .builtin "len")]) Q E s := by
  have hname : (toString "max" ++ toString ".loop" : String) = "max.loop" := by decide
  have hn := line63
  obtain ⟨hp, g, dr, tk, os⟩ := s
  refine wpAny_call (codeAny_call_builtin_code (plainId_quiet PySem.F.plain_max _) (wpAny_of_eq (check_max2key _ _ _) (codeAny_builtin PySem.F.entry_max ?_)))
  rw [Around.under_plainId PySem.F.plain_max _]
  show wpAny _ A.in1 (Builtin.Builtins.bindParams "max" ["key", "default"] 0 ⟨[], [(Str.ofString "key", .builtin "len")]⟩ >>= _) _ _ _
  refine wpAny_bind (wpAny_of_eq (show Builtin.Builtins.bindParams "max" ["key", "default"] 0 ⟨[], [(Str.ofString "key", .builtin "len")]⟩ = pure [some (.builtin "len"), none] from rfl) ?_)
  show wpAny _ A.in1 (newTuple [.str a ta, .str b tb] >>= _) _ _ _
  refine wpAny_bind (wpAny_newObj_type ?_)
  have hT0 : (hp.push { cls := .type "tuple", data := .seq #[.str a ta, .str b tb] }).IsTuple hp.objs.size #[.str a ta, .str b tb] := ⟨_, Heap.get?_push_size _ rfl, rfl, _, rfl⟩
  have k0 : ∀ c o, hp.get? c = some o → (hp.push { cls := .type "tuple", data := .seq #[.str a ta, .str b tb] }).get? c = some o := fun c o e => Heap.get?_push_of_some _ e
  have z0 : (hp.push { cls := .type "tuple", data := .seq #[.str a ta, .str b tb] }).objs.size = hp.objs.size + 1 := Heap.size_push ..
  generalize (hp.push { cls := .type "tuple", data := .seq #[.str a ta, .str b tb] }) = h1 at hT0 k0 z0
  refine wpAny_bind (wpAny_pyIter_tuple hT0 ?_)
  have hI1 : (h1.push { cls := .type "tuple_iterator", data := .fields #[.ref hp.objs.size, .int 0 0] }).IsTupleIter h1.objs.size hp.objs.size 0 := ⟨_, Heap.get?_push_size _ rfl, rfl, rfl⟩
  have hT1 : (h1.push { cls := .type "tuple_iterator", data := .fields #[.ref hp.objs.size, .int 0 0] }).IsTuple hp.objs.size #[.str a ta, .str b tb] := hT0.at fun o e => Heap.get?_push_of_some _ e
  have k1 : ∀ c o, hp.get? c = some o → (h1.push { cls := .type "tuple_iterator", data := .fields #[.ref hp.objs.size, .int 0 0] }).get? c = some o := fun c o e => Heap.get?_push_of_some _ (k0 c o e)
  have z1 : (h1.push { cls := .type "tuple_iterator", data := .fields #[.ref hp.objs.size, .int 0 0] }).objs.size = h1.objs.size + 1 := Heap.size_push ..
  generalize (h1.push { cls := .type "tuple_iterator", data := .fields #[.ref hp.objs.size, .int 0 0] }) = h2 at hI1 hT1 k1 z1
  refine wpAny_bind (wpAny_newList ?_ (Nat.zero_le _))
  rw [hname]
  refine wpAny_pure ⟨plainId_quiet PySem.F.plain_max_loop _, ?_⟩
  have gS : (h2.push (seqObj "list" #[] 0)).get? h2.objs.size = some (seqObj "list" #[] 0) := Heap.get?_push_size _ rfl
  have hI2 : (h2.push (seqObj "list" #[] 0)).IsTupleIter h1.objs.size hp.objs.size 0 := hI1.at fun o e => Heap.get?_push_of_some _ e
  have hT2 : (h2.push (seqObj "list" #[] 0)).IsTuple hp.objs.size #[.str a ta, .str b tb] := hT1.at fun o e => Heap.get?_push_of_some _ e
  have k2 : ∀ c o, hp.get? c = some o → (h2.push (seqObj "list" #[] 0)).get? c = some o := fun c o e => Heap.get?_push_of_some _ (k1 c o e)
  show codeAny _ _ (.builtin "max.loop" ⟨[.ref h1.objs.size, .builtin "len", .ref h2.objs.size], []⟩) _ ⟨h2.push (seqObj "list" #[] 0), g, dr, tk, os⟩
  generalize (h2.push (seqObj "list" #[] 0)) = h3 at gS hI2 hT2 k2
  have eTI : hp.objs.size ≠ h1.objs.size := by lia
  have eSI : h2.objs.size ≠ h1.objs.size := by lia
  have eST : h2.objs.size ≠ hp.objs.size := by lia
  have hlt : ∀ c o, hp.get? c = some o → c ≠ hp.objs.size ∧ c ≠ h1.objs.size ∧ c ≠ h2.objs.size := fun c o e => by
    have h0 : c < hp.objs.size := Heap.lt_size e
    have h1' : c < h1.objs.size := by rw [z0]; exact Nat.lt_succ_of_lt h0
    exact ⟨Nat.ne_of_lt h0, Nat.ne_of_lt h1', Nat.ne_of_lt (by rw [z1]; exact Nat.lt_succ_of_lt h1')⟩
  generalize h1.objs.size = I at *
  generalize h2.objs.size = S at *
  generalize hp.objs.size = T at *
  have W := Walks.tuple (prog := prog) (w := w) (A := A.in1) hh I T eTI #[.str a ta, .str b tb]
  refine codeAny_builtin PySem.F.entry_max_loop ?_
  rw [Around.under_plainId PySem.F.plain_max_loop _]
  show wpAny _ A.in1 (seqItems? (.ref S) >>= _) _ _ _
  refine wpAny_bind (wpAny_seqItems gS rfl ?_)
  show wpAny _ A.in1 (tryCatch (pyNext (.ref I)) _ >>= _) _ _ _
  refine wpAny_bind (wpAny_tryCatch (W.item 0 _ _ _ (by show 0 < 2; decide) ⟨hI2, hT2⟩ fun v h4 tk4 hP st4 k4 => ?_))
  obtain rfl : v = .str a ta := (Option.some.inj hP).symm
  show wpAny _ A.in1 (tryCatch (holding [.str a ta] (call (.builtin "len") [.str a ta])) _ >>= _) _ _ _
  refine wpAny_bind (wpAny_tryCatch (wpAny_holding (len_str (by lia) ?_)))
  have gS4 : h4.get? S = some (seqObj "list" #[] 0) := k4 S _ (by simpa using eSI) gS
  show wpAny _ A.in1 (updateSeq S (fun _ => #[.str a ta, .int a.length (tk4 + 1)]) >>= _) _ _ _
  refine wpAny_bind (wpAny_updateSeq gS4 rfl ?_ (by show 0 ≤ sizeLine; decide) (by show 2 ≤ sizeLine + 1; decide))
  rw [hname]
  refine wpAny_pure ⟨plainId_quiet PySem.F.plain_max_loop _, ?_⟩
  have s5 := Heap.SameBut.update h4 S (Obj.mapSeq fun _ => #[.str a ta, .int a.length (tk4 + 1)])
  obtain ⟨c5, gS5⟩ : ∃ c, (h4.update S (Obj.mapSeq fun _ => #[.str a ta, .int a.length (tk4 + 1)])).get? S = some (seqObj "list" #[.str a ta, .int a.length (tk4 + 1)] c) := ⟨_, get?_update_seq gS4 fun _ => #[.str a ta, .int a.length (tk4 + 1)]⟩
  have hI5 : (h4.update S (Obj.mapSeq fun _ => #[.str a ta, .int a.length (tk4 + 1)])).IsTupleIter I T 1 := st4.1.at fun o e => (s5.2 I eSI.symm).trans e
  have hT5 : (h4.update S (Obj.mapSeq fun _ => #[.str a ta, .int a.length (tk4 + 1)])).IsTuple T #[.str a ta, .str b tb] := st4.2.at fun o e => (s5.2 T eST.symm).trans e
  have k5 : ∀ c o, hp.get? c = some o → (h4.update S (Obj.mapSeq fun _ => #[.str a ta, .int a.length (tk4 + 1)])).get? c = some o := fun c o e => (s5.2 c (hlt c o e).2.2).trans (k4 c o (by simpa using (hlt c o e).2.1) (k2 c o e))
  generalize (h4.update S (Obj.mapSeq fun _ => #[.str a ta, .int a.length (tk4 + 1)])) = h5 at gS5 hI5 hT5 k5
  refine codeAny_builtin PySem.F.entry_max_loop ?_
  rw [Around.under_plainId PySem.F.plain_max_loop _]
  show wpAny _ A.in1 (seqItems? (.ref S) >>= _) _ _ _
  refine wpAny_bind (wpAny_seqItems gS5 rfl ?_)
  show wpAny _ A.in1 (tryCatch (pyNext (.ref I)) _ >>= _) _ _ _
  refine wpAny_bind (wpAny_tryCatch (W.item 1 _ _ _ (by show 1 < 2; decide) ⟨hI5, hT5⟩ fun v h6 tk6 hP6 st6 k6 => ?_))
  obtain rfl : v = .str b tb := (Option.some.inj hP6).symm
  show wpAny _ A.in1 (tryCatch (holding [.str b tb] (call (.builtin "len") [.str b tb])) _ >>= _) _ _ _
  refine wpAny_bind (wpAny_tryCatch (wpAny_holding (len_str (by lia) ?_)))
  have gS6 : h6.get? S = some (seqObj "list" #[.str a ta, .int a.length (tk4 + 1)] c5) := k6 S _ (by simpa using eSI) gS5
  have k6' : ∀ c o, hp.get? c = some o → h6.get? c = some o := fun c o e => k6 c o (by simpa using (hlt c o e).2.1) (k5 c o e)
  show wpAny _ A.in1 (tryCatch (holding [.str b tb, .int b.length (tk6 + 1)] (richCompare .Gt (.int b.length (tk6 + 1)) (.int a.length (tk4 + 1)) >>= _)) _ >>= _) _ _ _
  obtain ⟨kf, kf0, kf1⟩ : ∃ kf : Nat → Int, kf 0 = (a.length : Int) ∧ kf 1 = (b.length : Int) := ⟨fun i => if i = 0 then (a.length : Int) else b.length, rfl, rfl⟩
  refine wpAny_bind (wpAny_tryCatch (wpAny_holding (wpAny_bind (CmpOf.ints_gt (prog := prog) (w := w) (A := A.in1) (P := fun i v => ∃ t, v = .int (kf i) t) kf (fun i v h => h) 1 0 _ _ _ _ _ ⟨tk6 + 1, by rw [kf1]⟩ ⟨tk4 + 1, by rw [kf0]⟩ ?_))))
  refine wpAny_bind (wpAny_holding (wpAny_truthy_bool ?_))
  refine wpAny_bind (wpAny_letGo (wpAny_pure ?_))
  have fin : ∀ (v kv : Value) (c : Nat) (h7 : Heap) (tk7 : Nat), h7.get? S = some (seqObj "list" #[v, kv] c) → h7.IsTupleIter I T 2 → h7.IsTuple T #[.str a ta, .str b tb] → (∀ c o, hp.get? c = some o → h7.get? c = some o) →
      (∀ h' tk, (∀ c o, hp.get? c = some o → h'.get? c = some o) → Q v ⟨h', g, dr, tk, os⟩) →
      codeAny (model prog w) A (.builtin "max.loop" ⟨[.ref I, .builtin "len", .ref S], []⟩) (fun r s' => match r with | .ok (.ret v) => Q v s' | .ok _ => False | .error e => E e s') ⟨h7, g, dr, tk7, os⟩ := by
    intro v kv c h7 tk7 gS7 hI7 hT7 k7 hv
    refine codeAny_builtin PySem.F.entry_max_loop ?_
    rw [Around.under_plainId PySem.F.plain_max_loop _]
    show wpAny _ A.in1 (seqItems? (.ref S) >>= _) _ _ _
    refine wpAny_bind (wpAny_seqItems gS7 rfl ?_)
    show wpAny _ A.in1 (tryCatch (pyNext (.ref I)) _ >>= _) _ _ _
    refine wpAny_bind (wpAny_tryCatch (W.done _ _ _ ⟨hI7, hT7⟩ fun h8 tk8 k8 => ?_))
    have gS8 : h8.get? S = some (seqObj "list" #[v, kv] c) := k8 S _ (by simpa using eSI) gS7
    show wpAny _ A.in1 (updateSeq S (fun _ => #[]) >>= _) _ _ _
    refine wpAny_bind (wpAny_updateSeq gS8 rfl (wpAny_bind (wpAny_letGo (wpAny_pure ?_))) (by show 2 ≤ sizeLine; decide) (by show 0 ≤ sizeLine + 1; decide))
    have s9 := Heap.SameBut.update h8 S (Obj.mapSeq fun _ => (#[] : Array Value))
    exact hv _ _ fun c o e => (s9.2 c (hlt c o e).2.2).trans (k8 c o (by simpa using (hlt c o e).2.1) (k7 c o e))
  by_cases hb' : kf 1 > kf 0
  · simp only [hb', decide_true, if_true]
    refine wpAny_bind ?_
    refine wpAny_updateSeq gS6 rfl (wpAny_bind (wpAny_letGo ?_)) (by show 2 ≤ sizeLine; decide) (by show 2 ≤ sizeLine + 1; decide)
    rw [hname]
    have s7 := Heap.SameBut.update h6 S (Obj.mapSeq fun _ => #[.str b tb, .int b.length (tk6 + 1)])
    obtain ⟨c7, gS7⟩ : ∃ c, (h6.update S (Obj.mapSeq fun _ => #[.str b tb, .int b.length (tk6 + 1)])).get? S = some (seqObj "list" #[.str b tb, .int b.length (tk6 + 1)] c) := ⟨_, get?_update_seq gS6 fun _ => #[.str b tb, .int b.length (tk6 + 1)]⟩
    refine wpAny_pure ⟨plainId_quiet PySem.F.plain_max_loop _, fin _ _ c7 _ _ gS7 (st6.1.at fun o e => (s7.2 I eSI.symm).trans e) (st6.2.at fun o e => (s7.2 T eST.symm).trans e) (fun c o e => (s7.2 c (hlt c o e).2.2).trans (k6' c o e)) fun h' tk' hk => ?_⟩
    have := hQ h' tk' hk
    rw [if_pos (by lia)] at this
    exact this
  · simp only [hb', decide_false, Bool.false_eq_true, if_false]
    refine wpAny_bind (wpAny_letGo ?_)
    rw [hname]
    refine wpAny_pure ⟨plainId_quiet PySem.F.plain_max_loop _, fin _ _ c5 _ _ gS6 st6.1 st6.2 k6' fun h' tk' hk => ?_⟩
    have := hQ h' tk' hk
    rw [if_neg (by lia)] at this
    exact this
end
section
variable {X : Cx}
noncomputable def tMaxL (t : TA) : TE := fun σ H Q => t σ H fun vs H2 => ∃ a b, vs = [.str (tx a), .str (tx b)] ∧ a.length ≤ sizeLine ∧ b.length ≤ sizeLine ∧ Q (.str (tx (if a.length < b.length then b else a))) H2
theorem pe_maxL {e f : Expr} {t : TA} {p q pos kpos : Pos} (hc : X.calm = true) (hg : Gl X "max") (hm : X.mg "max" = none) (hg' : Gl X "len") (hm' : X.mg "len" = none) (ha : PA X [e, f] t)
    (hs : starEach [e, f] X.env = [(false, eval e X.env), (false, eval f X.env)] := by rfl) (hs2 : starEach [f] X.env = [(false, eval f X.env)] := by rfl) :
    PE X (.Call (.Name "max" p) [e, f] [⟨some "key", .Name "len" q, kpos⟩] pos) (tMaxL t) := by
  intro pins s σ H Q I h
  refine wpAny_Call_Name_kw (ld_blt I hg hm (by decide +kernel : bootBuiltins "max" = some (.builtin "max")) ?_)
  refine callWith_kw (e := e) (rest := [f]) (kws := [⟨some "key", .Name "len" q, kpos⟩]) ?_ (by rw [hs, hs2]; rfl) (by rw [hs]; rfl) (by rfl) (by rfl)
  refine thn (ha pos pins s σ H _ I h) fun us s1 zz0 => ?_
  obtain ⟨vs, H1, I1, r1, q1⟩ := zz0
  obtain ⟨a, b, rfl, la, lb, q9⟩ := q1
  show wpAny _ _ (evalAll [(do let v ← eval (.Name "len" _) X.env; standAt pos; pure v)]) _ _ s1
  refine wpAny_evalAll_cons (wpAny_bind (ld_blt I1 hg' hm' (by decide +kernel : bootBuiltins "len" = some (.builtin "len")) (wpAny_bind (wpAny_standAt (wpAny_pure (wpAny_evalAll_nil ?_))))))
  obtain ⟨u1, r2, rfl, ⟨ta, rfl⟩, r3⟩ : ∃ u1 r2, us = u1 :: r2 ∧ RelV (.str (tx a)) u1 ∧ Vals [.str (tx b)] r2 := by
    cases r1 with
    | cons h t => exact ⟨_, _, rfl, h, t⟩
  obtain ⟨u2, rfl, tb, rfl⟩ := vals1 r3
  show wpAny _ _ (call (.builtin "max") [.str (tx a) ta, .str (tx b) tb] [(Str.ofString "key", .builtin "len")]) _ _ _
  refine call_max_len2 (I1.ok.hd hc) (by rw [tx_len]; exact la) (by rw [tx_len]; exact lb) fun h' tk hk => ?_
  have I2 : Inv X pins σ H1 { s1 with heap := h', toks := tk } := I1.kept hk
  rw [tx_len, tx_len]
  by_cases hlt : a.length < b.length
  · rw [if_pos (by lia)]
    rw [if_pos hlt] at q9
    exact ⟨.str (tx b), H1, I2, ⟨tb, rfl⟩, q9⟩
  · rw [if_neg (by lia)]
    rw [if_neg hlt] at q9
    exact ⟨.str (tx a), H1, I2, ⟨ta, rfl⟩, q9⟩
end
end L2
namespace L2
open PySem PySem.Spec PyProof.Rows
noncomputable def ItD (a : Addr) (o : Obj) (kvs : List (Key × V)) : It :=
  ⟨fun i H => H a = some (.frz o (.dK kvs)) ∧ i < kvs.length, fun i H x H' => H' = H ∧ ∃ k v, kvs[i]? = some (k, v) ∧ x = kV k, fun i H => H a = some (.frz o (.dK kvs)) ∧ kvs.length ≤ i⟩
theorem rel_key {P : Program} {w : World} {k : Key} {u : Value} (h : (mixKind P w).is k u = true) : RelV (kV k) u := by
  rcases keyIs_shape (k := k) (v := u) h with ⟨i, t, rfl, rfl⟩ | ⟨x, t, rfl, rfl⟩
  · exact ⟨t, rfl⟩
  · exact ⟨t, rfl⟩
theorem dict_at {X : Cx} {pins : List (Addr × Obj)} {σ : St} {H : Hp} {s : Shared} {a : Addr} {o : Obj} {es : Array DictEntry} {ep : Nat} {kvs : List (Key × V)} (I : Inv X pins σ H s) (e : H a = some (.frz o (.dK kvs))) (ho : o.data = .dict es ep) :
    ∃ vs, KV kvs vs ∧ s.heap.DictAt (mixKind X.prog X.w) a vs ep := by
  have ok : s.heap.get? a = some o ∧ ObjOk X.prog X.w H s.heap a (.dK kvs) := I.hok a _ e
  obtain ⟨h1, _, _, vs, rel, o', es', ep', h2, h3, h4, h5⟩ := ok
  rw [h1] at h2
  cases h2
  rw [ho] at h4
  cases h4
  exact ⟨vs, rel, o, es, h1, h3, ho, h5⟩
theorem turn_dict {P : Program} {w : World} {K : PySem.W.Frag} {tg : Expr} (it a : Addr) (o : Obj) (kvs : List (Key × V)) (es : Array DictEntry) (ep : Nat) (ho : o.data = .dict es ep) : Turn P w K tg (ItD a o kvs) [it] it (fun i h => h.IsKeyIter it a i kvs.length ep) where
  mem := by simp
  obj := fun i h st b hb => by
    have e : b = it := by simpa using hb
    subst e
    obtain ⟨o, e, c, d⟩ := st
    exact ⟨o, e, fun v z => by rw [d] at z; cases z⟩
  keep := fun i h h' st k => by
    obtain ⟨o, e, r⟩ := st
    exact ⟨o, k it (by simp) o e, r⟩
  item := by
    intro X hP hw hK hc i pins s σ H E I hf st hg
    subst hP hw hK
    obtain ⟨f0, f1, f2, f3, f4, f5⟩ := hf it (by simp)
    obtain ⟨hg1, hg2⟩ := hg
    obtain ⟨vs, rel, hm⟩ := dict_at I hg1 ho
    have hl := rel.length
    have hk := rel.keys
    have ek : kvs[i]? = some kvs[i] := List.getElem?_eq_getElem hg2
    have ev : vs[i]? = some (vs[i]'(by lia)) := List.getElem?_eq_getElem _
    have e1 : (vs[i]'(by lia)).1 = kvs[i].1 := by
      have := congrArg (fun l => l[i]?) hk
      simp only [List.getElem?_map, ek, ev, Option.map_some] at this
      exact (Option.some.inj this).symm
    refine wpAny_pyNext_dict_item (kvs := vs) (k := (vs[i]'(by lia)).1) (v := (vs[i]'(by lia)).2) (by rw [← hl]; exact st) hm ev fun key h' hkey hit' sb => ?_
    have I1 : Inv X pins σ H { s with heap := h' } := I.turned (t' := s.toks) (fun b o hb e => (sb.2 b hb).trans e) f0 f1 f3 f4 f5
    rw [← hl] at hit'
    obtain ⟨oi, ei, ci, di⟩ := id hit'
    refine ⟨_, rfl, go_of (s := { s with heap := h' }) ei ci di (by decide) ⟨kV kvs[i].1, H, I1, ?_, ⟨rfl, kvs[i].1, kvs[i].2, ek, rfl⟩, hit', fun b hb => (hf b hb).1⟩⟩
    rw [← e1]
    exact rel_key hkey
  done := by
    intro X hP hw hK hc i pins s σ H E I hf st hg
    subst hP hw hK
    obtain ⟨f0, f1, f2, f3, f4, f5⟩ := hf it (by simp)
    obtain ⟨hg1, hg2⟩ := hg
    obtain ⟨vs, rel, hm⟩ := dict_at I hg1 ho
    have hl := rel.length
    exact wpAny_pyNext_dict_end (I.ok.hd hc) (kvs := vs) (by rw [← hl]; exact st) hm (List.getElem?_eq_none (by lia)) fun h' eb => ⟨rfl, I.turned (t' := s.toks) (fun b o hb e => eb b o hb e) f0 f1 f3 f4 f5⟩
  self := fun _ _ _ _ _ st h => wpAny_pyIter_keyiter st h
section
variable {X : Cx} {tg : Expr}
noncomputable def iDict (te : TE) : TI := fun σ H R => te σ H fun x H1 => ∃ a kvs, x = .ref a ∧ H1 a = some (.dK kvs) ∧ ∀ o, R (ItD a o kvs) (upd H1 a (.frz o (.dK kvs)))
theorem pi_dict {e : Expr} {te : TE} (he : PE X e te) : PI X tg e (iDict te) := by
  intro pins s σ H R I h
  refine thn (he pins s σ H _ I h) fun v s1 zz0 => ?_
  obtain ⟨x, H1, I1, r1, q1⟩ := zz0
  obtain ⟨a, kvs, rfl, ha, q⟩ := q1
  cases r1
  obtain ⟨z, hd, vs, rel, dd⟩ := dk_of I1.hok ha
  obtain ⟨o, es, ep, h1, h2, h3, h4⟩ := id dd
  have I2 : Inv X pins σ (upd H1 a (.frz o (.dK kvs))) { s1 with heap := s1.heap, toks := s1.toks } := d_write I1 (by rw [ha]; exact True.intro) (Heap.SameBut.refl _ _) ⟨o, h1⟩ ⟨h1, dk_new z hd rel dd⟩
  refine wpAny_pyIter_dict (kvs := vs) (ep := ep) hd ⟨o, es, h1, h2, h3, h4⟩ ?_
  refine ⟨s1.heap.objs.size, [s1.heap.objs.size], _, _, upd H1 a (.frz o (.dK kvs)), rfl, I2.kept (t' := s1.toks) fun b o e => Heap.get?_push_of_some _ e, turn_dict _ a o kvs es ep h3, ⟨_, Heap.get?_push_size _ rfl, rfl, by rw [← rel.length]; rfl⟩, fun b hb => ?_, q o⟩
  have e : b = s1.heap.objs.size := by simpa using hb
  subst e
  exact I2.fpOk (Nat.le_refl _) (I2.hok.fresh (Nat.le_refl _))
end
section
variable {X : Cx} {o e : Expr} {apos cpos : Pos} {td ty : TE}
noncomputable def tDUpd (td ty : TE) : TE := fun σ H Q => td σ H fun x H1 => ∃ a, x = .ref a ∧ IsD H1 a ∧ ty σ H1 fun y H2 => ∃ b kvs more, y = .ref b ∧ a ≠ b ∧ H2 a = some (.dK kvs) ∧ H2 b = some (.dK more) ∧ kvs.length + more.length ≤ sizeLine ∧ Q .non (upd H2 a (.dK (mergeK kvs more)))
theorem pe_dupd (ho : PE X o td) (he : PE X e ty) (m : M1 X o "update" apos e cpos) : PE X (.Call (.Attribute o "update" apos) [e] [] cpos) (tDUpd td ty) := by
  intro pins s σ H Q I h
  refine wpAny_Call_method m.base m.few m.line PySem.F.plainAttrs_dict PySem.F.slot_dict_update PySem.F.type_dict_update (thn (ho pins s σ H _ I h) fun u s1 zz0 => ?_)
  obtain ⟨x, H1, I1, rx, a, ex, d, q1⟩ := zz0
  subst ex
  obtain rfl : u = Value.ref a := rx
  obtain ⟨t1, t2, _⟩ := isD_at I1 d
  refine ⟨t1, t2, ?_⟩
  rw [m.trees]
  refine Calls.callWith_builtin rfl (Calls.evalArgs_plain (Calls.spliced_cons (thn (he pins s1 σ H1 _ I1 q1) fun iv s2 ⟨y, H2, I2, ry, b, kvs, more, ey, nab, ea, eb, hz, q2⟩ => Calls.spliced_nil ?_)))
  subst ey
  cases ry
  obtain ⟨z1, hd1, vs, rel1, dd1⟩ := dk_of I2.hok ea
  obtain ⟨z2, hd2, ws, rel2, dd2⟩ := dk_of I2.hok eb
  refine call_meetsIn PySem.F.slot_dict_update dd1.typeIs PySem.F.entry_dict_update (PySem.F.args_dict_update_2 _ _) (meets_dict_update (mixKind X.prog X.w) a b nab hd2) ⟨vs, ws, dd1, dd2, by rw [← rel1.length, ← rel2.length]; exact hz, fun h' e1 e2 sb => ?_⟩
  have hl : (mergeK kvs more).length ≤ sizeLine := Nat.le_trans (length_mergeK more kvs) hz
  have he : ∃ q, h'.get? a = some q := let ⟨q, _, _, hq, _⟩ := e1; ⟨q, hq⟩
  exact ⟨.non, _, d_write I2 (t' := s2.toks) (by rw [ea]; exact True.intro) sb he (dk_new hl hd1 (rel2.merge rel1) e1), rfl, q2⟩
end
end L2
namespace L2
open PySem PySem.Spec PyProof.Rows
noncomputable abbrev ZipB (h : Heap) (z TI TO a : Addr) (b : Bool) : Prop := h.get? z = some { cls := .type "zip", dict := none, data := .fields #[rawInt a, .bool b, .bool false, .ref TI, .ref TO], slots := #[] }
section
variable {prog : Program} {w : World} {A : Around} {E : Value → Shared → Prop} {s : Shared}
theorem wpAny_alive {M : Model} {a : Addr} {Q : Option Obj → Shared → Prop} (h : Q (s.heap.get? a) s) : wpAny M A (loadIfAlive a) Q E s := fun _ _ _ => by
  unfold loadIfAlive
  rw [Sem.wp_loadIfAlive]
  exact wpAny_pure (M := M) (A := A) (E := E) h _ _ ‹_›
theorem busy {z TI TO a : Addr} {b : Bool} {Q : Bool → Shared → Prop} (hz : ZipB s.heap z TI TO a b) (ha : ∃ o, s.heap.get? a = some o)
    (hQ : ∀ h', ZipB h' z TI TO a true → Heap.SameBut z s.heap h' → Q false { s with heap := h' }) : wpAny (model prog w) A (Builtin.SmallTypes.ownedTupleIsFree (.ref z)) Q E s := by
  obtain ⟨o, ho⟩ := ha
  unfold Builtin.SmallTypes.ownedTupleIsFree
  refine wpAny_bind (wpAny_field hz rfl (x := rawInt a) rfl ?_)
  show wpAny _ _ (loadIfAlive (Int.toNat (a : Int)) >>= _) _ _ _
  rw [Int.toNat_natCast]
  refine wpAny_bind (wpAny_alive ?_)
  rw [ho]
  simp only [Option.isNone_some, Bool.false_eq_true, if_false]
  refine wpAny_bind (wpAny_field hz rfl (x := .bool b) rfl ?_)
  cases b with
  | true =>
    rw [if_neg (by decide)]
    exact wpAny_bind (wpAny_pure (wpAny_pure (hQ s.heap hz (Heap.SameBut.refl _ _))))
  | false =>
    rw [if_pos (by decide)]
    exact wpAny_bind (wpAny_setField_rec hz (by simp) fun h' hz' hs' => wpAny_pure (hQ h' hz' hs'))
theorem busy_item {z TI TO i1 i2 l1 l2 a0 : Addr} {b : Bool} {k : Nat} {xs ys : Array Value} {x y : Value} {Q : Option Value → Shared → Prop} (D : ZipApart z TI TO i1 i2 l1 l2)
    (hz : ZipB s.heap z TI TO a0 b) (ha : ∃ o, s.heap.get? a0 = some o) (hTI : IsPair s.heap TI (.ref i1) (.ref i2)) (h1 : s.heap.IsListIter i1 l1 k) (h2 : s.heap.IsListIter i2 l2 k) (hl1 : s.heap.IsList l1 xs) (hl2 : s.heap.IsList l2 ys) (hx : xs[k]? = some x) (hy : ys[k]? = some y)
    (hQ : ∀ h', ZipB h' z TI TO a0 true → h'.IsListIter i1 l1 (k + 1) → h'.IsListIter i2 l2 (k + 1) → IsPair h' s.heap.objs.size x y → h'.objs.size = s.heap.objs.size + 1 →
      (∀ c o, c ≠ z → c ≠ i1 → c ≠ i2 → s.heap.get? c = some o → h'.get? c = some o) → Q (some (.ref s.heap.objs.size)) { s with heap := h' }) : wpAny (model prog w) A (pyNext (.ref z)) Q E s := by
  have hT : s.TypeIs (.ref z) "zip" := ⟨_, hz, rfl⟩
  unfold pyNext
  refine wpAny_bind (wpAny_attempt (wpAny_callSpecial?_slot (name := Str.ofString "__next__") hT F.slot_zip_next (wpAny_call_entry F.slot_zip_next hT F.entry_zip_next ?_ (F.args_zip_next_1 _))))
  show wpAny _ _ (field (.ref z) 2 >>= _) _ _ _
  refine wpAny_bind (wpAny_field hz rfl (x := .bool false) rfl ?_)
  show wpAny _ _ (field (.ref z) 3 >>= _) _ _ _
  refine wpAny_bind (wpAny_field hz rfl (x := .ref TI) rfl (wpAny_bind (wpAny_seqItems hTI rfl ?_)))
  show wpAny _ _ (Builtin.SmallTypes.ownedTupleIsFree (.ref z) >>= _) _ _ _
  refine wpAny_bind (busy hz ha fun ha1 hz1 hs1 => ?_)
  simp only [Bool.false_eq_true, if_false]
  refine wpAny_bind ?_
  rw [← Array.forIn_toList]
  simp only [List.forIn_cons, List.forIn_nil]
  refine wpAny_bind (wpAny_bind (wpAny_holding ?_))
  show wpAny _ _ (Builtin.SmallTypes.nextOf (.ref i1) >>= _) _ _ _
  refine wpAny_bind (wpAny_nextOf_list_item (h1.extBut hs1.extBut D.i1z) (hl1.extBut hs1.extBut D.l1z) hx fun hb1 h12 hs2 => wpAny_pure (wpAny_pure ?_))
  refine wpAny_bind (wpAny_bind (wpAny_holding ?_))
  show wpAny _ _ (Builtin.SmallTypes.nextOf (.ref i2) >>= _) _ _ _
  refine wpAny_bind (wpAny_nextOf_list_item ((h2.extBut hs1.extBut D.i2z).extBut hs2.extBut D.i12.symm) ((hl2.extBut hs1.extBut D.l2z).extBut hs2.extBut D.l2i1) hy fun hc1 h22 hs3 => wpAny_pure (wpAny_pure (wpAny_pure ?_)))
  show wpAny _ _ (newTuple [x, y] >>= _) _ _ _
  have hsz : hc1.objs.size = s.heap.objs.size := by rw [hs3.1, hs2.1, hs1.1]
  refine wpAny_bind (wpAny_newTuple (wpAny_pure ⟨_, rfl, wpAny_pure ?_⟩))
  show Q (some (.ref hc1.objs.size)) { s with heap := hc1.push { cls := .type "tuple", data := .seq #[x, y] } }
  rw [hsz]
  refine hQ _ (Heap.get?_push_of_some _ (hs3.extBut _ _ D.i2z.symm (hs2.extBut _ _ D.i1z.symm hz1))) ((h12.extBut hs3.extBut D.i12).at fun o e => Heap.get?_push_of_some _ e) (h22.at fun o e => Heap.get?_push_of_some _ e) ?_ ?_ fun c o c1 c2 c3 e => Heap.get?_push_of_some _ (hs3.extBut _ _ c3 (hs2.extBut _ _ c2 (hs1.extBut _ _ c1 e)))
  · rw [← hsz]
    exact Heap.get?_push_size _ rfl
  · rw [Heap.size_push, hsz]
theorem busy_end {z TI TO i1 i2 l1 l2 a0 : Addr} {b : Bool} {k : Nat} {xs : Array Value} {Q : Option Value → Shared → Prop} (hh : A.handled = none) (D : ZipApart z TI TO i1 i2 l1 l2)
    (hz : ZipB s.heap z TI TO a0 b) (ha : ∃ o, s.heap.get? a0 = some o) (hTI : IsPair s.heap TI (.ref i1) (.ref i2)) (h1 : s.heap.IsListIter i1 l1 k) (hl1 : s.heap.IsList l1 xs) (hx : xs[k]? = none)
    (hQ : ∀ h', (∀ c o, c ≠ z → c ≠ i1 → s.heap.get? c = some o → h'.get? c = some o) → Q none { s with heap := h' }) : wpAny (model prog w) A (pyNext (.ref z)) Q E s := by
  have hT : s.TypeIs (.ref z) "zip" := ⟨_, hz, rfl⟩
  unfold pyNext
  refine wpAny_bind (wpAny_attempt (wpAny_callSpecial?_slot (name := Str.ofString "__next__") hT F.slot_zip_next (wpAny_call_entry F.slot_zip_next hT F.entry_zip_next ?_ (F.args_zip_next_1 _))))
  show wpAny _ _ (field (.ref z) 2 >>= _) _ _ _
  refine wpAny_bind (wpAny_field hz rfl (x := .bool false) rfl ?_)
  show wpAny _ _ (field (.ref z) 3 >>= _) _ _ _
  refine wpAny_bind (wpAny_field hz rfl (x := .ref TI) rfl (wpAny_bind (wpAny_seqItems hTI rfl ?_)))
  show wpAny _ _ (Builtin.SmallTypes.ownedTupleIsFree (.ref z) >>= _) _ _ _
  refine wpAny_bind (busy hz ha fun ha1 hz1 hs1 => ?_)
  simp only [Bool.false_eq_true, if_false]
  refine wpAny_bind ?_
  rw [← Array.forIn_toList]
  simp only [List.forIn_cons, List.forIn_nil]
  refine wpAny_bind (wpAny_bind (wpAny_holding ?_))
  show wpAny _ _ (Builtin.SmallTypes.nextOf (.ref i1) >>= _) _ _ _
  refine wpAny_bind (wpAny_nextOf_list_end hh (h1.extBut hs1.extBut D.i1z) (hl1.extBut hs1.extBut D.l1z) hx fun h2 e hs2 he => ?_)
  obtain ⟨oe, hoe, hce⟩ := he
  refine wpAny_bind (wpAny_isInstance (T := "StopIteration") (b := true) ⟨oe, hoe, hce⟩ isSubtype_stop ?_)
  exact wpAny_pure (hQ h2 fun c o c1 c3 e => hs2 _ _ c3 (hs1.extBut _ _ c1 e))
end
end L2
namespace L2
open PySem PySem.Spec PyProof.Rows
theorem zip_no_getattr : typeLookup (.type "zip") "__getattr__" = pure none := am_miss_of_fast (by decide +kernel)
theorem zip_no_keys : typeLookup (.type "zip") "keys" = pure none := am_miss_of_fast (by decide +kernel)
theorem entry_zip_ga : entryFor table "zip.__getattribute__" = some Builtin.«object.__getattribute__» :=
  entryFor_alias (id' := "object.__getattribute__") (by kernel_rfl) (by decide +kernel) (by decide +kernel) (by kernel_rfl)
section
variable {prog : Program} {w : World} {A : Around} {E : Value → Shared → Prop} {s : Shared} {z TI TO : Addr} {f0 : Value}
theorem zip_miss {u : Tok} {Q : Fin → Shared → Prop} (hz : IsZip s.heap z TI TO f0) (hh : A.handled = none) (h : ∀ h' tk e, Heap.NewAttrErr s.heap h' e (.ref z) "keys" → E (.ref e) { s with heap := h', toks := tk }) :
    wpAny (model prog w) A (Builtin.«object.__getattribute__» ⟨[.ref z, .str "keys" u], []⟩) Q E s := by
  obtain ⟨hp, g, d, tk, os⟩ := s
  have hT : (⟨hp, g, d, tk, os⟩ : Shared).TypeIs (.ref z) "zip" := ⟨_, hz, rfl⟩
  have hm := zip_no_keys
  unfold Builtin.«object.__getattribute__»
  repeat (any_goals (first | assumption | (with_reducible refine wpAny_loadPart_at hz ?_) | wp_step))
  exact wpAny_raiseAttrError hh h (attrMsg_fits (by decide +kernel) (by decide))
theorem zip_keys {Q : Option Value → Shared → Prop} (hz : IsZip s.heap z TI TO f0) (hh : A.handled = none) (h : ∀ h' tk, (∀ c o, s.heap.get? c = some o → h'.get? c = some o) → Q none { s with heap := h', toks := tk }) :
    wpAny (model prog w) A (getAttr? (.ref z) "keys") Q E s := by
  obtain ⟨hp, g, d, tk, os⟩ := s
  have hT : ∀ t, (⟨hp, g, d, t, os⟩ : Shared).TypeIs (.ref z) "zip" := fun _ => ⟨_, hz, rfl⟩
  unfold getAttr? getAttrBy? getAttrBy
  refine wpAny_bind (wpAny_mkText (wpAny_bind (wpAny_attempt (wpAny_holding (wpAny_bind (wpAny_typeOf (hT _) (wpAny_bind ?_)))))))
  refine wpAny_of_eq F.slot_zip_getattribute.lookup ?_
  show wpAny _ _ (getAttrByItsOwn (.ref z) (.str "keys" tk) (.type "zip") (.builtin "zip.__getattribute__") false false) _ _ _
  unfold getAttrByItsOwn
  refine wpAny_bind (m := hookBefore (.type "zip")) (wpAny_pure ?_)
  refine wpAny_bind (wpAny_attempt (wpAny_holding ?_))
  unfold callGetattribute boundAndCalled
  rw [if_neg (by decide), F.slot_zip_getattribute.bind]
  refine wpAny_bind (wpAny_pure (wpAny_call (codeAny_call_builtin F.slot_zip_getattribute.plain entry_zip_ga ?_)))
  refine F.slot_zip_getattribute.check _ _ _ _ (.ref z) [.str "keys" tk] [] _ (hT _) (F.args_zip_getattribute_2 _ _) ?_
  refine zip_miss hz hh fun h' tk' e hx => ?_
  obtain ⟨t', u', he⟩ := hx.there
  have hE : (⟨h', g, d, tk', os⟩ : Shared).TypeIs (.ref e) "AttributeError" := ⟨_, he, rfl⟩
  show wpAny _ A (getattributeRaised (.ref z) (.str "keys" tk) (.type "zip") (.ref e) none false false) _ _ ⟨h', g, d, tk', os⟩
  unfold getattributeRaised
  refine wpAny_bind (wpAny_isInstance (b := true) hE sub_AttributeError ?_)
  rw [if_pos rfl]
  refine wpAny_bind (wpAny_of_eq (show hookBehind (.type "zip") none = pure none from zip_no_getattr) ?_)
  show wpAny _ A (attributeErrorLeaves (.ref z) (.str "keys" tk) (.ref e) false false) _ _ _
  unfold attributeErrorLeaves
  rw [if_pos (by rfl)]
  first
    | refine wpAny_bind (wpAny_throw ?_)
    | refine wpAny_throw ?_
  show wpAny _ A (isInstance (.ref e) (.type "AttributeError") >>= _) _ _ ⟨h', g, d, tk', os⟩
  refine wpAny_bind (wpAny_isInstance (b := true) hE sub_AttributeError ?_)
  rw [if_pos rfl]
  exact wpAny_pure (h h' tk' hx.keeps)
end
end L2
namespace L2
open PySem PySem.Spec PyProof.Rows
theorem entry_dul : entryFor table "dict.update.loop" = some Builtin.«dict.update.loop» := entryFor_of_tree (by kernel_rfl)
theorem plain_dul : plainId "dict.update.loop" = true := by decide +kernel
theorem stored_len {K : Type} [DecidableEq K] (l : List (K × Value)) (k : K) (v : Value) : (stored l k v).length ≤ l.length + 1 := by
  first
  | exact length_stored_le l k v
  | (unfold stored; split <;> simp)
theorem merged_len {K : Type} [DecidableEq K] : ∀ (m l : List (K × Value)), (merged l m).length ≤ l.length + m.length
  | [], l => Nat.le_refl _
  | p :: m, l => by
    have h := merged_len m (stored l p.1 p.2)
    have h2 := stored_len l p.1 p.2
    show (merged (stored l p.1 p.2) m).length ≤ _
    simp only [List.length_cons]
    lia
section
variable {prog : Program} {w : World} {A : Around} {g : Array GenState} {dr : Drawn} {os : OsState} {z TI TO i1 i2 l1 l2 d : Addr} {xs ys : Array Value} {kvs : List (Key × Value)} {R : Result → Shared → Prop} {h0 : Heap}
structure DSt (w : World) (prog : Program) (h0 : Heap) (z TI TO i1 i2 l1 l2 d : Addr) (xs ys : Array Value) (kvs : List (Key × Value)) (k : Nat) (h : Heap) : Prop where
  zp : (k = 0 ∧ IsZip h z TI TO .none ∧ ∃ a b, IsPair h TO a b) ∨ (0 < k ∧ ∃ a0 b, ZipB h z TI TO a0 b ∧ (∃ o, h.get? a0 = some o) ∧ a0 ≠ d ∧ a0 ≠ z ∧ a0 ≠ i1 ∧ a0 ≠ i2)
  ti : IsPair h TI (.ref i1) (.ref i2)
  it1 : h.IsListIter i1 l1 k
  it2 : h.IsListIter i2 l2 k
  ls1 : h.IsList l1 xs
  ls2 : h.IsList l2 ys
  dd : h.DictOf (mixKind prog w) d (merged [] (kvs.take k))
  kp : ∀ c o, c ≠ z → c ≠ TO → c ≠ i1 → c ≠ i2 → c ≠ d → h0.get? c = some o → h.get? c = some o
theorem zip_dict (hh : A.handled = none) (D : ZipApart z TI TO i1 i2 l1 l2) (dz : d ≠ z) (dTI : d ≠ TI) (dTO : d ≠ TO) (di1 : d ≠ i1) (di2 : d ≠ i2) (dl1 : d ≠ l1) (dl2 : d ≠ l2) (hn : kvs.length ≤ sizeLine) (sx : xs.size = kvs.length)
    (hk : ∀ (i : Nat) (k : Key) (v : Value), kvs[i]? = some (k, v) → ∃ key, xs[i]? = some key ∧ (mixKind prog w).is k key = true ∧ ys[i]? = some v)
    (hR : ∀ h' tk, h'.DictOf (mixKind prog w) d (merged [] kvs) → (∀ c o, c ≠ z → c ≠ TO → c ≠ i1 → c ≠ i2 → c ≠ d → h0.get? c = some o → h'.get? c = some o) → R (.ok (.ret .none)) ⟨h', g, dr, tk, os⟩) :
    ∀ (r k : Nat) (h : Heap) (tk : Nat), k + r = kvs.length → DSt w prog h0 z TI TO i1 i2 l1 l2 d xs ys kvs k h → codeAny (model prog w) A (.builtin "dict.update.loop" ⟨[.ref d, .ref z, rawInt k, .none], []⟩) R ⟨h, g, dr, tk, os⟩ := by
  intro r
  induction r with
  | zero =>
    intro k h tk hkr S
    have ek : k = kvs.length := by lia
    have hx : xs[k]? = none := Array.getElem?_eq_none (by lia)
    refine codeAny_builtin entry_dul ?_
    rw [Around.under_plainId plain_dul _]
    show wpAny _ A.in1 (pyNext (.ref z) >>= _) _ _ _
    have ed : merged [] (kvs.take k) = merged [] kvs := by rw [ek, List.take_length]
    have fin : ∀ h', (∀ c o, c ≠ z → c ≠ TO → c ≠ i1 → c ≠ i2 → h.get? c = some o → h'.get? c = some o) → R (.ok (.ret .none)) ⟨h', g, dr, tk, os⟩ := fun h' kk => by
      refine hR h' tk ?_ fun c o c1 c2 c3 c4 c5 e => kk c o c1 c2 c3 c4 (S.kp c o c1 c2 c3 c4 c5 e)
      obtain ⟨od, es, ep, ho, rest⟩ := S.dd
      rw [← ed]
      exact ⟨od, es, ep, kk d od dz dTO di1 di2 ho, rest⟩
    rcases S.zp with ⟨_, hz, a, b, hTO⟩ | ⟨_, a0, b, hz, ha, _⟩
    · refine wpAny_bind (wpAny_pyNext_zip_end (s := ⟨h, g, dr, tk, os⟩) (A := A.in1) hh D hz S.ti hTO S.it1 S.it2 S.ls1 S.ls2 (.inl hx) fun h' kk => ?_)
      exact wpAny_bind (wpAny_pure (wpAny_pure (fin h' kk)))
    · refine wpAny_bind (busy_end (s := ⟨h, g, dr, tk, os⟩) (A := A.in1) hh D hz ha S.ti S.it1 S.ls1 hx fun h' kk => ?_)
      exact wpAny_bind (wpAny_pure (wpAny_pure (fin h' fun c o c1 _ c3 _ e => kk c o c1 c3 e)))
  | succ r ih =>
    intro k h tk hkr S
    have hlt : k < kvs.length := by lia
    have ekv : kvs[k]? = some kvs[k] := List.getElem?_eq_getElem hlt
    generalize kvs[k] = kv at ekv
    obtain ⟨ke, v⟩ := kv
    obtain ⟨key, hx, hkey, hy⟩ := hk k ke v ekv
    refine codeAny_builtin entry_dul ?_
    rw [Around.under_plainId plain_dul _]
    have hd0 : ∃ od, h.get? d = some od := let ⟨o, _, _, ho, _⟩ := S.dd; ⟨o, ho⟩
    obtain ⟨od, hod⟩ := hd0
    have low : ∀ c o, h.get? c = some o → c ≠ h.objs.size := fun c o e q => by
      subst q
      rw [Heap.get?_none_of_le (Nat.le_refl _)] at e
      cases e
    have step : ∀ h1 a0 b, ZipB h1 z TI TO a0 b → (∃ o, h1.get? a0 = some o) → a0 ≠ d → a0 ≠ z → a0 ≠ i1 → a0 ≠ i2 → h1.IsListIter i1 l1 (k + 1) → h1.IsListIter i2 l2 (k + 1) → IsPair h1 h.objs.size key v →
        (∀ c o, c ≠ z → c ≠ TO → c ≠ i1 → c ≠ i2 → h.get? c = some o → h1.get? c = some o) →
        wpAny (model prog w) A.in1 (holding [Value.ref h.objs.size] (do
            let pair ← (Builtin.Dict.pairItems (Value.ref h.objs.size)).tryCatch fun e => do
              if !(← isInstance e (.type "TypeError")) then throw e
              rule "dict.update.element-no-sequence"
              raiseError "TypeError" s!"cannot convert dictionary update sequence element #{(k : Int)} to a sequence"
            match pair with
            | [k, v] => holding [k, v] (dictSet d k v)
            | l =>
              rule "dict.update.element-length"
              raiseError "ValueError" s!"dictionary update sequence element #{(k : Int)} has length {l.length}; 2 is required") >>= fun _ => again (.builtin "dict.update.loop" ⟨[.ref d, .ref z, rawInt ((k : Int) + 1), .none], []⟩))
          (fun fin s' => match fin with | .done f => R (.ok f) s' | .again c' => c'.quiet = true ∧ codeAny (model prog w) A c' R s') (fun e s' => R (.error e) s') ⟨h1, g, dr, tk, os⟩ := by
      intro h1 a0 b hz ha ad az ai1 ai2 ht1 ht2 hp kk
      refine wpAny_bind (wpAny_holding (wpAny_bind (wpAny_tryCatch ?_)))
      unfold Builtin.Dict.pairItems
      refine wpAny_bind (wpAny_typeOf (T := "tuple") ⟨_, hp, rfl⟩ ?_)
      rw [if_pos (by decide)]
      refine wpAny_bind (wpAny_seqItems hp rfl (wpAny_pure ?_))
      show wpAny _ _ (holding [key, v] (dictSet d key v)) _ _ _
      have dd1 : h1.DictOf (mixKind prog w) d (merged [] (kvs.take k)) := by
        obtain ⟨od, es, ep, ho, rest⟩ := S.dd
        exact ⟨od, es, ep, kk d od dz dTO di1 di2 ho, rest⟩
      have hsz : (merged [] (kvs.take k)).length ≤ sizeLine := by
        refine Nat.le_trans (merged_len (kvs.take k) []) ?_
        simp only [List.length_nil, List.length_take]
        lia
      refine wpAny_holding (wpAny_dictSet_pairs (hsz := hsz) hkey dd1 fun h2 dd2 sb => ?_)
      refine wpAny_pure ⟨plainId_quiet plain_dul _, ?_⟩
      have k12 : ∀ c o, c ≠ d → h1.get? c = some o → h2.get? c = some o := fun c o cd e => (sb.2 c cd).trans e
      refine ih (k + 1) h2 _ (by lia) ⟨.inr ⟨by lia, a0, b, k12 _ _ dz.symm hz, ?_, ad, az, ai1, ai2⟩, k12 _ _ dTI.symm (kk _ _ D.TIz D.TITO D.TIi1 D.TIi2 S.ti), ht1.at fun o e => k12 _ _ di1.symm e, ht2.at fun o e => k12 _ _ di2.symm e, ?_, ?_, ?_, ?_⟩
      · obtain ⟨o, e⟩ := ha
        exact ⟨o, k12 _ _ ad e⟩
      · exact S.ls1.at fun o e => k12 _ _ dl1.symm (kk _ _ D.l1z D.l1TO D.l1i1 D.l1i2 e)
      · exact S.ls2.at fun o e => k12 _ _ dl2.symm (kk _ _ D.l2z D.l2TO D.l2i1 D.l2i2 e)
      · rw [merged_take_succ [] kvs k (ke, v) ekv]
        exact dd2
      · exact fun c o c1 c2 c3 c4 c5 e => k12 _ _ c5 (kk _ _ c1 c2 c3 c4 (S.kp c o c1 c2 c3 c4 c5 e))
    show wpAny _ A.in1 (pyNext (.ref z) >>= _) _ _ _
    rcases S.zp with ⟨_, hz, a, b, hTO⟩ | ⟨_, a0, b, hz, ha, ad, az, ai1, ai2⟩
    · refine wpAny_bind (wpAny_pyNext_zip_item (s := ⟨h, g, dr, tk, os⟩) (A := A.in1) D hz S.ti hTO S.it1 S.it2 S.ls1 S.ls2 hx hy fun h' b1 b2 b3 b4 b5 b6 b7 => ?_)
      obtain ⟨oz, ez, _⟩ := id S.it1
      obtain ⟨oy, ey, _⟩ := id S.it2
      exact step h' h.objs.size false b1 ⟨_, b5⟩ (low d od hod).symm (low z _ hz).symm (low i1 _ ez).symm (low i2 _ ey).symm b3 b4 b5 b7
    · refine wpAny_bind (busy_item (s := ⟨h, g, dr, tk, os⟩) (A := A.in1) D hz ha S.ti S.it1 S.it2 S.ls1 S.ls2 hx hy fun h' b1 b3 b4 b5 b6 b7 => ?_)
      obtain ⟨o, e⟩ := ha
      exact step h' a0 true b1 ⟨o, b7 _ _ az ai1 ai2 e⟩ ad az ai1 ai2 b3 b4 b5 fun c o c1 _ c3 c4 e => b7 c o c1 c3 c4 e
end
end L2
namespace L2
open PySem PySem.Spec PyProof.Rows
section
variable {prog : Program} {w : World} {A : Around} {E : Value → Shared → Prop} {s : Shared}
theorem call_dict_zip {z TI TO i1 i2 l1 l2 : Addr} {xs ys : Array Value} {kvs : List (Key × Value)} {a b : Value} {Q : Value → Shared → Prop} (hh : A.handled = none) (D : ZipApart z TI TO i1 i2 l1 l2) (hz : IsZip s.heap z TI TO .none) (hTI : IsPair s.heap TI (.ref i1) (.ref i2)) (hTO : IsPair s.heap TO a b)
    (it1 : s.heap.IsListIter i1 l1 0) (it2 : s.heap.IsListIter i2 l2 0) (hl1 : s.heap.IsList l1 xs) (hl2 : s.heap.IsList l2 ys) (hn : kvs.length ≤ sizeLine) (sx : xs.size = kvs.length)
    (hk : ∀ (i : Nat) (k : Key) (v : Value), kvs[i]? = some (k, v) → ∃ key, xs[i]? = some key ∧ (mixKind prog w).is k key = true ∧ ys[i]? = some v) (nd : (kvs.map (·.1)).Nodup)
    (h : ∀ h' tk, h'.DictOf (mixKind prog w) s.heap.objs.size kvs → (∀ c o, c ≠ z → c ≠ TO → c ≠ i1 → c ≠ i2 → s.heap.get? c = some o → h'.get? c = some o) → Q (.ref s.heap.objs.size) { s with heap := h', toks := tk }) :
    wpAny (model prog w) A (call (.type "dict") [.ref z]) Q E s := by
  refine callType_codes (Q₁ := fun obj s₁ => obj = .ref s.heap.objs.size ∧ s₁ = { s with heap := s.heap.push { cls := .type "dict", data := .dict #[] } }) F.kt_called_dict (F.kt_typeCall_dict_1 _) F.entry_dict_init (kt_code_dict_new _ ⟨rfl, rfl⟩) ?_
  rintro obj s₁ ⟨rfl, rfl⟩
  have hnew : (s.heap.push { cls := .type "dict", data := .dict #[] }).DictOf (mixKind prog w) s.heap.objs.size [] := Heap.DictOf.new s.heap
  refine ⟨hnew.typeIs, F.args_dict_init_2 _ _, ?_⟩
  unfold Builtin.«dict.__init__»
  refine wpAny_bind ?_
  unfold Builtin.Dict.selfAndRest
  refine wpAny_bind (wpAny_notOrdered_dict hnew.typeIs ?_)
  show wpAny _ _ (pure (s.heap.objs.size, [Value.ref z])) _ _ _
  refine wpAny_pure ?_
  show wpAny _ _ (Builtin.Dict.updateFrom "dict.__init__" s.heap.objs.size (.ref z) [] .none) _ _ _
  unfold Builtin.Dict.updateFrom
  have pz : ∀ {c o}, s.heap.get? c = some o → (s.heap.push { cls := .type "dict", data := .dict #[] }).get? c = some o := fun e => Heap.get?_push_of_some _ e
  refine wpAny_bind (wpAny_typeOf (T := "zip") ⟨_, pz hz, rfl⟩ ?_)
  rw [if_pos (by decide)]
  refine wpAny_bind (zip_keys (A := A.in1.in1) (s := { s with heap := s.heap.push { cls := .type "dict", data := .dict #[] } }) (pz hz) hh fun h1 tk1 k1 => ?_)
  rw [if_pos (by decide)]
  have kz : ∀ {c o}, s.heap.get? c = some o → h1.get? c = some o := fun e => k1 _ _ (pz e)
  refine wpAny_bind (wpAny_rule ?_)
  refine wpAny_bind (wpAny_pyIter_zip (s := ⟨h1, s.gens, s.drawn, tk1, s.os⟩) (kz hz) ?_)
  have ne : ∀ {c o}, s.heap.get? c = some o → s.heap.objs.size ≠ c := fun e q => Nat.lt_irrefl _ (q ▸ Heap.lt_size e)
  have hd1 : h1.DictOf (mixKind prog w) s.heap.objs.size [] := by
    obtain ⟨o, es, ep, ho, r⟩ := hnew
    exact ⟨o, es, ep, k1 _ _ ho, r⟩
  refine wpAny_bind (wpAny_pure ?_)
  obtain ⟨o1, e1, _⟩ := id it1
  obtain ⟨o2, e2, _⟩ := id it2
  obtain ⟨o3, e3, _⟩ := id hl1
  obtain ⟨o4, e4, _⟩ := id hl2
  refine wpAny_pure ⟨plainId_quiet plain_dul _, ?_⟩
  refine zip_dict (A := A.in1) (h0 := h1) (kvs := kvs) hh D (ne hz) (ne hTI) (ne hTO) (ne e1) (ne e2) (ne e3) (ne e4) hn sx hk (fun h' tk dd kk => ?_) kvs.length 0 h1 tk1 (Nat.zero_add _)
    ⟨.inl ⟨rfl, kz hz, a, b, kz hTO⟩, kz hTI, it1.at fun o e => kz e, it2.at fun o e => kz e, hl1.at fun o e => kz e, hl2.at fun o e => kz e, hd1, fun c o _ _ _ _ _ e => e⟩
  rw [merged_nil_of_nodup kvs nd] at dd
  exact ⟨rfl, h h' tk dd fun c o c1 c2 c3 c4 e => kk c o c1 c2 c3 c4 (ne e).symm (kz e)⟩
end
noncomputable abbrev ksK (ks : List Str) : List Key := ks.map Sum.inr
theorem zipped : ∀ {ks : List Str} {us vs : List Value} {ys : List V}, Vals (ks.map fun k => kV (.inr k)) us → Vals ys vs → ks.length = ys.length → KV (List.zip (ksK ks) ys) (List.zip (ksK ks) vs) ∧
    ∀ (P : Program) (w : World) (i : Nat) (k : Key) (v : Value), (List.zip (ksK ks) vs)[i]? = some (k, v) → ∃ key, us[i]? = some key ∧ (mixKind P w).is k key = true ∧ vs[i]? = some v
  | [], us, vs, ys, h1, h2, e => by
    cases h1
    cases h2 with
    | nil => exact ⟨.nil, fun P w i k v z => by simp at z⟩
    | cons => cases e
  | k :: ks, us, vs, ys, h1, h2, e => by
    cases h1 with
    | cons r1 t1 =>
      cases h2 with
      | nil => cases e
      | cons r2 t2 =>
        obtain ⟨a, b⟩ := zipped t1 t2 (Nat.succ.inj e)
        refine ⟨.cons ⟨rfl, r2⟩ a, fun P w i k' v z => ?_⟩
        cases i with
        | zero =>
          have z' := Option.some.inj z
          obtain ⟨rfl, rfl⟩ := Prod.mk.inj z'
          obtain ⟨t, rfl⟩ : ∃ t, _ = Value.str k t := r1
          exact ⟨_, rfl, by simp [mixKind, keyIs, Value.isStrOf], rfl⟩
        | succ i => exact b P w i k' v z
section
variable {X : Cx}
noncomputable def tDZip (K : PySem.W.Frag) (te : TA) : TE := fun σ H Q => te σ H fun vs H1 => ∃ a b ks ys, vs = [.ref a, .ref b] ∧ SqL K H1 a (ks.map fun k => kV (.inr k)) ∧ SqL K H1 b ys ∧ ks.length = ys.length ∧ ks.Nodup ∧ ∀ d, H1 d = none → Q (.ref d) (upd H1 d (.dK (List.zip (ksK ks) ys)))
theorem pe_dzip {e f : Expr} {te : TA} {p1 p2 pos1 pos2 : Pos} (hc : X.calm = true) (hg1 : Gl X "dict") (hm1 : X.mg "dict" = none) (hg2 : Gl X "zip") (hm2 : X.mg "zip" = none) (ha : PA X [e, f] te)
    (hs : starEach [e, f] X.env = [(false, eval e X.env), (false, eval f X.env)] := by rfl) (hs1 : starEach [f] X.env = [(false, eval f X.env)] := by rfl) (hs2 : starEach [Expr.Call (.Name "zip" p2) [e, f] [] pos2] X.env = [(false, eval (.Call (.Name "zip" p2) [e, f] [] pos2) X.env)] := by rfl) :
    PE X (.Call (.Name "dict" p1) [.Call (.Name "zip" p2) [e, f] [] pos2] [] pos1) (tDZip X.K te) := by
  intro pins s σ H Q I h
  refine wpAny_Call_Name_kw (ld_blt I hg1 hm1 (by decide +kernel : bootBuiltins "dict" = some (.type "dict")) ?_)
  refine PyProof.Rows.callWith_type1 ?_ hs2 rfl
  rw [hs2]
  show wpAny _ _ (spliced ((false, eval (.Call (.Name "zip" p2) [e, f] [] pos2) X.env) :: [])) _ _ s
  refine Calls.spliced_cons ?_
  refine wpAny_Call_Name_kw (ld_blt I hg2 hm2 (by decide +kernel : bootBuiltins "zip" = some (.type "zip")) ?_)
  refine PyProof.Rows.callWith_type1 (thn (ha pos2 pins s σ H _ I h) fun us s1 zz0 => ?_) (by rw [hs, hs1]) (by rw [hs1]; rfl)
  obtain ⟨vs, H1, I1, r1, q1⟩ := zz0
  obtain ⟨a, b, ks, ys, rfl, hq1, hq2, hl, nd, q⟩ := q1
  cases r1 with
  | cons ru r2 =>
    obtain ⟨u2, rfl, ru2⟩ := vals1 r2
    cases ru
    cases ru2
    obtain ⟨its1, rv1, pl1, z1⟩ := I1.list hq1
    obtain ⟨its2, rv2, pl2, z2⟩ := I1.list hq2
    obtain ⟨o1, e1, _⟩ := pl1.isList
    obtain ⟨o2, e2, _⟩ := pl2.isList
    have len1 := rv1.length
    have len2 := rv2.length
    rw [List.length_map] at len1
    obtain ⟨kv, kis⟩ := zipped rv1 rv2 hl
    refine call_zip_2 pl1.isList pl2.isList fun h' hz hTI hTO hit1 hit2 hsz hk => ?_
    refine Calls.spliced_nil ?_
    have I2 : Inv X pins σ H1 { s1 with heap := h' } := I1.kept (t' := s1.toks) hk
    have lz : (List.zip (ksK ks) its2).length = ks.length := by
      rw [List.length_zip, List.length_map]
      lia
    refine call_dict_zip (s := { s1 with heap := h' }) (kvs := List.zip (ksK ks) its2) (I.ok.hd hc) (zipApart_new (Heap.lt_size e1) (Heap.lt_size e2)) hz hTI hTO hit1 hit2 (pl1.isList.at fun o e => hk _ _ e) (pl2.isList.at fun o e => hk _ _ e)
      (by rw [lz]; lia) (by rw [lz, List.size_toArray]; lia) (fun i k v z => ?_) ?_ fun h2 tk dd kk => ?_
    · obtain ⟨key, a1, a2, a3⟩ := kis X.prog X.w i k v z
      exact ⟨key, by simpa using a1, a2, by simpa using a3⟩
    · rw [List.map_fst_zip (by rw [List.length_map]; lia)]
      exact List.Pairwise.map _ (fun x y e z => e (Sum.inr.inj z)) nd
    · have hfresh : H1 h'.objs.size = none := I2.hok.fresh (Nat.le_refl _)
      refine ⟨.ref h'.objs.size, _, I2.turnedLaid (ch := [s1.heap.objs.size + 4, s1.heap.objs.size + 3, s1.heap.objs.size, s1.heap.objs.size + 1]) (Nat.le_refl _) (fun c o hb eo => ?_) (fun c hb => ?_) ?_, rfl, q _ hfresh⟩
      · simp only [List.mem_cons, List.not_mem_nil, or_false, not_or] at hb
        exact kk c o hb.1 hb.2.1 hb.2.2.1 hb.2.2.2 eo
      · have hb' : s1.heap.objs.size ≤ c := by
          simp only [List.mem_cons, List.not_mem_nil, or_false] at hb
          rcases hb with rfl | rfl | rfl | rfl
          · exact Nat.le_add_right _ _
          · exact Nat.le_add_right _ _
          · exact Nat.le_refl _
          · exact Nat.le_add_right _ _
        exact I1.fpOk hb' (I1.hok.fresh hb')
      · exact dk_new (by rw [kv.length, lz]; lia) (beq_eq_false_iff_ne.mpr (Ne.symm (Nat.ne_of_lt I2.big))) kv dd
end
end L2
namespace L2S
set_option autoImplicit false
open PySem PyProof.Rows
section
variable {prog : Program} {w : World} {A : Around} {E : Value → Shared → Prop} {s : Shared}
theorem sort_texts {l : Addr} {vs : List Value} {ss : List Str} {n : Nat} {P : Fin → Shared → Prop} (hl : s.heap.get? l = some (seqObj "list" vs.toArray n)) (hS : StrsAre vs ss) (hz : vs.length ≤ sizeLine) (h64 : vs.length < 64)
    (k : ∀ st : SortSt, (arrOf st).Perm (pairsOf vs) → SortedToK strKind (arrOf st) (pairsOf vs).size → P (.done (.ret .none)) { s with heap := sortedHeap s.heap l vs ((arrOf st).map (·.2)) }) :
    wpAny (model prog w) A (Builtin.«list.sort» ⟨[.ref l], []⟩) P E s := by
  have vsz : vs.toArray.size = vs.length := List.size_toArray ..
  have lt : l < s.heap.objs.size := Heap.lt_size hl
  rw [list_sort_plain]
  refine wpAny_bind (listItems_at hl rfl (wpAny_bind (listUpdate_at hl rfl ?_ (hsz := by rw [vsz]; exact hz) (hsz2 := Nat.zero_le _))))
  obtain ⟨m, g1⟩ : ∃ m, (s.heap.update l (Obj.mapSeq fun _ => #[])).get? l = some (seqObj "list" #[] m) := ⟨_, get?_update_seq hl (fun _ => #[])⟩
  refine wpAny_bind (seqEpoch_at g1 rfl (wpAny_bind (wpAny_newTuple ?_ (by simpa using hz))))
  refine wpAny_bind (wpAny_newList ?_)
  refine wpAny_holding ?_
  have g2 : ((s.heap.update l (Obj.mapSeq fun _ => #[])).push (seqObj "tuple" vs.toArray 0)).get? l = some (seqObj "list" #[] m) := by
    rw [Heap.get?_push_ne _ _ _ (by rw [Heap.size_update]; exact Nat.ne_of_lt lt)]; exact g1
  have g3 : (((s.heap.update l (Obj.mapSeq fun _ => #[])).push (seqObj "tuple" vs.toArray 0)).push (seqObj "list" #[] 0)).get? l = some (seqObj "list" #[] m) := by
    rw [Heap.get?_push_ne _ _ _ (by rw [size_push', Heap.size_update]; exact Nat.ne_of_lt (Nat.lt_succ_of_lt lt))]; exact g2
  show wpAny (model prog w) A _ P E ⟨((s.heap.update l (Obj.mapSeq fun _ => #[])).push (seqObj "tuple" vs.toArray 0)).push (seqObj "list" #[] 0), _, _, _, _⟩
  dsimp only
  have rest : ∀ st : SortSt, (arrOf st).Perm (pairsOf vs) → failedOf st = none → SortedToK strKind (arrOf st) (pairsOf vs).size → ((arrOf st).map (·.2)).size ≤ sizeLine + 1 := fun st hp _ _ => by
    rw [Array.size_map, hp.size_eq, pairsOf_size]; exact Nat.le_succ_of_le hz
  by_cases few : vs.toArray.size < 2
  · rw [if_pos few, if_pos few]
    refine wpAny_bind (wpAny_pure ?_)
    rw [StateT.run_pure]
    have srt : SortedToK strKind (pairsOf vs) (pairsOf vs).size := fun i j hij hj => by
      have e : i = j := by rw [pairsOf_size] at hj; lia
      subst e; exact KeyOrd.kle_refl _
    have fits := rest (SortSt.mk' general' (vs.toArray.zip vs.toArray) #[] 7 none) (Array.Perm.refl _) rfl srt
    refine wpAny_bind (wpAny_pure (wpAny_bind (seqEpoch_at g3 rfl (wpAny_bind (listUpdate_at g3 rfl ?_ (hsz2 := fits))))))
    simp only [bne_self_eq_false, Bool.false_eq_true, if_false]
    exact wpAny_pure (k (SortSt.mk' general' (vs.toArray.zip vs.toArray) #[] 7 none) (Array.Perm.refl _) srt)
  · rw [if_neg few, if_neg few]
    have kk : keyKind' vs.toArray = pure oneType' := by
      match vs, hS, few with
      | [], _, few => exact absurd (by decide) few
      | [_], _, few => exact absurd (show 1 < 2 by decide) few
      | _ :: _ :: _, hS, _ => exact keyKind_strs hS
    rw [kk]
    refine wpAny_bind (wpAny_pure (wpAny_bind ?_))
    have go := wpS_sortRunsK (prog := prog) (w := w) (A := A) (E := E) (s := ⟨((s.heap.update l (Obj.mapSeq fun _ => #[])).push (seqObj "tuple" vs.toArray 0)).push (seqObj "list" #[] 0), s.gens, s.drawn, s.toks, s.os⟩) strKind_oneLt (a₀ := pairsOf vs) hS.keysOf
      (st := SortSt.mk' oneType' (vs.toArray.zip vs.toArray) #[] 7 none) ⟨Array.Perm.refl _, rfl, rfl, rfl⟩ (by rw [pairsOf_size]; lia) (by rw [pairsOf_size]; exact h64)
      (Q := fun _ st => (arrOf st).Perm (pairsOf vs) ∧ failedOf st = none ∧ SortedToK strKind (arrOf st) (pairsOf vs).size) fun st a b c => ⟨a, b, c⟩
    refine wpAny_mono go (fun r s' hr => ?_) fun _ _ z => z
    obtain ⟨rfl, hp, hf, hs⟩ := hr
    obtain ⟨u, st⟩ := r
    dsimp only at hp hf hs ⊢
    refine wpAny_bind (seqEpoch_at g3 rfl (wpAny_bind (listUpdate_at g3 rfl ?_ (hsz2 := rest st hp hf hs))))
    rw [hf]
    simp only [bne_self_eq_false, Bool.false_eq_true, if_false]
    exact wpAny_pure (k st hp hs)
theorem sorted_texts {x : Value} {Q : Value → Shared → Prop}
    (h : wpAny (model prog w) A.in1 (collect x) (fun vs s1 => vs.length ≤ sizeLine ∧ vs.length < 64 ∧ ∃ ss, StrsAre vs ss ∧ ∀ (h' : Heap) (vs' : List Value) (ss' : List Str) (m : Nat), (∀ b o, s1.heap.get? b = some o → h'.get? b = some o) → h'.get? s1.heap.objs.size = some (seqObj "list" vs'.toArray m) → StrsAre vs' ss' → ss'.Perm ss → sortedS ss' = true →
      Q (.ref s1.heap.objs.size) { s1 with heap := h' }) (fun _ _ => False) s) : wpAny (model prog w) A (call (.builtin "sorted") [x]) Q E s := by
  refine Calls.call_function_entry kind_sorted plain_sorted entry_sorted (args_sorted1 _) ?_
  unfold Builtin.«sorted»
  refine wpAny_bind (m := checkCount "sorted" 1 1 _) (wpAny_pure ?_)
  refine wpAny_bind (wpAny_mono h (fun vs s1 hv => ?_) fun _ _ z => False.elim z)
  obtain ⟨hz, h64, ss, hS, k⟩ := hv
  refine wpAny_bind (wpAny_newList ?_ (by simpa using hz))
  have g : (s1.heap.push (seqObj "list" vs.toArray 0)).get? s1.heap.objs.size = some (seqObj "list" vs.toArray 0) := Heap.get?_push_size _ rfl
  show wpAny _ _ _ _ _ ⟨s1.heap.push (seqObj "list" vs.toArray 0), _, _, _, _⟩
  refine wpAny_bind (wpAny_holding (wpAny_call_entry slot_list_sort ⟨_, g, rfl⟩ entry_list_sort (sort_texts (s := ⟨s1.heap.push (seqObj "list" vs.toArray 0), s1.gens, s1.drawn, s1.toks, s1.os⟩) g hS hz h64 fun st hp hs => ⟨_, rfl, ?_⟩) (args_list_sort _)))
  obtain ⟨ss', o1, o2, o3⟩ := sorted_out_str hS hp hs
  refine wpAny_pure ⟨_, rfl, ?_⟩
  have lt : s1.heap.objs.size < (s1.heap.push (seqObj "list" vs.toArray 0)).objs.size := by rw [size_push']; exact Nat.lt_succ_self _
  obtain ⟨m0, g1⟩ : ∃ m0, ((s1.heap.push (seqObj "list" vs.toArray 0)).update s1.heap.objs.size (Obj.mapSeq fun _ => #[])).get? s1.heap.objs.size = some (seqObj "list" #[] m0) := ⟨_, get?_update_seq g (fun _ => #[])⟩
  have g2 : ((((s1.heap.push (seqObj "list" vs.toArray 0)).update s1.heap.objs.size (Obj.mapSeq fun _ => #[])).push (seqObj "tuple" vs.toArray 0)).push (seqObj "list" #[] 0)).get? s1.heap.objs.size = some (seqObj "list" #[] m0) := by
    rw [Heap.get?_push_ne _ _ _ (by rw [size_push', Heap.size_update]; exact Nat.ne_of_lt (Nat.lt_succ_of_lt lt)), Heap.get?_push_ne _ _ _ (by rw [Heap.size_update]; exact Nat.ne_of_lt lt)]
    exact g1
  generalize (arrOf st).map (fun p => p.2) = out at o1 ⊢
  obtain ⟨m, g3⟩ : ∃ m, (sortedHeap (s1.heap.push (seqObj "list" vs.toArray 0)) s1.heap.objs.size vs out).get? s1.heap.objs.size = some (seqObj "list" out m) := ⟨_, get?_update_seq g2 (fun _ => out)⟩
  have e : out = out.toList.toArray := by simp
  refine k _ out.toList ss' m (fun b o q => ?_) (by rw [← e]; exact g3) o1 o2 o3
  have nb : s1.heap.objs.size ≠ b := Nat.ne_of_gt (Heap.lt_size q)
  unfold sortedHeap
  rw [Heap.get?_update_other _ _ nb]
  refine Heap.get?_push_of_some _ (Heap.get?_push_of_some _ ?_)
  rw [Heap.get?_update_other _ _ nb]
  exact Heap.get?_push_of_some _ q
end
end L2S
namespace L2T
set_option autoImplicit false
open PySem PyProof.Rows
section
variable (prog : Program) (w : World)
structure SetX (h : Heap) (a : Addr) (l : List Str) : Prop where
  ex : ∃ (o : Obj) (es : Array (Int × Value)) (ep : Nat) (t : SetTable) (ks : List Str), h.get? a = some o ∧ o.ExactSet ∧ o.data = .set es ep t ∧ ElemsOf (PySem.strKind prog w) es.toList ∧ StrsAre (es.toList.map (·.2)) ks ∧ ks.Perm l ∧ es.size < scanBound ∧ t.fits es.size = true ∧ (t.plain = false ∨ es.size = 0)
end
section
variable {prog : Program} {w : World} {A : Around} {E : Value → Shared → Prop} {s : Shared}
theorem SetX.keeps {h h' : Heap} {a : Addr} {l : List Str} (x : SetX prog w h a l) (k : ∀ o, h.get? a = some o → h'.get? a = some o) : SetX prog w h' a l := by
  obtain ⟨o, es, ep, t, ks, e, r⟩ := x.ex
  exact ⟨o, es, ep, t, ks, k o e, r⟩
theorem str_is (x : Str) (t : Tok) : (PySem.strKind prog w).is x (.str x t) = true := by
  show Value.isStrOf x (.str x t) = true
  simp [Value.isStrOf]
theorem is_str {x : Str} {v : Value} (h : (PySem.strKind prog w).is x v = true) : ∃ t, v = .str x t := Value.isStrOf_shape (x := x) (v := v) h
theorem strs_mem {vs : List Value} {ks : List Str} (h : StrsAre vs ks) {x : Str} : x ∈ ks ↔ ∃ t, Value.str x t ∈ vs := by
  induction h with
  | nil => simp
  | cons y t r ih =>
    rw [List.mem_cons, ih]
    constructor
    · rintro (e | ⟨u, e⟩)
      · subst e; exact ⟨t, List.mem_cons_self⟩
      · exact ⟨u, List.mem_cons_of_mem _ e⟩
    · rintro ⟨u, e⟩
      rcases List.mem_cons.mp e with q | q
      · cases q; exact .inl rfl
      · exact .inr ⟨u, q⟩
theorem strs_append : ∀ {vs us : List Value} {ks ls : List Str}, StrsAre vs ks → StrsAre us ls → StrsAre (vs ++ us) (ks ++ ls)
  | _, _, _, _, .nil, h => h
  | _, _, _, _, .cons x t r, h => .cons x t (strs_append r h)
theorem strs_perm {vs us : List Value} {ks : List Str} (h : StrsAre vs ks) (p : us.Perm vs) : ∃ ls, StrsAre us ls ∧ ls.Perm ks := by
  induction p generalizing ks with
  | nil => exact ⟨ks, h, .refl _⟩
  | cons v _ ih =>
    cases h with
    | cons x t r =>
      obtain ⟨ls, h1, h2⟩ := ih r
      exact ⟨x :: ls, .cons x t h1, h2.cons x⟩
  | swap a b l =>
    cases h with
    | cons x t r =>
      cases r with
      | cons y u r2 => exact ⟨y :: x :: _, .cons y u (.cons x t r2), .swap x y _⟩
  | trans _ _ ih1 ih2 =>
    obtain ⟨ls, h1, h2⟩ := ih2 h
    obtain ⟨ms, h3, h4⟩ := ih1 h1
    exact ⟨ms, h3, h4.trans h2⟩
theorem laid_plain {mask finger moves : Nat} {led plain : Bool} {hashes : Array Int} {t : SetTable} {o : Array Nat} (h : SetTable.laid mask finger moves led plain hashes = some (t, o)) : t.plain = plain := by
  unfold SetTable.laid at h
  simp only [bind, Option.bind, pure] at h
  repeat' split at h
  all_goals first | (cases h; done) | (cases h; rfl)
theorem relay_plain (t : SetTable) (es : Array (Int × Value)) (n : Nat) (h : t.plain = false) : (relayAll t es n).2.1.plain = false := by
  unfold relayAll
  split
  · rename_i t' order e
    dsimp only
    split
    · unfold SetTable.relaid at e
      exact (laid_plain e).trans h
    · rfl
  · rfl
theorem notIn {es : Array (Int × Value)} {ks l : List Str} (hs : StrsAre (es.toList.map (·.2)) ks) (hp : ks.Perm l) {x : Str} : x ∈ l ↔ ∃ e ∈ es.toList, (PySem.strKind prog w).is x e.2 = true := by
  rw [← hp.mem_iff, strs_mem hs]
  constructor
  · rintro ⟨t, h⟩
    obtain ⟨e, he, q⟩ := List.mem_map.mp h
    exact ⟨e, he, by rw [q]; exact str_is x t⟩
  · rintro ⟨e, he, q⟩
    obtain ⟨t, et⟩ := is_str q
    exact ⟨t, by rw [← et]; exact List.mem_map.mpr ⟨e, he, rfl⟩⟩
theorem setAdd_text {a : Addr} {l : List Str} {x : Str} {tk : Tok} {Q : Bool → Shared → Prop} (SX : SetX prog w s.heap a l) (room : l.length + 1 < scanBound)
    (k : ∀ h', Heap.SameBut a s.heap h' → SetX prog w h' a (if x ∈ l then l else l ++ [x]) → Q (!decide (x ∈ l)) { s with heap := h' }) : wpAny (model prog w) A (setAddHashed a (.str x tk) ((PySem.strKind prog w).hash x)) Q E s := by
  obtain ⟨o, es, ep, t, ks, at0, exact0, dat, els, tex, perm, bnd, fits, pl⟩ := SX.ex
  have len : es.size = l.length := by
    have h1 := tex.length
    rw [List.length_map, perm.length_eq] at h1
    simpa using h1
  have key : (PySem.strKind prog w).is x (.str x tk) = true := str_is x tk
  unfold setAddHashed setAddHashedIn
  refine wpAny_holding (wpAny_bind (wpAny_setState_of at0 dat fits ?_))
  dsimp only
  rw [byScan_of (knd := PySem.strKind prog w) (x := .str x tk) rfl bnd els, if_pos rfl]
  unfold setAddByScan
  refine wpAny_bind (wpAny_bind (wpAny_rule (wpAny_bind (wpAny_setScan_of key at0 dat fits els ?_))))
  cases found : List.findIdx? (fun e => (PySem.strKind prog w).is x e.2) es.toList with
  | some j =>
    obtain ⟨hj, hpj, _⟩ := List.findIdx?_eq_some_iff_getElem.mp found
    have mem : x ∈ l := (notIn tex perm).mpr ⟨es.toList[j], List.getElem_mem hj, hpj⟩
    dsimp only
    refine wpAny_pure (wpAny_pure ?_)
    have := k s.heap (Heap.SameBut.refl a s.heap) (by rw [if_pos mem]; exact SX)
    rw [decide_eq_true mem] at this
    exact this
  | none =>
    have mem : ¬ x ∈ l := fun z => by
      obtain ⟨e, he, q⟩ := (notIn (prog := prog) (w := w) tex perm).mp z
      have := List.findIdx?_eq_none_iff.mp found e he
      rw [q] at this; cases this
    rw [decide_eq_false mem] at k
    dsimp only
    have gv : ∀ (b : Bool) {s1 : Shared} {Q' : Unit → Shared → Prop}, Q' () s1 → wpAny (model prog w) A (match b with | true => rule "set.scan.the-table-gave-way" | false => pure ()) Q' E s1 :=
      fun b s1 Q' q => by cases b <;> first | exact wpAny_pure q | exact wpAny_rule q
    have lp := layNew_perm t es ((PySem.strKind prog w).hash x) (.str x tk)
    have lf := layNew_fits t es ((PySem.strKind prog w).hash x) (.str x tk)
    generalize layNew t es ((PySem.strKind prog w).hash x) (.str x tk) = L at lp lf ⊢
    obtain ⟨es1, t1, dm, gave⟩ := L
    dsimp only at lp lf ⊢
    rw [Array.toList_push] at lp
    have els1 : ElemsOf (PySem.strKind prog w) es1.toList := (els.push key rfl).perm lp
    obtain ⟨ks1, tex1, p1⟩ := strs_perm (us := es1.toList.map (·.2)) (by
      have z := strs_append tex (StrsAre.cons x tk .nil)
      have e : es.toList.map (·.2) ++ [Value.str x tk] = (es.toList ++ [((PySem.strKind prog w).hash x, Value.str x tk)]).map (·.2) := by rw [List.map_append]; rfl
      rw [e] at z
      exact z) (lp.map _)
    have perm1 : ks1.Perm (l ++ [x]) := p1.trans (perm.append_right _)
    have sz1 : es1.size = es.size + 1 := by
      have := lp.length_eq
      rw [List.length_append] at this
      simpa using this
    have bnd1 : es1.size < scanBound := by lia
    rw [if_neg mem] at k
    refine wpAny_bind (gv _ ?_)
    have tail : ∀ t2 : SetTable, t2.fits es1.size = true → t2.plain = false → ∀ (g : Bool → Sem Unit), (∀ (b : Bool) (s1 : Shared) (Q' : Unit → Shared → Prop), Q' () s1 → wpAny (model prog w) A (g b) Q' E s1) →
        wpAny (model prog w) A (do
          storeSet a es1 t2
          if (!dm && t2.tooFull) = true then do
              g (relayAll t2 es1 (SetTable.grown es1.size)).2.2
              storeSet a (relayAll t2 es1 (SetTable.grown es1.size)).1 (relayAll t2 es1 (SetTable.grown es1.size)).2.1
              pure (some true)
            else pure (some true)) (fun r s' => r = some true ∧ Q true s') E s := fun t2 f2 pl2 g hg => by
      refine wpAny_bind (wpAny_storeSet_of at0 dat ?_ (fits_of_scanBound bnd1))
      have at1 : (s.heap.update a (Obj.putSet es1 t2)).get? a = some (Obj.putSet es1 t2 o) := Heap.get?_update_self _ at0 (by obtain ⟨c, d, dd, sl⟩ := o; cases dat; rfl)
      have sb := Heap.SameBut.update s.heap a (Obj.putSet es1 t2)
      have X1 : SetX prog w (s.heap.update a (Obj.putSet es1 t2)) a (l ++ [x]) ∧ ∃ ep1, (Obj.putSet es1 t2 o).data = .set es1 ep1 t2 ∧ (Obj.putSet es1 t2 o).ExactSet := by
        obtain ⟨c, d, dd, sl⟩ := o
        cases dat
        exact ⟨⟨_, es1, _, t2, ks1, at1, exact0, rfl, els1, tex1, perm1, bnd1, f2, .inl pl2⟩, _, rfl, exact0⟩
      obtain ⟨X1, ep1, dat1, ex1⟩ := X1
      split
      · have rp := relayAll_perm t2 es1 (SetTable.grown es1.size)
        have rf := relayAll_fits t2 es1 (SetTable.grown es1.size)
        have rpl := relay_plain t2 es1 (SetTable.grown es1.size) pl2
        generalize relayAll t2 es1 (SetTable.grown es1.size) = Rl at rp rf rpl ⊢
        obtain ⟨es2, t3, gave2⟩ := Rl
        dsimp only at rp rf rpl ⊢
        obtain ⟨ks2, tex2, p2⟩ := strs_perm (us := es2.toList.map (·.2)) tex1 (rp.map _)
        have sz2 : es2.size = es1.size := by have := rp.length_eq; simpa using this
        have bnd2 : es2.size < scanBound := by lia
        refine wpAny_bind (hg _ _ _ (wpAny_bind (wpAny_storeSet_of at1 dat1 (wpAny_pure ⟨rfl, k _ (sb.trans (Heap.SameBut.update _ a _)) ?_⟩) (fits_of_scanBound bnd2))))
        have at2 : ((s.heap.update a (Obj.putSet es1 t2)).update a (Obj.putSet es2 t3)).get? a = some (Obj.putSet es2 t3 (Obj.putSet es1 t2 o)) := Heap.get?_update_self _ at1 (by obtain ⟨c, d, dd, sl⟩ := o; cases dat; rfl)
        obtain ⟨c, d, dd, sl⟩ := o
        cases dat
        exact ⟨_, es2, _, t3, ks2, at2, exact0, rfl, els1.perm rp, tex2, p2.trans perm1, bnd2, rf, .inl rpl⟩
      · exact wpAny_pure ⟨rfl, k _ sb X1⟩
    split
    · refine wpAny_bind ?_
      rw [hashByValue_scannable 8 (show (Value.str x tk).scannable = true from rfl)]
      refine wpAny_pure ?_
      rw [if_neg (show ¬ plainKind (Value.str x tk) = true from Bool.false_ne_true)]
      refine wpAny_mono (tail { t1 with plain := false } (SetTable.fits_plain_off lf) rfl _ fun b s1 Q' q => ?_) (fun r s' hr => ?_) fun _ _ z => z
      · cases b <;> first | exact wpAny_pure q | exact wpAny_rule q
      · obtain ⟨rfl, q⟩ := hr
        exact wpAny_pure q
    · rename_i np
      refine wpAny_bind (wpAny_pure ?_)
      rw [if_pos rfl]
      refine wpAny_mono (tail t1 lf (by simpa using np) _ fun b s1 Q' q => ?_) (fun r s' hr => ?_) fun _ _ z => z
      · cases b <;> first | exact wpAny_pure q | exact wpAny_rule q
      · obtain ⟨rfl, q⟩ := hr
        exact wpAny_pure q
end
end L2T
namespace L2T
set_option autoImplicit false
open PySem PyProof.Rows
noncomputable def dedStep (acc : List Str) (x : Str) : List Str := if x ∈ acc then acc else acc ++ [x]
noncomputable def ded (l : List Str) : List Str := l.foldl dedStep []
theorem ded_snoc (l : List Str) (x : Str) : ded (l ++ [x]) = dedStep (ded l) x := by unfold ded; rw [List.foldl_append]; rfl
theorem dedStep_mem {acc : List Str} {x y : Str} : y ∈ dedStep acc x ↔ y ∈ acc ∨ y = x := by
  unfold dedStep
  split
  · rename_i h
    exact ⟨.inl, fun z => z.elim id fun e => by rw [e]; exact h⟩
  · rw [List.mem_append, List.mem_singleton]
theorem dedStep_nodup {acc : List Str} {x : Str} (h : acc.Nodup) : (dedStep acc x).Nodup := by
  unfold dedStep
  split
  · exact h
  · rename_i hn
    refine List.nodup_append.mpr ⟨h, by simp, fun a ha b hb => ?_⟩
    have : b = x := by simpa using hb
    subst this
    rintro rfl
    exact hn ha
theorem dedStep_len (acc : List Str) (x : Str) : (dedStep acc x).length ≤ acc.length + 1 := by
  unfold dedStep
  split
  · lia
  · simp
theorem ded_all : ∀ (n : Nat) (l : List Str), l.length = n → (ded l).Nodup ∧ (∀ y, y ∈ ded l ↔ y ∈ l) ∧ (ded l).length ≤ l.length
  | 0, l, h => by
    have : l = [] := List.length_eq_zero_iff.mp h
    subst this
    exact ⟨List.nodup_nil, fun y => by simp [ded], by simp [ded]⟩
  | n + 1, l, h => by
    have hne : l ≠ [] := by rintro rfl; cases h
    have e : l = l.dropLast ++ [l.getLast hne] := (List.dropLast_concat_getLast hne).symm
    obtain ⟨a, b, c⟩ := ded_all n l.dropLast (by rw [List.length_dropLast, h]; rfl)
    rw [e, ded_snoc]
    refine ⟨dedStep_nodup a, fun y => ?_, ?_⟩
    · rw [dedStep_mem, b y, List.mem_append, List.mem_singleton]
    · have := dedStep_len (ded l.dropLast) (l.getLast hne)
      rw [List.length_append]
      simp only [List.length_singleton]
      lia
section
variable {prog : Program} {w : World} {A : Around}
theorem update_loop {R : Result → Shared → Prop} {I : Addr} {fp wr : List Addr} {n : Nat} {P : Nat → Value → Prop} {St : Nat → Heap → Prop} (W : Walks prog w A.in1 I fp wr n P St) (S : Addr) (hSf : S ∉ fp) (val : Nat → Str) (hval : ∀ i v, P i v → ∃ t, v = .str (val i) t) (hb : n + 1 < scanBound) :
    ∀ (k i : Nat) (s : Shared), n - i = k → i ≤ n → St i s.heap → SetX prog w s.heap S (ded ((List.range i).map val)) →
      (∀ h' tk, (∀ b o, b ∉ S :: wr → s.heap.get? b = some o → h'.get? b = some o) → SetX prog w h' S (ded ((List.range n).map val)) → R (.ok (.ret .none)) { s with heap := h', toks := tk }) →
      codeAny (model prog w) A (.builtin "set.update.loop" ⟨[.ref S, .ref I], []⟩) R s := by
  have hSw : S ∉ wr := fun z => hSf (W.sub _ z)
  intro k
  induction k with
  | zero =>
    intro i s hk hi st X done
    have e : i = n := by lia
    subst e
    refine codeAny_builtin F.entry_set_update_loop ?_
    rw [Around.under_plainId F.plain_set_update_loop _]
    refine wpAny_bind (m := pyNext (.ref I)) (W.done s _ _ st fun h' tk kp => ?_)
    exact wpAny_pure (done h' tk (fun b o nb q => kp b o (fun z => nb (List.mem_cons_of_mem _ z)) q) (X.keeps fun o q => kp S o hSw q))
  | succ k ih =>
    intro i s hk hi st X done
    have lt : i < n := by lia
    refine codeAny_builtin F.entry_set_update_loop ?_
    rw [Around.under_plainId F.plain_set_update_loop _]
    refine wpAny_bind (m := pyNext (.ref I)) (W.item i s _ _ lt st fun v h1 tk hP st1 kp => ?_)
    obtain ⟨t, rfl⟩ := hval i v hP
    have X1 : SetX prog w h1 S (ded ((List.range i).map val)) := X.keeps fun o q => kp S o hSw q
    refine wpAny_bind (m := holding [Value.str (val i) t] (setAdd S (.str (val i) t))) (wpAny_holding ?_)
    unfold setAdd
    refine wpAny_holding (wpAny_bind ((PySem.strKind prog w).pyHash (k := val i) (str_is _ _) ?_))
    have room : (ded ((List.range i).map val)).length + 1 < scanBound := by
      have := (ded_all _ ((List.range i).map val) rfl).2.2
      rw [List.length_map, List.length_range] at this
      lia
    refine setAdd_text (s := ⟨h1, s.gens, s.drawn, tk + 1, s.os⟩) X1 room fun h2 sb X2 => ?_
    have X3 : SetX prog w h2 S (ded ((List.range (i + 1)).map val)) := by
      rw [List.range_succ, List.map_append, List.map_cons, List.map_nil, ded_snoc]
      exact X2
    refine wpAny_pure ⟨plainId_quiet F.plain_set_update_loop _, ih (i + 1) ⟨h2, s.gens, s.drawn, tk + 1, s.os⟩ (by lia) lt (W.frame _ h1 _ st1 fun b hb' o q => ?_) X3 fun h3 tk3 kp3 X4 => ?_⟩
    · rw [sb.2 b (fun z => hSf (by rw [← z]; exact hb'))]; exact q
    · refine done h3 tk3 (fun b o nb q => kp3 b o nb ?_) X4
      rw [sb.2 b (fun z => nb (by rw [z]; exact List.mem_cons_self))]
      exact kp b o (fun z => nb (List.mem_cons_of_mem _ z)) q
theorem strs_at : ∀ {vs : List Value} {ks : List Str}, StrsAre vs ks → ∀ (i : Nat) (v : Value), vs[i]? = some v → ∃ t, v = .str (ks.getD i Str.empty) t
  | _, _, .nil, i, v, h => by simp at h
  | _, _, .cons x t r, 0, v, h => ⟨t, by simp at h; simp [h]⟩
  | _, _, .cons x t r, i + 1, v, h => by
    obtain ⟨u, e⟩ := strs_at r i v (by simpa using h)
    exact ⟨u, by simpa using e⟩
theorem strs_len {vs : List Value} {ks : List Str} (h : StrsAre vs ks) : vs.length = ks.length := by
  induction h with
  | nil => rfl
  | cons x t r ih => rw [List.length_cons, List.length_cons, ih]
theorem range_getD (ks : List Str) : (List.range ks.length).map (fun i => ks.getD i Str.empty) = ks := by
  refine List.ext_getElem? fun i => ?_
  by_cases h : i < ks.length
  · rw [List.getElem?_map, List.getElem?_range h, List.getElem?_eq_getElem h]
    simp [List.getD_eq_getElem?_getD, h]
  · rw [List.getElem?_eq_none (by simpa using h), List.getElem?_eq_none (by simpa using h)]
variable {E : Value → Shared → Prop} {s : Shared}
set_option maxRecDepth 100000 in
set_option maxHeartbeats 3200000 in
theorem call_set_texts {l : Addr} {items : Array Value} {ss : List Str} {Q : Value → Shared → Prop} (hh : A.handled = none) (hl : s.heap.IsList l items) (hS : StrsAre items.toList ss) (hb : items.size + 1 < scanBound)
    (k : ∀ (h' : Heap) (tk : Nat), SetX prog w h' s.heap.objs.size (ded ss) → (∀ b o, s.heap.get? b = some o → h'.get? b = some o) → Q (.ref s.heap.objs.size) { s with heap := h', toks := tk }) :
    wpAny (model prog w) A (call (.type "set") [.ref l]) Q E s := by
  obtain ⟨c, tl, hmro⟩ := F.called_set.mro
  have hmade := F.called_set.made
  have hsub := F.called_set.sub
  refine wpAny_call (codeAny_of_tree ?_)
  change wpAny _ _ (callAny (.type "set") _) _ _ _
  refine wpAny_pure ⟨Code.quiet_builtin _ (by decide +kernel), codeAny_builtin F.entry_type_call ?_⟩
  rw [Around.under_plain (weight_type_call_type "set" [.ref l] []) rfl]
  have nt := F.called_set.notType
  have cc := F.called_set.canCreate
  have ct := F.typeCall_set_1 (.ref l)
  repeat (any_goals (first | assumption | wp_step))
  refine codeAny_mono (code_set_new_1 (.ref l) (E := E) (Q₁ := fun obj s1 => ∃ led : Bool, obj = .ref s.heap.objs.size ∧ s1 = { s with heap := s.heap.push { cls := .type "set", dict := none, data := .set #[] 0 (.fresh 0 0 led) } }) fun led => ⟨led, rfl, rfl⟩) fun r s1 hr => ?_
  cases r with
  | error e => exact hr
  | ok fl =>
    cases fl with
    | next => exact hr.elim
    | brk => exact hr.elim
    | cont => exact hr.elim
    | ret obj =>
      obtain ⟨led, rfl, rfl⟩ := hr
      generalize hO : ({ cls := .type "set", dict := none, data := .set #[] 0 (.fresh 0 0 led) } : Obj) = oS
      have atS : (s.heap.push oS).get? s.heap.objs.size = some oS := Heap.get?_push_size _ (by rw [← hO]; rfl)
      have hT : Shared.TypeIs { s with heap := s.heap.push oS } (.ref s.heap.objs.size) "set" := ⟨_, atS, by rw [← hO]⟩
      have il := F.called_set.init.lookup
      have ib := F.called_set.init.bind (.ref s.heap.objs.size)
      have X0 : ∀ h' : Heap, h'.get? s.heap.objs.size = some oS → SetX prog w h' s.heap.objs.size [] := fun h' e => by
        rw [← hO] at e
        exact ⟨_, #[], 0, _, [], e, ⟨rfl, rfl, rfl⟩, rfl, fun z hz => by simp at hz, .nil, .nil, by unfold scanBound; decide, rfl, .inr rfl⟩
      repeat (any_goals (first | assumption | wp_step))
      refine codeAny_mono (codeAny_call_builtin (R := wants (fun r s2 => r = .none ∧ ∃ h' tk, s2 = { s with heap := h', toks := tk } ∧ SetX prog w h' s.heap.objs.size (ded ss) ∧ ∀ b o, s.heap.get? b = some o → h'.get? b = some o) E)
        F.called_set.init.plain F.entry_set_init (check_set_init_1 hT ?_)) fun r2 s2 hr2 => ?_
      · subst hO
        obtain ⟨ol, hol, hcl, nl, hdl⟩ := hl
        obtain ⟨ocls, odict, odata, oslots⟩ := ol
        simp only at hcl hdl
        subst hcl; subst hdl
        have hol' : (s.heap.push { cls := .type "set", dict := none, data := .set #[] 0 (.fresh 0 0 led) }).get? l = some { cls := .type "list", dict := odict, data := .seq items nl, slots := oslots } := Heap.get?_push_of_some _ hol
        have hsls := F.sub_list_set
        have hslf := F.sub_list_frozenset
        have hne : (Value.type "list" == Value.type "dict") = false := by decide
        have hl1 : Heap.IsList (s.heap.push { cls := .type "set", dict := none, data := .set #[] 0 (.fresh 0 0 led) }) l items := ⟨_, hol', rfl, nl, rfl⟩
        unfold Builtin.«set.__init__» noKeywords Builtin.Frozenset.updateFrom
        generalize hPI : pyIter = PI
        wp_walk
        subst hPI
        refine wpAny_pyIter_list hl1 ?_
        refine wpAny_bind (wpAny_runValue ?_)
        have ltl : l < s.heap.objs.size := Heap.lt_size hol
        have szS : (s.heap.push { cls := .type "set", dict := none, data := .set #[] 0 (.fresh 0 0 led) }).objs.size = s.heap.objs.size + 1 := Heap.size_push ..
        have sl := strs_len hS
        refine update_loop (Walks.list (by simp [hh]) _ l (by rw [szS]; exact Nat.ne_of_lt (Nat.lt_succ_of_lt ltl)) items) s.heap.objs.size (by
          rw [szS]
          simp only [List.mem_cons, List.not_mem_nil, or_false, not_or]
          exact ⟨Nat.ne_of_lt (Nat.lt_succ_self _), Nat.ne_of_gt ltl⟩) (fun i => ss.getD i Str.empty) (fun i v hv => strs_at hS i v (by rw [Array.getElem?_toList]; exact hv)) hb (items.size - 0) 0 _ (by lia) (Nat.zero_le _)
          ⟨⟨_, Heap.get?_push_size _ rfl, rfl, rfl⟩, hl1.push _⟩ (X0 _ (Heap.get?_push_of_some _ atS)) fun h' tk kp X => ?_
        have e1 : (List.range items.size).map (fun i => ss.getD i Str.empty) = ss := by
          have : items.size = ss.length := by simpa using sl
          rw [this]
          exact range_getD ss
        rw [e1] at X
        refine wpAny_pure (wpAny_pure ⟨rfl, h', tk, rfl, X, fun b o q => kp b o ?_ (Heap.get?_push_of_some _ (Heap.get?_push_of_some _ q))⟩)
        have lb := Heap.lt_size q
        rw [szS]
        simp only [List.mem_cons, List.not_mem_nil, or_false, not_or]
        exact ⟨Nat.ne_of_lt lb, Nat.ne_of_lt (Nat.lt_succ_of_lt lb)⟩
      · cases r2 with
        | error e => exact hr2
        | ok fl2 =>
          cases fl2 with
          | next => exact hr2.elim
          | brk => exact hr2.elim
          | cont => exact hr2.elim
          | ret r =>
            obtain ⟨rfl, h', tk, rfl, X, kp⟩ := hr2
            repeat (any_goals (first | assumption | wp_step))
            exact k _ _ X kp
end
end L2T
namespace L2T
set_option autoImplicit false
open PySem PyProof.Rows
theorem slot_set_iter : Slot "set" "__iter__" "set.__iter__" :=
  .of (owner := "set") (n := "__iter__") (by rw [typeLookup_type, builtinLookup_eq_fast]; kernel_rfl) (by decide +kernel) (by decide +kernel) (by decide +kernel) (by first | exact .inl (by decide +kernel) | exact .inr (by decide +kernel)) (by rw [isSubtype_type]; kernel_rfl)
theorem slot_si_next : Slot "set_iterator" "__next__" "set_iterator.__next__" :=
  .of (owner := "set_iterator") (n := "__next__") (by rw [typeLookup_type, builtinLookup_eq_fast]; kernel_rfl) (by decide +kernel) (by decide +kernel) (by decide +kernel) (by first | exact .inl (by decide +kernel) | exact .inr (by decide +kernel)) (by rw [isSubtype_type]; kernel_rfl)
theorem slot_si_iter : Slot "set_iterator" "__iter__" "set_iterator.__iter__" :=
  .of (owner := "set_iterator") (n := "__iter__") (by rw [typeLookup_type, builtinLookup_eq_fast]; kernel_rfl) (by decide +kernel) (by decide +kernel) (by decide +kernel) (by first | exact .inl (by decide +kernel) | exact .inr (by decide +kernel)) (by rw [isSubtype_type]; kernel_rfl)
theorem entry_si_next : entryFor table "set_iterator.__next__" = some Builtin.«set_iterator.__next__» := entryFor_of_fast (by kernel_rfl)
theorem entry_set_iter : entryFor table "set.__iter__" = some Builtin.«frozenset.__iter__» := entryFor_alias (id' := "frozenset.__iter__") (by kernel_rfl) rfl (by decide +kernel) (by kernel_rfl)
theorem entry_si_iter : entryFor table "set_iterator.__iter__" = some Builtin.«dict_keyiterator.__iter__» := entryFor_alias (id' := "dict_keyiterator.__iter__") (by kernel_rfl) rfl (by decide +kernel) (by kernel_rfl)
theorem args_si_next (a : Value) : argsOk "set_iterator.__next__" ⟨[a], []⟩ := by unfold argsOk; kernel_rfl
theorem args_set_iter (a : Value) : argsOk "set.__iter__" ⟨[a], []⟩ := by unfold argsOk; kernel_rfl
theorem args_si_iter (a : Value) : argsOk "set_iterator.__iter__" ⟨[a], []⟩ := by unfold argsOk; kernel_rfl
theorem len_set : typeLookup (.type "set") "__len__" = pure (some (.builtin "set.__len__")) := by rw [typeLookup_type, builtinLookup_eq_fast]; kernel_rfl
end L2T
namespace L2T
set_option autoImplicit false
open PySem PyProof.Rows
theorem erase_perm {α : Type} : ∀ {l : List α} {i : Nat} (h : i < l.length), (l[i] :: l.eraseIdx i).Perm l
  | a :: l, 0, _ => .refl _
  | a :: l, i + 1, h => by
    have hi : i < l.length := by simpa using h
    have ih := erase_perm (l := l) (i := i) hi
    show (l[i] :: a :: l.eraseIdx i).Perm (a :: l)
    exact (List.Perm.swap a _ _).trans (ih.cons a)
noncomputable def drawn' (es : Array (Int × Value)) (t : SetTable) : Bool := !t.plain && decide (es.size > 1)
theorem setDrawn_eq (a : Addr) : setDrawn a = (do
    let z ← setState a
    let b ← setsByText
    return !b && drawn' z.1 z.2.2) := rfl
section
variable {prog : Program} {w : World} {A : Around} {E : Value → Shared → Prop} {s : Shared}
theorem wpAny_choose {src : Source} {n : Nat} {Q : Nat → Shared → Prop} (hn : 0 < n) (h : ∀ i d, i < n → Q i { s with drawn := d }) : wpAny (model prog w) A (choose src n) Q E s := fun Γ p _ => by
  unfold choose
  rw [Sem.wp_choose]
  exact ⟨Nat.ne_of_gt hn, h _ _ (Nat.mod_lt _ hn)⟩
theorem drawOrder_perm {α : Type} : ∀ (n : Nat) (xs : List α) (s : Shared) {Q : List α → Shared → Prop}, xs.length = n → (∀ ys d, ys.Perm xs → Q ys { s with drawn := d }) → wpAny (model prog w) A (drawOrder n xs) Q E s
  | 0, xs, s, Q, hn, h => by
    have e : xs = [] := List.length_eq_zero_iff.mp hn
    subst e
    exact wpAny_pure (h [] s.drawn (.refl _))
  | n + 1, [], s, Q, hn, h => by cases hn
  | n + 1, x :: xs, s, Q, hn, h => by
    unfold drawOrder
    refine wpAny_bind (wpAny_choose (Nat.succ_pos _) fun i d hi => ?_)
    rw [List.getElem?_eq_getElem hi]
    dsimp only
    refine wpAny_bind (drawOrder_perm n ((x :: xs).eraseIdx i) _ (by rw [List.length_eraseIdx_of_lt hi, hn]; rfl) fun ys d2 p => wpAny_pure (h _ d2 ?_))
    exact (p.cons _).trans (erase_perm hi)
theorem pick_go {α : Type} (next : Nat → Nat) : ∀ (fuel k : Nat) (left : List α) (out : Array α), left.length = fuel → (pickOrder.go next fuel k left out).toList.Perm (out.toList ++ left)
  | 0, k, left, out, h => by
    have e : left = [] := List.length_eq_zero_iff.mp h
    subst e
    unfold pickOrder.go
    rw [List.append_nil]
  | f + 1, k, left, out, h => by
    have hl : next k % left.length < left.length := Nat.mod_lt _ (by lia)
    unfold pickOrder.go
    rw [List.getElem?_eq_getElem hl]
    dsimp only
    refine (pick_go next f (k + 1) _ _ (by rw [List.length_eraseIdx_of_lt hl, h]; rfl)).trans ?_
    rw [Array.toList_push, List.append_assoc]
    exact List.Perm.append_left _ (erase_perm hl)
theorem pick_perm {α : Type} (next : Nat → Nat) (xs : Array α) : (pickOrder next xs).toList.Perm xs.toList := by
  have := pick_go next xs.size 0 xs.toList #[] (by simp)
  exact this
theorem stop_new {Q : Option Value → Shared → Prop} {R : Fin → Shared → Prop} (hh : A.handled = none) (k : ∀ h', (∀ b o, s.heap.get? b = some o → h'.get? b = some o) → Q none { s with heap := h' }) :
    wpAny (model prog w) A.in1 (newExc (.type "StopIteration") [] >>= fun e => raiseNew e) R (fun e s' => wpAny (model prog w) A (do if ← isInstance e (.type "StopIteration") then pure none else throw e) Q E s') s := by
  refine wpAny_bind ?_
  simp only [newExc, newTuple]
  refine wpAny_bind (wpAny_newObj_type ?_ (by size_fits))
  refine wpAny_bind (m := firstArgMember _ _) (wpAny_of_eq (a := Value.none) (by first | rfl | (simp only [firstArgMember]; rfl)) ?_)
  refine wpAny_newObj_type ?_ (by size_fits)
  simp only [raiseNew]
  refine wpAny_bind (wpAny_handled ?_)
  rw [show A.in1.handled = none from hh]
  refine wpAny_bind (wpAny_pure (wpAny_throw ?_))
  refine wpAny_bind (wpAny_isInstance (T := "StopIteration") (b := true) ⟨_, Heap.get?_push_size _ rfl, rfl⟩ isSubtype_stop ?_)
  exact wpAny_pure (k _ fun b o e => Heap.get?_push_of_some _ (Heap.get?_push_of_some _ e))
noncomputable def itObj (first : Value) (i : Nat) (S : Addr) (n ep : Nat) : Obj := { cls := .type "set_iterator", data := .fields #[first, rawInt i, .ref S, rawInt n, rawInt ep] }
theorem next_drawn {I S F : Addr} {o : Obj} {es : Array (Int × Value)} {ep i : Nat} {t : SetTable} {pl : List Nat} {Q : Option Value → Shared → Prop} (hi : s.heap.get? I = some (itObj (.ref F) i S es.size ep)) (hS : s.heap.get? S = some o) (hd : o.data = .set es ep t) (hf : t.fits es.size = true)
    (hF : s.heap.get? F = some { cls := .type "tuple", data := .seq (pl.map fun (j : Nat) => rawInt j).toArray }) {p : Nat} {e : Int × Value} (hp : pl[i]? = some p) (he : es[p]? = some e)
    (k : ∀ h', h'.get? I = some (itObj (.ref F) (i + 1) S es.size ep) → Heap.SameBut I s.heap h' → Q (some e.2) { s with heap := h' }) : wpAny (model prog w) A (pyNext (.ref I)) Q E s := by
  have hT : s.TypeIs (.ref I) "set_iterator" := ⟨_, hi, rfl⟩
  unfold pyNext
  refine wpAny_bind (wpAny_attempt (wpAny_callSpecial?_slot (name := Str.ofString "__next__") hT slot_si_next (wpAny_call_entry slot_si_next hT entry_si_next ?_ (args_si_next _))))
  unfold Builtin.«set_iterator.__next__»
  refine wpAny_bind (m := slotArgs "__next__" 0 _) (wpAny_pure ?_)
  refine wpAny_bind (wpAny_fieldsOf hi rfl ?_)
  dsimp only [List.toArray, rawInt]
  refine wpAny_bind (wpAny_setEntries_of hS hd hf ?_)
  rw [if_neg (by simp)]
  refine wpAny_bind (wpAny_seqItems hF rfl ?_)
  dsimp only
  have e1 : ((pl.map fun (j : Nat) => rawInt j).toArray)[((i : Nat) : Int).toNat]? = some (.int ((p : Nat) : Int) 0) := by
    rw [Int.toNat_natCast, List.getElem?_toArray, List.getElem?_map, hp]; rfl
  rw [e1]
  dsimp only
  refine wpAny_bind ?_
  unfold setNextDrawn
  refine wpAny_bind (wpAny_setState_of hS hd hf ?_)
  dsimp only
  rw [if_neg (by simp)]
  rw [Int.toNat_natCast, he]
  refine wpAny_pure (wpAny_bind (wpAny_setField hi rfl (by show 1 < 5; decide) (wpAny_pure ⟨_, rfl, wpAny_pure (k _ ?_ (Heap.SameBut.update ..))⟩)))
  rw [Heap.get?_update_self _ hi rfl]
  rfl
theorem end_drawn {I S F : Addr} {o : Obj} {es : Array (Int × Value)} {ep i : Nat} {t : SetTable} {pl : List Nat} {Q : Option Value → Shared → Prop} (hh : A.handled = none) (hi : s.heap.get? I = some (itObj (.ref F) i S es.size ep)) (hS : s.heap.get? S = some o) (hd : o.data = .set es ep t) (hf : t.fits es.size = true)
    (hF : s.heap.get? F = some { cls := .type "tuple", data := .seq (pl.map fun (j : Nat) => rawInt j).toArray }) (hp : pl[i]? = none)
    (k : ∀ h', Heap.ExtBut I s.heap h' → Q none { s with heap := h' }) : wpAny (model prog w) A (pyNext (.ref I)) Q E s := by
  have hT : s.TypeIs (.ref I) "set_iterator" := ⟨_, hi, rfl⟩
  unfold pyNext
  refine wpAny_bind (wpAny_attempt (wpAny_callSpecial?_slot (name := Str.ofString "__next__") hT slot_si_next (wpAny_call_entry slot_si_next hT entry_si_next ?_ (args_si_next _))))
  unfold Builtin.«set_iterator.__next__»
  refine wpAny_bind (m := slotArgs "__next__" 0 _) (wpAny_pure ?_)
  refine wpAny_bind (wpAny_fieldsOf hi rfl ?_)
  dsimp only [List.toArray, rawInt]
  refine wpAny_bind (wpAny_setEntries_of hS hd hf ?_)
  rw [if_neg (by simp)]
  refine wpAny_bind (wpAny_seqItems hF rfl ?_)
  dsimp only
  have e1 : ((pl.map fun (j : Nat) => rawInt j).toArray)[((i : Nat) : Int).toNat]? = none := by
    rw [Int.toNat_natCast, List.getElem?_toArray, List.getElem?_map, hp]; rfl
  rw [e1]
  dsimp only
  refine wpAny_bind (wpAny_setField hi rfl (by show 0 < 5; decide) ?_)
  refine wpAny_bind (wpAny_setField (Heap.get?_update_self _ hi rfl) rfl (by show 2 < 5; decide) ?_)
  exact stop_new hh fun h' xb' => k h' fun b o nb q => xb' b o (((Heap.SameBut.update ..).trans (Heap.SameBut.update ..)).extBut b o nb q)
noncomputable def ordT (w : World) (S : Addr) (ep : Nat) (es : Array (Int × Value)) : Array (Int × Value) := pickOrder (w.params.setOrder S ep) es
theorem setNext_text {S : Addr} {o : Obj} {es : Array (Int × Value)} {ep i : Nat} {t : SetTable} {Q : Option (Value × Nat) → Shared → Prop} (ht : w.params.followText "set-order" = true) (hS : s.heap.get? S = some o) (hd : o.data = .set es ep t) (hf : t.fits es.size = true)
    (k : Q (((ordT w S ep es)[i]?).map fun e => (e.2, 0)) s) : wpAny (model prog w) A (setNext S 0 i ep) Q E s := by
  unfold setNext
  refine wpAny_bind (wpAny_setState_of hS hd hf ?_)
  dsimp only
  have ST : ∀ {Q : Bool → Shared → Prop}, Q true s → wpAny (model prog w) A setsByText Q E s := fun h => wpAny_bind (wpAny_askSetting (wpAny_pure (by show _; rw [show (model prog w).w = w from rfl, ht]; exact h)))
  refine wpAny_bind (ST ?_)
  rw [if_pos rfl]
  rw [if_neg (by simp)]
  unfold setWalk
  refine wpAny_bind (wpAny_bind (wpAny_setState_of hS hd hf ?_))
  dsimp only
  refine wpAny_bind (ST ?_)
  rw [if_pos rfl]
  refine wpAny_bind (wpAny_askSetting (wpAny_pure ?_))
  exact wpAny_pure k
theorem next_text {I S : Addr} {o : Obj} {es : Array (Int × Value)} {ep i : Nat} {t : SetTable} {Q : Option Value → Shared → Prop} (ht : w.params.followText "set-order" = true) (hi : s.heap.get? I = some (itObj (rawInt 0) i S es.size ep)) (hS : s.heap.get? S = some o) (hd : o.data = .set es ep t) (hf : t.fits es.size = true)
    {e : Int × Value} (he : (ordT w S ep es)[i]? = some e)
    (k : ∀ h', h'.get? I = some (itObj (rawInt 0) (i + 1) S es.size ep) → Heap.SameBut I s.heap h' → Q (some e.2) { s with heap := h' }) : wpAny (model prog w) A (pyNext (.ref I)) Q E s := by
  have hT : s.TypeIs (.ref I) "set_iterator" := ⟨_, hi, rfl⟩
  unfold pyNext
  refine wpAny_bind (wpAny_attempt (wpAny_callSpecial?_slot (name := Str.ofString "__next__") hT slot_si_next (wpAny_call_entry slot_si_next hT entry_si_next ?_ (args_si_next _))))
  unfold Builtin.«set_iterator.__next__»
  refine wpAny_bind (m := slotArgs "__next__" 0 _) (wpAny_pure ?_)
  refine wpAny_bind (wpAny_fieldsOf hi rfl ?_)
  dsimp only [List.toArray, rawInt]
  refine wpAny_bind (wpAny_setEntries_of hS hd hf ?_)
  rw [if_neg (by simp)]
  refine wpAny_bind (setNext_text (i := i) (ep := ep) ht hS hd hf ?_)
  rw [he]
  dsimp only [Option.map]
  refine wpAny_bind (wpAny_setField hi rfl (by show 0 < 5; decide) ?_)
  refine wpAny_bind (wpAny_setField (Heap.get?_update_self _ hi rfl) rfl (by show 1 < 5; decide) ?_)
  refine wpAny_pure ⟨_, rfl, wpAny_pure (k _ ?_ ((Heap.SameBut.update ..).trans (Heap.SameBut.update ..)))⟩
  rw [Heap.get?_update_self _ (Heap.get?_update_self _ hi rfl) rfl]
  rfl
theorem end_text {I S : Addr} {o : Obj} {es : Array (Int × Value)} {ep i : Nat} {t : SetTable} {Q : Option Value → Shared → Prop} (hh : A.handled = none) (ht : w.params.followText "set-order" = true) (hi : s.heap.get? I = some (itObj (rawInt 0) i S es.size ep)) (hS : s.heap.get? S = some o) (hd : o.data = .set es ep t) (hf : t.fits es.size = true)
    (he : (ordT w S ep es)[i]? = none)
    (k : ∀ h', Heap.ExtBut I s.heap h' → Q none { s with heap := h' }) : wpAny (model prog w) A (pyNext (.ref I)) Q E s := by
  have hT : s.TypeIs (.ref I) "set_iterator" := ⟨_, hi, rfl⟩
  unfold pyNext
  refine wpAny_bind (wpAny_attempt (wpAny_callSpecial?_slot (name := Str.ofString "__next__") hT slot_si_next (wpAny_call_entry slot_si_next hT entry_si_next ?_ (args_si_next _))))
  unfold Builtin.«set_iterator.__next__»
  refine wpAny_bind (m := slotArgs "__next__" 0 _) (wpAny_pure ?_)
  refine wpAny_bind (wpAny_fieldsOf hi rfl ?_)
  dsimp only [List.toArray, rawInt]
  refine wpAny_bind (wpAny_setEntries_of hS hd hf ?_)
  rw [if_neg (by simp)]
  refine wpAny_bind (setNext_text (i := i) (ep := ep) ht hS hd hf ?_)
  rw [he]
  dsimp only [Option.map]
  refine wpAny_bind (wpAny_setField hi rfl (by show 2 < 5; decide) ?_)
  exact stop_new hh fun h' xb' => k h' fun b o nb q => xb' b o ((Heap.SameBut.update ..).extBut b o nb q)
theorem iter_self {I S : Addr} {v : Value} {i n ep : Nat} {Q : Value → Shared → Prop} (hi : s.heap.get? I = some (itObj v i S n ep)) (h : Q (.ref I) s) : wpAny (model prog w) A (pyIter (.ref I)) Q E s := by
  have hT : s.TypeIs (.ref I) "set_iterator" := ⟨_, hi, rfl⟩
  refine wpAny_pyIter_slot hT slot_si_iter (wpAny_call_entry slot_si_iter hT entry_si_iter ?_ (args_si_iter _))
  show wpAny _ _ (ret (.ref I)) _ _ s
  exact wpAny_pure ⟨_, rfl, "set_iterator", _, hT, slot_si_next.lookup, h⟩
end
end L2T
namespace L2T
set_option autoImplicit false
open PySem PyProof.Rows
theorem get_range {es : Array (Int × Value)} {pl : List Nat} (hp : pl.Perm (List.range es.size)) {i p : Nat} (h : pl[i]? = some p) : ∃ e, es[p]? = some e := by
  have m : p ∈ List.range es.size := hp.mem_iff.mp (List.mem_of_getElem? h)
  exact ⟨es[p]'(List.mem_range.mp m), Array.getElem?_eq_getElem _⟩
noncomputable def valAt (es : Array (Int × Value)) (p : Nat) : Value := (es[p]?.map (·.2)).getD .none
theorem range_vals (es : Array (Int × Value)) : (List.range es.size).map (valAt es) = es.toList.map (·.2) := by
  apply List.ext_getElem
  · simp
  · intro i h1 h2
    have hi : i < es.size := by simpa using h1
    simp [valAt, Array.getElem?_eq_getElem hi]
section
variable {prog : Program} {w : World} {A : Around} {E : Value → Shared → Prop} {s : Shared}
theorem walksD (hh : A.handled = none) {I S F : Addr} (n1 : S ≠ I) (n2 : F ≠ I) {o : Obj} {es : Array (Int × Value)} {ep : Nat} {t : SetTable} (hd : o.data = .set es ep t) (hf : t.fits es.size = true) {pl : List Nat} (hp : pl.Perm (List.range es.size)) :
    Walks prog w A I [I, S, F] [I] (pl.map (valAt es)).length (fun i v => (pl.map (valAt es))[i]? = some v) (fun i h => h.get? I = some (itObj (.ref F) i S es.size ep) ∧ h.get? S = some o ∧ h.get? F = some { cls := .type "tuple", data := .seq (pl.map fun (j : Nat) => rawInt j).toArray }) where
  sub := fun b hb => by simp at hb; simp [hb]
  frame := fun _ _ _ st hk => ⟨hk I (by simp) _ st.1, hk S (by simp) _ st.2.1, hk F (by simp) _ st.2.2⟩
  item := fun i s Q E hi st hQ => by
    have hi' : i < pl.length := by simpa using hi
    have e1 : pl[i]? = some pl[i] := List.getElem?_eq_getElem hi'
    obtain ⟨e, he⟩ := get_range hp e1
    refine next_drawn st.1 st.2.1 hd hf st.2.2 e1 he fun h' a b => ?_
    refine hQ _ h' s.toks ?_ ⟨a, b.extBut S _ n1 st.2.1, b.extBut F _ n2 st.2.2⟩ fun c o hc e => b.extBut c o (fun h => hc (by simp [h])) e
    rw [List.getElem?_map, e1, Option.map_some, valAt, he]; rfl
  done := fun s Q E st hQ => end_drawn hh st.1 st.2.1 hd hf st.2.2 (List.getElem?_eq_none (by simp)) fun h' b => hQ h' s.toks fun c o hc e => b c o (fun h => hc (by simp [h])) e
  self := fun _ _ _ _ st hQ => iter_self st.1 hQ
theorem walksT (hh : A.handled = none) (ht : w.params.followText "set-order" = true) {I S : Addr} (n1 : S ≠ I) {o : Obj} {es : Array (Int × Value)} {ep : Nat} {t : SetTable} (hd : o.data = .set es ep t) (hf : t.fits es.size = true) :
    Walks prog w A I [I, S] [I] ((ordT w S ep es).toList.map (·.2)).length (fun i v => ((ordT w S ep es).toList.map (·.2))[i]? = some v) (fun i h => h.get? I = some (itObj (rawInt 0) i S es.size ep) ∧ h.get? S = some o) where
  sub := fun b hb => by simp at hb; simp [hb]
  frame := fun _ _ _ st hk => ⟨hk I (by simp) _ st.1, hk S (by simp) _ st.2⟩
  item := fun i s Q E hi st hQ => by
    have hi' : i < (ordT w S ep es).size := by simpa using hi
    have e1 : (ordT w S ep es)[i]? = some (ordT w S ep es)[i] := Array.getElem?_eq_getElem hi'
    refine next_text ht st.1 st.2 hd hf e1 fun h' a b => ?_
    refine hQ _ h' s.toks ?_ ⟨a, b.extBut S _ n1 st.2⟩ fun c o hc e => b.extBut c o (fun h => hc (by simp [h])) e
    rw [List.getElem?_map, Array.getElem?_toList, e1]; rfl
  done := fun s Q E st hQ => end_text hh ht st.1 st.2 hd hf (Array.getElem?_eq_none (by simp)) fun h' b => hQ h' s.toks fun c o hc e => b c o (fun h => hc (by simp [h])) e
  self := fun _ _ _ _ st hQ => iter_self st.1 hQ
theorem iter_set {S : Addr} {l : List Str} {Q : Value → Shared → Prop} (X : SetX prog w s.heap S l) (h2 : 2 ≤ l.length)
    (k : ∀ (h' : Heap) d (I : Addr) (fp : List Addr) (St : Nat → Heap → Prop) (vs : List Value) (ls : List Str), (∀ b o, s.heap.get? b = some o → h'.get? b = some o) → (∀ b ∈ fp, b = S ∨ s.heap.objs.size ≤ b) → s.heap.objs.size ≤ I →
      (∀ A' : Around, A'.handled = none → Walks prog w A' I fp [I] vs.length (fun i v => vs[i]? = some v) St) → St 0 h' → StrsAre vs ls → ls.Perm l → vs.length ≤ sizeLine → Q (.ref I) { s with heap := h', drawn := d }) :
    wpAny (model prog w) A (pyIter (.ref S)) Q E s := by
  obtain ⟨o, es, ep, t, ks, ho, hx, hd, _, hs, hp, hb, hf, hpl⟩ := X.ex
  have hlen : es.size = l.length := by
    have e1 := StrsAre.length hs
    have e2 := hp.length_eq
    rw [List.length_map, Array.length_toList] at e1
    lia
  have hb' : es.size ≤ sizeLine := by
    have : scanBound ≤ sizeLine := by rw [sizeLine_eq]; decide
    lia
  have hplain : t.plain = false := by rcases hpl with h | h; · exact h
                                      · lia
  have hT : s.TypeIs (.ref S) "set" := ⟨o, ho, hx.1⟩
  have hS : S < s.heap.objs.size := Heap.lt_size ho
  refine wpAny_pyIter_slot hT slot_set_iter (wpAny_call_entry slot_set_iter hT entry_set_iter ?_ (args_set_iter _))
  unfold Builtin.«frozenset.__iter__» Builtin.Frozenset.slot0 slotArgs
  simp only [List.isEmpty_nil, Bool.not_true, Bool.false_eq_true, ↓reduceIte, bind_assoc, List.length_nil, bne_self_eq_false]
  unfold Builtin.Frozenset.addrOf Builtin.Frozenset.sizeOf
  refine wpAny_bind (wpAny_pure ?_)
  try dsimp only
  refine wpAny_bind (wpAny_pure ?_)
  refine wpAny_bind (wpAny_bind (wpAny_setEntries_of ho hd hf (wpAny_pure ?_)))
  rw [setDrawn_eq]
  refine wpAny_bind (wpAny_bind (wpAny_setState_of ho hd hf ?_))
  refine wpAny_bind (wpAny_bind (wpAny_askSetting (wpAny_pure ?_)))
  dsimp only
  have hdr : drawn' es t = true := by unfold drawn'; rw [hplain]; simp; lia
  rw [hdr]
  cases ht : w.params.followText "set-order" with
  | true =>
    refine wpAny_pure ?_
    rw [show (!(model prog w).w.params.followText "set-order" && true) = false by rw [show (model prog w).w = w from rfl, ht]; rfl, if_neg (by decide)]
    refine wpAny_bind (wpAny_pure ?_)
    refine wpAny_bind (wpAny_bind (wpAny_setState_of ho hd hf (wpAny_pure ?_)))
    refine wpAny_bind (wpAny_newObj_type (wpAny_pure ⟨_, rfl, "set_iterator", _, ⟨_, Heap.get?_push_size _ rfl, rfl⟩, slot_si_next.lookup, ?_⟩))
    obtain ⟨ls, q1, q2⟩ := strs_perm hs ((pick_perm (w.params.setOrder S ep) es).map (·.2))
    refine k _ s.drawn s.heap.objs.size [s.heap.objs.size, S] _ _ ls (fun b o e => Heap.get?_push_of_some _ e) (fun b hb => ?_) (Nat.le_refl _) (fun A' hh => walksT hh ht (Nat.ne_of_lt hS) hd hf) ⟨Heap.get?_push_size _ rfl, Heap.get?_push_of_some _ ho⟩ q1 (q2.trans hp) ?_
    · rcases List.mem_cons.mp hb with h | h
      · right; rw [h]; exact Nat.le_refl _
      · left; exact List.mem_singleton.mp h
    · show (List.map _ (pickOrder (w.params.setOrder S ep) es).toList).length ≤ _
      rw [q1.length, q2.length_eq, hp.length_eq, ← hlen]; exact hb'
  | false =>
    refine wpAny_pure ?_
    rw [show (!(model prog w).w.params.followText "set-order" && true) = true by rw [show (model prog w).w = w from rfl, ht]; rfl, if_pos rfl]
    refine wpAny_bind (drawOrder_perm es.size (List.range es.size) s (by simp) fun pl d hpp => ?_)
    have hpl' : pl.length = es.size := by rw [hpp.length_eq, List.length_range]
    refine wpAny_bind (wpAny_newTuple ?_ (by rw [List.length_map, hpl']; exact hb'))
    have ho1 := Heap.get?_push_of_some { cls := .type "tuple", data := .seq (pl.map fun (j : Nat) => rawInt j).toArray : Obj } ho
    refine wpAny_bind (wpAny_bind (wpAny_setState_of (s := ⟨s.heap.push { cls := .type "tuple", data := .seq (pl.map fun (j : Nat) => rawInt j).toArray }, s.gens, d, s.toks, s.os⟩) ho1 hd hf (wpAny_pure ?_)))
    refine wpAny_bind (wpAny_newObj_type (wpAny_pure ⟨_, rfl, "set_iterator", _, ⟨_, Heap.get?_push_size _ rfl, rfl⟩, slot_si_next.lookup, ?_⟩))
    have pv : (pl.map (valAt es)).Perm (es.toList.map (·.2)) := by rw [← range_vals]; exact hpp.map _
    obtain ⟨ls, q1, q2⟩ := strs_perm hs pv
    have hz : (s.heap.push { cls := .type "tuple", data := .seq (pl.map fun (j : Nat) => rawInt j).toArray }).objs.size = s.heap.objs.size + 1 := Heap.size_push ..
    dsimp only
    refine k _ d _ [_, S, s.heap.objs.size] _ _ ls (fun b o e => Heap.get?_push_of_some _ (Heap.get?_push_of_some _ e)) (fun b hb => ?_) (by rw [hz]; exact Nat.le_succ _) (fun A' hh => walksD (F := s.heap.objs.size) (pl := pl) hh ?_ ?_ hd hf hpp) ⟨Heap.get?_push_size _ rfl, Heap.get?_push_of_some _ ho1, Heap.get?_push_of_some _ (Heap.get?_push_size _ rfl)⟩ q1 (q2.trans hp) ?_
    · rcases List.mem_cons.mp hb with h | h
      · right; rw [h, hz]; exact Nat.le_succ _
      · rcases List.mem_cons.mp h with h | h
        · left; exact h
        · right; rw [List.mem_singleton.mp h]; exact Nat.le_refl _
    · rw [hz]; exact Nat.ne_of_lt (Nat.lt_succ_of_lt hS)
    · rw [hz]; exact Nat.ne_of_lt (Nat.lt_succ_self _)
    · rw [q1.length, q2.length_eq, hp.length_eq, ← hlen]; exact hb'
theorem collect_set {S : Addr} {l : List Str} {Q : List Value → Shared → Prop} (hh : A.handled = none) (X : SetX prog w s.heap S l) (h2 : 2 ≤ l.length)
    (hQ : ∀ (s' : Shared) (vs : List Value) (ls : List Str), (∀ b o, s.heap.get? b = some o → s'.heap.get? b = some o) → s'.gens = s.gens → s'.os = s.os → s.heap.objs.size ≤ s'.heap.objs.size → StrsAre vs ls → ls.Perm l → vs.length ≤ sizeLine → Q vs s') :
    wpAny (model prog w) A (collect (.ref S)) Q E s := by
  have X0 := X
  obtain ⟨o, es, ep, t, ks, ho, hx, _⟩ := X0.ex
  have hS : S < s.heap.objs.size := Heap.lt_size ho
  unfold collect
  refine wpAny_bind (wpAny_runValue (codeAny_builtin F.entry_proto_collect ?_))
  rw [Around.under_plainId F.plain_proto_collect _]
  show wpAny _ A.in1 (newList [] >>= fun l => again (.builtin "list.__iadd__" ⟨[l, .ref S], []⟩)) _ _ s
  refine wpAny_bind (wpAny_newObj_type ?_)
  refine wpAny_pure ⟨plainId_quiet F.plain_list_iadd _, codeAny_builtin F.entry_list_iadd ?_⟩
  rw [Around.under_plainId F.plain_list_iadd _]
  show wpAny _ A.in1 (Builtin.List.listExtendWith (.ref s.heap.objs.size) (.ref S) (.ref s.heap.objs.size)) _ _ _
  unfold Builtin.List.listExtendWith
  generalize hH : s.heap.push { cls := .type "list", data := .seq ([] : List Value).toArray } = H
  have hHs : H.objs.size = s.heap.objs.size + 1 := by rw [← hH, Heap.size_push]
  have up : ∀ b o, s.heap.get? b = some o → H.get? b = some o := fun b o e => by rw [← hH]; exact Heap.get?_push_of_some _ e
  have hT : Shared.TypeIs ⟨H, s.gens, s.drawn, s.toks, s.os⟩ (.ref S) "set" := ⟨o, up _ _ ho, hx.1⟩
  refine wpAny_bind (wpAny_typeOf hT ?_)
  have h1 : Builtin.List.listSameRef (.ref s.heap.objs.size) (.ref S) = false := by simp [Builtin.List.listSameRef, Nat.ne_of_gt hS]
  have h2' : (Value.type "set" == Value.type "list") = false := by decide
  have h3 : (Value.type "set" == Value.type "tuple") = false := by decide
  simp only [h1, h2', h3, Bool.or_false, Bool.false_eq_true, if_false]
  refine wpAny_bind (iter_set (s := ⟨H, s.gens, s.drawn, s.toks, s.os⟩) (X.keeps fun o e => up _ _ e) h2 fun h' d I fp St vs ls up' hfp hI W hst hs hp hz => ?_)
  have hT' : Shared.TypeIs ⟨h', s.gens, d, s.toks, s.os⟩ (.ref S) "set" := ⟨o, up' _ _ (up _ _ ho), hx.1⟩
  refine wpAny_bind (wpAny_holding ?_)
  unfold Builtin.List.listLengthHint
  refine wpAny_bind (wpAny_specialOf hT' len_set ?_)
  wp_delta
  refine wpAny_bind (wpAny_isInstance (T := "set") (b := true) hT' (by rw [isSubtype_type]; kernel_rfl) ?_)
  show wpAny _ A.in1 (typeOf (Value.ref S) >>= _) _ _ _
  refine wpAny_bind (wpAny_typeOf hT' ?_)
  refine wpAny_pure ?_
  rw [if_pos (by decide)]
  have hSf : s.heap.objs.size ∉ fp := fun hm => by
    rcases hfp _ hm with h | h
    · exact absurd h (Nat.ne_of_gt hS)
    · dsimp only at h; rw [hHs] at h; exact absurd h (Nat.not_le_of_gt (Nat.lt_succ_self _))
  have hN : h'.get? s.heap.objs.size = some { cls := .type "list", data := .seq ([] : List Value).toArray } := up' _ _ (by rw [← hH]; exact Heap.get?_push_size _ rfl)
  refine wpAny_bind (wpAny_rule ?_)
  refine wpAny_bind ?_
  show wpAny _ A.in1 (updateSeq s.heap.objs.size (·.push .none) >>= fun _ => updateSeq s.heap.objs.size (·.pop)) _ _ _
  refine wpAny_bind (wpAny_updateSeq hN rfl ?_)
  have hN2 := Heap.get?_update_self (Obj.mapSeq (·.push Value.none)) hN rfl
  refine wpAny_updateSeq hN2 rfl ?_
  have hN3 := Heap.get?_update_self (Obj.mapSeq (·.pop)) hN2 rfl
  have oth : ∀ b o, b ≠ s.heap.objs.size → h'.get? b = some o → ((h'.update s.heap.objs.size (Obj.mapSeq (·.push Value.none))).update s.heap.objs.size (Obj.mapSeq (·.pop))).get? b = some o :=
    fun b o hb e => (Heap.get?_update_other _ _ (Ne.symm hb)).trans ((Heap.get?_update_other _ _ (Ne.symm hb)).trans e)
  have hst2 := (W A.in1 hh).frame 0 _ _ hst fun b hb o e => oth b o (fun h => hSf (h ▸ hb)) e
  refine wpAny_pure ⟨plainId_quiet F.plain_extend_loop _, codeAny_extend_loopS (W A.in1 hh).toS hz _ hSf _ vs.length 0 _ _ _ rfl (Nat.zero_le _) hst2 hN3 (ItemsOf.nil _) fun s' acc' c' hm hS' hacc => ?_⟩
  show wpAny _ A (load s.heap.objs.size >>= _) _ _ s'
  refine wpAny_bind (wpAny_load hS' ?_)
  have hav : acc'.toList = vs := by
    apply List.ext_getElem?
    intro i
    rw [Array.getElem?_toList]
    by_cases hi : i < vs.length
    · have := hacc.2 i acc'[i]! (by rw [Array.getElem?_eq_getElem (by rw [hacc.1]; exact hi)]; simp [hacc.1, hi])
      rw [this, Array.getElem?_eq_getElem (by rw [hacc.1]; exact hi)]; simp [hacc.1, hi]
    · rw [List.getElem?_eq_none (by lia), Array.getElem?_eq_none (by rw [hacc.1]; lia)]
  refine wpAny_pure ?_
  show Q acc'.toList s'
  rw [hav]
  refine hQ s' vs ls (fun b ob e => hm.heap b ob (fun hb => ?_) (oth _ _ (Nat.ne_of_lt (Heap.lt_size e)) (up' _ _ (up _ _ e)))) hm.gens hm.os (Nat.le_of_lt (Heap.lt_size hS')) hs hp hz
  have hlt := Heap.lt_size e
  rcases List.mem_cons.mp hb with h | h
  · exact absurd hlt (h ▸ Nat.lt_irrefl _)
  · rw [List.mem_singleton.mp h] at hlt
    dsimp only at hI
    rw [hHs] at hI
    exact absurd hlt (Nat.not_lt.mpr (Nat.le_of_succ_le hI))
end
end L2T
namespace L2T
set_option autoImplicit false
open PySem PySem.Spec PyProof.Rows L2 L2S
noncomputable def leS (a b : Str) : Prop := a.cps.toList ≤ b.cps.toList
theorem leS_of {a b : Str} (h : ltCps b.cps.toList a.cps.toList = false) : leS a b := by
  rw [ltCps_eq] at h
  exact List.not_lt.mp (of_decide_eq_false h)
theorem leS_anti {a b : Str} (h : leS a b) (h' : leS b a) : a = b := by
  have e := List.le_antisymm h h'
  obtain ⟨⟨x⟩⟩ := a
  obtain ⟨⟨y⟩⟩ := b
  simp only at e
  rw [e]
theorem rising_pw : ∀ (p : Str) (l : List Str), risingS p l = true → (p :: l).Pairwise leS
  | p, [], _ => List.pairwise_singleton _ _
  | p, x :: r, h => by
    have h' : (!ltCps x.cps.toList p.cps.toList && risingS x r) = true := h
    rw [Bool.and_eq_true] at h'
    have px : leS p x := leS_of (by simpa using h'.1)
    have ih := rising_pw x r h'.2
    refine List.pairwise_cons.mpr ⟨fun y hy => ?_, ih⟩
    rcases List.mem_cons.mp hy with e | hy
    · rw [e]; exact px
    · exact List.le_trans px ((List.pairwise_cons.mp ih).1 y hy)
theorem sorted_pw (l : List Str) (h : sortedS l = true) : l.Pairwise leS := by
  cases l with
  | nil => exact List.Pairwise.nil
  | cons x r => exact rising_pw x r h
theorem pw_uniq : ∀ {l m : List Str}, l.Perm m → l.Pairwise leS → m.Pairwise leS → l = m
  | [], m, p, _, _ => (List.nil_perm.mp p).symm
  | a :: l, [], p, _, _ => absurd p.length_eq (by simp)
  | a :: l, b :: m, p, h, h' => by
    have hab : leS a b := by
      rcases List.mem_cons.mp (p.mem_iff.mpr List.mem_cons_self : b ∈ a :: l) with e | e
      · rw [e]; exact List.le_refl _
      · exact (List.pairwise_cons.mp h).1 b e
    have hba : leS b a := by
      rcases List.mem_cons.mp (p.mem_iff.mp List.mem_cons_self : a ∈ b :: m) with e | e
      · rw [e]; exact List.le_refl _
      · exact (List.pairwise_cons.mp h').1 a e
    have e := leS_anti hab hba
    subst e
    rw [pw_uniq (List.Perm.cons_inv p) (List.pairwise_cons.mp h).2 (List.pairwise_cons.mp h').2]
theorem vals_strs : ∀ {ts : List Str} {us : List Value}, Vals (ts.map V.str) us → StrsAre us ts
  | [], _, r => by cases r; exact .nil
  | t :: ts, _, r => by
    cases r with
    | cons h r =>
      obtain ⟨k, rfl⟩ := h
      exact .cons t k (vals_strs r)
theorem strs_vals : ∀ {ts : List Str} {us : List Value}, StrsAre us ts → Vals (ts.map V.str) us
  | _, _, .nil => .nil
  | _, _, .cons t k h => .cons ⟨k, rfl⟩ (strs_vals h)
section
variable {X : Cx}
theorem call_setT (hc : X.calm = true) : CallR X (.type "set") (fun xs H Q => ∃ p ts, xs = [.ref p] ∧ SqL X.K H p (ts.map V.str) ∧ ts.length + 1 < scanBound ∧ ∀ a, H a = none → Q (.ref a) (upd H a (.ext fun h => SetX X.prog X.w h a (ded ts)))) := by
  intro pins s σ H xs us Q I r h
  obtain ⟨p, ts, rfl, hq, hb, q⟩ := h
  obtain ⟨u, rfl, rx⟩ := vals1 r
  cases rx
  obtain ⟨its, r', pl, hz⟩ := I.list hq
  have hlen := r'.length
  refine call_set_texts (ss := ts) (I.ok.hd hc) pl.isList (vals_strs r') (by rw [List.size_toArray]; rw [List.length_map] at hlen; lia) fun h' tk SX kp => ?_
  refine ⟨.ref s.heap.objs.size, _, I.laid (t' := tk) kp (Nat.le_refl _) ?_, rfl, q _ (I.hok.fresh (Nat.le_refl _))⟩
  refine ⟨SX, ?_, fun h1 h2 x k => SetX.keeps x k⟩
  obtain ⟨o, _, _, _, _, e, _⟩ := SX.ex
  exact ⟨o, e⟩
theorem call_sortedT (hc : X.calm = true) : CallR X (.builtin "sorted") (fun xs H Q => ∃ a l φ, xs = [.ref a] ∧ H a = some (.ext φ) ∧ (∀ h, φ h → SetX X.prog X.w h a l) ∧ 2 ≤ l.length ∧ l.length < 64 ∧ ∀ b ss, H b = none → ss.Perm l → sortedS ss = true → Q (.ref b) (upd H b (.lst (ss.map V.str)))) := by
  intro pins s σ H xs us Q I r h
  obtain ⟨a, l, φ, rfl, ha, hφ, h2, h64, q⟩ := h
  obtain ⟨u, rfl, rx⟩ := vals1 r
  cases rx
  obtain ⟨hx, _, _⟩ : φ s.heap ∧ _ ∧ _ := I.hok a _ ha
  refine sorted_texts (collect_set (A := X.A.in1) (show X.A.in1.handled = none from I.ok.hd hc) (hφ _ hx) h2 fun s' vs ls kp hg ho hle hs hp hz => ⟨hz, by rw [hs.length, hp.length_eq]; exact h64, ls, hs, fun h' vs' ss' m kp' e hs' hp' hso => ?_⟩)
  have kk : ∀ b o, s.heap.get? b = some o → h'.get? b = some o := fun b o z => kp' b o (kp b o z)
  have new : ObjOk X.prog X.w (upd H s'.heap.objs.size (.lst (ss'.map V.str))) h' s'.heap.objs.size (.lst (ss'.map V.str)) := ⟨by rw [List.length_map, hp'.length_eq, ← hs.length]; exact hz, vs', m, strs_vals hs', e⟩
  refine ⟨.ref s'.heap.objs.size, _, I.call' (s' := ⟨h', s'.gens, s'.drawn, s'.toks, s'.os⟩) (ch := []) ho (Un.laid kk hle (I.hok.fresh hle)) (I.hok.laid kk hle new) (by show AllBare s'.gens; rw [hg]; exact I.bare) (fun b hb => by cases hb), rfl, q _ _ (I.hok.fresh hle) (hp'.trans hp) hso⟩
end
end L2T
namespace FW
open PySem L2
noncomputable def top (i : Nat) : Stmt := PySem.Challenge.pw_firstword_k06_answers_by_hand.main.body.getD i (.Pass ⟨0, 0, 0, 0⟩)
noncomputable abbrev sWho : Stmt := top 9
noncomputable abbrev sThr : Stmt := top 10
noncomputable abbrev sIsW : Stmt := top 11
noncomputable abbrev sChS : Stmt := top 12
noncomputable abbrev sChW : Stmt := top 13
noncomputable abbrev sStep : Stmt := top 15
noncomputable abbrev sSh : Stmt := top 16
noncomputable abbrev sRe : Stmt := top 17
noncomputable abbrev sWaitI : Stmt := inClass (top 20) 0
noncomputable abbrev sWaitS : Stmt := inClass (top 20) 1
noncomputable abbrev sRaceI : Stmt := inClass (top 21) 0
noncomputable abbrev sRaceS : Stmt := inClass (top 21) 1
noncomputable abbrev sAre : Stmt := top 22
noncomputable abbrev sSum : Stmt := top 23
noncomputable abbrev sLeads : Stmt := top 24
noncomputable abbrev sBegO : Stmt := top 25
noncomputable abbrev sBeg : Stmt := top 26
noncomputable abbrev sLeadsS : Stmt := top 27
noncomputable abbrev sLeadsB : Stmt := top 28
noncomputable abbrev sHeld : Stmt := top 30
noncomputable abbrev sWaits : Stmt := top 31
noncomputable abbrev sMarg : Stmt := top 32
noncomputable abbrev sRaceF : Stmt := top 33
noncomputable abbrev sWords : Stmt := top 35
noncomputable abbrev sLong : Stmt := top 36
noncomputable abbrev sSays : Stmt := top 37
noncomputable abbrev sTab : Stmt := top 38
noncomputable abbrev sRace : Stmt := top 39
noncomputable abbrev sBent : Stmt := top 40
noncomputable abbrev sLaw : Stmt := top 41
end FW
namespace FW
open PySem L2
noncomputable def alpha : List Nat := (List.range 26).map (97 + ·)
noncomputable def vi (n : Nat) : V := .int (n : Int)
structure Bl (mg : Str → Option Value) : Prop where
  isinstance : mg "isinstance" = none
  str : mg "str" = none
  int : mg "int" = none
  bool : mg "bool" = none
  list : mg "list" = none
  all : mg "all" = none
  any : mg "any" = none
  len : mg "len" = none
  sum : mg "sum" = none
  min : mg "min" = none
  max : mg "max" = none
  range : mg "range" = none
  enumerate : mg "enumerate" = none
  reversed : mg "reversed" = none
  zip : mg "zip" = none
  set : mg "set" = none
  sorted : mg "sorted" = none
  valueError : mg "ValueError" = none
  ord : mg "ord" = none
  dict : mg "dict" = none
theorem kit_str (K : PySem.W.Frag) : PySem.W.kitOne K (.type "str") (.type "str") = some true := by
  unfold PySem.W.kitOne
  rw [if_pos (by decide)]
theorem kit_int (K : PySem.W.Frag) : PySem.W.kitOne K (.type "int") (.type "int") = some true := by
  unfold PySem.W.kitOne
  rw [if_pos (by decide)]
theorem kit_int_bool (K : PySem.W.Frag) : PySem.W.kitOne K (.type "int") (.type "bool") = some false := by
  first | rfl | (unfold PySem.W.kitOne; rw [if_neg (by decide)]; rfl) | (unfold PySem.W.kitOne; rw [if_neg (by decide)]; with_unfolding_all rfl)
section
variable {P : Program} {w : World} {K : PySem.W.Frag} {mg : Str → Option Value} {base : Heap}
theorem sz {n : Nat} (h : n ≤ 10000) : n ≤ sizeLine := by rw [sizeLine_eq]; lia
theorem sz' {n : Nat} (h : n ≤ 20000) : n < sizeLine := by rw [sizeLine_eq]; lia
structure Gf (P : Program) (w : World) (K : PySem.W.Frag) (mg : Str → Option Value) (base : Heap) (k : Nat) (x : Str) (ps : List Str) (sp : Sp) (f : Addr) (fd : FuncData) : Prop where
  ok : FnOk P w K mg base CX0 k f fd ps sp
  mg : mg x = some (.ref f)
  kp : PySem.W.keepIn K (.ref f) = true
  bd : Binds K fd ps []
end
end FW
namespace FW
open PySem L2
noncomputable def Gv (mg : Str → Option Value) (x : Str) (v : V) : Prop := ∃ u, mg x = some u ∧ RelV v u
noncomputable def thB (q : Nat) (l : List Nat) : Bool := l.all fun c => decide (c ∈ alpha.take q)
noncomputable def spThr (K : PySem.W.Frag) : Sp := fun vs H Q _ => ∃ (q : Nat) (x : V), vs = [vi q, x] ∧ 2 ≤ q ∧ q ≤ 26 ∧
  ((∃ l, x = .str (tx l) ∧ l.length ≤ 10000 ∧ ∀ H', Same H H' → Q (.bl (thB q l)) H') ∨ (∃ t, TyOf K H x t ∧ PySem.W.kitOne K t (.type "str") = some false ∧ Q (.bl false) H))
noncomputable def spIsW (K : PySem.W.Frag) : Sp := fun vs H Q _ => ∃ (q : Nat) (x : V), vs = [vi q, x] ∧ 2 ≤ q ∧ q ≤ 26 ∧
  ((∃ l, x = .str (tx l) ∧ l.length ≤ 10000 ∧ ∀ H', Same H H' → Q (.bl (thB q l && decide (l ≠ []))) H') ∨ (∃ t, TyOf K H x t ∧ PySem.W.kitOne K t (.type "str") = some false ∧ Q (.bl false) H))
noncomputable def spChW : Sp := fun vs H Q _ => ∃ (q : Nat) (l : List Nat), vs = [vi q, .str (tx l)] ∧ 2 ≤ q ∧ q ≤ 26 ∧ l.length ≤ 10000 ∧ (∀ c ∈ l, c ∈ alpha.take q) ∧ l ≠ [] ∧ ∀ H', Same H H' → Q .non H'
theorem thB_of {q : Nat} {l : List Nat} (h : ∀ c ∈ l, c ∈ alpha.take q) : thB q l = true := List.all_eq_true.mpr fun c hc => decide_eq_true (h c hc)
theorem mem_alpha {q c : Nat} (h : c ∈ alpha.take q) (h26 : q ≤ 26) : 97 ≤ c ∧ c - 97 < q := by
  have e : alpha.take q = (List.range q).map (97 + ·) := by
    unfold alpha
    rw [← List.map_take, List.take_range, Nat.min_eq_left h26]
  rw [e] at h
  obtain ⟨i, hi, rfl⟩ := List.mem_map.mp h
  have := List.mem_range.mp hi
  lia
theorem mem_inf {c : Nat} {l : List Nat} : [c] <:+: l ↔ c ∈ l := by
  constructor
  · rintro ⟨a, b, e⟩
    rw [← e]
    simp
  · intro h
    obtain ⟨a, b, e⟩ := List.append_of_mem h
    exact ⟨a, b, by rw [e]; simp⟩
section
variable {P : Program} {w : World} {K : PySem.W.Frag} {mg : Str → Option Value} {base : Heap}
theorem scThr : FnScope ["sides", "thing", "letters"] ["sides", "thing"] (defScope sThr) := ⟨rfl, rfl, rfl, by decide +kernel, rfl, by decide +kernel, by decide +kernel⟩
theorem ok_thr {f : Addr} {fd : FuncData} (F : Fun K "is_throws" "is_throws" sThr f fd) (B : Bl mg) (GL : Gv mg "LETTERS" (.str (tx alpha))) : FnOk P w K mg base CX0 1 f fd ["sides", "thing"] (spThr K) := by
  obtain ⟨u, hm, ru⟩ := GL
  refine F.ok scThr (fun vs H Q E h => ?_) (fun cdv A outer s H vs Q E hr h => ?_)
  · obtain ⟨q, x, rfl, _⟩ := h
    rfl
  · obtain ⟨q, x, rfl, h2, h26, k⟩ := h
    refine ⟨_, pss_cons (ps_set (i := 2) scThr.nd rfl (Or.inr rfl) (pe_slice sl_str (pe_glob rfl hm ru) po_none (po_some (pv 0))))
      (pss_one (ps_ret (pe_and (pe_callB call_isinst rfl B.isinstance (by decide +kernel) (pa_cons (pv 1) (pa_cons (pe_bltn (v := .ty "str") rfl B.str (by decide +kernel) rfl) pa_nil)))
      (pe_one (pe_callB (call_all rfl) rfl B.all (by decide +kernel) (pa_cons (pe_lc (N := ["sides", "thing", "letters"]) (sc := defScope sThr) (own := ["sign"]) (cap := [2]) ⟨rfl, by decide +kernel, by decide +kernel, by decide +kernel, by decide +kernel⟩ (pi_str (pv 1))
        (fun _ _ _ _ _ => pg_name (i := 0) (show (lcN ["sides", "thing", "letters"] ["sign"] [2]).Nodup by decide +kernel) rfl (Or.inl rfl) (.inr rfl)) (fun _ _ _ _ _ => pif_nil) (fun _ _ _ _ _ => pe_cmpR op_in_tx (pv 0) (pv 1) rfl)) pa_nil)))))), ?_⟩
    refine ⟨_, rfl, _, rfl, alpha, rfl, sz (by decide), ?_⟩
    rw [cutL_to]
    rcases k with ⟨l, rfl, hl, k⟩ | ⟨t, ty, kt, k⟩
    · refine ⟨_, rfl, _, _, _, _, rfl, .str _, kit_str K, true, rfl, iteT ?_⟩
      refine ⟨_, rfl, l, rfl, lcb1 l.length (fun i => .bl (decide (l.getD i 0 ∈ alpha.take q))) (sz hl) (fun i _ h _ => h) (fun _ _ => Nat.le_refl _) ?_ ?_⟩
      · rintro i H1 K1 hi hs k1 x _ ⟨rfl, c, hc, rfl⟩
        refine ⟨lcExt_set (by decide), ?_⟩
        have e : l.getD i 0 = c := by rw [List.getD_eq_getElem?_getD, hc]; rfl
        have k1' := k1 _ (Same.refl _)
        rw [e] at k1'
        refine ⟨_, rfl, _, rfl, [c], _, rfl, rfl, ?_⟩
        rw [show decide ([c] <:+: alpha.take q) = decide (c ∈ alpha.take q) from decide_eq_decide.mpr mem_inf]
        exact k1'
      · intro D H' hD hs hd
        refine ⟨D, l.map fun c => decide (c ∈ alpha.take q), rfl, SqL.of ?_, ?_⟩
        · rw [hd, List.map_map]
          congr 2
          exact range_map_getD (fun c => V.bl (decide (c ∈ alpha.take q))) 0 l
        · have e : (l.map fun c => decide (c ∈ alpha.take q)).all id = thB q l := by simp [List.all_map, thB]
          rw [e]
          exact k H' hs
    · exact ⟨_, rfl, _, _, _, _, rfl, ty, kt, false, rfl, iteF k⟩
theorem scIsW : FnScope ["sides", "thing"] ["sides", "thing"] (defScope sIsW) := ⟨rfl, rfl, rfl, by decide +kernel, rfl, by decide +kernel, by decide +kernel⟩
theorem ok_isw {f fL : Addr} {fd dL : FuncData} (F : Fun K "is_word" "is_word" sIsW f fd) (B : Bl mg) (GT : Gf P w K mg base 1 "is_throws" ["sides", "thing"] (spThr K) fL dL) : FnOk P w K mg base CX0 2 f fd ["sides", "thing"] (spIsW K) := by
  refine F.ok scIsW (fun vs H Q E h => ?_) (fun cdv A outer s H vs Q E hr h => ?_)
  · obtain ⟨q, x, rfl, _⟩ := h
    rfl
  · obtain ⟨q, x, rfl, h2, h26, k⟩ := h
    refine ⟨_, pss_one (ps_ret (pe_and (pe_call GT.ok hr rfl GT.mg GT.kp GT.bd .nil pass0 (pa_cons (pv 0) (pa_cons (pv 1) pa_nil)))
      (pe_one (pe_cmpR op_gt (pe_callB call_len_tx rfl B.len (by decide +kernel) (pa_cons (pv 1) pa_nil)) pe_int (nomark _))))), ?_⟩
    rcases k with ⟨l, rfl, hl, k⟩ | ⟨t, ty, kt, k⟩
    · refine ⟨_, rfl, _, rfl, q, _, rfl, h2, h26, .inl ⟨l, rfl, hl, fun H1 s1 => ⟨_, rfl, ?_⟩⟩⟩
      by_cases hb : thB q l = true
      · rw [hb]
        refine iteT ⟨_, rfl, l, rfl, sz hl, _, _, rfl, rfl, ?_⟩
        have k' := k H1 s1
        rw [hb, Bool.true_and] at k'
        dsimp only
        rw [show decide ((0 : Int) < ((l.length : Nat) : Int)) = decide (l ≠ []) from decide_eq_decide.mpr (by
          rw [← List.length_pos_iff]
          lia)]
        exact k'
      · have hb' : thB q l = false := by simpa using hb
        have k' := k H1 s1
        rw [hb', Bool.false_and] at k'
        rw [hb']
        exact iteF k'
    · exact ⟨_, rfl, _, rfl, q, x, rfl, h2, h26, .inr ⟨t, ty, kt, _, rfl, iteF k⟩⟩
theorem scChW : FnScope ["sides", "word"] ["sides", "word"] (defScope sChW) := ⟨rfl, rfl, rfl, by decide +kernel, rfl, by decide +kernel, by decide +kernel⟩
theorem ok_chw {f fL : Addr} {fd fdL : FuncData} (F : Fun K "check_word" "check_word" sChW f fd) (GW : Gf P w K mg base 2 "is_word" ["sides", "thing"] (spIsW K) fL fdL) : FnOk P w K mg base CX0 3 f fd ["sides", "word"] spChW := by
  refine F.ok scChW (fun vs H Q E h => ?_) (fun cdv A outer s H vs Q E hr h => ?_)
  · obtain ⟨q, l, rfl, _⟩ := h
    rfl
  · obtain ⟨q, l, rfl, h2, h26, hl, hof, hne, k⟩ := h
    refine ⟨_, pss_one (ps_if (pt_not (pt_val (pe_call GW.ok hr rfl GW.mg GW.kp GW.bd .nil pass0 (pa_cons (pv 0) (pa_cons (pv 1) pa_nil))))) pss_never pss_nil), ?_⟩
    refine ⟨_, rfl, _, rfl, q, _, rfl, h2, h26, .inl ⟨l, rfl, hl, fun H1 s1 => ⟨_, rfl, ?_⟩⟩⟩
    rw [thB_of hof, decide_eq_true hne]
    exact iteF (k H1 s1)
end
end FW
namespace FW
open PySem L2
noncomputable def spStep (K : PySem.W.Frag) : Sp := fun vs H Q _ => ∃ (w : List Nat) (p : Addr) (tab : List Nat) (r c : Nat), vs = [.str (tx w), .ref p, vi r, .str (tx [c])] ∧ SqL K H p (tab.map vi) ∧ w ≠ [] ∧ w.length ≤ 10000 ∧ r ≤ w.length ∧
  (∀ j, j ≤ r → tab[j]? = some (bord w j)) ∧ Q (vi (lng w (w.take r ++ [c]))) H
noncomputable def spSh : Sp := fun vs H Q _ => ∃ w, vs = [.str (tx w)] ∧ w ≠ [] ∧ w.length ≤ 10000 ∧ ∀ p H', H p = none → Same H H' → H' p = some (.lst ((shTab w (w.length + 1)).map vi)) → Q (.ref p) H'
section
variable {P : Program} {w : World} {K : PySem.W.Frag} {mg : Str → Option Value} {base : Heap}
theorem scStep : FnScope ["word", "shorter", "reached", "letter"] ["word", "shorter", "reached", "letter"] (defScope sStep) := ⟨rfl, rfl, rfl, by decide +kernel, rfl, by decide +kernel, by decide +kernel⟩
theorem ok_step {f : Addr} {fd : FuncData} (F : Fun K "step" "step" sStep f fd) (B : Bl mg) : FnOk P w K mg base CX0 1 f fd ["word", "shorter", "reached", "letter"] (spStep K) := by
  refine F.ok scStep (fun vs H Q E h => ?_) (fun cdv A outer s H vs Q E hr h => ?_)
  · obtain ⟨w, p, tab, r, c, rfl, _⟩ := h
    rfl
  · obtain ⟨w, p, tab, r, c, rfl, hS, hne, hw, hrw, htab, k⟩ := h
    refine ⟨_, pss_cons (ps_while PassesOwn.never (PW.pt (pw_and (pt_cmpR op_gt (pv 2) pe_int (nomark _))
        (pw_and1 (PW.pt (pw_or (pt_cmpR op_eq (pv 2) (pe_callB call_len_tx rfl B.len (by decide +kernel) (pa_cons (pv 0) pa_nil)) (nomark _))
          (pw_or1 (pt_cmpR op_ne (pe_ix ix_tx (pv 0) (pv 2) (fun _ _ => rfl)) (pv 3) (nomark _))))))))
        (pss_one (ps_set (i := 2) scStep.nd rfl (Or.inl rfl) (pe_ix ix_list (pv 1) (pv 2) (fun _ _ => rfl)))))
      (pss_cons (ps_if (pt_cmpR op_eq (pe_ix ix_tx (pv 0) (pv 2) (fun _ _ => rfl)) (pv 3) (nomark _)) (pss_one (ps_ret (pe_op op_add (pv 2) pe_int))) pss_nil)
      (pss_one (ps_ret pe_int))), ?_⟩
    refine ⟨fun m σ H2 => H2 = H ∧ σ = [some (.str (tx w)), some (.ref p), some (vi m), some (.str (tx [c]))] ∧ Going w (w.take r) c m ∧ m ≤ r, ⟨r, rfl, rfl, Going.start hrw, Nat.le_refl _⟩, ?_⟩
    rintro r' σ H2 ⟨rfl, rfl, g, hr'⟩
    refine ⟨_, rfl, _, _, rfl, rfl, _, rfl, ?_⟩
    by_cases h0 : r' = 0
    · subst h0
      rw [decide_eq_false (by show ¬ (0 : Int) < ((0 : Nat) : Int); lia)]
      refine iteF (iteF ?_)
      cases hw0 : w[0]? with
      | none =>
        have := List.getElem?_eq_none_iff.mp hw0
        exact absurd (List.length_eq_zero_iff.mp (by lia)) hne
      | some c0 =>
        refine ⟨_, rfl, _, rfl, w, 0, c0, rfl, rfl, sz hw, hw0, _, rfl, rfl, _, rfl, ?_⟩
        rw [dec_tx]
        by_cases hc : c0 = c
        · subst hc
          rw [decide_eq_true rfl]
          refine iteT ⟨_, rfl, _, _, rfl, rfl, ?_⟩
          rw [g.yes (by have := (List.getElem?_eq_some_iff.mp hw0).1; exact this) hw0] at k
          exact k
        · rw [decide_eq_false (by intro z; exact hc (by simpa using z))]
          refine iteF ?_
          rw [g.no (by rw [hw0]; intro z; exact hc (Option.some.inj z))] at k
          exact k
    · have hpos : 0 < r' := by lia
      rw [decide_eq_true (by show (0 : Int) < ((r' : Nat) : Int); lia)]
      refine iteT ⟨_, rfl, _, rfl, w, rfl, sz hw, rfl, _, rfl, ?_⟩
      have body : ∀ (hn : r' = w.length ∨ w[r']? ≠ some c), ∃ N : St → Hp → Prop, (∀ σ' H', N σ' H' → ∃ m', m' < r' ∧ H' = H2 ∧ σ' = [some (.str (tx w)), some (.ref p), some (vi m'), some (.str (tx [c]))] ∧ Going w (w.take r) c m' ∧ m' ≤ r) ∧
          N [some (.str (tx w)), some (.ref p), some (vi (bord w r')), some (.str (tx [c]))] H2 := fun hn => by
        have lt := bord_lt g.le hpos
        exact ⟨fun σ' H' => H' = H2 ∧ σ' = [some (.str (tx w)), some (.ref p), some (vi (bord w r')), some (.str (tx [c]))], fun σ' H' ⟨e1, e2⟩ => ⟨bord w r', lt, e1, e2, g.turn hpos hn, by lia⟩, rfl, rfl⟩
      have item : atI (tab.map vi) ((r' : Nat) : Int) = some (vi (bord w r')) := atI_nat (by rw [List.getElem?_map, htab r' hr']; rfl)
      by_cases hl : r' = w.length
      · rw [decide_eq_true (by rw [← hl]; rfl)]
        refine iteT (iteT ?_)
        obtain ⟨N, h1, h2⟩ := body (.inl hl)
        exact ⟨N, h1, _, rfl, _, rfl, p, _, _, _, rfl, rfl, hS, item, h2⟩
      · rw [decide_eq_false (by intro z; unfold vi at z; injection z with z; lia)]
        refine iteF ?_
        have hlt : r' < w.length := by have := g.le; lia
        have hwr : w[r']? = some w[r'] := List.getElem?_eq_getElem hlt
        refine ⟨_, rfl, _, rfl, w, r', w[r'], rfl, rfl, sz hw, hwr, _, rfl, rfl, _, rfl, ?_⟩
        rw [dec_tx]
        by_cases hc : w[r'] = c
        · rw [hc, decide_eq_true rfl]
          refine iteF ?_
          rw [hc] at hwr
          refine ⟨_, rfl, _, rfl, w, r', c, rfl, rfl, sz hw, hwr, _, rfl, rfl, _, rfl, ?_⟩
          rw [dec_tx, decide_eq_true rfl]
          refine iteT ⟨_, rfl, _, _, rfl, rfl, ?_⟩
          rw [g.yes hlt hwr] at k
          exact k
        · rw [decide_eq_false (by intro z; exact hc (by simpa using z))]
          refine iteT ?_
          obtain ⟨N, h1, h2⟩ := body (.inr (by rw [hwr]; intro z; exact hc (Option.some.inj z)))
          exact ⟨N, h1, _, rfl, _, rfl, p, _, _, _, rfl, rfl, hS, item, h2⟩
theorem scSh : FnScope ["word", "shorter", "reached", "letter"] ["word"] (defScope sSh) := ⟨rfl, rfl, rfl, by decide +kernel, rfl, by decide +kernel, by decide +kernel⟩
theorem ok_sh {f fS : Addr} {fd fdS : FuncData} (F : Fun K "shorter_beginnings" "shorter_beginnings" sSh f fd) (GS : Gf P w K mg base 1 "step" ["word", "shorter", "reached", "letter"] (spStep K) fS fdS) : FnOk P w K mg base CX0 2 f fd ["word"] spSh := by
  refine F.ok scSh (fun vs H Q E h => ?_) (fun cdv A outer s H vs Q E hr h => ?_)
  · obtain ⟨w, rfl, _⟩ := h
    rfl
  · obtain ⟨w, rfl, hne, hw, k⟩ := h
    refine ⟨_, pss_cons (ps_set (i := 1) scSh.nd rfl (Or.inl rfl) (pe_lst (pa_cons pe_int (pa_cons pe_int pa_nil))))
      (pss_cons (ps_set (i := 2) scSh.nd rfl (Or.inl rfl) pe_int)
      (pss_cons (ps_for PassesOwn.never rfl (pi_str (pe_slice sl_str (pv 0) (po_some pe_int) po_none)) (pg_name (i := 3) scSh.nd rfl (Or.inl rfl))
        (pss_cons (ps_set (i := 2) scSh.nd rfl (Or.inl rfl) (pe_call GS.ok hr rfl GS.mg GS.kp GS.bd .nil pass0 (pa_cons (pv 0) (pa_cons (pv 1) (pa_cons (pv 2) (pa_cons (pv 3) pa_nil))))))
        (pss_one (ps_expr (pe_bm PySem.F.plainAttrs_list PySem.F.slot_list_append PySem.F.type_list_append mt_append (pv 1) (pa_cons (pv 2) pa_nil))))))
      (pss_one (ps_ret (pv 1))))), ?_⟩
    refine ⟨by show 2 ≤ sizeLine; decide, fun p hp => ?_⟩
    have hwl : 0 < w.length := by
      cases w with
      | nil => exact absurd rfl hne
      | cons a r => exact Nat.succ_pos _
    have ecut : cutL w (some 1) none = w.drop 1 := cutL_from w 1
    refine ⟨_, rfl, _, rfl, w, rfl, sz hw, w.drop 1, by rw [ecut], for_str (l := w.drop 1) (fun i σ H2 => ∃ v, σ = [some (.str (tx w)), some (.ref p), some (vi (bord w (i + 1))), v] ∧ Same H H2 ∧ H2 p = some (.lst ((shTab w (i + 2)).map vi)))
      ⟨none, by rw [bord_one]; rfl, (Same.refl H).upd hp, by rw [upd_same, shTab_two]; rfl⟩ ?_ ?_⟩
    · rintro i c σ H2 hc ⟨v, rfl, s2, h2⟩
      have hi : i + 1 < w.length := by
        have := (List.getElem?_eq_some_iff.mp hc).1
        rw [List.length_drop] at this
        lia
      have hc' : w[i + 1]? = some c := by
        rw [List.getElem?_drop] at hc
        rw [Nat.add_comm]
        exact hc
      have hb : bord w (i + 1) ≤ i + 1 := Nat.le_of_lt (bord_lt (by lia) (by lia))
      refine ⟨_, rfl, _, rfl, _, rfl, _, rfl, w, p, shTab w (i + 2), bord w (i + 1), c, rfl, SqL.of h2, hne, hw, by lia, fun j hj => shTab_get (by lia), ?_⟩
      refine ⟨_, rfl, .inl ⟨rfl, _, SqL.of h2⟩, _, rfl, p, _, _, rfl, rfl, h2, ?_, ?_⟩
      · rw [List.length_map]
        unfold shTab
        rw [List.length_map, List.length_range]
        exact sz' (by lia)
      · rw [bord_next hi hc']
        refine ⟨_, rfl, s2.upd hp, ?_⟩
        rw [upd_same, shTab_succ w (i + 2), List.map_append]
        rfl
    · rintro σ H2 ⟨v, rfl, s2, h2⟩
      have e : (w.drop 1).length + 2 = w.length + 1 := by rw [List.length_drop]; lia
      rw [e] at h2
      exact ⟨_, rfl, k p H2 hp s2 h2⟩
end
end FW
namespace FW
open PySem L2
noncomputable def spWho (K : PySem.W.Frag) : Sp := fun vs H Q _ => ∃ (x : V) (t : Value) (b1 b2 : Bool), vs = [x] ∧ TyOf K H x t ∧ PySem.W.kitOne K t (.type "int") = some b1 ∧ PySem.W.kitOne K t (.type "bool") = some b2 ∧ Q (.bl (b1 && !b2)) H
noncomputable def spChS : Sp := fun vs H Q _ => ∃ (q : Nat), vs = [vi q] ∧ 2 ≤ q ∧ q ≤ 26 ∧ Q .non H
section
variable {P : Program} {w : World} {K : PySem.W.Frag} {mg : Str → Option Value} {base : Heap}
theorem scWho : FnScope ["thing"] ["thing"] (defScope sWho) := ⟨rfl, rfl, rfl, by decide +kernel, rfl, by decide +kernel, by decide +kernel⟩
theorem ok_who {f : Addr} {fd : FuncData} (F : Fun K "is_whole" "is_whole" sWho f fd) (B : Bl mg) : FnOk P w K mg base CX0 1 f fd ["thing"] (spWho K) := by
  refine F.ok scWho (fun vs H Q E h => ?_) (fun cdv A outer s H vs Q E hr h => ?_)
  · obtain ⟨x, t, b1, b2, rfl, _⟩ := h
    rfl
  · obtain ⟨x, t, b1, b2, rfl, ty, k1, k2, k⟩ := h
    refine ⟨_, pss_one (ps_ret (pe_and (pe_callB call_isinst rfl B.isinstance (by decide +kernel) (pa_cons (pv 0) (pa_cons (pe_bltn (v := .ty "int") rfl B.int (by decide +kernel) rfl) pa_nil)))
      (pe_one (pe_not (pe_callB call_isinst rfl B.isinstance (by decide +kernel) (pa_cons (pv 0) (pa_cons (pe_bltn (v := .ty "bool") rfl B.bool (by decide +kernel) rfl) pa_nil))))))), ?_⟩
    refine ⟨_, rfl, _, _, _, _, rfl, ty, k1, b1, rfl, ?_⟩
    cases b1 with
    | false => exact iteF k
    | true => exact iteT ⟨_, rfl, _, _, _, _, rfl, ty, k2, b2, rfl, k⟩
theorem scChS : FnScope ["sides"] ["sides"] (defScope sChS) := ⟨rfl, rfl, rfl, by decide +kernel, rfl, by decide +kernel, by decide +kernel⟩
theorem ok_chs {f fL : Addr} {fd fdL : FuncData} (F : Fun K "check_sides" "check_sides" sChS f fd) (GW : Gf P w K mg base 1 "is_whole" ["thing"] (spWho K) fL fdL) (G1 : Gv mg "LEAST_SIDES" (.int 2)) (G2 : Gv mg "MOST_SIDES" (.int 26)) : FnOk P w K mg base CX0 2 f fd ["sides"] spChS := by
  obtain ⟨u1, m1, r1⟩ := G1
  obtain ⟨u2, m2, r2⟩ := G2
  refine F.ok scChS (fun vs H Q E h => ?_) (fun cdv A outer s H vs Q E hr h => ?_)
  · obtain ⟨q, rfl, _⟩ := h
    rfl
  · obtain ⟨q, rfl, h2, h26, k⟩ := h
    refine ⟨_, pss_one (ps_if (PW.pt (pw_or (pt_not (pt_val (pe_call GW.ok hr rfl GW.mg GW.kp GW.bd .nil pass0 (pa_cons (pv 0) pa_nil))))
      (pw_or1 (pt_not (pt_chain op_le op_le (pe_glob rfl m1 r1) (pv 0) (pe_glob rfl m2 r2)))))) pss_never pss_nil), ?_⟩
    refine ⟨_, rfl, _, _, _, _, rfl, .int _, kit_int K, kit_int_bool K, _, rfl, iteF ?_⟩
    refine ⟨_, rfl, _, _, rfl, rfl, _, rfl, ?_⟩
    rw [decide_eq_true (by show (2 : Int) ≤ ((q : Nat) : Int); lia)]
    refine iteT ⟨_, _, rfl, rfl, _, rfl, ?_⟩
    rw [decide_eq_true (by show ((q : Nat) : Int) ≤ (26 : Int); lia)]
    exact iteF k
end
end FW
namespace FW
open PySem L2 L2T
noncomputable def prefs (a : List Nat) : List (List Nat) := (List.range (a.length + 1)).map (a.take ·)
noncomputable def bgn (a b : List Nat) : List (List Nat) := prefs a ++ prefs b
noncomputable def leL (x y : List Nat) : Bool := decide (x ≤ y)
noncomputable def stS (a b : List Nat) : List (List Nat) := ((ded ((bgn a b).map tx)).map fun x => x.cps.toList).mergeSort leL
theorem mem_prefs {a s : List Nat} : s ∈ prefs a ↔ s <+: a := by
  unfold prefs
  rw [List.mem_map]
  constructor
  · rintro ⟨k, _, rfl⟩
    exact List.take_prefix _ _
  · intro h
    refine ⟨s.length, List.mem_range.mpr (Nat.lt_succ_of_le h.length_le), ?_⟩
    exact (List.prefix_iff_eq_take.mp h).symm
theorem ded_mem (l : List Str) (y : Str) : y ∈ ded l ↔ y ∈ l := (ded_all l.length l rfl).2.1 y
theorem ded_nd (l : List Str) : (ded l).Nodup := (ded_all l.length l rfl).1
theorem stS_perm (a b : List Nat) : ((stS a b).map tx).Perm (ded ((bgn a b).map tx)) := by
  have h := (List.mergeSort_perm ((ded ((bgn a b).map tx)).map fun x => x.cps.toList) leL).map tx
  rw [List.map_map] at h
  have e : (tx ∘ fun x : Str => x.cps.toList) = id := funext fun x => tx_of x
  rw [e, List.map_id] at h
  exact h
theorem stS_pw (a b : List Nat) : ((stS a b).map tx).Pairwise leS := by
  rw [List.pairwise_map]
  have h := List.pairwise_mergeSort (le := leL) (fun x y z h1 h2 => decide_eq_true (List.le_trans (of_decide_eq_true h1) (of_decide_eq_true h2)))
    (fun x y => by rw [Bool.or_eq_true]; exact (List.le_total x y).imp decide_eq_true decide_eq_true) ((ded ((bgn a b).map tx)).map fun x => x.cps.toList)
  exact h.imp fun {x y} z => of_decide_eq_true z
theorem stS_only {a b : List Nat} {ss : List Str} (p : ss.Perm (ded ((bgn a b).map tx))) (h : PyProof.Rows.sortedS ss = true) : ss = (stS a b).map tx := pw_uniq (p.trans (stS_perm a b).symm) (sorted_pw ss h) (stS_pw a b)
theorem mem_stS {a b s : List Nat} : s ∈ stS a b ↔ isSt a b s = true := by
  have h1 : s ∈ stS a b ↔ tx s ∈ (stS a b).map tx := ⟨fun h => List.mem_map.mpr ⟨s, h, rfl⟩, fun h => by
    obtain ⟨t, ht, e⟩ := List.mem_map.mp h
    rw [← tx_inj e]; exact ht⟩
  rw [h1, (stS_perm a b).mem_iff, ded_mem]
  have h2 : tx s ∈ (bgn a b).map tx ↔ s ∈ bgn a b := ⟨fun h => by
    obtain ⟨t, ht, e⟩ := List.mem_map.mp h
    rw [← tx_inj e]; exact ht, fun h => List.mem_map.mpr ⟨s, h, rfl⟩⟩
  rw [h2]
  unfold bgn isSt
  rw [List.mem_append, mem_prefs, mem_prefs, Bool.or_eq_true, decide_eq_true_eq, decide_eq_true_eq]
theorem stS_nd (a b : List Nat) : (stS a b).Nodup := by
  have h := (stS_perm a b).symm.nodup (ded_nd _)
  unfold List.Nodup at h ⊢
  rw [List.pairwise_map] at h
  exact h.imp fun {x y} z e => z (by rw [e])
theorem stS_len (a b : List Nat) : (stS a b).length ≤ a.length + b.length + 2 := by
  have h := (stS_perm a b).length_eq
  rw [List.length_map] at h
  have h2 := (ded_all ((bgn a b).map tx).length ((bgn a b).map tx) rfl).2.2
  rw [List.length_map] at h2
  unfold bgn prefs at h2
  rw [List.length_append, List.length_map, List.length_map, List.length_range, List.length_range] at h2
  unfold bgn prefs at h
  lia
theorem two_of {α : Type} {l : List α} {x y : α} (hx : x ∈ l) (hy : y ∈ l) (hne : x ≠ y) : 2 ≤ l.length := by
  cases l with
  | nil => cases hx
  | cons a l =>
    cases l with
    | nil =>
      have e1 : x = a := by simpa using hx
      have e2 : y = a := by simpa using hy
      exact absurd (e1.trans e2.symm) hne
    | cons b l => simp
theorem bgn_two {a : List Nat} (b : List Nat) (ha : a ≠ []) : 2 ≤ (ded ((bgn a b).map tx)).length := by
  have m : ∀ s, isSt a b s = true → tx s ∈ ded ((bgn a b).map tx) := fun s hs => (stS_perm a b).mem_iff.mp (List.mem_map.mpr ⟨s, mem_stS.mpr hs, rfl⟩)
  refine two_of (m [] (isSt_nil a b)) (m a (by have := isSt_takeA a b a.length; rwa [List.take_length] at this)) fun e => ha (tx_inj e).symm
noncomputable def sts (a b : List Nat) : List V := (stS a b).map fun s => V.str (tx s)
noncomputable def spSts : Sp := fun vs H Q _ => ∃ a b, vs = [.str (tx a), .str (tx b)] ∧ a ≠ [] ∧ a.length ≤ 30 ∧ b.length ≤ 30 ∧ ∀ p H', H p = none → Same H H' → H' p = some (.lst (sts a b)) → Q (.ref p) H'
theorem lc_prefs {own : Str} {cap : Nat} {σ : St} {H : Hp} {Q : VK} {a : List Nat} (ha : a.length ≤ 30) (hs : σ.getD cap none = some (.str (tx a)))
    (fin : ∀ D H', H D = none → Same H H' → H' D = some (.lst ((prefs a).map fun s => V.str (tx s))) → Q (.ref D) H') :
    tLcB [own] [cap] (gName 0) tYes (tSl rSlS (tVar 1) tNoPart (tPart (tVar 0))) (Itr 0 ((a.length : Int) + 1).toNat) σ H Q := by
  have en : ((a.length : Int) + 1).toNat = a.length + 1 := by lia
  rw [en]
  refine lcb1 (a.length + 1) (fun i => .str (tx (a.take i))) (sz (by lia)) (fun i H1 hi s1 => hi) (fun H1 s1 => Nat.le_refl _) ?_ ?_
  · rintro i H1 K1 hi s1 k1 x _ ⟨rfl, rfl⟩
    refine ⟨lcExt_set (by simp), ?_⟩
    have st : (lcSt [own] [cap] σ).set 0 (some (V.int (0 + (i : Int)))) = [some (.int (i : Int)), some (.str (tx a))] := by
      show [some (V.int (0 + (i : Int))), σ.getD cap none] = _
      rw [hs, Int.zero_add]
    rw [st]
    refine ⟨_, rfl, _, rfl, _, rfl, a, rfl, sz (by lia), ?_⟩
    rw [cutL_to]
    exact k1 _ (Same.refl _)
  · intro D H' hD hs hd
    refine fin D H' hD hs ?_
    rw [hd]
    unfold prefs
    rw [List.map_map]
    rfl
theorem bgn_few {a b : List Nat} (la : a.length ≤ 30) (lb : b.length ≤ 30) : (ded ((bgn a b).map tx)).length < 64 := by
  have h1 := (stS_perm a b).length_eq
  have h2 := stS_len a b
  rw [List.length_map] at h1
  lia
end FW
namespace FW
open PySem L2
noncomputable def spAre (K : PySem.W.Frag) : Sp := fun vs H Q _ => ∃ (p : Addr) (ns : List Int) (m : Nat), vs = [.ref p, vi m] ∧ SqL K H p (ns.map V.int) ∧ ns.length ≤ 20000 ∧ ∀ H', Same H H' → Q (.bl (decide (ns.length = m))) H'
noncomputable def sumAt (ts : List Int) (js : List Nat) : Int := (js.map fun j => ts.getD j 0).sum
noncomputable def spSum (K : PySem.W.Frag) : Sp := fun vs H Q _ => ∃ (a b : Addr) (ts : List Int) (js : List Nat), vs = [.ref a, .ref b] ∧ SqL K H a (ts.map V.int) ∧ SqL K H b (js.map vi) ∧ (∀ j ∈ js, j < ts.length) ∧ js.length ≤ 10000 ∧ ∀ H', Same H H' → Q (.int (sumAt ts js)) H'
noncomputable def LeadsAt (H : Hp) (q : Nat) (w : List Nat) (rs : List Addr) (n : Nat) : Prop := rs.length = n ∧ ∀ j r, rs[j]? = some r → H r = some (.lst ((rowL q w j).map vi))
noncomputable def spLeads : Sp := fun vs H Q _ => ∃ (q : Nat) (w : List Nat), vs = [vi q, .str (tx w)] ∧ 2 ≤ q ∧ q ≤ 26 ∧ w ≠ [] ∧ w.length ≤ 10000 ∧ (∀ c ∈ w, c ∈ alpha.take q) ∧
  ∀ p rs H', H p = none → Same H H' → H' p = some (.lst (rs.map V.ref)) → LeadsAt H' q w rs w.length → Q (.ref p) H'
theorem LeadsAt.same {H H' : Hp} {q : Nat} {w : List Nat} {rs : List Addr} {n : Nat} (h : LeadsAt H q w rs n) (s : Same H H') : LeadsAt H' q w rs n := ⟨h.1, fun j r e => s _ _ (h.2 j r e)⟩
theorem zeros_flat (q : Nat) : (List.replicate q [V.int 0]).flatten = (List.replicate q 0).map vi := by
  induction q with
  | zero => rfl
  | succ n ih => rw [List.replicate_succ, List.flatten_cons, ih, List.replicate_succ, List.map_cons]; rfl
section
variable {P : Program} {w : World} {K : PySem.W.Frag} {mg : Str → Option Value} {base : Heap}
theorem scAre : FnScope ["numbers", "many"] ["numbers", "many"] (defScope sAre) := ⟨rfl, rfl, rfl, by decide +kernel, rfl, by decide +kernel, by decide +kernel⟩
theorem ok_are {f fL : Addr} {fd dL : FuncData} (F : Fun K "are_wholes" "are_wholes" sAre f fd) (B : Bl mg) (GW : Gf P w K mg base 1 "is_whole" ["thing"] (spWho K) fL dL) : FnOk P w K mg base CX0 2 f fd ["numbers", "many"] (spAre K) := by
  refine F.ok scAre (fun vs H Q E h => ?_) (fun cdv A outer s H vs Q E hr h => ?_)
  · obtain ⟨p, ns, m, rfl, _⟩ := h
    rfl
  · obtain ⟨p, ns, m, rfl, hS, hn, k⟩ := h
    refine ⟨_, pss_one (ps_ret (pe_and (pe_cmpR op_eq (pe_callB call_len_seq rfl B.len (by decide +kernel) (pa_cons (pv 0) pa_nil)) (pv 1) (nomark _))
      (pe_one (pe_callB (call_all rfl) rfl B.all (by decide +kernel) (pa_cons (pe_lc (N := ["numbers", "many"]) (sc := defScope sAre) (own := ["number"]) (cap := []) (te := tCall (spWho K) [] E0 (tCons (tVar 0) tNil)) ⟨rfl, by decide +kernel, by decide +kernel, by decide +kernel, by decide +kernel⟩ (pi_list (pv 0))
        (fun _ _ _ _ _ => pg_name (i := 0) (show (lcN ["numbers", "many"] ["number"] []).Nodup by decide +kernel) rfl (Or.inl rfl) (.inr rfl)) (fun _ _ _ _ _ => pif_nil) (fun _ _ _ _ _ => pe_call GW.ok hr rfl GW.mg GW.kp GW.bd .nil pass0 (pa_cons (pv 0) pa_nil))) pa_nil))))), ?_⟩
    refine ⟨_, rfl, p, _, rfl, .inl hS, _, rfl, rfl, _, rfl, ?_⟩
    rw [List.length_map]
    by_cases e : ns.length = m
    · rw [decide_eq_true (by rw [e]; rfl)]
      refine iteT ⟨_, rfl, p, rfl, ⟨_, hS⟩, lcb1 ns.length (fun _ => .bl true) (by rw [sizeLine_eq]; lia) (fun i H' hi hs => ⟨_, _, hs.seq hS, by rw [List.getElem?_map, List.getElem?_eq_getElem hi]; rfl⟩) (fun H' hs => ⟨_, hs.seq hS, by rw [List.length_map]; exact Nat.le_refl _⟩) ?_ ?_⟩
      · rintro i H1 K1 hi hs k1 x _ ⟨rfl, hy⟩
        have hy' := hy _ (hs.seq hS)
        rw [List.getElem?_map, List.getElem?_eq_getElem hi] at hy'
        have ex : x = .int ns[i] := (Option.some.inj hy').symm
        subst ex
        refine ⟨lcExt_set (by decide), _, rfl, _, _, true, false, rfl, .int _, kit_int K, kit_int_bool K, k1 _ (Same.refl _)⟩
      · intro D H' hD hs hd
        refine ⟨D, List.replicate ns.length true, rfl, SqL.of ?_, ?_⟩
        · rw [hd]
          congr 2
          apply List.ext_getElem?
          intro i
          by_cases hi : i < ns.length
          · simp [hi]
          · simp [hi]
        · have e' : (List.replicate ns.length true).all id = true := by simp
          rw [e']
          have := k H' hs
          rw [decide_eq_true e] at this
          exact this
    · rw [decide_eq_false (by intro z; unfold vi at z; injection z with z; lia)]
      have := k H (Same.refl _)
      rw [decide_eq_false e] at this
      exact iteF this
theorem scSum : FnScope ["numbers", "places"] ["numbers", "places"] (defScope sSum) := ⟨rfl, rfl, rfl, by decide +kernel, rfl, by decide +kernel, by decide +kernel⟩
theorem ok_sum {f : Addr} {fd : FuncData} (F : Fun K "sum_at" "sum_at" sSum f fd) (B : Bl mg) : FnOk P w K mg base CX0 1 f fd ["numbers", "places"] (spSum K) := by
  refine F.ok scSum (fun vs H Q E h => ?_) (fun cdv A outer s H vs Q E hr h => ?_)
  · obtain ⟨a, b, ts, js, rfl, _⟩ := h
    rfl
  · obtain ⟨a, b, ts, js, rfl, hA, hB, hj, hn, k⟩ := h
    refine ⟨_, pss_one (ps_ret (pe_callB (call_sum rfl) rfl B.sum (by decide +kernel) (pa_cons (pe_lc (N := ["numbers", "places"]) (sc := defScope sSum) (own := ["place"]) (cap := [0]) (te := tOp (rIxL K) (tVar 1) (tVar 0)) ⟨rfl, by decide +kernel, by decide +kernel, by decide +kernel, by decide +kernel⟩ (pi_list (pv 1))
        (fun _ _ _ _ _ => pg_name (i := 0) (show (lcN ["numbers", "places"] ["place"] [0]).Nodup by decide +kernel) rfl (Or.inl rfl) (.inr rfl)) (fun _ _ _ _ _ => pif_nil) (fun _ _ _ _ _ => pe_ix ix_list (pv 1) (pv 0) (fun _ _ => rfl))) pa_nil))), ?_⟩
    refine ⟨_, rfl, b, rfl, ⟨_, hB⟩, lcb1 js.length (fun i => .int (ts.getD (js.getD i 0) 0)) (sz hn) (fun i H' hi hs => ⟨_, _, hs.seq hB, by rw [List.getElem?_map, List.getElem?_eq_getElem hi]; rfl⟩) (fun H' hs => ⟨_, hs.seq hB, by rw [List.length_map]; exact Nat.le_refl _⟩) ?_ ?_⟩
    · rintro i H1 K1 hi hs k1 x _ ⟨rfl, hy⟩
      have hy' := hy _ (hs.seq hB)
      rw [List.getElem?_map, List.getElem?_eq_getElem hi] at hy'
      have ex : x = vi js[i] := (Option.some.inj hy').symm
      subst ex
      have hlt : js[i] < ts.length := hj _ (List.getElem_mem hi)
      have eg : js.getD i 0 = js[i] := by rw [List.getD_eq_getElem?_getD, List.getElem?_eq_getElem hi]; rfl
      refine ⟨lcExt_set (by decide), _, rfl, _, rfl, a, _, _, _, rfl, rfl, hs.seq hA, atI_nat (by rw [List.getElem?_map, List.getElem?_eq_getElem hlt]; rfl), ?_⟩
      have := k1 _ (Same.refl _)
      rw [eg, List.getD_eq_getElem?_getD, List.getElem?_eq_getElem hlt] at this
      exact this
    · intro D H' hD hs hd
      refine ⟨D, js.map fun j => ts.getD j 0, rfl, SqL.of ?_, k H' hs⟩
      rw [hd, List.map_map]
      congr 2
      exact range_map_getD (fun j => V.int (ts.getD j 0)) 0 js
noncomputable abbrev NLd : List Str := ["sides", "word", "shorter", "leads", "count", "letter", "row"]
theorem scLeads : FnScope NLd ["sides", "word"] (defScope sLeads) := ⟨rfl, rfl, rfl, by decide +kernel, rfl, by decide +kernel, by decide +kernel⟩
theorem ok_leads {f fH : Addr} {fd dH : FuncData} (F : Fun K "leads_by_count" "leads_by_count" sLeads f fd) (B : Bl mg) (GH : Gf P w K mg base 2 "shorter_beginnings" ["word"] spSh fH dH) : FnOk P w K mg base CX0 3 f fd ["sides", "word"] spLeads := by
  refine F.ok scLeads (fun vs H Q E h => ?_) (fun cdv A outer s H vs Q E hr h => ?_)
  · obtain ⟨q, w, rfl, _⟩ := h
    rfl
  · obtain ⟨q, w, rfl, h2, h26, hne, hw, hof, k⟩ := h
    refine ⟨_, pss_cons (ps_set (i := 2) scLeads.nd rfl (Or.inl rfl) (pe_call GH.ok hr rfl GH.mg GH.kp GH.bd .nil pass0 (pa_cons (pv 1) pa_nil)))
      (pss_cons (ps_set (i := 3) scLeads.nd rfl (Or.inl rfl) (pe_lst pa_nil))
      (pss_cons (ps_for PassesOwn.never rfl (pi_enumS rfl B.enumerate (pa_cons (pv 1) pa_nil)) (pg_tup rfl (pgs_cons (pg_name (i := 4) scLeads.nd rfl (Or.inl rfl)) (pgs_cons (pg_name (i := 5) scLeads.nd rfl (Or.inl rfl)) pgs_nil)))
        (pss_cons (ps_set (i := 6) scLeads.nd rfl (Or.inl rfl) (pe_ifExp (pt_cmpR op_eq (pv 4) pe_int (nomark _)) (pe_op op_rep (pe_lst (pa_cons pe_int pa_nil)) (pv 0))
          (pe_callTy call_list_of rfl B.list (by decide +kernel) (pa_cons (pe_ix ix_list (pv 3) (pe_ix ix_list (pv 2) (pv 4) (fun _ _ => rfl)) (fun _ _ => rfl)) pa_nil))))
        (pss_cons (ps_asg (pe_op op_add (pv 4) pe_int) (pg_sub (pv 6) (pe_op op_sub (pe_callB call_ord_tx rfl B.ord (by decide +kernel) (pa_cons (pv 5) pa_nil)) (pe_callB call_ord_tx rfl B.ord (by decide +kernel) (pa_cons (pe_tx (l := [97])) pa_nil))) set_list))
        (pss_one (ps_expr (pe_bm PySem.F.plainAttrs_list PySem.F.slot_list_append PySem.F.type_list_append mt_append (pv 3) (pa_cons (pv 6) pa_nil)))))))
      (pss_one (ps_ret (pv 3))))), ?_⟩
    refine ⟨_, rfl, w, rfl, hne, hw, fun sh H1 hsh s1 h1 => ?_⟩
    refine ⟨Nat.zero_le _, fun ld hld => ?_⟩
    have nsl : sh ≠ ld := ne_of_none h1 hld
    refine ⟨_, rfl, w, rfl, for_enumS (l := w) (fun i σ H2 => ∃ v4 v5 v6 rs, σ = [some (vi q), some (.str (tx w)), some (.ref sh), some (.ref ld), v4, v5, v6] ∧ Same H H2 ∧ H2 sh = some (.lst ((shTab w (w.length + 1)).map vi)) ∧ H2 ld = some (.lst (rs.map V.ref)) ∧ LeadsAt H2 q w rs i ∧ ∀ r ∈ rs, r ≠ ld)
      ⟨none, none, none, [], rfl, s1.upd (s1.free hld), by rw [upd_ne nsl]; exact h1, upd_same, ⟨rfl, fun j r e => by simp at e⟩, fun r hr => by simp at hr⟩ ?_ ?_⟩
    · rintro i c T σ H2 hc hT ⟨v4, v5, v6, rs, rfl, s2, h2s, h2l, h2r, h2n⟩
      have hi : i < w.length := (List.getElem?_eq_some_iff.mp hc).1
      obtain ⟨c97, clt⟩ := mem_alpha (hof c (List.mem_of_getElem? hc)) h26
      refine ⟨T, _, rfl, SqT.of upd_same, rfl, _, _, rfl, _, _, rfl, rfl, ?_⟩
      have t3 : Same H2 (upd H2 T (.tup [.int i, .str (tx [c])])) := (Same.refl _).upd hT
      have s3 : Same H (upd H2 T (.tup [.int i, .str (tx [c])])) := s2.trans t3
      have h3s := t3 _ _ h2s
      have h3l := t3 _ _ h2l
      have h3r := h2r.same t3
      generalize upd H2 T (.tup [.int i, .str (tx [c])]) = H3 at s3 h3s h3l h3r
      have back : ∀ (p : Addr) (H4 : Hp) (xs : List Nat), H3 p = none → Same H3 H4 → xs.length = q → xs.set (c - 97) (i + 1) = rowL q w i → H4 p = some (.lst (xs.map vi)) →
          let H5 := upd H4 p (.lst ((xs.map vi).set (c - 97) (.int ((i : Int) + 1))))
          H5 ld = some (.lst (rs.map V.ref)) ∧ (Same H (upd H5 ld (.lst (rs.map V.ref ++ [.ref p]))) ∧ (upd H5 ld (.lst (rs.map V.ref ++ [.ref p]))) sh = some (.lst ((shTab w (w.length + 1)).map vi)) ∧
            (upd H5 ld (.lst (rs.map V.ref ++ [.ref p]))) ld = some (.lst ((rs ++ [p]).map V.ref)) ∧ LeadsAt (upd H5 ld (.lst (rs.map V.ref ++ [.ref p]))) q w (rs ++ [p]) (i + 1) ∧ ∀ r ∈ rs ++ [p], r ≠ ld) := by
        intro p H4 xs hp s4 hx hset h4p
        have npl : p ≠ ld := Ne.symm (ne_of_none h3l hp)
        have nps : p ≠ sh := Ne.symm (ne_of_none h3s hp)
        have e5 : (xs.map vi).set (c - 97) (.int ((i : Int) + 1)) = (rowL q w i).map vi := by
          rw [← hset, List.map_set]
          rfl
        have H0p : H p = none := s3.free hp
        have H0l : H ld = none := s1.free hld
        dsimp only
        rw [e5]
        refine ⟨by rw [upd_ne npl.symm]; exact s4 _ _ h3l, ((s3.trans s4).upd H0p).upd H0l, by rw [upd_ne nsl, upd_ne nps.symm]; exact s4 _ _ h3s, by rw [upd_same, List.map_append]; rfl, ⟨by rw [List.length_append, h3r.1]; rfl, fun j r e => ?_⟩, fun r hr => ?_⟩
        · by_cases hj : j < rs.length
          · rw [List.getElem?_append_left hj] at e
            have hr' := h3r.2 j r e
            have nrl : r ≠ ld := h2n r (List.mem_of_getElem? e)
            have nrp : r ≠ p := ne_of_none hr' hp
            rw [upd_ne nrl, upd_ne nrp]
            exact s4 _ _ hr'
          · rw [List.getElem?_append_right (by lia)] at e
            have hj0 : j - rs.length = 0 := by
              have := (List.getElem?_eq_some_iff.mp e).1
              simp at this
              lia
            rw [hj0] at e
            have er : p = r := by simpa using e
            subst er
            have ej : j = i := by have := h3r.1; lia
            rw [upd_ne npl, upd_same, ej]
        · rcases List.mem_append.mp hr with h | h
          · exact h2n r h
          · rw [List.mem_singleton.mp h]
            exact npl
      refine ⟨_, rfl, rfl, _, rfl, ?_⟩
      by_cases h0 : i = 0
      · subst h0
        rw [show decide (V.int ((0 : Nat) : Int) = V.int 0) = true from decide_eq_true rfl]
        refine iteT ⟨by show 1 ≤ sizeLine; decide, fun z hz => ⟨_, rfl, z, _, _, rfl, rfl, upd_same, by lia, by lia, ?_, fun p hp => ?_⟩⟩
        · show 1 * ((q : Int)).toNat ≤ sizeLine
          rw [sizeLine_eq]
          lia
        · have hp3 : H3 p = none := by
            by_cases e : p = z
            · subst e; exact hz
            · rw [upd_ne e] at hp; exact hp
          have npz : z ≠ p := by
            rintro rfl
            rw [upd_same] at hp
            cases hp
          have exs : (List.replicate ((q : Int)).toNat [V.int 0]).flatten = (List.replicate q 0).map vi := by rw [Int.toNat_natCast]; exact zeros_flat q
          rw [exs]
          have B5 := back p (upd (upd H3 z (.lst [V.int 0])) p (.lst ((List.replicate q 0).map vi))) (List.replicate q 0) hp3 (((Same.refl _).upd hz).upd hp3) (by simp) (rowL_zero hc c97) upd_same
          refine ⟨_, rfl, _, _, rfl, rfl, _, rfl, _, rfl, c, rfl, _, rfl, _, _, rfl, rfl, p, _, _, c - 97, rfl, rfl, upd_same, ?_, ?_⟩
          · rw [List.length_map, List.length_replicate, show ((c : Int) - ((97 : Nat) : Int)) = ((c - 97 : Nat) : Int) by lia]
            exact ixN_nat clt
          · refine ⟨_, rfl, .inl ⟨rfl, _, SqL.of B5.1⟩, _, rfl, ld, _, _, rfl, rfl, B5.1, ?_, ?_⟩
            · rw [List.length_map, h3r.1]; exact sz' (by lia)
            · exact ⟨_, _, _, rs ++ [p], rfl, B5.2⟩
      · rw [decide_eq_false (by intro z; injection z with z; lia)]
        have hb := bord_lt (Nat.le_of_lt hi) (by lia : 0 < i)
        obtain ⟨r, er⟩ : ∃ r, rs[bord w i]? = some r := ⟨_, List.getElem?_eq_getElem (by rw [h3r.1]; exact hb)⟩
        refine iteF ⟨_, rfl, _, rfl, _, rfl, sh, _, _, _, rfl, rfl, SqL.of h3s, atI_nat (by rw [List.getElem?_map, shTab_get (by lia)]; rfl), ld, _, _, _, rfl, rfl, SqL.of h3l, atI_nat (by rw [List.getElem?_map, er]; rfl), r, _, rfl, .inl (SqL.of (h3r.2 _ _ er)), fun p hp => ?_⟩
        have B5 := back p (upd H3 p (.lst ((rowL q w (bord w i)).map vi))) (rowL q w (bord w i)) hp ((Same.refl _).upd hp) (rowL_len _ _ _) (rowL_next hi (by lia) hc c97) upd_same
        refine ⟨_, rfl, _, _, rfl, rfl, _, rfl, _, rfl, c, rfl, _, rfl, _, _, rfl, rfl, p, _, _, c - 97, rfl, rfl, upd_same, ?_, ?_⟩
        · rw [List.length_map, rowL_len, show ((c : Int) - ((97 : Nat) : Int)) = ((c - 97 : Nat) : Int) by lia]
          exact ixN_nat clt
        · refine ⟨_, rfl, .inl ⟨rfl, _, SqL.of B5.1⟩, _, rfl, ld, _, _, rfl, rfl, B5.1, ?_, ?_⟩
          · rw [List.length_map, h3r.1]; exact sz' (by lia)
          · exact ⟨_, _, _, rs ++ [p], rfl, B5.2⟩
    · rintro σ H2 ⟨v4, v5, v6, rs, rfl, s2, h2s, h2l, h2r, h2n⟩
      exact ⟨_, rfl, k ld rs H2 (s1.free hld) s2 h2l h2r⟩
end
end FW
namespace FW
open PySem L2
noncomputable def spRe : Sp := fun vs H Q _ => ∃ w t, vs = [.str (tx w), .str (tx t)] ∧ w ≠ [] ∧ w.length ≤ 10000 ∧ t.length ≤ 10000 ∧ ∀ p H', H p = none → Same H H' → H' p = some (.lst ((reTab w t (t.length + 1)).map vi)) → Q (.ref p) H'
section
variable {P : Program} {w : World} {K : PySem.W.Frag} {mg : Str → Option Value} {base : Heap}
theorem scRe : FnScope ["word", "throws", "shorter", "reached", "reached_so_far", "letter"] ["word", "throws"] (defScope sRe) := ⟨rfl, rfl, rfl, by decide +kernel, rfl, by decide +kernel, by decide +kernel⟩
theorem ok_re {f fS fH : Addr} {fd fdS fdH : FuncData} (F : Fun K "reached_by_count" "reached_by_count" sRe f fd) (GS : Gf P w K mg base 1 "step" ["word", "shorter", "reached", "letter"] (spStep K) fS fdS)
    (GH : Gf P w K mg base 2 "shorter_beginnings" ["word"] spSh fH fdH) : FnOk P w K mg base CX0 3 f fd ["word", "throws"] spRe := by
  refine F.ok scRe (fun vs H Q E h => ?_) (fun cdv A outer s H vs Q E hr h => ?_)
  · obtain ⟨w, t, rfl, _⟩ := h
    rfl
  · obtain ⟨w, t, rfl, hne, hw, ht, k⟩ := h
    refine ⟨_, pss_cons (ps_set (i := 2) scRe.nd rfl (Or.inl rfl) (pe_call GH.ok hr rfl GH.mg GH.kp GH.bd .nil pass0 (pa_cons (pv 0) pa_nil)))
      (pss_cons (ps_set (i := 3) scRe.nd rfl (Or.inl rfl) pe_int)
      (pss_cons (ps_set (i := 4) scRe.nd rfl (Or.inl rfl) (pe_lst (pa_cons (pv 3) pa_nil)))
      (pss_cons (ps_for PassesOwn.never rfl (pi_str (pv 1)) (pg_name (i := 5) scRe.nd rfl (Or.inl rfl))
        (pss_cons (ps_set (i := 3) scRe.nd rfl (Or.inl rfl) (pe_call GS.ok (hr.mono (by decide)) rfl GS.mg GS.kp GS.bd .nil pass0 (pa_cons (pv 0) (pa_cons (pv 2) (pa_cons (pv 3) (pa_cons (pv 5) pa_nil))))))
        (pss_one (ps_expr (pe_bm PySem.F.plainAttrs_list PySem.F.slot_list_append PySem.F.type_list_append mt_append (pv 4) (pa_cons (pv 3) pa_nil))))))
      (pss_one (ps_ret (pv 4)))))), ?_⟩
    refine ⟨_, rfl, w, rfl, hne, hw, fun p H1 hp s1 h1 => ?_⟩
    refine ⟨_, rfl, by show 1 ≤ sizeLine; decide, fun q hq => ?_⟩
    have npq : p ≠ q := ne_of_none h1 hq
    refine ⟨_, rfl, t, rfl, for_str (l := t) (fun i σ H2 => ∃ v, σ = [some (.str (tx w)), some (.str (tx t)), some (.ref p), some (vi (lng w (t.take i))), some (.ref q), v] ∧ Same H H2 ∧ H2 p = some (.lst ((shTab w (w.length + 1)).map vi)) ∧ H2 q = some (.lst ((reTab w t (i + 1)).map vi)))
      ⟨none, by rw [List.take_zero, lng_nil]; rfl, s1.upd (s1.free hq), by rw [upd_ne npq]; exact h1, by rw [upd_same]; simp [reTab, List.range_succ, lng_nil]; rfl⟩ ?_ ?_⟩
    · rintro i c σ H2 hc ⟨v, rfl, s2, h2, h3⟩
      have hi : i < t.length := (List.getElem?_eq_some_iff.mp hc).1
      have hle := lng_le w (t.take i)
      refine ⟨_, rfl, _, rfl, _, rfl, _, rfl, w, p, shTab w (w.length + 1), lng w (t.take i), c, rfl, SqL.of h2, hne, hw, hle, fun j hj => shTab_get (by lia), ?_⟩
      refine ⟨_, rfl, .inl ⟨rfl, _, SqL.of h3⟩, _, rfl, q, _, _, rfl, rfl, h3, ?_, ?_⟩
      · rw [List.length_map]
        unfold reTab
        rw [List.length_map, List.length_range]
        exact sz' (by lia)
      · rw [lng_next hc]
        refine ⟨_, rfl, s2.upd (s1.free hq), by rw [upd_ne npq]; exact h2, ?_⟩
        rw [upd_same, reTab_succ w t (i + 1), List.map_append]
        rfl
    · rintro σ H2 ⟨v, rfl, s2, h2, h3⟩
      exact ⟨_, rfl, k q H2 (s1.free hq) s2 h3⟩
end
end FW
namespace FW
open PySem L2
noncomputable def heldT (q : Nat) (w : List Nat) (n : Nat) : List Nat := (List.range n).map fun k => phi q w (w.take k)
theorem heldT_len (q : Nat) (w : List Nat) (n : Nat) : (heldT q w n).length = n := by simp [heldT]
theorem heldT_get {q : Nat} {w : List Nat} {n k : Nat} (h : k < n) : (heldT q w n)[k]? = some (phi q w (w.take k)) := by simp [heldT, h]
theorem heldT_succ (q : Nat) (w : List Nat) (n : Nat) : heldT q w (n + 1) = heldT q w n ++ [phi q w (w.take n)] := range_map_succ _ _
noncomputable def spHeld : Sp := fun vs H Q _ => ∃ (q : Nat) (w : List Nat), vs = [vi q, .str (tx w)] ∧ 2 ≤ q ∧ q ≤ 26 ∧ w ≠ [] ∧ w.length ≤ 9000 ∧ ∀ p H', H p = none → Same H H' → H' p = some (.lst ((heldT q w (w.length + 1)).map vi)) → Q (.ref p) H'
section
variable {P : Program} {w : World} {K : PySem.W.Frag} {mg : Str → Option Value} {base : Heap}
theorem scHeld : FnScope ["sides", "word", "shorter", "held", "power", "count"] ["sides", "word"] (defScope sHeld) := ⟨rfl, rfl, rfl, by decide +kernel, rfl, by decide +kernel, by decide +kernel⟩
theorem ok_held {f fH : Addr} {fd dH : FuncData} (F : Fun K "held_by_count" "held_by_count" sHeld f fd) (B : Bl mg) (GH : Gf P w K mg base 2 "shorter_beginnings" ["word"] spSh fH dH) : FnOk P w K mg base CX0 3 f fd ["sides", "word"] spHeld := by
  refine F.ok scHeld (fun vs H Q E h => ?_) (fun cdv A outer s H vs Q E hr h => ?_)
  · obtain ⟨q, w, rfl, _⟩ := h
    rfl
  · obtain ⟨q, w, rfl, h2, h26, hne, hw, k⟩ := h
    refine ⟨_, pss_cons (ps_set (i := 2) scHeld.nd rfl (Or.inl rfl) (pe_call GH.ok hr rfl GH.mg GH.kp GH.bd .nil pass0 (pa_cons (pv 1) pa_nil)))
      (pss_cons (ps_set (i := 3) scHeld.nd rfl (Or.inl rfl) (pe_lst (pa_cons pe_int pa_nil)))
      (pss_cons (ps_set (i := 4) scHeld.nd rfl (Or.inl rfl) pe_int)
      (pss_cons (ps_for PassesOwn.never rfl (pi_range2 rfl B.range (pa_cons pe_int (pa_cons (pe_op op_add (pe_callB call_len_tx rfl B.len (by decide +kernel) (pa_cons (pv 1) pa_nil)) pe_int) pa_nil))) (pg_name (i := 5) scHeld.nd rfl (Or.inl rfl))
        (pss_cons (ps_set (i := 4) scHeld.nd rfl (Or.inl rfl) (pe_op op_mul (pv 4) (pv 0)))
        (pss_one (ps_expr (pe_bm PySem.F.plainAttrs_list PySem.F.slot_list_append PySem.F.type_list_append mt_append (pv 3) (pa_cons (pe_op op_add (pv 4) (pe_ix ix_list (pv 3) (pe_ix ix_list (pv 2) (pv 5) (fun _ _ => rfl)) (fun _ _ => rfl))) pa_nil))))))
      (pss_one (ps_ret (pv 3)))))), ?_⟩
    refine ⟨_, rfl, w, rfl, hne, by lia, fun sh H1 hsh s1 h1 => ?_⟩
    refine ⟨by show 1 ≤ sizeLine; decide, fun p hp => ?_⟩
    have nsp : sh ≠ p := ne_of_none h1 hp
    refine ⟨_, rfl, w, rfl, sz (by lia), _, _, rfl, rfl, _, _, rfl, ⟨by lia, by lia, by lia, by lia⟩, ?_⟩
    rw [show ((w.length : Int) + 1 - 1).toNat = w.length by lia]
    refine for_range (n := w.length) (fun i σ H2 => ∃ v5, σ = [some (vi q), some (.str (tx w)), some (.ref sh), some (.ref p), some (vi (q ^ i)), v5] ∧ Same H H2 ∧ H2 sh = some (.lst ((shTab w (w.length + 1)).map vi)) ∧ H2 p = some (.lst ((heldT q w (i + 1)).map vi)))
      ⟨none, rfl, s1.upd (s1.free hp), by rw [upd_ne nsp]; exact h1, ?_⟩ ?_ ?_
    · rw [upd_same, heldT_succ]
      show _ = some (HO.lst [vi (phi q w (w.take 0))])
      rw [List.take_zero, phi_nil]
      rfl
    · rintro i σ H2 hi ⟨v5, rfl, s2, h2s, h2p⟩
      have e5 : (1 : Int) + (i : Int) = ((i + 1 : Nat) : Int) := by lia
      rw [e5]
      have hb := bord_lt (w := w) (k := i + 1) (by lia) (by lia)
      refine ⟨_, rfl, _, rfl, _, _, rfl, rfl, .inr ⟨by lia, by lia⟩, ?_⟩
      refine ⟨_, rfl, .inl ⟨rfl, _, SqL.of h2p⟩, _, rfl, _, rfl, _, rfl, _, rfl, sh, _, _, _, rfl, rfl, SqL.of h2s, atI_nat (by rw [List.getElem?_map, shTab_get (by lia)]; rfl), p, _, _, _, rfl, rfl, SqL.of h2p, atI_nat (by rw [List.getElem?_map, heldT_get (by lia)]; rfl), _, _, rfl, rfl, p, _, _, rfl, rfl, h2p, ?_, ?_⟩
      · rw [List.length_map, heldT_len]; exact sz' (by lia)
      · have ep : ((q ^ i : Nat) : Int) * (q : Int) = ((q ^ (i + 1) : Nat) : Int) := by rw [Nat.pow_succ, Int.natCast_mul]
        dsimp only
        refine ⟨_, by rw [ep]; rfl, s2.upd (s1.free hp), by rw [upd_ne nsp]; exact h2s, ?_⟩
        rw [upd_same, heldT_succ q w (i + 1), List.map_append]
        congr 3
        have eb := phi_bord (q := q) (w := w) (k := i + 1) (by lia) (by lia)
        rw [ep, eb]
        show [V.int _] = [V.int _]
        congr 2
    · rintro σ H2 ⟨v5, rfl, s2, h2s, h2p⟩
      exact ⟨_, rfl, k p H2 (s1.free hp) s2 h2p⟩
end
end FW
namespace FW
open PySem L2 L2T
noncomputable def prt (l : List (List Nat × Int)) (s : List Nat) : Int := (l.lookup s).getD 0
noncomputable def pairsS (a b : List Nat) (ps : List Int) : List (List Nat × Int) := (stS a b).zip ps
noncomputable def sumR (q : Nat) (a b : List Nat) (l : List (List Nat × Int)) (s : List Nat) (k : Nat) : Int := (((alpha.take q).take k).map fun c => prt l (nxt a b (s ++ [c]))).sum
noncomputable def raceB (q : Nat) (a b : List Nat) (ps : List Int) (wh : Int) : Bool :=
  decide (1 ≤ wh) && (decide (ps.length = (stS a b).length) && (decide (prt (pairsS a b ps) a = wh) && (decide (prt (pairsS a b ps) b = 0) &&
    (stS a b).all fun s => decide (s = a ∨ s = b) || decide (sumR q a b (pairsS a b ps) s q = q * prt (pairsS a b ps) s))))
noncomputable def spLRace (K : PySem.W.Frag) : Sp := fun vs H Q _ => ∃ (q : Nat) (a b : List Nat) (p : Addr) (ps : List Int) (wh : Int), vs = [.int q, .str (tx a), .str (tx b), .ref p, .int wh] ∧ SqL K H p (ps.map V.int) ∧ 2 ≤ q ∧ q ≤ 26 ∧ a ≠ [] ∧ a.length ≤ 30 ∧ b.length ≤ 30 ∧
  ∀ H', Same H H' → Q (.bl (raceB q a b ps wh)) H'
theorem sumR_succ {q : Nat} {a b : List Nat} {l : List (List Nat × Int)} {s : List Nat} {k c : Nat} (h : (alpha.take q)[k]? = some c) : sumR q a b l s (k + 1) = sumR q a b l s k + prt l (nxt a b (s ++ [c])) := by
  unfold sumR
  rw [List.take_add_one, h]
  simp [List.sum_append]
theorem sumR_all {q : Nat} (hq : q ≤ 26) (a b : List Nat) (l : List (List Nat × Int)) (s : List Nat) : sumR q a b l s (alpha.take q).length = sumR q a b l s q := by
  have e : (alpha.take q).length = q := by rw [List.length_take]; exact Nat.min_eq_left hq
  rw [e]
noncomputable def dk (l : List (List Nat × Int)) : List (Key × V) := l.map fun p => (.inr (tx p.1), .int p.2)
theorem valV_dk (s : List Nat) : ∀ l : List (List Nat × Int), valV (dk l) (.inr (tx s)) = (l.lookup s).map V.int
  | [] => rfl
  | (t, n) :: l => by
    show valV (((.inr (tx t) : Key), V.int n) :: dk l) _ = _
    by_cases e : t = s
    · subst e
      rw [valV_pos rfl, List.lookup_cons_self]
      rfl
    · rw [valV_neg (fun z => e (tx_inj (Sum.inr.inj z))), valV_dk s l, List.lookup_cons, show (s == t) = false from by simpa using fun z => e z.symm]
theorem lookup_none {s : List Nat} : ∀ {l : List (List Nat × Int)}, s ∉ l.map (·.1) → l.lookup s = none
  | [], _ => rfl
  | (t, n) :: l, h => by
    rw [List.map_cons, List.mem_cons, not_or] at h
    rw [List.lookup_cons, show (s == t) = false from by simpa using h.1]
    exact lookup_none h.2
theorem lookup_some {s : List Nat} : ∀ {l : List (List Nat × Int)}, s ∈ l.map (·.1) → l.lookup s = some (prt l s)
  | [], h => by cases h
  | (t, n) :: l, h => by
    unfold prt
    by_cases e : s = t
    · subst e; rw [List.lookup_cons_self]; rfl
    · rw [List.lookup_cons, show (s == t) = false from by simpa using e]
      rw [List.map_cons, List.mem_cons] at h
      exact lookup_some (h.resolve_left e)
theorem pairs_fst {a b : List Nat} {ps : List Int} (h : ps.length = (stS a b).length) : (pairsS a b ps).map (·.1) = stS a b := List.map_fst_zip (by lia)
theorem inV_two (s a b : List Nat) : inV (.str (tx s)) [.str (tx a), .str (tx b)] = decide (s = a ∨ s = b) := by
  have e : ∀ x y : List Nat, (tx x == tx y) = decide (y = x) := fun x y => by
    rw [Bool.eq_iff_iff, decide_eq_true_eq, beq_iff_eq]
    exact ⟨fun z => (tx_inj z).symm, fun z => by rw [z]⟩
  show ((tx a == tx s) || ((tx b == tx s) || false)) = _
  rw [e, e, Bool.or_false, Bool.eq_iff_iff]
  simp
end FW
namespace FW
open PySem L2
structure WaitC (K : PySem.W.Frag) (mg : Str → Option Value) (C fI fS : Addr) : Prop where
  mg : mg "Wait" = some (.ref C)
  cl : Cls K C
  make : Mk K C fI
  sh : Meth K C "shows" fS
  na : NoAttr K C "table"
noncomputable def spWaitI (K : PySem.W.Frag) (C : Addr) : Sp := fun vs H Q _ => ∃ (x dx p : Addr) (ys : List V), vs = [.ref x, .ref p] ∧ H x = some (.ins C dx []) ∧ SqL K H p ys ∧ ∀ l, H l = none → Q .non (upd (upd H l (.lst ys)) x (.ins C dx [("table", .ref l)]))
noncomputable def WaitAt (H : Hp) (C x : Addr) (ts : List Int) : Prop := ∃ dx l, H x = some (.ins C dx [("table", .ref l)]) ∧ H l = some (.lst (ts.map V.int))
section
variable {P : Program} {w : World} {K : PySem.W.Frag} {mg : Str → Option Value} {base : Heap}
theorem scWaitI : FnScope ["self", "table"] ["self", "table"] (defScope sWaitI) := ⟨rfl, rfl, rfl, by decide +kernel, rfl, by decide +kernel, by decide +kernel⟩
theorem ok_waitI {f C fS : Addr} {fd : FuncData} (F : Fun K "__init__" "Wait.__init__" sWaitI f fd) (B : Bl mg) (W : WaitC K mg C f fS) : FnOk P w K mg base CX0 1 f fd ["self", "table"] (spWaitI K C) := by
  refine F.ok scWaitI (fun vs H Q E h => ?_) (fun cdv A outer s H vs Q E hr h => ?_)
  · obtain ⟨x, dx, p, ys, rfl, _⟩ := h
    rfl
  · obtain ⟨x, dx, p, ys, rfl, hx, hS, k⟩ := h
    refine ⟨_, pss_one (ps_fld (pv 0) (pe_callTy call_list_of rfl B.list (by decide +kernel) (pa_cons (pv 1) pa_nil)) rfl), ?_⟩
    refine ⟨_, rfl, p, ys, rfl, .inl hS, fun l hl => ⟨_, rfl, x, C, dx, [], rfl, by rw [upd_ne (ne_of_none hx hl)]; exact hx, W.cl, W.na, by decide, k l hl⟩⟩
end
end FW
namespace FW
open PySem L2 L2T
noncomputable def marg (q : Nat) (a b s : List Nat) : Int := (phi q a s : Int) - (phi q b s : Int)
noncomputable def margT (q : Nat) (a b t : List Nat) : List Int := (List.range (t.length + 1)).map fun i => marg q a b (t.take i)
theorem margT_get {q : Nat} {a b t : List Nat} {i : Nat} (h : i ≤ t.length) : (margT q a b t)[i]? = some (marg q a b (t.take i)) := by
  unfold margT
  rw [List.getElem?_map, List.getElem?_range (by lia)]
  rfl
theorem margT_len (q : Nat) (a b t : List Nat) : (margT q a b t).length = t.length + 1 := by simp [margT]
theorem marg_part (q : Nat) (a b s : List Nat) : marg q a b s - marg q a b b = partZ q a b s := by
  unfold marg partZ
  lia
theorem marg_whole (q : Nat) (a b : List Nat) : marg q a b a - marg q a b b = wholeZ q a b := marg_part q a b a
noncomputable def spBegO : Sp := fun vs H Q _ => ∃ a, vs = [.str (tx a)] ∧ a.length ≤ 30 ∧ ∀ p H', H p = none → Same H H' → H' p = some (.lst ((prefs a).map fun s => V.str (tx s))) → Q (.ref p) H'
noncomputable def spMarg : Sp := fun vs H Q _ => ∃ (q : Nat) (a b t : List Nat), vs = [vi q, .str (tx a), .str (tx b), .str (tx t)] ∧ 2 ≤ q ∧ q ≤ 26 ∧ a ≠ [] ∧ b ≠ [] ∧ a.length ≤ 30 ∧ b.length ≤ 30 ∧ t.length ≤ 30 ∧
  ∀ p H', H p = none → Same H H' → H' p = some (.lst ((margT q a b t).map V.int)) → Q (.ref p) H'
structure RaceC (K : PySem.W.Frag) (mg : Str → Option Value) (C fI fS : Addr) : Prop where
  mg : mg "Race" = some (.ref C)
  cl : Cls K C
  make : Mk K C fI
  sh : Meth K C "shows" fS
  na : NoAttr K C "parts"
  nw : NoAttr K C "whole"
noncomputable def spRaceI (K : PySem.W.Frag) (C : Addr) : Sp := fun vs H Q _ => ∃ (x dx p : Addr) (ys : List V) (wv : V), vs = [.ref x, .ref p, wv] ∧ H x = some (.ins C dx []) ∧ SqL K H p ys ∧
  ∀ l H', H l = none → H' = upd (upd (upd H l (.lst ys)) x (.ins C dx [("parts", .ref l)])) x (.ins C dx [("parts", .ref l), ("whole", wv)]) → Q .non H'
noncomputable def RaceAt (H : Hp) (C x : Addr) (ps : List Int) (wh : Int) : Prop := ∃ dx l, H x = some (.ins C dx [("parts", .ref l), ("whole", .int wh)]) ∧ H l = some (.lst (ps.map V.int))
section
variable {P : Program} {w : World} {K : PySem.W.Frag} {mg : Str → Option Value} {base : Heap}
theorem scBegO : FnScope ["word"] ["word"] (defScope sBegO) := ⟨rfl, rfl, rfl, by decide +kernel, rfl, by decide +kernel, by decide +kernel⟩
theorem ok_begO {f : Addr} {fd : FuncData} (F : Fun K "beginnings_of" "beginnings_of" sBegO f fd) (B : Bl mg) : FnOk P w K mg base CX0 1 f fd ["word"] spBegO := by
  refine F.ok scBegO (fun vs H Q E h => ?_) (fun cdv A outer s H vs Q E hr h => ?_)
  · obtain ⟨a, rfl, _⟩ := h
    rfl
  · obtain ⟨a, rfl, la, k⟩ := h
    refine ⟨_, pss_one (ps_ret (pe_lc (N := ["word"]) (sc := defScope sBegO) (own := ["count"]) (cap := [0]) ⟨rfl, by decide +kernel, by decide +kernel, by decide +kernel, by decide +kernel⟩ (pi_range1 rfl B.range (pa_cons (pe_op op_add (pe_callB call_len_tx rfl B.len (by decide +kernel) (pa_cons (pv 0) pa_nil)) pe_int) pa_nil))
      (fun _ _ _ _ _ => pg_name (i := 0) (show (lcN ["word"] ["count"] [0]).Nodup by decide +kernel) rfl (Or.inl rfl) (.inr rfl)) (fun _ _ _ _ _ => pif_nil) (fun _ _ _ _ _ => pe_slice sl_str (pv 1) po_none (po_some (pv 0))))), ?_⟩
    exact ⟨_, rfl, a, rfl, sz (by lia), _, _, rfl, rfl, _, rfl, by lia, by lia, lc_prefs la rfl fun D1 H1 f1 s1 d1 => k D1 H1 f1 s1 d1⟩
theorem scBeg : FnScope ["one", "other"] ["one", "other"] (defScope sBeg) := ⟨rfl, rfl, rfl, by decide +kernel, rfl, by decide +kernel, by decide +kernel⟩
theorem ok_beg {f fO : Addr} {fd dO : FuncData} (F : Fun K "beginnings" "beginnings" sBeg f fd) (B : Bl mg) (GO : Gf P w K mg base 1 "beginnings_of" ["word"] spBegO fO dO) : FnOk P w K mg base CX0 2 f fd ["one", "other"] spSts := by
  refine F.ok scBeg (fun vs H Q E h => ?_) (fun cdv A outer s H vs Q E hr h => ?_)
  · obtain ⟨a, b, rfl, _⟩ := h
    rfl
  · obtain ⟨a, b, rfl, ha, la, lb, k⟩ := h
    refine ⟨_, pss_one (ps_ret (pe_callB (call_sortedT rfl) rfl B.sorted (by decide +kernel) (pa_cons (pe_callTy (call_setT rfl) rfl B.set (by decide +kernel) (pa_cons (pe_op op_cat
      (pe_call GO.ok hr rfl GO.mg GO.kp GO.bd .nil pass0 (pa_cons (pv 0) pa_nil)) (pe_call GO.ok hr rfl GO.mg GO.kp GO.bd .nil pass0 (pa_cons (pv 1) pa_nil))) pa_nil)) pa_nil))), ?_⟩
    refine ⟨_, rfl, a, rfl, la, fun D1 H1 f1 s1 d1 => ⟨_, rfl, b, rfl, lb, fun D2 H2 f2 s2 d2 => ?_⟩⟩
    refine ⟨D1, D2, _, _, rfl, rfl, s2 _ _ d1, d2, ?_, fun p hp0 => ?_⟩
    · unfold prefs
      simp only [List.length_map, List.length_range]
      exact sz (by lia)
    · have e : ((prefs a).map fun s => V.str (tx s)) ++ ((prefs b).map fun s => V.str (tx s)) = ((bgn a b).map tx).map V.str := by
        unfold bgn
        rw [List.map_map, List.map_append]
        rfl
      rw [e]
      refine ⟨p, _, rfl, SqL.of upd_same, ?_, fun S hS => ?_⟩
      · rw [List.length_map]
        unfold bgn prefs
        simp only [List.length_append, List.length_map, List.length_range]
        show _ < 4096
        lia
      · refine ⟨S, _, _, rfl, upd_same, fun h z => z, bgn_two b ha, bgn_few la lb, fun R ss hR hp hso => ?_⟩
        have es := stS_only hp hso
        have s0 : Same H (upd H2 p (.lst (((bgn a b).map tx).map V.str))) := (s1.trans s2).upd ((s1.trans s2).free hp0)
        have s3 := s0.upd (o := .ext fun h => SetX P w h S (ded ((bgn a b).map tx))) (s0.free hS)
        rw [es]
        refine k R _ (s3.free hR) (s3.upd (s3.free hR)) ?_
        rw [upd_same, List.map_map]
        rfl
noncomputable abbrev NMg : List Str := ["sides", "one", "other", "throws", "ones", "others", "reached", "other_reached"]
theorem scMarg : FnScope NMg ["sides", "one", "other", "throws"] (defScope sMarg) := ⟨rfl, rfl, rfl, by decide +kernel, rfl, by decide +kernel, by decide +kernel⟩
theorem ok_marg {f fH fR : Addr} {fd dH dR : FuncData} (F : Fun K "margins_by_count" "margins_by_count" sMarg f fd) (B : Bl mg) (GH : Gf P w K mg base 3 "held_by_count" ["sides", "word"] spHeld fH dH) (GR : Gf P w K mg base 3 "reached_by_count" ["word", "throws"] spRe fR dR) :
    FnOk P w K mg base CX0 4 f fd ["sides", "one", "other", "throws"] spMarg := by
  refine F.ok scMarg (fun vs H Q E h => ?_) (fun cdv A outer s H vs Q E hr h => ?_)
  · obtain ⟨q, a, b, t, rfl, _⟩ := h
    rfl
  · obtain ⟨q, a, b, t, rfl, h2, h26, ha, hb, la, lb, lt, k⟩ := h
    refine ⟨_, pss_cons (ps_set (i := 4) scMarg.nd rfl (Or.inr rfl) (pe_call GH.ok hr rfl GH.mg GH.kp GH.bd .nil pass0 (pa_cons (pv 0) (pa_cons (pv 1) pa_nil))))
      (pss_cons (ps_set (i := 5) scMarg.nd rfl (Or.inr rfl) (pe_call GH.ok hr rfl GH.mg GH.kp GH.bd .nil pass0 (pa_cons (pv 0) (pa_cons (pv 2) pa_nil))))
      (pss_cons (ps_set (i := 6) scMarg.nd rfl (Or.inl rfl) (pe_call GR.ok hr rfl GR.mg GR.kp GR.bd .nil pass0 (pa_cons (pv 1) (pa_cons (pv 3) pa_nil))))
      (pss_cons (ps_set (i := 7) scMarg.nd rfl (Or.inl rfl) (pe_call GR.ok hr rfl GR.mg GR.kp GR.bd .nil pass0 (pa_cons (pv 2) (pa_cons (pv 3) pa_nil))))
      (pss_one (ps_ret (pe_lc (N := NMg) (sc := defScope sMarg) (own := ["count", "other_count"]) (cap := [4, 5]) (g := gTup K 2 (gCons (gName 0) (gCons (gName 1) gNil)))
        (te := tOp (rI0 fun i j => .int (i - j)) (tOp (rIxL K) (tVar 2) (tVar 0)) (tOp (rIxL K) (tVar 3) (tVar 1))) ⟨rfl, by decide +kernel, by decide +kernel, by decide +kernel, by decide +kernel⟩
        (pi_zip rfl B.zip (pa_cons (pv 6) (pa_cons (pv 7) pa_nil)))
        (fun _ _ _ _ _ => pg_tup rfl (pgs_cons (pg_name (i := 0) (show (lcN NMg ["count", "other_count"] [4, 5]).Nodup by decide +kernel) rfl (Or.inl rfl) (.inr rfl)) (pgs_cons (pg_name (i := 1) (show (lcN NMg ["count", "other_count"] [4, 5]).Nodup by decide +kernel) rfl (Or.inl rfl) (.inr rfl)) pgs_nil)))
        (fun _ _ _ _ _ => pif_nil) (fun _ _ _ _ _ => pe_op op_sub (pe_ix ix_list (pv 2) (pv 0) (fun _ _ => rfl)) (pe_ix ix_list (pv 3) (pv 1) (fun _ _ => rfl))))))))), ?_⟩
    refine ⟨_, rfl, _, rfl, q, a, rfl, h2, h26, ha, by lia, fun p1 H1 f1 s1 d1 => ?_⟩
    refine ⟨_, rfl, _, rfl, q, b, rfl, h2, h26, hb, by lia, fun p2 H2 f2 s2 d2 => ?_⟩
    refine ⟨_, rfl, _, rfl, a, t, rfl, ha, by lia, by lia, fun p3 H3 f3 s3 d3 => ?_⟩
    refine ⟨_, rfl, _, rfl, b, t, rfl, hb, by lia, by lia, fun p4 H4 f4 s4 d4 => ?_⟩
    have e1 := s4 _ _ (s3 _ _ (s2 _ _ d1))
    have e2 := s4 _ _ (s3 _ _ d2)
    have e3 := s4 _ _ d3
    have s04 : Same H H4 := ((s1.trans s2).trans s3).trans s4
    have g3 : ∀ i, i < t.length + 1 → ((reTab a t (t.length + 1)).map vi)[i]? = some (vi (lng a (t.take i))) := fun i hi => by rw [List.getElem?_map, reTab_get hi]; rfl
    have g4 : ∀ i, i < t.length + 1 → ((reTab b t (t.length + 1)).map vi)[i]? = some (vi (lng b (t.take i))) := fun i hi => by rw [List.getElem?_map, reTab_get hi]; rfl
    have l3 : ((reTab a t (t.length + 1)).map vi).length = t.length + 1 := by unfold reTab; rw [List.length_map, List.length_map, List.length_range]
    refine ⟨_, rfl, _, rfl, p3, p4, rfl, ⟨_, SqL.of e3⟩, ⟨_, SqL.of d4⟩, lcb1 (t.length + 1) (fun i => .int (marg q a b (t.take i))) (sz (by lia))
      (fun i H' hi hs => ⟨_, _, _, _, SqL.of (hs _ _ e3), SqL.of (hs _ _ d4), g3 i hi, g4 i hi⟩) (fun H' hs => ⟨_, _, SqL.of (hs _ _ e3), SqL.of (hs _ _ d4), .inl (Nat.le_of_eq l3)⟩) ?_ ?_⟩
    · rintro i H5 K1 hi hs k1 v H6 ⟨T, x, y, hT, hx, hy, rfl, rfl⟩
      have ex : x = vi (lng a (t.take i)) := Option.some.inj ((hx _ (SqL.of (hs _ _ e3))).symm.trans (g3 i hi))
      have ey : y = vi (lng b (t.take i)) := Option.some.inj ((hy _ (SqL.of (hs _ _ d4))).symm.trans (g4 i hi))
      subst ex ey
      have s6 : Same H5 (upd H5 T (.tup [vi (lng a (t.take i)), vi (lng b (t.take i))])) := (Same.refl _).upd hT
      refine ⟨T, _, rfl, SqT.of upd_same, rfl, _, _, rfl, _, _, rfl, rfl, lcExt_set2 (by decide) (by decide), ?_⟩
      have la' := lng_le a (t.take i)
      have lb' := lng_le b (t.take i)
      refine ⟨_, rfl, _, rfl, p1, _, _, _, rfl, rfl, SqL.of (s6 _ _ (hs _ _ e1)), atI_nat (by rw [List.getElem?_map, heldT_get (by lia)]; rfl), _, rfl, _, rfl, p2, _, _, _, rfl, rfl, SqL.of (s6 _ _ (hs _ _ e2)), atI_nat (by rw [List.getElem?_map, heldT_get (by lia)]; rfl), _, _, rfl, rfl, ?_⟩
      have := k1 _ s6
      unfold marg at this
      rw [phi_lng, phi_lng]
      exact this
    · intro D H' hD hs hd
      refine k D H' (s04.free hD) (s04.trans hs) ?_
      rw [hd]
      unfold margT
      rw [List.map_map]
      rfl
theorem scRaceI : FnScope ["self", "parts", "whole"] ["self", "parts", "whole"] (defScope sRaceI) := ⟨rfl, rfl, rfl, by decide +kernel, rfl, by decide +kernel, by decide +kernel⟩
theorem ok_raceI {f C fS : Addr} {fd : FuncData} (F : Fun K "__init__" "Race.__init__" sRaceI f fd) (B : Bl mg) (W : RaceC K mg C f fS) : FnOk P w K mg base CX0 1 f fd ["self", "parts", "whole"] (spRaceI K C) := by
  refine F.ok scRaceI (fun vs H Q E h => ?_) (fun cdv A outer s H vs Q E hr h => ?_)
  · obtain ⟨x, dx, p, ys, wv, rfl, _⟩ := h
    rfl
  · obtain ⟨x, dx, p, ys, wv, rfl, hx, hS, k⟩ := h
    refine ⟨_, pss_cons (ps_fld (pv 0) (pe_callTy call_list_of rfl B.list (by decide +kernel) (pa_cons (pv 1) pa_nil)) rfl) (pss_one (ps_fld (pv 0) (pv 2) rfl)), ?_⟩
    refine ⟨_, rfl, p, ys, rfl, .inl hS, fun l hl => ⟨_, rfl, x, C, dx, [], rfl, by rw [upd_ne (ne_of_none hx hl)]; exact hx, W.cl, W.na, by decide, ?_⟩⟩
    exact ⟨_, rfl, _, rfl, x, C, dx, [("parts", .ref l)], rfl, upd_same, W.cl, W.nw, by show 1 < 1000; decide, k l _ hl rfl⟩
end
end FW
namespace FW
open PySem L2 L2T
theorem isSt_comm (a b s : List Nat) : isSt a b s = isSt b a s := by unfold isSt; rw [Bool.or_comm]
theorem nxt_comm (a b : List Nat) : ∀ t, nxt a b t = nxt b a t
  | [] => rfl
  | c :: r => by
    unfold nxt
    rw [isSt_comm a b, nxt_comm a b r]
theorem suf_eq {x y t : List Nat} (hx : x <:+ t) (hy : y <:+ t) (h : x.length = y.length) : x = y := (List.suffix_of_suffix_length_le hx hy (Nat.le_of_eq h)).eq_of_length h
theorem nxt_lng (a b t : List Nat) : (if (a.take (lng a t)).length < (b.take (lng b t)).length then b.take (lng b t) else a.take (lng a t)) = nxt a b t := by
  have la := lng_le a t
  have lb := lng_le b t
  have ea : (a.take (lng a t)).length = lng a t := by rw [List.length_take]; lia
  have eb : (b.take (lng b t)).length = lng b t := by rw [List.length_take]; lia
  have ma := nxt_max a b t _ (lng_suf a t) (isSt_takeA a b _)
  have mb := nxt_max a b t _ (lng_suf b t) (isSt_takeB a b _)
  have ns := nxt_suf a b t
  have hs := nxt_st a b t
  unfold isSt at hs
  rw [Bool.or_eq_true, decide_eq_true_eq, decide_eq_true_eq] at hs
  have top : (nxt a b t).length ≤ lng a t ∨ (nxt a b t).length ≤ lng b t := by
    rcases hs with z | z
    · refine .inl (lng_max z.length_le ?_)
      rw [← List.prefix_iff_eq_take.mp z]
      exact ns
    · refine .inr (lng_max z.length_le ?_)
      rw [← List.prefix_iff_eq_take.mp z]
      exact ns
  split
  · rename_i h
    refine suf_eq (lng_suf b t) ns ?_
    rcases top with z | z <;> lia
  · rename_i h
    refine suf_eq (lng_suf a t) ns ?_
    rcases top with z | z <;> lia
noncomputable def nxtRow (q : Nat) (a b s : List Nat) : List (List Nat) := (List.range q).map fun i => nxt a b (s ++ [97 + i])
theorem nxtRow_comm (q : Nat) (a b s : List Nat) : nxtRow q a b s = nxtRow q b a s := by
  unfold nxtRow
  congr 1
  funext i
  exact nxt_comm a b _
noncomputable def sumD (l : List (List Nat × Int)) (js : List (List Nat)) : Int := (js.map (prt l)).sum
theorem alpha_take {q : Nat} (h : q ≤ 26) : alpha.take q = (List.range q).map fun i => 97 + i := by
  have e : alpha = (List.range 26).map fun i => 97 + i := by decide
  rw [e, ← List.map_take, List.take_range, Nat.min_eq_left h]
theorem sumD_row {q : Nat} (h : q ≤ 26) (a b : List Nat) (l : List (List Nat × Int)) (s : List Nat) : sumD l (nxtRow q a b s) = sumR q a b l s q := by
  unfold sumD nxtRow sumR
  rw [List.take_take, Nat.min_self, alpha_take h, List.map_map, List.map_map]
  rfl
noncomputable def vts (js : List (List Nat)) : List V := js.map fun s => V.str (tx s)
noncomputable def spSumD (K : PySem.W.Frag) : Sp := fun vs H Q _ => ∃ (d b : Addr) (l : List (List Nat × Int)) (js : List (List Nat)), vs = [.ref d, .ref b] ∧ H d = some (.dK (dk l)) ∧ SqL K H b (vts js) ∧ (∀ j ∈ js, j ∈ l.map (·.1)) ∧ js.length ≤ 30 ∧ ∀ H', Same H H' → Q (.int (sumD l js)) H'
section
variable {P : Program} {w : World} {K : PySem.W.Frag} {mg : Str → Option Value} {base : Heap}
theorem scSum' : FnScope ["numbers", "places"] ["numbers", "places"] (defScope sSum) := ⟨rfl, rfl, rfl, by decide +kernel, rfl, by decide +kernel, by decide +kernel⟩
theorem ok_sumD {f : Addr} {fd : FuncData} (F : Fun K "sum_at" "sum_at" sSum f fd) (B : Bl mg) : FnOk P w K mg base CX0 1 f fd ["numbers", "places"] (spSumD K) := by
  refine F.ok scSum' (fun vs H Q E h => ?_) (fun cdv A outer s H vs Q E hr h => ?_)
  · obtain ⟨a, b, ts, js, rfl, _⟩ := h
    rfl
  · obtain ⟨d, b, l, js, rfl, hD, hB, hj, hn, k⟩ := h
    have hu := hu_of hr
    refine ⟨_, pss_one (ps_ret (pe_callB (call_sum rfl) rfl B.sum (by decide +kernel) (pa_cons (pe_lc (N := ["numbers", "places"]) (sc := defScope sSum) (own := ["place"]) (cap := [0]) (te := tDGet (tVar 1) (tVar 0)) ⟨rfl, by decide +kernel, by decide +kernel, by decide +kernel, by decide +kernel⟩ (pi_list (pv 1))
        (fun _ _ _ _ _ => pg_name (i := 0) (show (lcN ["numbers", "places"] ["place"] [0]).Nodup by decide +kernel) rfl (Or.inl rfl) (.inr rfl)) (fun _ _ _ _ _ => pif_nil) (fun _ _ _ _ _ => pe_dget hu (pv 1) (pv 0) (fun _ _ => rfl))) pa_nil))), ?_⟩
    have gj : ∀ i (hi : i < js.length), (vts js)[i]? = some (.str (tx js[i])) := fun i hi => by unfold vts; rw [List.getElem?_map, List.getElem?_eq_getElem hi]; rfl
    have lj : (vts js).length = js.length := by unfold vts; rw [List.length_map]
    refine ⟨_, rfl, b, rfl, ⟨_, hB⟩, lcb1 js.length (fun i => .int (prt l (js.getD i []))) (sz (by lia)) (fun i H' hi hs => ⟨_, _, hs.seq hB, gj i hi⟩) (fun H' hs => ⟨_, hs.seq hB, Nat.le_of_eq lj⟩) ?_ ?_⟩
    · rintro i H1 K1 hi hs k1 x _ ⟨rfl, hy⟩
      have ex : x = .str (tx js[i]) := Option.some.inj ((hy _ (hs.seq hB)).symm.trans (gj i hi))
      subst ex
      have eg : js.getD i [] = js[i] := by rw [List.getD_eq_getElem?_getD, List.getElem?_eq_getElem hi]; rfl
      have g := DGet.k (k := .inr (tx js[i])) (hs _ _ hD)
      rw [valV_dk, lookup_some (hj _ (List.getElem_mem hi))] at g
      refine ⟨lcExt_set (by decide), _, rfl, _, rfl, d, _, rfl, g, ?_⟩
      have := k1 _ (Same.refl _)
      rw [eg] at this
      exact this
    · intro D H' hD hs hd
      refine ⟨D, js.map (prt l), rfl, SqL.of ?_, k H' hs⟩
      rw [hd, List.map_map]
      congr 2
      exact range_map_getD (fun j => V.int (prt l j)) [] js
end
end FW
namespace FW
open PySem L2
noncomputable def showB (q : Nat) (w : List Nat) (ts : List Int) : Bool := decide (ts.length = w.length + 1) && (decide (ts.getD w.length 0 = 0) && (List.range w.length).all fun m => decide ((q : Int) * ts.getD m 0 = (q : Int) + sumAt ts (rowL q w m)))
noncomputable def spWaitS (C : Addr) : Sp := fun vs H Q _ => ∃ (x : Addr) (q : Nat) (w : List Nat) (ts : List Int), vs = [.ref x, vi q, .str (tx w)] ∧ WaitAt H C x ts ∧ 2 ≤ q ∧ q ≤ 26 ∧ w ≠ [] ∧ w.length ≤ 9000 ∧ (∀ c ∈ w, c ∈ alpha.take q) ∧ ts.length ≤ 20000 ∧ ∀ H', Same H H' → Q (.bl (showB q w ts)) H'
section
variable {P : Program} {w : World} {K : PySem.W.Frag} {mg : Str → Option Value} {base : Heap}
theorem scWaitS : FnScope ["self", "sides", "word", "leads"] ["self", "sides", "word"] (defScope sWaitS) := ⟨rfl, rfl, rfl, by decide +kernel, rfl, by decide +kernel, by decide +kernel⟩
theorem ok_waitS {f C fI fA fM fL : Addr} {fd dA dM dL : FuncData} (F : Fun K "shows" "Wait.shows" sWaitS f fd) (B : Bl mg) (W : WaitC K mg C fI f) (GA : Gf P w K mg base 2 "are_wholes" ["numbers", "many"] (spAre K) fA dA)
    (GM : Gf P w K mg base 1 "sum_at" ["numbers", "places"] (spSum K) fM dM) (GL : Gf P w K mg base 3 "leads_by_count" ["sides", "word"] spLeads fL dL) : FnOk P w K mg base CX0 4 f fd ["self", "sides", "word"] (spWaitS C) := by
  refine F.ok scWaitS (fun vs H Q E h => ?_) (fun cdv A outer s H vs Q E hr h => ?_)
  · obtain ⟨x, q, w, ts, rfl, _⟩ := h
    rfl
  · obtain ⟨x, q, w, ts, rfl, ⟨dx, l, hx, hl⟩, h2, h26, hne, hw, hof, ht, k⟩ := h
    have hr1 := hr.mono (show 1 ≤ 3 by decide)
    have hr2 := hr.mono (show 2 ≤ 3 by decide)
    refine ⟨_, pss_cons (ps_if (pt_not (pt_val (pe_call GA.ok hr2 rfl GA.mg GA.kp GA.bd .nil pass0 (pa_cons (pe_fld (pv 0) rfl) (pa_cons (pe_op op_add (pe_callB call_len_tx rfl B.len (by decide +kernel) (pa_cons (pv 2) pa_nil)) pe_int) pa_nil))))) (pss_one (ps_ret pe_bl)) pss_nil)
      (pss_cons (ps_if (pt_cmpR op_ne (pe_ix ix_list (pe_fld (pv 0) rfl) (pe_callB call_len_tx rfl B.len (by decide +kernel) (pa_cons (pv 2) pa_nil)) (fun _ _ => rfl)) pe_int (nomark _)) (pss_one (ps_ret pe_bl)) pss_nil)
      (pss_cons (ps_set (i := 3) scWaitS.nd rfl (Or.inl rfl) (pe_call GL.ok hr rfl GL.mg GL.kp GL.bd .nil pass0 (pa_cons (pv 1) (pa_cons (pv 2) pa_nil))))
      (pss_one (ps_ret (pe_callB (call_all rfl) rfl B.all (by decide +kernel) (pa_cons (pe_lc (N := ["self", "sides", "word", "leads"]) (sc := defScope sWaitS) (own := ["count", "row"]) (cap := [0, 1]) (g := gTup K 2 (gCons (gName 0) (gCons (gName 1) gNil)))
        (te := tOp rEq (tOp (rI CMul fun i j => .int (i * j)) (tVar 3) (tOp (rIxL K) (tFld K (tVar 2) "table") (tVar 0))) (tOp (rI0 fun i j => .int (i + j)) (tVar 3) (tCall (spSum K) [] E0 (tCons (tFld K (tVar 2) "table") (tCons (tVar 1) tNil)))))
        ⟨rfl, by decide +kernel, by decide +kernel, by decide +kernel, by decide +kernel⟩
        (pi_enum rfl B.enumerate (pa_cons (pv 3) pa_nil))
        (fun _ _ _ _ _ => pg_tup rfl (pgs_cons (pg_name (i := 0) (show (lcN ["self", "sides", "word", "leads"] ["count", "row"] [0, 1]).Nodup by decide +kernel) rfl (Or.inl rfl) (.inr rfl)) (pgs_cons (pg_name (i := 1) (show (lcN ["self", "sides", "word", "leads"] ["count", "row"] [0, 1]).Nodup by decide +kernel) rfl (Or.inl rfl) (.inr rfl)) pgs_nil)))
        (fun _ _ _ _ _ => pif_nil)
        (fun _ _ _ _ _ => pe_cmpR op_eq (pe_op op_mul (pv 3) (pe_ix ix_list (pe_fld (pv 2) rfl) (pv 0) (fun _ _ => rfl))) (pe_op op_add (pv 3) (pe_call GM.ok hr1 rfl GM.mg GM.kp GM.bd .nil pass0 (pa_cons (pe_fld (pv 2) rfl) (pa_cons (pv 1) pa_nil)))) (nomark _))) pa_nil)))))), ?_⟩
    refine ⟨_, rfl, x, C, dx, _, _, rfl, hx, W.cl, W.na, rfl, _, rfl, w, rfl, sz (by lia), _, _, rfl, rfl, l, ts, w.length + 1, rfl, SqL.of hl, ht, fun H1 s1 => ⟨_, rfl, ?_⟩⟩
    have hx1 := s1 _ _ hx
    have hl1 := s1 _ _ hl
    by_cases e1 : ts.length = w.length + 1
    · rw [decide_eq_true e1]
      refine iteF ?_
      refine ⟨_, rfl, x, C, dx, _, _, rfl, hx1, W.cl, W.na, rfl, _, rfl, w, rfl, sz (by lia), l, _, _, _, rfl, rfl, SqL.of hl1, atI_nat (v := .int (ts.getD w.length 0)) (by rw [List.getElem?_map, List.getD_eq_getElem?_getD, List.getElem?_eq_getElem (by lia)]; rfl), rfl, _, rfl, ?_⟩
      by_cases e2 : ts.getD w.length 0 = 0
      · refine iteNS (congrArg V.int e2) ?_
        refine ⟨_, rfl, _, rfl, q, w, rfl, h2, h26, hne, by lia, hof, fun p rs H2 hp s2 h2p h2r => ?_⟩
        have hx2 := s2 _ _ hx1
        have hl2 := s2 _ _ hl1
        have rlen : (rs.map V.ref).length = w.length := by rw [List.length_map, h2r.1]
        refine ⟨_, rfl, p, rfl, ⟨_, SqL.of h2p⟩, lcb1 w.length (fun m => .bl (decide ((q : Int) * ts.getD m 0 = (q : Int) + sumAt ts (rowL q w m)))) (sz (by lia))
          (fun i H4 hi s4 => ⟨_, _, SqL.of (s4 _ _ h2p), List.getElem?_eq_getElem (by rw [rlen]; exact hi)⟩) (fun H4 s4 => ⟨_, SqL.of (s4 _ _ h2p), Nat.le_of_eq rlen⟩) ?_ ?_⟩
        · rintro i H4 K1 hi s4 k1 y H5 ⟨T, y, hT, hy, rfl, rfl⟩
          have hy' := hy _ (SqL.of (s4 _ _ h2p))
          obtain ⟨r, er⟩ : ∃ r, rs[i]? = some r := ⟨_, List.getElem?_eq_getElem (by rw [h2r.1]; exact hi)⟩
          rw [List.getElem?_map, er] at hy'
          have ey : y = .ref r := (Option.some.inj hy').symm
          subst ey
          have s5 : Same H4 (upd H4 T (.tup [.int i, .ref r])) := (Same.refl _).upd hT
          have hx5 := s5 _ _ (s4 _ _ hx2)
          have hl5 := s5 _ _ (s4 _ _ hl2)
          have hr5 := s5 _ _ (s4 _ _ (h2r.2 i r er))
          refine ⟨T, _, rfl, SqT.of upd_same, rfl, _, _, rfl, _, _, rfl, rfl, lcExt_set2 (by decide) (by decide), ?_⟩
          refine ⟨_, rfl, _, rfl, x, C, dx, _, _, rfl, hx5, W.cl, W.na, rfl, _, rfl, l, _, _, _, rfl, rfl, SqL.of hl5, atI_nat (v := .int (ts.getD i 0)) (by rw [List.getElem?_map, List.getD_eq_getElem?_getD, List.getElem?_eq_getElem (by lia)]; rfl), _, _, rfl, rfl, .inl ⟨by lia, by lia⟩, ?_⟩
          refine ⟨_, rfl, _, rfl, x, C, dx, _, _, rfl, hx5, W.cl, W.na, rfl, _, rfl, l, r, ts, rowL q w i, rfl, SqL.of hl5, SqL.of hr5, ?_, ?_, fun H6 s6 => ⟨_, _, rfl, rfl, rfl, ?_⟩⟩
          · intro j hj
            obtain ⟨a, _, rfl⟩ := List.mem_map.mp hj
            have := lng_le w (w.take i ++ [97 + a])
            lia
          · rw [rowL_len]; lia
          · have := k1 _ (s5.trans s6)
            rw [show decide ((q : Int) * ts.getD i 0 = (q : Int) + sumAt ts (rowL q w i)) = decide (V.int ((q : Int) * ts.getD i 0) = V.int ((q : Int) + sumAt ts (rowL q w i))) from decide_eq_decide.mpr ⟨fun h => congrArg V.int h, fun h => by injection h⟩] at this
            exact this
        · intro D H' hD hs hd
          refine ⟨D, (List.range w.length).map fun m => decide ((q : Int) * ts.getD m 0 = (q : Int) + sumAt ts (rowL q w m)), rfl, SqL.of ?_, ?_⟩
          · rw [hd, List.map_map]
            rfl
          · have := k H' ((s1.trans s2).trans hs)
            unfold showB at this
            rw [decide_eq_true e1, decide_eq_true e2, Bool.true_and, Bool.true_and] at this
            rw [List.all_map]
            exact this
      · rw [show decide (V.int (ts.getD w.length 0) = V.int 0) = false from decide_eq_false fun h => e2 (by injection h)]
        refine iteT ?_
        have := k H1 s1
        unfold showB at this
        rw [decide_eq_false e2, Bool.false_and, Bool.and_false] at this
        exact this
    · rw [decide_eq_false e1]
      refine iteT ?_
      have := k H1 s1
      unfold showB at this
      rw [decide_eq_false e1, Bool.false_and] at this
      exact this
end
end FW
namespace FW
open PySem L2
noncomputable def waitT (q : Nat) (w : List Nat) : List Int := (List.range (w.length + 1)).map (waitZ q w)
noncomputable def spWaits (C : Addr) : Sp := fun vs H Q _ => ∃ (q : Nat) (w : List Nat), vs = [vi q, .str (tx w)] ∧ 2 ≤ q ∧ q ≤ 26 ∧ w ≠ [] ∧ w.length ≤ 9000 ∧ (∀ c ∈ w, c ∈ alpha.take q) ∧ ∀ x H', H x = none → Same H H' → WaitAt H' C x (waitT q w) → Q (.ref x) H'
section
variable {P : Program} {w : World} {K : PySem.W.Frag} {mg : Str → Option Value} {base : Heap}
theorem scWaits : FnScope ["sides", "word", "held"] ["sides", "word"] (defScope sWaits) := ⟨rfl, rfl, rfl, by decide +kernel, rfl, by decide +kernel, by decide +kernel⟩
theorem ok_waits {f C fI fS fh fc fw : Addr} {fd dI dh dc dw : FuncData} (F : Fun K "waits" "waits" sWaits f fd) (B : Bl mg) (W : WaitC K mg C fI fS) (FI : FnOk P w K mg base CX0 1 fI dI ["self", "table"] (spWaitI K C)) (bI : Binds K dI ["self", "table"] [])
    (GC : Gf P w K mg base 2 "check_sides" ["sides"] spChS fc dc) (GW : Gf P w K mg base 3 "check_word" ["sides", "word"] spChW fw dw) (GH : Gf P w K mg base 3 "held_by_count" ["sides", "word"] spHeld fh dh) : FnOk P w K mg base CX0 4 f fd ["sides", "word"] (spWaits C) := by
  refine F.ok scWaits (fun vs H Q E h => ?_) (fun cdv A outer s H vs Q E hr h => ?_)
  · obtain ⟨q, w, rfl, _⟩ := h
    rfl
  · obtain ⟨q, w, rfl, h2, h26, hne, hw, hof, k⟩ := h
    have hr2 := hr.mono (show 2 ≤ 3 by decide)
    refine ⟨_, pss_cons (ps_expr (pe_call GC.ok hr2 rfl GC.mg GC.kp GC.bd .nil pass0 (pa_cons (pv 0) pa_nil)))
      (pss_cons (ps_expr (pe_call GW.ok hr rfl GW.mg GW.kp GW.bd .nil pass0 (pa_cons (pv 0) (pa_cons (pv 1) pa_nil))))
      (pss_cons (ps_set (i := 2) scWaits.nd rfl (Or.inr rfl) (pe_call GH.ok hr rfl GH.mg GH.kp GH.bd .nil pass0 (pa_cons (pv 0) (pa_cons (pv 1) pa_nil))))
      (pss_one (ps_ret (pe_make W.make FI hr2 rfl W.mg bI .nil pass0 (pa_cons (pe_lc (N := ["sides", "word", "held"]) (sc := defScope sWaits) (own := ["now"]) (cap := [2, 1])
        (te := tOp (rI0 fun i j => .int (i - j)) (tOp (rIxL K) (tVar 1) (tCB (fun xs H Q => ∃ l, xs = [.str (tx l)] ∧ l.length ≤ sizeLine ∧ Q (.int l.length) H) (tCons (tVar 2) tNil))) (tVar 0))
        ⟨rfl, by decide +kernel, by decide +kernel, by decide +kernel, by decide +kernel⟩ (pi_list (pv 2))
        (fun _ _ _ _ _ => pg_name (i := 0) (show (lcN ["sides", "word", "held"] ["now"] [2, 1]).Nodup by decide +kernel) rfl (Or.inl rfl) (.inr rfl)) (fun _ _ _ _ _ => pif_nil)
        (fun _ _ _ _ _ => pe_op op_sub (pe_ix ix_list (pv 1) (pe_callB call_len_tx rfl B.len (by decide +kernel) (pa_cons (pv 2) pa_nil)) (fun _ _ => rfl)) (pv 0))) pa_nil)))))), ?_⟩
    refine ⟨_, rfl, q, rfl, h2, h26, ?_⟩
    refine ⟨_, rfl, _, rfl, q, w, rfl, h2, h26, by lia, hof, hne, fun H1 s1 => ?_⟩
    refine ⟨_, rfl, _, rfl, q, w, rfl, h2, h26, hne, hw, fun p H2 hp s2 h2p => ?_⟩
    have s02 : Same H H2 := s1.trans s2
    refine ⟨_, rfl, p, rfl, ⟨_, SqL.of h2p⟩, lcb1 (w.length + 1) (fun i => .int (waitZ q w i)) (sz (by lia)) (fun i H' hi hs => ⟨_, _, SqL.of (hs _ _ h2p), by rw [List.getElem?_map, heldT_get hi]; rfl⟩) (fun H' hs => ⟨_, SqL.of (hs _ _ h2p), by rw [List.length_map, heldT_len]; exact Nat.le_refl _⟩) ?_ ?_⟩
    · rintro i H3 K1 hi hs k1 x _ ⟨rfl, hy⟩
      have hy' := hy _ (SqL.of (hs _ _ h2p))
      rw [List.getElem?_map, heldT_get hi] at hy'
      have ex : x = vi (phi q w (w.take i)) := (Option.some.inj hy').symm
      subst ex
      refine ⟨lcExt_set (by decide), _, rfl, _, rfl, w, rfl, sz (by lia), p, _, _, _, rfl, rfl, SqL.of (hs _ _ h2p), atI_nat (by rw [List.getElem?_map, heldT_get (by lia)]; rfl), _, rfl, _, _, rfl, rfl, ?_⟩
      have := k1 _ (Same.refl _)
      unfold waitZ at this
      rw [List.take_length]
      exact this
    · intro D H3 hD s3 hd x dx hx hdx hxd
      have s03 : Same H H3 := s02.trans s3
      have nDd : D ≠ dx := ne_of_none hd hdx
      have nDx : D ≠ x := ne_of_none hd hx
      refine ⟨x, dx, D, _, rfl, upd_same, SqL.of (by rw [upd_ne nDx, upd_ne nDd]; exact hd), fun l hl => ⟨rfl, ?_⟩⟩
      have s3' : Same H (upd (upd H3 dx (.own x)) x (.ins C dx [])) := (s03.upd (s03.free hdx)).upd (s03.free hx)
      have nlx : l ≠ x := by
        rintro rfl
        rw [upd_same] at hl
        cases hl
      refine k x _ (s03.free hx) ((s3'.upd (s3'.free hl)).upd (s03.free hx)) ⟨dx, l, upd_same, ?_⟩
      rw [upd_ne nlx, upd_same]
      unfold waitT
      rw [List.map_map]
      rfl
end
end FW
namespace FW
open PySem L2 L2T
noncomputable def partT (q : Nat) (a b : List Nat) : List Int := (stS a b).map (partZ q a b)
noncomputable def spRace (C : Addr) : Sp := fun vs H Q _ => ∃ (q : Nat) (a b : List Nat), vs = [vi q, .str (tx a), .str (tx b)] ∧ 2 ≤ q ∧ q ≤ 26 ∧ a ≠ [] ∧ b ≠ [] ∧ a.length ≤ 30 ∧ b.length ≤ 30 ∧ (∀ c ∈ a, c ∈ alpha.take q) ∧ (∀ c ∈ b, c ∈ alpha.take q) ∧ ¬ a <:+: b ∧ ¬ b <:+: a ∧
  ∀ x H', H x = none → Same H H' → RaceAt H' C x (partT q a b) (wholeZ q a b) → Q (.ref x) H'
noncomputable def CovD (kvs : List (Key × V)) (q : Nat) (a b : List Nat) (S : List Nat → Prop) : Prop := ∀ s, S s → valV kvs (Sum.inr (tx s)) = some (.int (marg q a b s))
theorem CovD.put {kvs : List (Key × V)} {q : Nat} {a b : List Nat} {S S' : List Nat → Prop} (h : CovD kvs q a b S) (t : List Nat) (hS : ∀ s, S' s → S s ∨ s = t) : CovD (putK kvs (Sum.inr (tx t)) (.int (marg q a b t))) q a b S' := by
  intro s hs
  rw [valV_put]
  by_cases e : (Sum.inr (tx s) : Key) = Sum.inr (tx t)
  · rw [if_pos e]
    have : s = t := tx_inj (Sum.inr.inj e)
    rw [this]
  · rw [if_neg e]
    rcases hS s hs with z | z
    · exact h s z
    · exact absurd (by rw [z]) e
section
variable {P : Program} {w : World} {K : PySem.W.Frag} {mg : Str → Option Value} {base : Heap}
noncomputable abbrev NRf : List Str := ["sides", "one", "other", "margins", "throws", "count", "margin", "parts"]
theorem scRaceF : FnScope NRf ["sides", "one", "other"] (defScope sRaceF) := ⟨rfl, rfl, rfl, by decide +kernel, rfl, by decide +kernel, by decide +kernel⟩
theorem ok_race {f C fI fS fc fw fm fb : Addr} {fd dI dc dw dm db : FuncData} (F : Fun K "race" "race" sRaceF f fd) (B : Bl mg) (W : RaceC K mg C fI fS) (FI : FnOk P w K mg base CX0 1 fI dI ["self", "parts", "whole"] (spRaceI K C)) (bI : Binds K dI ["self", "parts", "whole"] [])
    (GC : Gf P w K mg base 2 "check_sides" ["sides"] spChS fc dc) (GW : Gf P w K mg base 3 "check_word" ["sides", "word"] spChW fw dw) (GM : Gf P w K mg base 4 "margins_by_count" ["sides", "one", "other", "throws"] spMarg fm dm) (GB : Gf P w K mg base 2 "beginnings" ["one", "other"] spSts fb db) :
    FnOk P w K mg base CX0 5 f fd ["sides", "one", "other"] (spRace C) := by
  refine F.ok scRaceF (fun vs H Q E h => ?_) (fun cdv A outer s H vs Q E hr h => ?_)
  · obtain ⟨q, a, b, rfl, _⟩ := h
    rfl
  · obtain ⟨q, a, b, rfl, h2, h26, ha, hb, la, lb, oa, ob, nab, nba, k⟩ := h
    have hu := hu_of hr
    have hr2 := hr.mono (show 2 ≤ 4 by decide)
    have hr3 := hr.mono (show 3 ≤ 4 by decide)
    have T6 : ∃ t, PSs (cxOf CX0 P w K mg base NRf "race" (defScope sRaceF) f cdv A outer s H E).nox ((defBody sRaceF).drop 6) t ∧ ∀ (v4 v5 v6 v7 : Option V) (d : Addr) (kvs : List (Key × V)) (H1 : Hp), Same H H1 → H1 d = some (.dK kvs) → CovD kvs q a b (fun s => s <+: a ∨ s <+: b) →
        t { nx := fun _ H' => Q .non H', rt := Q } [some (vi q), some (.str (tx a)), some (.str (tx b)), some (.ref d), v4, v5, v6, v7] H1 := by
      refine ⟨_, pss_cons (ps_set_lc (i := 7) (N := NRf) (sc := defScope sRaceF) (own := ["state"]) (cap := [3, 2]) (te := tOp (rI0 fun i j => .int (i - j)) (tDGet (tVar 1) (tVar 0)) (tDGet (tVar 1) (tVar 2))) scRaceF.nd rfl rfl ⟨rfl, by decide +kernel, by decide +kernel, by decide +kernel, by decide +kernel⟩
          (pi_list (pe_call GB.ok hr2 rfl GB.mg GB.kp GB.bd .nil pass0 (pa_cons (pv 1) (pa_cons (pv 2) pa_nil))))
          (fun _ _ _ _ _ => pg_name (i := 0) (show (lcN NRf ["state"] [3, 2]).Nodup by decide +kernel) rfl (Or.inl rfl) (.inr rfl)) (fun _ _ _ _ _ => pif_nil)
          (fun _ _ _ _ _ => pe_op op_sub (pe_dget hu (pv 1) (pv 0) (fun _ _ => rfl)) (pe_dget hu (pv 1) (pv 2) (fun _ _ => rfl))))
        (pss_one (ps_ret (pe_make W.make FI hr2 rfl W.mg bI .nil pass0 (pa_cons (pv 7) (pa_cons (pe_op op_sub (pe_dget hu (pv 3) (pv 1) (fun _ _ => rfl)) (pe_dget hu (pv 3) (pv 2) (fun _ _ => rfl))) pa_nil))))), ?_⟩
      intro v4 v5 v6 v7 d kvs H1 s1 hd cov
      have gb : valV kvs (Sum.inr (tx b)) = some (.int (marg q a b b)) := cov b (.inr (List.prefix_refl _))
      have ga : valV kvs (Sum.inr (tx a)) = some (.int (marg q a b a)) := cov a (.inl (List.prefix_refl _))
      have get : ∀ (H' : Hp) (s : List Nat), H' d = some (.dK kvs) → valV kvs (Sum.inr (tx s)) = some (.int (marg q a b s)) → DGet H' d (.str (tx s)) (some (.int (marg q a b s))) := fun H' s e z => by
        have := DGet.k (k := Sum.inr (tx s)) e
        rw [z] at this
        exact this
      refine ⟨_, rfl, _, rfl, a, b, rfl, ha, la, lb, fun p H2 hp s2 h2p => ?_⟩
      have hlen : (sts a b).length = (stS a b).length := by unfold sts; rw [List.length_map]
      have hl2 := stS_len a b
      have hget : ∀ i, i < (stS a b).length → (sts a b)[i]? = some (.str (tx ((stS a b).getD i []))) := fun i hi => by unfold sts; rw [List.getElem?_map, List.getD_eq_getElem?_getD, List.getElem?_eq_getElem hi]; rfl
      refine ⟨p, rfl, ⟨_, SqL.of h2p⟩, lcb1 (stS a b).length (fun i => .int (partZ q a b ((stS a b).getD i []))) (sz (by lia)) (fun i H' hi hs => ⟨_, _, SqL.of (hs _ _ h2p), hget i hi⟩) (fun H' hs => ⟨_, SqL.of (hs _ _ h2p), Nat.le_of_eq hlen⟩) ?_ ?_⟩
      · rintro i H3 K1 hi hs k1 x _ ⟨rfl, hy⟩
        have ex : x = .str (tx ((stS a b).getD i [])) := Option.some.inj ((hy _ (SqL.of (hs _ _ h2p))).symm.trans (hget i hi))
        subst ex
        have hm : (stS a b).getD i [] ∈ stS a b := by
          rw [List.getD_eq_getElem?_getD, List.getElem?_eq_getElem hi]
          exact List.getElem_mem hi
        have hst := mem_stS.mp hm
        unfold isSt at hst
        rw [Bool.or_eq_true, decide_eq_true_eq, decide_eq_true_eq] at hst
        have k1' := k1 _ (Same.refl _)
        rw [← marg_part] at k1'
        have gs := cov _ hst
        generalize (stS a b).getD i [] = st at *
        have hd3 := hs _ _ (s2 _ _ hd)
        exact ⟨lcExt_set (by decide), _, rfl, _, rfl, d, _, rfl, get _ _ hd3 gs, _, rfl, _, rfl, d, _, rfl, get _ _ hd3 gb, _, _, rfl, rfl, k1'⟩
      · intro D H3 hD s3 hdD
        have hd3 := s3 _ _ (s2 _ _ hd)
        refine ⟨_, rfl, _, rfl, _, rfl, d, _, rfl, get _ _ hd3 ga, _, rfl, _, rfl, d, _, rfl, get _ _ hd3 gb, _, _, rfl, rfl, ?_⟩
        intro x dx hx hdx hxd
        have s03 : Same H H3 := (s1.trans s2).trans s3
        have nDd : D ≠ dx := ne_of_none hdD hdx
        have nDx : D ≠ x := ne_of_none hdD hx
        refine ⟨x, dx, D, _, _, rfl, upd_same, SqL.of (by rw [upd_ne nDx, upd_ne nDd]; exact hdD), fun l H' hl eH => ⟨rfl, ?_⟩⟩
        have s3' : Same H (upd (upd H3 dx (.own x)) x (.ins C dx [])) := (s03.upd (s03.free hdx)).upd (s03.free hx)
        have nlx : l ≠ x := by
          rintro rfl
          rw [upd_same] at hl
          cases hl
        rw [eH]
        refine k x _ (s03.free hx) (((s3'.upd (s3'.free hl)).upd (s03.free hx)).upd (s03.free hx)) ⟨dx, l, ?_, ?_⟩
        · rw [upd_same]
          dsimp only
          rw [marg_whole]
        · rw [upd_ne nlx, upd_ne nlx, upd_same]
          unfold partT
          rw [List.map_map]
          congr 2
          exact range_map_getD (fun s => V.int (partZ q a b s)) [] _
    obtain ⟨t6, p6, r6⟩ := T6
    refine ⟨_, pss_cons (ps_expr (pe_call GC.ok hr2 rfl GC.mg GC.kp GC.bd .nil pass0 (pa_cons (pv 0) pa_nil)))
      (pss_cons (ps_expr (pe_call GW.ok hr3 rfl GW.mg GW.kp GW.bd .nil pass0 (pa_cons (pv 0) (pa_cons (pv 1) pa_nil))))
      (pss_cons (ps_expr (pe_call GW.ok hr3 rfl GW.mg GW.kp GW.bd .nil pass0 (pa_cons (pv 0) (pa_cons (pv 2) pa_nil))))
      (pss_cons (ps_if (PW.pt (pw_or (pt_cmpR op_in_tx (pv 1) (pv 2) rfl) (pw_or1 (pt_cmpR op_in_tx (pv 2) (pv 1) rfl)))) pss_never pss_nil)
      (pss_cons (ps_set (i := 3) scRaceF.nd rfl (Or.inr rfl) pe_dnewK)
      (pss_cons (ps_for PassesOwn.never rfl (pi_tup (pe_tup (pa_cons (pv 1) (pa_cons (pv 2) pa_nil)))) (pg_name (i := 4) scRaceF.nd rfl (Or.inl rfl))
        (pss_one (ps_for PassesOwn.never rfl (pi_enum rfl B.enumerate (pa_cons (pe_call GM.ok hr rfl GM.mg GM.kp GM.bd .nil pass0 (pa_cons (pv 0) (pa_cons (pv 1) (pa_cons (pv 2) (pa_cons (pv 4) pa_nil))))) pa_nil)) (pg_tup rfl (pgs_cons (pg_name (i := 5) scRaceF.nd rfl (Or.inl rfl)) (pgs_cons (pg_name (i := 6) scRaceF.nd rfl (Or.inl rfl)) pgs_nil)))
          (pss_one (ps_dput hu (pv 3) (pe_slice sl_str (pv 4) po_none (po_some (pv 5))) (pv 6) rfl)))))
      p6))))), ?_⟩
    refine ⟨_, rfl, q, rfl, h2, h26, _, rfl, _, rfl, q, a, rfl, h2, h26, by lia, oa, ha, fun H1 s1 => ⟨_, rfl, _, rfl, q, b, rfl, h2, h26, by lia, ob, hb, fun H2 s2 => ?_⟩⟩
    refine ⟨_, rfl, _, rfl, a, b, rfl, rfl, _, rfl, ?_⟩
    rw [decide_eq_false nab]
    refine iteF ⟨_, rfl, _, rfl, b, a, rfl, rfl, _, rfl, ?_⟩
    rw [decide_eq_false nba]
    refine iteF ?_
    intro d hd0
    have s02 : Same H H2 := s1.trans s2
    have Hd : H d = none := s02.free hd0
    refine ⟨_, rfl, _, rfl, by show 2 ≤ sizeLine; decide, fun T hT => ⟨T, rfl, ⟨_, SqT.of upd_same⟩, ?_⟩⟩
    have ndT : d ≠ T := by
      rintro rfl
      rw [upd_same] at hT
      cases hT
    have hT2 : H2 T = none := by rw [upd_ne ndT.symm] at hT; exact hT
    have HT : H T = none := s02.free hT2
    refine for_tup (xs := [V.str (tx a), V.str (tx b)]) (fun i σ H3 => ∃ v4 v5 v6 kvs, σ = [some (vi q), some (.str (tx a)), some (.str (tx b)), some (.ref d), v4, v5, v6, none] ∧ Same H H3 ∧ H3 T = some (.tup [V.str (tx a), V.str (tx b)]) ∧ H3 d = some (.dK kvs) ∧ kvs.length ≤ i * 1001 ∧ CovD kvs q a b (fun s => (0 < i ∧ s <+: a) ∨ (1 < i ∧ s <+: b)))
      ⟨none, none, none, [], rfl, (s02.upd Hd).upd HT, upd_same, by rw [upd_ne ndT]; exact upd_same, Nat.zero_le _, fun s hs => by rcases hs with ⟨h, _⟩ | ⟨h, _⟩ <;> lia⟩ (fun _ _ H3 _ zz => by obtain ⟨_, _, _, _, _, _, h, _⟩ := zz; exact SqT.of h) ?_ ?_
    · rintro i x σ H3 hx ⟨v4, v5, v6, kvs, rfl, s3, h3T, h3d, hk3, cov3⟩
      obtain ⟨t, rfl, lt, hi2, hcov⟩ : ∃ t, x = .str (tx t) ∧ t.length ≤ 30 ∧ i < 2 ∧ ∀ s, ((0 < i + 1 ∧ s <+: a) ∨ (1 < i + 1 ∧ s <+: b)) → ((0 < i ∧ s <+: a) ∨ (1 < i ∧ s <+: b)) ∨ s <+: t := by
        match i, hx with
        | 0, hx => exact ⟨a, (Option.some.inj hx).symm, la, by lia, fun s hs => by rcases hs with ⟨_, h⟩ | ⟨h, _⟩; exact .inr h; lia⟩
        | 1, hx => exact ⟨b, (Option.some.inj hx).symm, lb, by lia, fun s hs => by rcases hs with ⟨_, h⟩ | ⟨_, h⟩; exact .inl (.inl ⟨by lia, h⟩); exact .inr h⟩
      refine ⟨_, rfl, _, rfl, _, rfl, _, rfl, q, a, b, t, rfl, h2, h26, ha, hb, la, lb, lt, fun M H4 hM s4 h4M => ?_⟩
      have ndM : d ≠ M := ne_of_none h3d hM
      have hml : ((margT q a b t).map V.int).length = t.length + 1 := by rw [List.length_map, margT_len]
      refine ⟨M, rfl, ⟨_, SqL.of h4M⟩, for_enum (xs := (margT q a b t).map V.int) (fun j σ H5 => ∃ v5 v6 kvs', σ = [some (vi q), some (.str (tx a)), some (.str (tx b)), some (.ref d), some (.str (tx t)), v5, v6, none] ∧ Same H H5 ∧ H5 T = some (.tup [V.str (tx a), V.str (tx b)]) ∧ H5 M = some (.lst ((margT q a b t).map V.int)) ∧ H5 d = some (.dK kvs') ∧ kvs'.length ≤ i * 1001 + j ∧
          CovD kvs' q a b (fun s => ((0 < i ∧ s <+: a) ∨ (1 < i ∧ s <+: b)) ∨ ∃ m, m < j ∧ s = t.take m)) ⟨_, _, kvs, rfl, s3.trans s4, s4 _ _ h3T, h4M, s4 _ _ h3d, by lia, fun s hs => ?_⟩ (fun _ _ H5 zz => by obtain ⟨_, _, _, _, _, _, h, _⟩ := zz; exact SqL.of h) ?_ ?_⟩
      · rcases hs with h | ⟨m, hm, _⟩
        · exact cov3 s h
        · lia
      · rintro j y T' σ H5 hy hT' ⟨v5, v6, kvs', rfl, s5, h5T, h5M, h5d, hk5, cov5⟩
        have hj : j < t.length + 1 := by have := (List.getElem?_eq_some_iff.mp hy).1; lia
        have ey : y = .int (marg q a b (t.take j)) := by
          rw [List.getElem?_map, margT_get (by lia)] at hy
          exact (Option.some.inj hy).symm
        subst ey
        have t6 : Same H5 (upd H5 T' (.tup [.int j, .int (marg q a b (t.take j))])) := (Same.refl _).upd hT'
        have h6d := t6 _ _ h5d
        have h6T := t6 _ _ h5T
        have h6M := t6 _ _ h5M
        have s6 := s5.trans t6
        refine ⟨T', _, rfl, SqT.of upd_same, rfl, _, _, rfl, _, _, rfl, rfl, ?_⟩
        generalize upd H5 T' (.tup [.int j, .int (marg q a b (t.take j))]) = H6 at h6d h6T h6M s6
        have ndT6 : T ≠ d := ndT.symm
        refine ⟨_, rfl, _, rfl, _, rfl, _, rfl, _, rfl, t, rfl, sz (by lia), ?_⟩
        rw [cutL_to]
        refine ⟨d, _, rfl, DPut.k (k := Sum.inr (tx (t.take j))) h6d (by rw [sizeLine_eq]; lia), ?_⟩
        refine ⟨_, _, _, rfl, s6.upd Hd, by rw [upd_ne ndT6]; exact h6T, by rw [upd_ne ndM.symm]; exact h6M, upd_same, ?_, cov5.put _ fun s hs => ?_⟩
        · have := length_putK kvs' (Sum.inr (tx (t.take j)) : Key) (.int (marg q a b (t.take j)))
          lia
        · rcases hs with h | ⟨m, hm, e⟩
          · exact .inl (.inl h)
          · by_cases z : m = j
            · exact .inr (by rw [e, z])
            · exact .inl (.inr ⟨m, by lia, e⟩)
      · rintro σ H5 ⟨v5, v6, kvs', rfl, s5, h5T, h5M, h5d, hk5, cov5⟩
        refine ⟨_, _, _, kvs', rfl, s5, h5T, h5d, by rw [hml] at hk5; rw [Nat.succ_mul]; lia, fun s hs => cov5 s ?_⟩
        rcases hcov s hs with h | h
        · exact .inl h
        · refine .inr ⟨s.length, ?_, List.prefix_iff_eq_take.mp h⟩
          rw [hml]
          have := h.length_le
          lia
    · rintro σ H3 ⟨v4, v5, v6, kvs, rfl, s3, h3T, h3d, hk3, cov3⟩
      refine r6 v4 v5 v6 none d kvs H3 s3 h3d fun s hs => cov3 s ?_
      rcases hs with h | h
      · exact .inl ⟨by show 0 < 2; decide, h⟩
      · exact .inr ⟨by show 1 < 2; decide, h⟩
end
end FW
namespace FW
open PySem L2 L2T
section
variable {κ : Type} [DecidableEq κ]
theorem putK_mem {kvs : List (κ × V)} {k : κ} {v : V} {p : κ × V} (h : p ∈ putK kvs k v) : p = (k, v) ∨ p ∈ kvs := by
  unfold putK at h
  split at h
  · obtain ⟨x, hx, e⟩ := List.mem_map.mp h
    by_cases z : x.1 = k
    · rw [if_pos z] at e
      exact .inl (by rw [← e, z])
    · rw [if_neg z] at e
      exact .inr (e ▸ hx)
  · rcases List.mem_append.mp h with z | z
    · exact .inr z
    · exact .inl (List.mem_singleton.mp z)
theorem putK_key (kvs : List (κ × V)) (k : κ) (v : V) : ∃ u, (k, u) ∈ putK kvs k v := by
  unfold putK
  split
  · rename_i h
    obtain ⟨x, hx, e⟩ := List.any_eq_true.mp h
    have e' := of_decide_eq_true e
    exact ⟨v, List.mem_map.mpr ⟨x, hx, by rw [if_pos e', e']⟩⟩
  · exact ⟨v, List.mem_append.mpr (.inr (List.mem_singleton.mpr rfl))⟩
theorem putK_old {kvs : List (κ × V)} {j : κ} {u : V} (k : κ) (v : V) (h : (j, u) ∈ kvs) : ∃ u', (j, u') ∈ putK kvs k v := by
  unfold putK
  split
  · by_cases z : j = k
    · exact ⟨v, List.mem_map.mpr ⟨_, h, by rw [if_pos z]⟩⟩
    · exact ⟨u, List.mem_map.mpr ⟨_, h, by rw [if_neg z]⟩⟩
  · exact ⟨u, List.mem_append.mpr (.inl h)⟩
end
theorem mergeK_mem : ∀ {more kvs : List (Key × V)} {p : Key × V}, p ∈ mergeK kvs more → p ∈ kvs ∨ p ∈ more
  | [], kvs, p, h => .inl h
  | x :: r, kvs, p, h => by
    rcases mergeK_mem (more := r) (kvs := putK kvs x.1 x.2) h with z | z
    · rcases putK_mem z with z | z
      · exact .inr (z ▸ List.mem_cons_self)
      · exact .inl z
    · exact .inr (List.mem_cons_of_mem _ z)
theorem mergeK_old : ∀ {more kvs : List (Key × V)} {j : Key} {u : V}, (j, u) ∈ kvs → ∃ u', (j, u') ∈ mergeK kvs more
  | [], kvs, j, u, h => ⟨u, h⟩
  | x :: r, kvs, j, u, h => by
    obtain ⟨u1, h1⟩ := putK_old x.1 x.2 h
    exact mergeK_old (more := r) h1
theorem mergeK_new : ∀ {more kvs : List (Key × V)} {j : Key} {u : V}, (j, u) ∈ more → ∃ u', (j, u') ∈ mergeK kvs more
  | x :: r, kvs, j, u, h => by
    rcases List.mem_cons.mp h with z | z
    · subst z
      obtain ⟨u1, h1⟩ := putK_key kvs j u
      exact mergeK_old (more := r) h1
    · exact mergeK_new (more := r) z
theorem prefs_at {a : List Nat} {k : Nat} (h : k ≤ a.length) : ((prefs a).map fun s => V.str (tx s))[k]? = some (.str (tx (a.take k))) := by
  unfold prefs
  rw [List.getElem?_map, List.getElem?_map, List.getElem?_range (by lia)]
  rfl
noncomputable def HalfD (H : Hp) (q : Nat) (a b : List Nat) (n : Nat) (kvs : List (Key × V)) : Prop := kvs.length ≤ n ∧ (∀ p ∈ kvs, ∃ j r, j < n ∧ p = (.inr (tx (a.take j)), V.ref r) ∧ H r = some (.lst (vts (nxtRow q a b (a.take j))))) ∧ ∀ j, j < n → ∃ v, ((.inr (tx (a.take j)) : Key), v) ∈ kvs
noncomputable def spLob : Sp := fun vs H Q _ => ∃ (q : Nat) (a b : List Nat), vs = [vi q, .str (tx a), .str (tx b)] ∧ 2 ≤ q ∧ q ≤ 26 ∧ a ≠ [] ∧ b ≠ [] ∧ a.length ≤ 30 ∧ b.length ≤ 30 ∧ (∀ c ∈ a, c ∈ alpha.take q) ∧ (∀ c ∈ b, c ∈ alpha.take q) ∧ ¬ b <:+: a ∧
  ∀ p kvs H', H p = none → Same H H' → H' p = some (.dK kvs) → HalfD H' q a b a.length kvs → Q (.ref p) H'
theorem HalfD.put {H H' : Hp} {q : Nat} {a b : List Nat} {n : Nat} {kvs : List (Key × V)} {r : Addr} (h : HalfD H q a b n kvs) (hs : ∀ r xs, H r = some (.lst xs) → H' r = some (.lst xs)) (hr : H' r = some (.lst (vts (nxtRow q a b (a.take n))))) :
    HalfD H' q a b (n + 1) (putK kvs (.inr (tx (a.take n))) (.ref r)) := by
  refine ⟨Nat.le_trans (length_putK _ _ _) (Nat.succ_le_succ h.1), fun p hp => ?_, fun j hj => ?_⟩
  · rcases putK_mem hp with z | z
    · exact ⟨n, r, Nat.lt_succ_self _, z, hr⟩
    · obtain ⟨j, r', h1, h2, h3⟩ := h.2.1 p z
      exact ⟨j, r', Nat.lt_succ_of_lt h1, h2, hs _ _ h3⟩
  · by_cases e : j = n
    · subst e
      exact putK_key _ _ _
    · obtain ⟨v, hv⟩ := h.2.2 j (by lia)
      exact putK_old _ _ hv
theorem HalfD.keep {H H' : Hp} {q : Nat} {a b : List Nat} {n : Nat} {kvs : List (Key × V)} (h : HalfD H q a b n kvs) (hs : ∀ r xs, H r = some (.lst xs) → H' r = some (.lst xs)) : HalfD H' q a b n kvs :=
  ⟨h.1, fun p hp => let ⟨j, r, h1, h2, h3⟩ := h.2.1 p hp; ⟨j, r, h1, h2, hs _ _ h3⟩, h.2.2⟩
section
variable {P : Program} {w : World} {K : PySem.W.Frag} {mg : Str → Option Value} {base : Heap}
noncomputable abbrev NLb : List Str := ["sides", "word", "other", "states", "other_states", "leads", "other_leads", "reached", "leads_of", "count", "row", "other_row"]
theorem scLob : FnScope NLb ["sides", "word", "other"] (defScope sLeadsB) := ⟨rfl, rfl, rfl, by decide +kernel, rfl, by decide +kernel, by decide +kernel⟩
theorem ok_lob {f fO fL fR : Addr} {fd dO dL dR : FuncData} (F : Fun K "leads_of_beginnings" "leads_of_beginnings" sLeadsB f fd) (B : Bl mg) (GO : Gf P w K mg base 1 "beginnings_of" ["word"] spBegO fO dO)
    (GL : Gf P w K mg base 3 "leads_by_count" ["sides", "word"] spLeads fL dL) (GR : Gf P w K mg base 3 "reached_by_count" ["word", "throws"] spRe fR dR) : FnOk P w K mg base CX0 4 f fd ["sides", "word", "other"] spLob := by
  refine F.ok scLob (fun vs H Q E h => ?_) (fun cdv A outer s H vs Q E hr h => ?_)
  · obtain ⟨q, a, b, rfl, _⟩ := h
    rfl
  · obtain ⟨q, a, b, rfl, h2, h26, ha, hb, la, lb, ofa, ofb, hba, k⟩ := h
    have hu := hu_of hr
    have hr1 := hr.mono (show 1 ≤ 3 by decide)
    refine ⟨_, pss_cons (ps_set (i := 3) scLob.nd rfl (Or.inr rfl) (pe_call GO.ok hr1 rfl GO.mg GO.kp GO.bd .nil pass0 (pa_cons (pv 1) pa_nil)))
      (pss_cons (ps_set (i := 4) scLob.nd rfl (Or.inr rfl) (pe_call GO.ok hr1 rfl GO.mg GO.kp GO.bd .nil pass0 (pa_cons (pv 2) pa_nil)))
      (pss_cons (ps_set (i := 5) scLob.nd rfl (Or.inl rfl) (pe_call GL.ok hr rfl GL.mg GL.kp GL.bd .nil pass0 (pa_cons (pv 0) (pa_cons (pv 1) pa_nil))))
      (pss_cons (ps_set (i := 6) scLob.nd rfl (Or.inl rfl) (pe_call GL.ok hr rfl GL.mg GL.kp GL.bd .nil pass0 (pa_cons (pv 0) (pa_cons (pv 2) pa_nil))))
      (pss_cons (ps_set (i := 7) scLob.nd rfl (Or.inl rfl) (pe_call GR.ok hr rfl GR.mg GR.kp GR.bd .nil pass0 (pa_cons (pv 2) (pa_cons (pv 1) pa_nil))))
      (pss_cons (ps_set (i := 8) scLob.nd rfl (Or.inl rfl) pe_dnewK)
      (pss_cons (ps_for PassesOwn.never rfl (pi_enum rfl B.enumerate (pa_cons (pv 5) pa_nil)) (pg_tup rfl (pgs_cons (pg_name (i := 9) scLob.nd rfl (Or.inl rfl)) (pgs_cons (pg_name (i := 10) scLob.nd rfl (Or.inl rfl)) pgs_nil)))
        (pss_cons (ps_set (i := 11) scLob.nd rfl (Or.inl rfl) (pe_ix ix_list (pv 6) (pe_ix ix_list (pv 7) (pv 9) (fun _ _ => rfl)) (fun _ _ => rfl)))
        (pss_one (ps_dput hu (pv 8) (pe_ix ix_list (pv 3) (pv 9) (fun _ _ => rfl)) (pe_lc (N := NLb) (sc := defScope sLeadsB) (own := ["own", "far"]) (cap := [3, 4]) (g := gTup K 2 (gCons (gName 0) (gCons (gName 1) gNil)))
          (te := tMaxL (tCons (tOp (rIxL K) (tVar 2) (tVar 0)) (tCons (tOp (rIxL K) (tVar 3) (tVar 1)) tNil))) ⟨rfl, by decide +kernel, by decide +kernel, by decide +kernel, by decide +kernel⟩
          (pi_zip rfl B.zip (pa_cons (pv 10) (pa_cons (pv 11) pa_nil)))
          (fun _ _ _ _ _ => pg_tup rfl (pgs_cons (pg_name (i := 0) (show (lcN NLb ["own", "far"] [3, 4]).Nodup by decide +kernel) rfl (Or.inl rfl) (.inr rfl)) (pgs_cons (pg_name (i := 1) (show (lcN NLb ["own", "far"] [3, 4]).Nodup by decide +kernel) rfl (Or.inl rfl) (.inr rfl)) pgs_nil)))
          (fun _ _ _ _ _ => pif_nil) (fun _ _ _ _ _ => pe_maxL rfl rfl B.max rfl B.len (pa_cons (pe_ix ix_list (pv 2) (pv 0) (fun _ _ => rfl)) (pa_cons (pe_ix ix_list (pv 3) (pv 1) (fun _ _ => rfl)) pa_nil)))) rfl))))
      (pss_one (ps_ret (pv 8))))))))), ?_⟩
    refine ⟨_, rfl, a, rfl, la, fun s1 H1 f1 t1 d1 => ?_⟩
    refine ⟨_, rfl, b, rfl, lb, fun s2 H2 f2 t2 d2 => ?_⟩
    refine ⟨_, rfl, _, rfl, q, a, rfl, h2, h26, ha, by lia, ofa, fun l1 rs1 H3 f3 t3 d3 e3 => ?_⟩
    refine ⟨_, rfl, _, rfl, q, b, rfl, h2, h26, hb, by lia, ofb, fun l2 rs2 H4 f4 t4 d4 e4 => ?_⟩
    refine ⟨_, rfl, _, rfl, b, a, rfl, hb, by lia, by lia, fun re H5 f5 t5 d5 => ?_⟩
    have g1 := t5 _ _ (t4 _ _ (t3 _ _ (t2 _ _ d1)))
    have g2 := t5 _ _ (t4 _ _ (t3 _ _ d2))
    have g3 := t5 _ _ (t4 _ _ d3)
    have g4 := t5 _ _ d4
    have k3 := (e3.same t4).same t5
    have k4 := e4.same t5
    have s05 : Same H H5 := (((t1.trans t2).trans t3).trans t4).trans t5
    refine fun d hd => ?_
    have rl : (rs1.map V.ref).length = a.length := by rw [List.length_map, k3.1]
    have nl : ∀ {r : Addr} {xs : List V} {kvs : List (Key × V)} {H' : Hp}, H' r = some (.lst xs) → H' d = some (.dK kvs) → r ≠ d := fun e1 e2 z => by rw [z, e2] at e1; cases e1
    refine ⟨_, rfl, l1, rfl, ⟨_, SqL.of (by rw [upd_ne (ne_of_none g3 hd)]; exact g3)⟩, for_enum (xs := rs1.map V.ref) (fun i σ H6 => ∃ v9 v10 v11 kvs, σ = [some (vi q), some (.str (tx a)), some (.str (tx b)), some (.ref s1), some (.ref s2), some (.ref l1), some (.ref l2), some (.ref re), some (.ref d), v9, v10, v11] ∧ Same H5 H6 ∧ H6 d = some (.dK kvs) ∧ HalfD H6 q a b i kvs)
      ⟨none, none, none, [], rfl, (Same.refl _).upd hd, upd_same, Nat.le_refl _, fun p hp => (nomatch hp), fun j hj => absurd hj (Nat.not_lt_zero _)⟩ (fun i σ H6 zz => by obtain ⟨_, _, _, _, _, s6, _⟩ := zz; exact SqL.of (s6 _ _ g3)) ?_ ?_⟩
    · rintro i y T σ H6 hy hT ⟨v9, v10, v11, kvs, rfl, s6, h6, hd6⟩
      have hi : i < a.length := by have := (List.getElem?_eq_some_iff.mp hy).1; lia
      obtain ⟨r1, er1⟩ : ∃ r, rs1[i]? = some r := ⟨_, List.getElem?_eq_getElem (by rw [k3.1]; exact hi)⟩
      rw [List.getElem?_map, er1] at hy
      obtain rfl : y = .ref r1 := (Option.some.inj hy).symm
      have hm : lng b (a.take i) < b.length := by
        have := lng_le b (a.take i)
        have n : lng b (a.take i) ≠ b.length := fun z => hba ((lng_full.mp z).isInfix.trans (List.take_prefix i a).isInfix)
        lia
      obtain ⟨r2, er2⟩ : ∃ r, rs2[lng b (a.take i)]? = some r := ⟨_, List.getElem?_eq_getElem (by rw [k4.1]; exact hm)⟩
      refine ⟨T, _, rfl, SqT.of upd_same, rfl, _, _, rfl, _, _, rfl, rfl, ?_⟩
      have s7 : Same H6 (upd H6 T (.tup [.int i, .ref r1])) := (Same.refl _).upd hT
      have s57 := s6.trans s7
      have h7 := s7 _ _ h6
      have hd7 : HalfD (upd H6 T (.tup [.int i, .ref r1])) q a b i kvs := hd6.keep fun r xs e => s7 _ _ e
      generalize upd H6 T (.tup [.int i, .ref r1]) = H7 at s57 h7 hd7
      refine ⟨_, rfl, _, rfl, _, rfl, re, _, _, _, rfl, rfl, SqL.of (s57 _ _ d5), atI_nat (by rw [List.getElem?_map, reTab_get (by lia)]; rfl), l2, _, _, _, rfl, rfl, SqL.of (s57 _ _ g4), atI_nat (by rw [List.getElem?_map, er2]; rfl), ?_⟩
      have q1 := s57 _ _ (k3.2 _ _ er1)
      have q2 := s57 _ _ (k4.2 _ _ er2)
      have w1 : ∀ c, c < q → ((rowL q a i).map vi)[c]? = some (vi (lng a (a.take i ++ [97 + c]))) := fun c hc => by unfold rowL; rw [List.getElem?_map, List.getElem?_map, List.getElem?_range hc]; rfl
      have w2 : ∀ c, c < q → ((rowL q b (lng b (a.take i))).map vi)[c]? = some (vi (lng b (a.take i ++ [97 + c]))) := fun c hc => by
        unfold rowL
        rw [List.getElem?_map, List.getElem?_map, List.getElem?_range hc]
        show some (vi (lng b (b.take (lng b (a.take i)) ++ [97 + c]))) = _
        rw [lng_snoc]
      have wl : ((rowL q a i).map vi).length = q := by rw [List.length_map, rowL_len]
      refine ⟨_, rfl, _, rfl, r1, r2, rfl, ⟨_, SqL.of q1⟩, ⟨_, SqL.of q2⟩, lcb1 q (fun c => .str (tx (nxt a b (a.take i ++ [97 + c])))) (sz (by lia))
        (fun c H' hc hs => ⟨_, _, _, _, SqL.of (hs _ _ q1), SqL.of (hs _ _ q2), w1 c hc, w2 c hc⟩) (fun H' hs => ⟨_, _, SqL.of (hs _ _ q1), SqL.of (hs _ _ q2), .inl (Nat.le_of_eq wl)⟩) ?_ ?_⟩
      · rintro c H8 K1 hc hs k1 v H9 ⟨T2, x, y, hT2, hx, hy, rfl, rfl⟩
        obtain rfl : x = vi (lng a (a.take i ++ [97 + c])) := Option.some.inj ((hx _ (SqL.of (hs _ _ q1))).symm.trans (w1 c hc))
        obtain rfl : y = vi (lng b (a.take i ++ [97 + c])) := Option.some.inj ((hy _ (SqL.of (hs _ _ q2))).symm.trans (w2 c hc))
        have s9 : Same H8 (upd H8 T2 (.tup [vi (lng a (a.take i ++ [97 + c])), vi (lng b (a.take i ++ [97 + c]))])) := (Same.refl _).upd hT2
        refine ⟨T2, _, rfl, SqT.of upd_same, rfl, _, _, rfl, _, _, rfl, rfl, lcExt_set2 (by decide) (by decide), ?_⟩
        have n1 := lng_le a (a.take i ++ [97 + c])
        have n2 := lng_le b (a.take i ++ [97 + c])
        refine ⟨_, rfl, _, rfl, s1, _, _, _, rfl, rfl, SqL.of (s9 _ _ (hs _ _ (s57 _ _ g1))), atI_nat (prefs_at n1), _, rfl, _, rfl, s2, _, _, _, rfl, rfl, SqL.of (s9 _ _ (hs _ _ (s57 _ _ g2))), atI_nat (prefs_at n2), _, _, rfl, ?_, ?_, ?_⟩
        · rw [List.length_take]; exact sz (by lia)
        · rw [List.length_take]; exact sz (by lia)
        · rw [nxt_lng]
          exact k1 _ s9
      · intro D H' hD hs he
        refine ⟨_, rfl, _, rfl, _, rfl, s1, _, _, _, rfl, rfl, SqL.of (hs _ _ (s57 _ _ g1)), atI_nat (prefs_at (Nat.le_of_lt hi)), d, _, rfl, DPut.k (k := .inr (tx (a.take i))) (hs _ _ h7) ?_, ?_⟩
        · have := hd7.1
          exact sz' (by lia)
        · refine ⟨_, _, _, _, rfl, (s57.trans hs).upd hd, upd_same, (hd7.keep fun r xs e => hs _ _ e).put (H' := upd H' d _) (fun r xs e => by rw [upd_ne (nl e (hs _ _ h7))]; exact e) ?_⟩
          rw [upd_ne (nl he (hs _ _ h7)), he]
          unfold vts nxtRow
          rw [List.map_map]
          rfl
    · rintro σ H6 ⟨v9, v10, v11, kvs, rfl, s6, h6, hd6⟩
      rw [rl] at hd6
      exact ⟨_, rfl, k d kvs H6 (s05.free hd) (s05.trans s6) h6 hd6⟩
end
noncomputable def TabD (H : Hp) (q : Nat) (a b : List Nat) (kvs : List (Key × V)) : Prop := kvs.length ≤ 2000 ∧ (∀ p ∈ kvs, ∃ s r, p = (.inr (tx s), V.ref r) ∧ isSt a b s = true ∧ s ≠ a ∧ s ≠ b ∧ H r = some (.lst (vts (nxtRow q a b s)))) ∧
  ∀ s, isSt a b s = true → s ≠ a → s ≠ b → ∃ v, ((.inr (tx s) : Key), v) ∈ kvs
noncomputable def spLbs : Sp := fun vs H Q _ => ∃ (q : Nat) (a b : List Nat), vs = [vi q, .str (tx a), .str (tx b)] ∧ 2 ≤ q ∧ q ≤ 26 ∧ a ≠ [] ∧ b ≠ [] ∧ a.length ≤ 30 ∧ b.length ≤ 30 ∧ (∀ c ∈ a, c ∈ alpha.take q) ∧ (∀ c ∈ b, c ∈ alpha.take q) ∧ ¬ a <:+: b ∧ ¬ b <:+: a ∧
  ∀ p kvs H', H p = none → Same H H' → H' p = some (.dK kvs) → TabD H' q a b kvs → Q (.ref p) H'
theorem take_ne {a : List Nat} {j : Nat} (h : j < a.length) : a.take j ≠ a := fun z => by
  have := congrArg List.length z
  rw [List.length_take] at this
  lia
theorem take_ne' {a b : List Nat} {j : Nat} (h : ¬ b <:+: a) : a.take j ≠ b := fun z => h (z ▸ (List.take_prefix j a).isInfix)
section
variable {P : Program} {w : World} {K : PySem.W.Frag} {mg : Str → Option Value} {base : Heap}
theorem scLbs : FnScope ["sides", "one", "other", "leads"] ["sides", "one", "other"] (defScope sLeadsS) := ⟨rfl, rfl, rfl, by decide +kernel, rfl, by decide +kernel, by decide +kernel⟩
theorem ok_lbs {f fB : Addr} {fd dB : FuncData} (F : Fun K "leads_by_state" "leads_by_state" sLeadsS f fd) (GB : Gf P w K mg base 4 "leads_of_beginnings" ["sides", "word", "other"] spLob fB dB) : FnOk P w K mg base CX0 5 f fd ["sides", "one", "other"] spLbs := by
  refine F.ok scLbs (fun vs H Q E h => ?_) (fun cdv A outer s H vs Q E hr h => ?_)
  · obtain ⟨q, a, b, rfl, _⟩ := h
    rfl
  · obtain ⟨q, a, b, rfl, h2, h26, ha, hb, la, lb, ofa, ofb, hab, hba, k⟩ := h
    refine ⟨_, pss_cons (ps_set (i := 3) scLbs.nd rfl (Or.inl rfl) (pe_call GB.ok hr rfl GB.mg GB.kp GB.bd .nil pass0 (pa_cons (pv 0) (pa_cons (pv 1) (pa_cons (pv 2) pa_nil)))))
      (pss_cons (ps_expr (pe_dupd (pv 3) (pe_call GB.ok hr rfl GB.mg GB.kp GB.bd .nil pass0 (pa_cons (pv 0) (pa_cons (pv 2) (pa_cons (pv 1) pa_nil)))) ⟨rfl, rfl, rfl, rfl⟩))
      (pss_one (ps_ret (pv 3)))), ?_⟩
    refine ⟨_, rfl, _, rfl, _, rfl, q, a, b, rfl, h2, h26, ha, hb, la, lb, ofa, ofb, hba, fun p1 kv1 H1 f1 t1 d1 e1 => ?_⟩
    refine ⟨_, rfl, p1, rfl, .inl ⟨_, .inl d1⟩, _, rfl, _, rfl, _, rfl, q, b, a, rfl, h2, h26, hb, ha, lb, la, ofb, ofa, hab, fun p2 kv2 H2 f2 t2 d2 e2 => ?_⟩
    have n12 : p1 ≠ p2 := ne_of_none d1 f2
    have l1 := e1.1
    have l2 := e2.1
    refine ⟨p2, kv1, kv2, rfl, n12, t2 _ _ d1, d2, sz (by lia), ?_⟩
    have st : Same H (upd H2 p1 (.dK (mergeK kv1 kv2))) := (t1.trans t2).upd f1
    have nr : ∀ {r : Addr} {xs : List V}, H2 r = some (.lst xs) → r ≠ p1 := fun e z => by rw [z, t2 _ _ d1] at e; cases e
    refine ⟨_, rfl, k p1 _ _ f1 st upd_same ⟨Nat.le_trans (length_mergeK _ _) (by lia), fun p hp => ?_, fun s hs sa sb => ?_⟩⟩
    · rcases mergeK_mem hp with z | z
      · obtain ⟨j, r, hj, ep, er⟩ := e1.2.1 p z
        exact ⟨a.take j, r, ep, isSt_takeA a b j, take_ne hj, take_ne' hba, by rw [upd_ne (nr (t2 _ _ er))]; exact t2 _ _ er⟩
      · obtain ⟨j, r, hj, ep, er⟩ := e2.2.1 p z
        rw [nxtRow_comm] at er
        exact ⟨b.take j, r, ep, isSt_takeB a b j, take_ne' hab, take_ne hj, by rw [upd_ne (nr er)]; exact er⟩
    · unfold isSt at hs
      rw [Bool.or_eq_true, decide_eq_true_eq, decide_eq_true_eq] at hs
      rcases hs with z | z
      · have ez := List.prefix_iff_eq_take.mp z
        have zl := z.length_le
        have lt : s.length < a.length := by
          have n : s.length ≠ a.length := fun q => sa (z.eq_of_length q)
          lia
        obtain ⟨v, hv⟩ := e1.2.2 s.length lt
        rw [← ez] at hv
        exact mergeK_old hv
      · have ez := List.prefix_iff_eq_take.mp z
        have zl := z.length_le
        have lt : s.length < b.length := by
          have n : s.length ≠ b.length := fun q => sb (z.eq_of_length q)
          lia
        obtain ⟨v, hv⟩ := e2.2.2 s.length lt
        rw [← ez] at hv
        exact mergeK_new hv
end
end FW
namespace FW
open PySem L2 L2T
theorem dk_zip (l : List (List Nat)) (ps : List Int) : List.zip (ksK (l.map tx)) (ps.map V.int) = dk (l.zip ps) := by
  unfold ksK dk
  rw [List.map_map, List.zip_map]
  rfl
noncomputable def eqS (q : Nat) (a b : List Nat) (l : List (List Nat × Int)) (s : List Nat) : Bool := decide ((q : Int) * prt l s = sumD l (nxtRow q a b s))
theorem tab_list {H : Hp} {q : Nat} {a b : List Nat} : ∀ {kvs : List (Key × V)}, (∀ p ∈ kvs, ∃ s r, p = (.inr (tx s), V.ref r) ∧ isSt a b s = true ∧ s ≠ a ∧ s ≠ b ∧ H r = some (.lst (vts (nxtRow q a b s)))) →
    ∃ ss : List (List Nat), ss.length = kvs.length ∧ (∀ (i : Nat) s, ss[i]? = some s → ∃ v, kvs[i]? = some (.inr (tx s), v)) ∧ ∀ s ∈ ss, isSt a b s = true ∧ s ≠ a ∧ s ≠ b
  | [], _ => ⟨[], rfl, fun i s h => by simp at h, fun s h => by cases h⟩
  | p :: kvs, h => by
    obtain ⟨ss, e1, e2, e3⟩ := tab_list (kvs := kvs) fun p' hp => h p' (List.mem_cons_of_mem _ hp)
    obtain ⟨s, r, rfl, h1, h2, h3, h4⟩ := h p List.mem_cons_self
    refine ⟨s :: ss, by rw [List.length_cons, List.length_cons, e1], fun i s' hi => ?_, fun s' hs => ?_⟩
    · cases i with
      | zero =>
        have e : s = s' := by simpa using hi
        exact ⟨_, by rw [← e]; rfl⟩
      | succ i =>
        obtain ⟨v, hv⟩ := e2 i s' (by simpa using hi)
        exact ⟨v, by simpa using hv⟩
    · rcases List.mem_cons.mp hs with z | z
      · exact z ▸ ⟨h1, h2, h3⟩
      · exact e3 s' z
theorem valV_mem {kvs : List (Key × V)} {k : Key} {u : V} (h : (k, u) ∈ kvs) : ∃ v, valV kvs k = some v ∧ (k, v) ∈ kvs := by
  unfold valV
  cases e : kvs.find? fun kv => decide (kv.1 = k) with
  | none =>
    have := List.find?_eq_none.mp e _ h
    simp at this
  | some p =>
    have h1 := List.mem_of_find?_eq_some e
    have h2 := List.find?_some e
    have h3 : p.1 = k := of_decide_eq_true h2
    exact ⟨p.2, rfl, by rw [← h3]; exact h1⟩
noncomputable def spRaceS (C : Addr) : Sp := fun vs H Q _ => ∃ (x : Addr) (q : Nat) (a b : List Nat) (ps : List Int) (wh : Int), vs = [.ref x, vi q, .str (tx a), .str (tx b)] ∧ RaceAt H C x ps wh ∧ 2 ≤ q ∧ q ≤ 26 ∧ a ≠ [] ∧ b ≠ [] ∧ a.length ≤ 30 ∧ b.length ≤ 30 ∧
  (∀ c ∈ a, c ∈ alpha.take q) ∧ (∀ c ∈ b, c ∈ alpha.take q) ∧ ¬ a <:+: b ∧ ¬ b <:+: a ∧ ps.length ≤ 20000 ∧ ∀ H', Same H H' → Q (.bl (raceB q a b ps wh)) H'
section
variable {P : Program} {w : World} {K : PySem.W.Frag} {mg : Str → Option Value} {base : Heap}
noncomputable abbrev NRs : List Str := ["self", "sides", "one", "other", "states", "part_by_state", "leads"]
theorem scRaceS : FnScope NRs ["self", "sides", "one", "other"] (defScope sRaceS) := ⟨rfl, rfl, rfl, by decide +kernel, rfl, by decide +kernel, by decide +kernel⟩
theorem ok_raceS {f C fI fB fA fM fL : Addr} {fd dB dA dM dL : FuncData} (F : Fun K "shows" "Race.shows" sRaceS f fd) (B : Bl mg) (W : RaceC K mg C fI f) (GB : Gf P w K mg base 2 "beginnings" ["one", "other"] spSts fB dB) (GA : Gf P w K mg base 2 "are_wholes" ["numbers", "many"] (spAre K) fA dA)
    (GM : Gf P w K mg base 1 "sum_at" ["numbers", "places"] (spSumD K) fM dM) (GL : Gf P w K mg base 5 "leads_by_state" ["sides", "one", "other"] spLbs fL dL) : FnOk P w K mg base CX0 6 f fd ["self", "sides", "one", "other"] (spRaceS C) := by
  refine F.ok scRaceS (fun vs H Q E h => ?_) (fun cdv A outer s H vs Q E hr h => ?_)
  · obtain ⟨x, q, a, b, ps, wh, rfl, _⟩ := h
    rfl
  · obtain ⟨x, q, a, b, ps, wh, rfl, ⟨dx, l, hx, hl⟩, h2, h26, ha, hb, la, lb, ofa, ofb, hab, hba, hps, k⟩ := h
    have hr1 := hr.mono (show 1 ≤ 5 by decide)
    have hr2 := hr.mono (show 2 ≤ 5 by decide)
    have hu := hu_of hr
    refine ⟨_, pss_cons (ps_set (i := 4) scRaceS.nd rfl (Or.inl rfl) (pe_call GB.ok hr2 rfl GB.mg GB.kp GB.bd .nil pass0 (pa_cons (pv 2) (pa_cons (pv 3) pa_nil))))
      (pss_cons (ps_if (PW.pt (pw_or (pt_cmpR op_lt (pe_fld (pv 0) rfl) pe_int (nomark _)) (pw_or1 (pt_not (pt_val (pe_call GA.ok hr2 rfl GA.mg GA.kp GA.bd .nil pass0 (pa_cons (pe_fld (pv 0) rfl) (pa_cons (pe_callB call_len_seq rfl B.len (by decide +kernel) (pa_cons (pv 4) pa_nil)) pa_nil)))))))) (pss_one (ps_ret pe_bl)) pss_nil)
      (pss_cons (ps_set (i := 5) scRaceS.nd rfl (Or.inr rfl) (pe_dzip rfl rfl B.dict rfl B.zip (pa_cons (pv 4) (pa_cons (pe_fld (pv 0) rfl) pa_nil))))
      (pss_cons (ps_if (PW.pt (pw_or (pt_cmpR op_ne (pe_dget hu (pv 5) (pv 2) (fun _ _ => rfl)) (pe_fld (pv 0) rfl) (nomark _)) (pw_or1 (pt_cmpR op_ne (pe_dget hu (pv 5) (pv 3) (fun _ _ => rfl)) pe_int (nomark _))))) (pss_one (ps_ret pe_bl)) pss_nil)
      (pss_cons (ps_set (i := 6) scRaceS.nd rfl (Or.inr rfl) (pe_call GL.ok hr rfl GL.mg GL.kp GL.bd .nil pass0 (pa_cons (pv 1) (pa_cons (pv 2) (pa_cons (pv 3) pa_nil)))))
      (pss_one (ps_ret (pe_callB (call_all rfl) rfl B.all (by decide +kernel) (pa_cons (pe_lc (N := NRs) (sc := defScope sRaceS) (own := ["state"]) (cap := [1, 5, 6]) (g := gName 0)
        (te := tOp rEq (tOp (rI CMul fun i j => .int (i * j)) (tVar 1) (tDGet (tVar 2) (tVar 0))) (tCall (spSumD K) [] E0 (tCons (tVar 2) (tCons (tDGet (tVar 3) (tVar 0)) tNil))))
        ⟨rfl, by decide +kernel, by decide +kernel, by decide +kernel, by decide +kernel⟩
        (pi_dict (pv 6))
        (fun _ _ _ _ _ => pg_name (i := 0) (show (lcN NRs ["state"] [1, 5, 6]).Nodup by decide +kernel) rfl (Or.inl rfl) (.inr rfl))
        (fun _ _ _ _ _ => pif_nil)
        (fun _ _ _ _ _ => pe_cmpR op_eq (pe_op op_mul (pv 1) (pe_dget hu (pv 2) (pv 0) (fun _ _ => rfl))) (pe_call GM.ok hr1 rfl GM.mg GM.kp GM.bd .nil pass0 (pa_cons (pv 2) (pa_cons (pe_dget hu (pv 3) (pv 0) (fun _ _ => rfl)) pa_nil))) (nomark _))) pa_nil)))))))), ?_⟩
    refine ⟨_, rfl, _, rfl, a, b, rfl, ha, la, lb, fun st H1 fs s1 e1 => ?_⟩
    have el : (sts a b).length = (stS a b).length := by unfold sts; rw [List.length_map]
    refine ⟨_, rfl, x, C, dx, _, _, rfl, s1 _ _ hx, W.cl, W.nw, rfl, _, _, rfl, rfl, _, rfl, ?_⟩
    unfold raceB at k
    by_cases hw : 1 ≤ wh
    · rw [decide_eq_true hw] at k
      rw [decide_eq_false (by show ¬ wh < 1; lia)]
      refine iteF ?_
      refine ⟨_, rfl, x, C, dx, _, _, rfl, s1 _ _ hx, W.cl, W.na, rfl, _, rfl, st, _, rfl, .inl (SqL.of e1), l, ps, (stS a b).length, ?_, SqL.of (s1 _ _ hl), hps, fun H2 s2 => ⟨_, rfl, ?_⟩⟩
      · rw [el]; rfl
      have hx2 := s2 _ _ (s1 _ _ hx)
      have hl2 := s2 _ _ (s1 _ _ hl)
      have hst2 := s2 _ _ e1
      by_cases hn : ps.length = (stS a b).length
      · rw [decide_eq_true hn] at k ⊢
        refine iteF ?_
        have es : sts a b = ((stS a b).map tx).map fun k => kV (.inr k) := by unfold sts; rw [List.map_map]; rfl
        refine ⟨_, rfl, _, rfl, x, C, dx, _, _, rfl, hx2, W.cl, W.na, rfl, st, l, (stS a b).map tx, ps.map V.int, rfl, ?_, SqL.of hl2, by rw [List.length_map, List.length_map, hn], List.Pairwise.map tx (fun x y e z => e (tx_inj z)) (stS_nd a b), fun d hd => ?_⟩
        · rw [← es]; exact SqL.of hst2
        rw [dk_zip]
        show tSeq _ _ _ _ _
        have hd0 := (s1.trans s2).free hd
        have s3 : Same H2 (upd H2 d (.dK (dk (pairsS a b ps)))) := (Same.refl _).upd hd
        have hd3 : upd H2 d (.dK (dk (pairsS a b ps))) d = some (.dK (dk (pairsS a b ps))) := upd_same
        have hx3 := s3 _ _ hx2
        have s03 := (s1.trans s2).trans s3
        have keys := pairs_fst (a := a) (b := b) hn
        have get : ∀ {H' : Hp} {t : List Nat}, H' d = some (.dK (dk (pairsS a b ps))) → isSt a b t = true → DGet H' d (.str (tx t)) (some (.int (prt (pairsS a b ps) t))) := fun {H' t} e ht => by
          have g := DGet.k (k := .inr (tx t)) e
          rw [valV_dk, lookup_some (by rw [keys]; exact mem_stS.mpr ht)] at g
          exact g
        have sa : isSt a b a = true := by have := isSt_takeA a b a.length; rwa [List.take_length] at this
        have sb : isSt a b b = true := by have := isSt_takeB a b b.length; rwa [List.take_length] at this
        change tSeq _ _ _ _ (upd H2 d (.dK (dk (pairsS a b ps))))
        generalize upd H2 d (.dK (dk (pairsS a b ps))) = H3 at s3 hd3 hx3 s03
        refine ⟨_, rfl, _, rfl, d, _, rfl, get hd3 sa, _, rfl, x, C, dx, _, _, rfl, hx3, W.cl, W.nw, rfl, rfl, _, rfl, ?_⟩
        by_cases hA : prt (pairsS a b ps) a = wh
        · rw [decide_eq_true hA] at k
          rw [decide_eq_true (congrArg V.int hA)]
          refine iteF ⟨_, rfl, _, rfl, d, _, rfl, get hd3 sb, rfl, _, rfl, ?_⟩
          by_cases hB : prt (pairsS a b ps) b = 0
          · rw [decide_eq_true hB] at k
            rw [decide_eq_true (congrArg V.int hB)]
            refine iteF ?_
            refine ⟨_, rfl, _, rfl, _, rfl, q, a, b, rfl, h2, h26, ha, hb, la, lb, ofa, ofb, hab, hba, fun p kvs H4 hp s4 h4 tab => ?_⟩
            have hd4 := s4 _ _ hd3
            obtain ⟨ss, sl, si, sp⟩ := tab_list tab.2.1
            refine ⟨_, rfl, p, kvs, rfl, h4, fun o => ?_⟩
            have pl : ∀ {r : Addr} {xs : List V}, H4 r = some (.lst xs) → r ≠ p := fun e z => by rw [z, h4] at e; cases e
            have pd : d ≠ p := ne_of_none hd3 hp
            have s05 : Same H (upd H4 p (.frz o (.dK kvs))) := (s03.trans s4).upd (s03.free hp)
            have hd5 : upd H4 p (.frz o (.dK kvs)) d = some (.dK (dk (pairsS a b ps))) := by rw [upd_ne pd]; exact hd4
            have hp5 : upd H4 p (.frz o (.dK kvs)) p = some (.frz o (.dK kvs)) := upd_same
            have row5 : ∀ p' ∈ kvs, ∃ s r, p' = (.inr (tx s), V.ref r) ∧ upd H4 p (.frz o (.dK kvs)) r = some (.lst (vts (nxtRow q a b s))) := fun p' hp' => by
              obtain ⟨s, r, e, _, _, _, er⟩ := tab.2.1 p' hp'
              exact ⟨s, r, e, by rw [upd_ne (pl er)]; exact er⟩
            generalize upd H4 p (.frz o (.dK kvs)) = H5 at s05 hd5 hp5 row5
            have tl := tab.1
            refine lcb1 kvs.length (fun i => .bl (eqS q a b (pairsS a b ps) (ss.getD i []))) (sz (by lia)) (fun i H' hi hs => ⟨hs _ _ hp5, hi⟩) (fun H' hs => ⟨hs _ _ hp5, Nat.le_refl _⟩) ?_ ?_
            · rintro i H0 K1 hi hs k1 v H6 ⟨rfl, k0, v0, hkv, rfl⟩
              obtain ⟨sx, esx⟩ : ∃ sx, ss[i]? = some sx := ⟨_, List.getElem?_eq_getElem (by lia)⟩
              obtain ⟨v1, hv1⟩ := si i sx esx
              rw [hkv] at hv1
              obtain ⟨rfl, rfl⟩ := Prod.mk.inj (Option.some.inj hv1)
              obtain ⟨v2, hv2, hm2⟩ := valV_mem (List.mem_of_getElem? hkv)
              obtain ⟨s', r, es', er⟩ := row5 _ hm2
              obtain ⟨z1, rfl⟩ := Prod.mk.inj es'
              obtain rfl : sx = s' := tx_inj (Sum.inr.inj z1)
              have hsx := (sp sx (List.mem_of_getElem? esx)).1
              have g3 : DGet H6 p (.str (tx sx)) (some (.ref r)) := .inl ⟨kvs, .inr (tx sx), .inr ⟨o, hs _ _ hp5⟩, rfl, hv2.symm⟩
              have eg : ss.getD i [] = sx := by rw [List.getD_eq_getElem?_getD, esx]; rfl
              refine ⟨lcExt_set (by decide), _, rfl, _, rfl, _, rfl, d, _, rfl, get (hs _ _ hd5) hsx, _, _, rfl, rfl, .inl ⟨by lia, by lia⟩, ?_⟩
              refine ⟨_, rfl, _, rfl, _, rfl, p, _, rfl, g3, d, r, pairsS a b ps, nxtRow q a b sx, rfl, hs _ _ hd5, SqL.of (hs _ _ er), ?_, ?_, fun H7 s7 => ⟨rfl, ?_⟩⟩
              · intro j hj
                obtain ⟨c, _, rfl⟩ := List.mem_map.mp hj
                rw [keys]
                exact mem_stS.mpr (nxt_st a b _)
              · unfold nxtRow
                rw [List.length_map, List.length_range]
                lia
              · have := k1 _ s7
                rw [eg] at this
                unfold eqS at this
                rw [show decide ((q : Int) * prt (pairsS a b ps) sx = sumD (pairsS a b ps) (nxtRow q a b sx)) = decide (V.int ((q : Int) * prt (pairsS a b ps) sx) = V.int (sumD (pairsS a b ps) (nxtRow q a b sx))) from decide_eq_decide.mpr ⟨fun h => congrArg V.int h, fun h => by injection h⟩] at this
                exact this
            · intro D H' hD hs hdd
              refine ⟨D, ss.map (eqS q a b (pairsS a b ps)), rfl, SqL.of ?_, ?_⟩
              · rw [hdd, List.map_map, ← sl]
                congr 2
                exact range_map_getD (fun s => V.bl (eqS q a b (pairsS a b ps) s)) [] ss
              · have := k H' (s05.trans hs)
                rw [Bool.true_and, Bool.true_and, Bool.true_and, Bool.true_and] at this
                have e : (ss.map (eqS q a b (pairsS a b ps))).all id = (stS a b).all fun s => decide (s = a ∨ s = b) || decide (sumR q a b (pairsS a b ps) s q = q * prt (pairsS a b ps) s) := by
                  rw [List.all_map, Bool.eq_iff_iff, List.all_eq_true, List.all_eq_true]
                  constructor
                  · intro h s hs'
                    rw [Bool.or_eq_true, decide_eq_true_eq, decide_eq_true_eq]
                    by_cases z : s = a ∨ s = b
                    · exact .inl z
                    · refine .inr ?_
                      obtain ⟨v, hv⟩ := tab.2.2 s (mem_stS.mp hs') (fun q => z (.inl q)) (fun q => z (.inr q))
                      obtain ⟨i, hi, ei⟩ := List.getElem_of_mem hv
                      obtain ⟨v', hv'⟩ := si i (ss[i]'(by lia)) (List.getElem?_eq_getElem _)
                      rw [List.getElem?_eq_getElem hi, ei] at hv'
                      have e' : s = ss[i]'(by lia) := tx_inj (Sum.inr.inj (Prod.mk.inj (Option.some.inj hv')).1)
                      have := h s (e' ▸ List.getElem_mem _)
                      have t := of_decide_eq_true this
                      rw [← sumD_row h26]
                      exact t.symm
                  · intro h s hs'
                    obtain ⟨z1, z2, z3⟩ := sp s hs'
                    have := h s (mem_stS.mpr z1)
                    rw [Bool.or_eq_true, decide_eq_true_eq, decide_eq_true_eq] at this
                    rcases this with z | z
                    · exact absurd z (by rintro (q | q); exact z2 q; exact z3 q)
                    · refine decide_eq_true ?_
                      rw [sumD_row h26]
                      exact z.symm
                rw [e]
                exact this
          · rw [decide_eq_false hB] at k
            rw [decide_eq_false (by intro z; injection z with z; exact hB z)]
            exact iteT (k H3 s03)
        · rw [decide_eq_false hA] at k
          rw [decide_eq_false (by intro z; injection z with z; exact hA z)]
          exact iteT (k H3 s03)
      · rw [decide_eq_false hn] at k ⊢
        exact iteT (k H2 (s1.trans s2))
    · rw [decide_eq_false hw] at k
      rw [decide_eq_true (by show wh < 1; lia)]
      exact iteT (k H1 s1)
end
end FW
namespace FW
open PySem L2
noncomputable def ltr (sd x : Int) : Nat := alpha.getD (x % sd).toNat 0
theorem alpha_get {k : Nat} (h : k < 26) : alpha[k]? = some (alpha.getD k 0) := by
  have hl : alpha.length = 26 := rfl
  rw [List.getD_eq_getElem?_getD, List.getElem?_eq_getElem (by rw [hl]; exact h)]
  rfl
theorem ltr_ok {sd : Int} (h2 : 2 ≤ sd) (h26 : sd ≤ 26) (x : Int) : (alpha.take sd.toNat)[(x % sd).toNat]? = some (ltr sd x) ∧ ltr sd x ∈ alpha.take sd.toNat ∧ x % sd = (((x % sd).toNat : Nat) : Int) := by
  have h0 : 0 ≤ x % sd := Int.emod_nonneg _ (by lia)
  have h1 : x % sd < sd := Int.emod_lt_of_pos _ (by lia)
  have e : (alpha.take sd.toNat)[(x % sd).toNat]? = some (ltr sd x) := by
    rw [List.getElem?_take_of_lt (by lia)]
    exact alpha_get (by lia)
  exact ⟨e, List.mem_of_getElem? e, (Int.toNat_of_nonneg h0).symm⟩
noncomputable def OfS (sd : Int) (l : List Nat) : Prop := ∀ c ∈ l, c ∈ alpha.take sd.toNat
theorem OfS.take {sd : Int} {l : List Nat} (h : OfS sd l) (k : Nat) : OfS sd (l.take k) := fun c hc => h c (List.mem_of_mem_take hc)
theorem OfS.app {sd : Int} {a b : List Nat} (h : OfS sd a) (h' : OfS sd b) : OfS sd (a ++ b) := fun c hc => by
  rcases List.mem_append.mp hc with z | z
  · exact h c z
  · exact h' c z
theorem OfS.one {sd : Int} {c : Nat} (h : c ∈ alpha.take sd.toNat) : OfS sd [c] := fun d hd => by
  have e : d = c := by simpa using hd
  rw [e]; exact h
theorem OfS.rep {sd : Int} {l : List Nat} (h : OfS sd l) (n : Int) : OfS sd (repL n l) := fun c hc => by
  unfold repL at hc
  obtain ⟨x, hx, hcx⟩ := List.mem_flatten.mp hc
  have e := (List.mem_replicate.mp hx).2
  rw [e] at hcx
  exact h c hcx
theorem repL_len (n : Int) (l : List Nat) : (repL n l).length = n.toNat * l.length := by
  unfold repL
  exact len_rep l n.toNat
noncomputable def spWords (K : PySem.W.Frag) : Sp := fun vs H Q _ => ∃ (a : Addr) (ns : List Int), vs = [.ref a] ∧ SqL K H a (ns.map V.int) ∧ ns.length ≤ 63 ∧
  ∀ (p : Addr) (H' : Hp) (sd : Int) (o1 o2 : List Nat), Same H H' → H' p = some (.tup [.int sd, .str (tx o1), .str (tx o2)]) → 2 ≤ sd → sd ≤ 26 → o1 ≠ [] → o2 ≠ [] → OfS sd o1 → OfS sd o2 → o1.length ≤ 65 → o2.length ≤ 65 → Q (.ref p) H'
noncomputable abbrev NW : List Str := ["_law_script", "_law_mixed", "_law_sides", "_law_letters", "_law_half", "_law_one", "_law_other", "_law_part"]
section
variable {P : Program} {w : World} {K : PySem.W.Frag} {mg : Str → Option Value} {base : Heap}
theorem scWords : FnScope NW ["_law_script"] (defScope sWords) := ⟨rfl, rfl, rfl, by decide +kernel, rfl, by decide +kernel, by decide +kernel⟩
theorem cut_ints (ns : List Int) (lo hi : Option Int) : ∃ cs : List Int, cutV (ns.map V.int) lo hi = cs.map V.int ∧ cs.length ≤ ns.length := by
  refine ⟨(ns.drop (HT.sIx ns.length 0 lo)).take (HT.sIx ns.length ns.length hi - HT.sIx ns.length 0 lo), ?_, ?_⟩
  · unfold cutV
    rw [List.length_map, List.map_take, List.map_drop]
  · rw [List.length_take, List.length_drop]
    lia
theorem letters_flat (sd : Int) (cs : List Int) : (cs.map fun c => [ltr sd (c / 3)]).flatten = cs.map fun c => ltr sd (c / 3) := by
  induction cs with
  | nil => rfl
  | cons c r ih => rw [List.map_cons, List.map_cons, List.flatten_cons, ih]; rfl
theorem letters_low {sd : Int} (h2 : 2 ≤ sd) (h26 : sd ≤ 26) (cs : List Int) : OfS sd (cs.map fun c => ltr sd (c / 3)) := fun c hc => by
  obtain ⟨x, _, e⟩ := List.mem_map.mp hc
  subst e
  exact (ltr_ok h2 h26 _).2.1
theorem lc_word {σ : St} {H : Hp} {Q : VK} {p : Addr} {cs : List Int} {sd : Int} (h2 : 2 ≤ sd) (h26 : sd ≤ 26) (hp : H p = some (.lst (cs.map V.int))) (hn : cs.length ≤ 63) (hs3 : σ.getD 3 none = some (.str (tx (alpha.take sd.toNat)))) (hs2 : σ.getD 2 none = some (.int sd))
    (fin : ∀ D H', H D = none → Same H H' → H' D = some (.lst ((cs.map fun c => [ltr sd (c / 3)]).map fun l => V.str (tx l))) → Q (.ref D) H') :
    tLcB ["_law_cell"] [3, 2] (gName 0) tYes (tOp rIxX (tVar 1) (tOp (rI (fun _ j => 0 < j) fun i j => .int (i % j)) (tOp (rI CDiv fun i j => .int (i / j)) (tVar 0) (tC (.int 3))) (tVar 2))) (Itl K p) σ H Q := by
  refine lcb1 cs.length (fun i => .str (tx [ltr sd (cs.getD i 0 / 3)])) (Nat.le_trans hn (by decide)) (fun i H1 hi s1 => ⟨_, .int cs[i], SqL.of (s1 _ _ hp), by rw [List.getElem?_map, List.getElem?_eq_getElem hi]; rfl⟩) (fun H1 s1 => ⟨_, SqL.of (s1 _ _ hp), by rw [List.length_map]; exact Nat.le_refl _⟩) ?_ ?_
  · rintro i H1 K1 hi s1 k1 x _ ⟨rfl, hx⟩
    have hx' := hx _ (SqL.of (s1 _ _ hp))
    rw [List.getElem?_map, List.getElem?_eq_getElem hi] at hx'
    have ex : x = .int cs[i] := (Option.some.inj hx').symm
    subst ex
    have eg : cs.getD i 0 = cs[i] := by rw [List.getD_eq_getElem?_getD, List.getElem?_eq_getElem hi]; rfl
    have k1' := k1 _ (Same.refl _)
    rw [eg] at k1'
    obtain ⟨e1, e2, e3⟩ := ltr_ok h2 h26 (cs[i] / 3)
    have st : (lcSt ["_law_cell"] [3, 2] σ).set 0 (some (V.int cs[i])) = [some (.int cs[i]), some (.str (tx (alpha.take sd.toNat))), some (.int sd)] := by
      show [some (V.int cs[i]), σ.getD 3 none, σ.getD 2 none] = _
      rw [hs3, hs2]
    refine ⟨lcExt_set (by decide), ?_⟩
    rw [st]
    refine ⟨_, rfl, _, rfl, _, _, rfl, rfl, ⟨by decide, by decide⟩, _, rfl, _, _, rfl, rfl, (by lia), ?_⟩
    refine ⟨_, _, _, rfl, congrArg V.int e3, ?_, e1, k1'⟩
    rw [List.length_take]
    exact Nat.le_trans (Nat.min_le_right _ _) (by decide)
  · intro D H' hD hs hd
    refine fin D H' hD hs ?_
    rw [hd, List.map_map]
    congr 2
    exact range_map_getD (fun c => V.str (tx [ltr sd (c / 3)])) 0 cs
theorem ok_words {f : Addr} {fd : FuncData} (F : Fun K "_law_words" "_law_words" sWords f fd) (B : Bl mg) : FnOk P w K mg base CX0 1 f fd ["_law_script"] (spWords K) := by
  refine F.ok scWords (fun vs H Q E h => ?_) (fun cdv A outer s H vs Q E hr h => ?_)
  · obtain ⟨a, ns, rfl, _⟩ := h
    rfl
  · obtain ⟨a, ns, rfl, hS, hn, k⟩ := h
    have T7 : ∃ t, PSs (cxOf CX0 P w K mg base NW "_law_words" (defScope sWords) f cdv A outer s H E).nox ((defBody sWords).drop 7) t ∧ ∀ (sd mx : Int) (vh vp : Option V) (o1 o2 : List Nat) (H1 : Hp), 2 ≤ sd → sd ≤ 26 → OfS sd o1 → OfS sd o2 → o1.length ≤ 64 → o2.length ≤ 64 → Same H H1 →
        t { nx := fun _ H' => Q .non H', rt := Q } [some (.ref a), some (.int mx), some (.int sd), some (.str (tx (alpha.take sd.toNat))), vh, some (.str (tx o1)), some (.str (tx o2)), vp] H1 := by
      refine ⟨_, pss_one (ps_ret (pe_tup (pa_cons (pv 2) (pa_cons (pe_op op_add_tx (pv 5) (pe_ix ix_tx (pv 3) (pe_op op_mod (pe_op op_fdiv (pv 1) pe_int) (pv 2)) (fun _ _ => rfl)))
        (pa_cons (pe_op op_add_tx (pv 6) (pe_ix ix_tx (pv 3) (pe_op op_mod (pe_op op_fdiv (pv 1) pe_int) (pv 2)) (fun _ _ => rfl))) pa_nil))))), ?_⟩
      intro sd mx vh vp o1 o2 H1 h2 h26 l1 l2 n1 n2 s1
      obtain ⟨a1, a2, a3⟩ := ltr_ok h2 h26 (mx / 7)
      obtain ⟨b1, b2, b3⟩ := ltr_ok h2 h26 (mx / 11)
      have hal : (alpha.take sd.toNat).length ≤ sizeLine := by
        rw [List.length_take]
        exact Nat.le_trans (Nat.min_le_right _ _) (by decide)
      refine ⟨_, rfl, _, rfl, _, rfl, _, rfl, _, _, rfl, rfl, ⟨by decide, by decide⟩, _, rfl, _, _, rfl, rfl, (by lia), _, _, _, rfl, congrArg V.int a3, hal, a1, _, _, rfl, rfl, sz (by simp only [List.length_singleton]; lia), ?_⟩
      refine ⟨_, rfl, _, rfl, _, rfl, _, _, rfl, rfl, ⟨by decide, by decide⟩, _, rfl, _, _, rfl, rfl, (by lia), _, _, _, rfl, congrArg V.int b3, hal, b1, _, _, rfl, rfl, sz (by simp only [List.length_singleton]; lia), ?_⟩
      refine ⟨by show 3 ≤ sizeLine; decide, fun p hp => ?_⟩
      exact k p _ sd _ _ (s1.upd (s1.free hp)) upd_same h2 h26 (by simp) (by simp) (l1.app (.one a2)) (l2.app (.one b2)) (by simp only [List.length_append, List.length_singleton]; lia) (by simp only [List.length_append, List.length_singleton]; lia)
    obtain ⟨t7, p7, r7⟩ := T7
    have T6 : ∃ t, PSs (cxOf CX0 P w K mg base NW "_law_words" (defScope sWords) f cdv A outer s H E).nox ((defBody sWords).drop 6) t ∧ ∀ (sd mx : Int) (vh vp : Option V) (o1 o2 : List Nat) (H1 : Hp), 2 ≤ sd → sd ≤ 26 → OfS sd o1 → OfS sd o2 → o1.length ≤ 63 → o2.length ≤ 63 → Same H H1 →
        t { nx := fun _ H' => Q .non H', rt := Q } [some (.ref a), some (.int mx), some (.int sd), some (.str (tx (alpha.take sd.toNat))), vh, some (.str (tx o1)), some (.str (tx o2)), vp] H1 := by
      refine ⟨_, pss_cons (ps_if (pt_cmpR op_eq (pe_op op_mod (pe_op op_fdiv (pv 1) pe_int) pe_int) pe_int (nomark _))
        (pss_cons (ps_set (i := 7) scWords.nd rfl (Or.inl rfl) (pe_op op_add pe_int (pe_op op_mod (pe_op op_fdiv (pv 1) pe_int) pe_int)))
        (pss_cons (ps_set (i := 5) scWords.nd rfl (Or.inl rfl) (pe_slice sl_str (pe_op op_mul_tx (pe_slice sl_str (pv 5) po_none (po_some (pv 7))) (pe_callB call_len_tx rfl B.len (by decide +kernel) (pa_cons (pv 5) pa_nil))) po_none (po_some (pe_callB call_len_tx rfl B.len (by decide +kernel) (pa_cons (pv 5) pa_nil)))))
        (pss_one (ps_set (i := 6) scWords.nd rfl (Or.inl rfl) (pe_op op_add_tx (pe_slice sl_str (pe_op op_mul_tx (pe_slice sl_str (pv 5) po_none (po_some (pv 7))) (pe_callB call_len_tx rfl B.len (by decide +kernel) (pa_cons (pv 6) pa_nil))) po_none
          (po_some (pe_callB (call_max2 rfl) rfl B.max (by decide +kernel) (pa_cons pe_int (pa_cons (pe_op op_sub (pe_callB call_len_tx rfl B.len (by decide +kernel) (pa_cons (pv 6) pa_nil)) pe_int) pa_nil))))) (pe_ix ix_tx (pv 3) (pe_op op_mod (pe_op op_fdiv (pv 1) pe_int) (pv 2)) (fun _ _ => rfl)))))))
        pss_nil) p7, ?_⟩
      intro sd mx vh vp o1 o2 H1 h2 h26 l1 l2 n1 n2 s1
      refine ⟨_, rfl, _, _, rfl, rfl, ⟨by decide, by decide⟩, _, _, rfl, rfl, (by show (0 : Int) < _; decide), rfl, _, rfl, ?_⟩
      refine ite2 (fun _ => ?_) (fun _ => r7 sd mx vh vp o1 o2 H1 h2 h26 l1 l2 (by lia) (by lia) s1)
      have hp0 : 0 ≤ mx / 20 % 4 := Int.emod_nonneg _ (by decide)
      have hp1 : mx / 20 % 4 < 4 := Int.emod_lt_of_pos _ (by decide)
      obtain ⟨pt, ept⟩ : ∃ pt : Nat, 1 + mx / 20 % 4 = (pt : Int) := ⟨(1 + mx / 20 % 4).toNat, by lia⟩
      have hpt : pt ≤ 4 := by lia
      refine ⟨_, rfl, _, _, rfl, rfl, ⟨by decide, by decide⟩, _, _, rfl, rfl, (by show (0 : Int) < _; decide), _, _, rfl, rfl, ?_⟩
      dsimp only
      rw [ept]
      refine ⟨_, rfl, _, rfl, _, rfl, o1, rfl, sz (by lia), _, rfl, o1, rfl, sz (by lia), _, _, rfl, rfl, (by lia), (by lia), ?_, ?_⟩
      · rw [cutL_to, List.length_take, Int.toNat_natCast]
        have : min pt o1.length * o1.length ≤ 4 * 63 := Nat.mul_le_mul (by lia) n1
        exact sz (by lia)
      refine ⟨_, rfl, o1, rfl, sz (by lia), _, rfl, _, rfl, ?_, ?_⟩
      · rw [repL_len, cutL_to, List.length_take, Int.toNat_natCast]
        have : o1.length * min pt o1.length ≤ 63 * 4 := Nat.mul_le_mul n1 (by lia)
        exact sz (by lia)
      rw [cutL_to, cutL_to]
      generalize ho : (repL (o1.length : Int) (o1.take pt)).take o1.length = o3
      have l3 : OfS sd o3 := by rw [← ho]; exact ((l1.take pt).rep _).take _
      have n3 : o3.length ≤ 63 := by rw [← ho, List.length_take]; lia
      refine ⟨_, rfl, _, rfl, _, rfl, o3, rfl, sz (by lia), _, rfl, o2, rfl, sz (by lia), _, _, rfl, rfl, (by lia), (by lia), ?_, ?_⟩
      · rw [cutL_to, List.length_take, Int.toNat_natCast]
        have : min pt o3.length * o2.length ≤ 4 * 63 := Nat.mul_le_mul (by lia) n2
        exact sz (by lia)
      obtain ⟨mm, emm, hmm⟩ : ∃ mm : Nat, (if ((o2.length : Nat) : Int) - 1 > 0 then ((o2.length : Nat) : Int) - 1 else 0) = (mm : Int) ∧ mm ≤ 62 := ⟨o2.length - 1, by split <;> lia, by lia⟩
      refine ⟨_, rfl, o2, rfl, sz (by lia), _, _, rfl, rfl, _, _, rfl, _, rfl, _, rfl, ?_, ?_⟩
      · rw [repL_len, cutL_to, List.length_take, Int.toNat_natCast]
        have : o2.length * min pt o3.length ≤ 63 * 4 := Nat.mul_le_mul n2 (by lia)
        exact sz (by lia)
      rw [emm, cutL_to, cutL_to]
      generalize ho' : (repL (o2.length : Int) (o3.take pt)).take mm = o4
      have l4 : OfS sd o4 := by rw [← ho']; exact ((l3.take pt).rep _).take _
      have n4 : o4.length ≤ 62 := by rw [← ho', List.length_take]; lia
      obtain ⟨a1, a2, a3⟩ := ltr_ok h2 h26 (mx / 80)
      have hal : (alpha.take sd.toNat).length ≤ sizeLine := by
        rw [List.length_take]
        exact Nat.le_trans (Nat.min_le_right _ _) (by decide)
      refine ⟨_, rfl, _, rfl, _, _, rfl, rfl, ⟨by decide, by decide⟩, _, rfl, _, _, rfl, rfl, (by lia), _, _, _, rfl, congrArg V.int a3, hal, a1, _, _, rfl, rfl, sz (by simp only [List.length_singleton]; lia), ?_⟩
      exact r7 sd mx vh _ o3 (o4 ++ [ltr sd (mx / 80)]) H1 h2 h26 l3 (l4.app (.one a2)) (by lia) (by simp only [List.length_append, List.length_singleton]; lia) s1
    obtain ⟨t6, p6, r6⟩ := T6
    have T4 : ∃ t, PSs (cxOf CX0 P w K mg base NW "_law_words" (defScope sWords) f cdv A outer s H E).nox ((defBody sWords).drop 4) t ∧ ∀ (sd mx hf : Int) (v1 v2 vp : Option V) (H1 : Hp), 2 ≤ sd → sd ≤ 26 → Same H H1 →
        t { nx := fun _ H' => Q .non H', rt := Q } [some (.ref a), some (.int mx), some (.int sd), some (.str (tx (alpha.take sd.toNat))), some (.int hf), v1, v2, vp] H1 := by
      refine ⟨_, pss_cons (ps_set (i := 5) scWords.nd rfl (Or.inl rfl) (pe_bm PySem.F.plainAttrs_str PySem.F.slot_str_join PySem.F.type_str_join mt_join (pe_tx (l := [])) (pa_cons (pe_lc (N := NW) (sc := defScope sWords) (own := ["_law_cell"]) (cap := [3, 2])
          ⟨rfl, by decide +kernel, by decide +kernel, by decide +kernel, by decide +kernel⟩ (pi_list (pe_slice sl_list (pv 0) po_none (po_some (pv 4))))
          (fun _ _ _ _ _ => pg_name (i := 0) (show (lcN NW ["_law_cell"] [3, 2]).Nodup by decide +kernel) rfl (Or.inl rfl) (.inr rfl)) (fun _ _ _ _ _ => pif_nil) (fun _ _ _ _ _ => pe_ix ix_tx (pv 1) (pe_op op_mod (pe_op op_fdiv (pv 0) pe_int) (pv 2)) (fun _ _ => rfl))) pa_nil)))
        (pss_cons (ps_set (i := 6) scWords.nd rfl (Or.inl rfl) (pe_bm PySem.F.plainAttrs_str PySem.F.slot_str_join PySem.F.type_str_join mt_join (pe_tx (l := [])) (pa_cons (pe_lc (N := NW) (sc := defScope sWords) (own := ["_law_cell"]) (cap := [3, 2])
          ⟨rfl, by decide +kernel, by decide +kernel, by decide +kernel, by decide +kernel⟩ (pi_list (pe_slice sl_list (pv 0) (po_some (pv 4)) po_none))
          (fun _ _ _ _ _ => pg_name (i := 0) (show (lcN NW ["_law_cell"] [3, 2]).Nodup by decide +kernel) rfl (Or.inl rfl) (.inr rfl)) (fun _ _ _ _ _ => pif_nil) (fun _ _ _ _ _ => pe_ix ix_tx (pv 1) (pe_op op_mod (pe_op op_fdiv (pv 0) pe_int) (pv 2)) (fun _ _ => rfl))) pa_nil))) p6), ?_⟩
      intro sd mx hf v1 v2 vp H1 h2 h26 s1
      obtain ⟨cs, ecs, hcs⟩ := cut_ints ns none (some hf)
      obtain ⟨ds, eds, hds⟩ := cut_ints ns (some hf) none
      refine ⟨rfl, _, rfl, _, rfl, _, rfl, a, _, rfl, s1.seq hS, fun p hp => ?_⟩
      rw [ecs]
      refine ⟨p, rfl, ⟨_, SqL.of upd_same⟩, lc_word h2 h26 upd_same (Nat.le_trans hcs hn) rfl rfl fun D H2 hD s2 hd => ?_⟩
      have s12 : Same H H2 := (s1.upd (s1.free hp)).trans s2
      refine ⟨D, _, rfl, rfl, SqL.of hd, ?_, ?_⟩
      · rw [letters_flat, List.length_map]
        exact sz (by lia)
      rw [letters_flat]
      refine ⟨rfl, _, rfl, _, rfl, _, rfl, a, _, rfl, s12.seq hS, fun q hq => ?_⟩
      rw [eds]
      refine ⟨q, rfl, ⟨_, SqL.of upd_same⟩, lc_word h2 h26 upd_same (Nat.le_trans hds hn) rfl rfl fun D' H3 hD' s3 hd' => ?_⟩
      have s13 : Same H H3 := (s12.upd (s12.free hq)).trans s3
      refine ⟨D', _, rfl, rfl, SqL.of hd', ?_, ?_⟩
      · rw [letters_flat, List.length_map]
        exact sz (by lia)
      rw [letters_flat]
      exact r6 sd mx _ vp _ _ H3 h2 h26 (letters_low h2 h26 cs) (letters_low h2 h26 ds) (by rw [List.length_map]; lia) (by rw [List.length_map]; lia) s13
    obtain ⟨t4, p4, r4⟩ := T4
    have T2 : ∃ t, PSs (cxOf CX0 P w K mg base NW "_law_words" (defScope sWords) f cdv A outer s H E).nox ((defBody sWords).drop 2) t ∧ ∀ (sd mx : Int) (H1 : Hp), 2 ≤ sd → sd ≤ 26 → Same H H1 →
        t { nx := fun _ H' => Q .non H', rt := Q } [some (.ref a), some (.int mx), some (.int sd), none, none, none, none, none] H1 := by
      refine ⟨_, pss_cons (ps_set (i := 3) scWords.nd rfl (Or.inr rfl) (pe_slice sl_str (pe_tx (l := alpha)) po_none (po_some (pv 2))))
        (pss_cons (ps_set (i := 4) scWords.nd rfl (Or.inl rfl) (pe_ifExp (pt_cmpR op_eq (pe_op op_mod (pe_op op_fdiv (pv 1) pe_int) pe_int) pe_int (nomark _))
          (pe_op op_fdiv (pe_callB call_len_seq rfl B.len (by decide +kernel) (pa_cons (pv 0) pa_nil)) pe_int)
          (pe_op op_mod (pe_op op_fdiv (pv 1) pe_int) (pe_op op_add (pe_callB call_len_seq rfl B.len (by decide +kernel) (pa_cons (pv 0) pa_nil)) pe_int)))) p4), ?_⟩
      intro sd mx H1 h2 h26 s1
      obtain ⟨sn, rfl⟩ : ∃ sn : Nat, sd = (sn : Int) := ⟨sd.toNat, by lia⟩
      refine ⟨_, rfl, _, rfl, alpha, rfl, by decide, ?_⟩
      rw [cutL_to]
      have r4' := fun hf => r4 (sn : Int) mx hf none none none H1 h2 h26 s1
      rw [Int.toNat_natCast] at r4'
      refine ⟨_, rfl, _, _, rfl, rfl, ⟨by decide, by decide⟩, _, _, rfl, rfl, (by show (0 : Int) < _; decide), rfl, _, rfl, ?_⟩
      refine ite2 (fun _ => ?_) (fun _ => ?_)
      · exact ⟨_, rfl, a, _, rfl, .inl (s1.seq hS), _, _, rfl, rfl, ⟨by decide, by decide⟩, r4' _⟩
      · exact ⟨_, rfl, _, _, rfl, rfl, ⟨by decide, by decide⟩, _, rfl, a, _, rfl, .inl (s1.seq hS), _, _, rfl, rfl, _, _, rfl, rfl, (by lia), r4' _⟩
    obtain ⟨t2, p2, r2⟩ := T2
    refine ⟨_, pss_cons (ps_set (i := 1) scWords.nd rfl (Or.inl rfl) (pe_callB (call_sum rfl) rfl B.sum (by decide +kernel) (pa_cons (pv 0) pa_nil)))
      (pss_cons (ps_set (i := 2) scWords.nd rfl (Or.inr rfl) (pe_ix ix_tup (pe_tup (pa_cons pe_int (pa_cons pe_int (pa_cons pe_int (pa_cons (pe_op op_add pe_int (pe_op op_mod (pe_op op_fdiv (pv 1) pe_int)
        (pe_ifExp (pt_cmpR op_lt (pe_callB call_len_seq rfl B.len (by decide +kernel) (pa_cons (pv 0) pa_nil)) pe_int (nomark _)) pe_int pe_int))) pa_nil))))) (pe_op op_mod (pv 1) pe_int) (fun _ _ => rfl))) p2), ?_⟩
    refine ⟨_, rfl, a, ns, rfl, hS, ?_⟩
    generalize ns.sum = mx
    refine ⟨_, rfl, _, _, rfl, rfl, ⟨by decide, by decide⟩, _, rfl, a, _, rfl, .inl hS, _, _, rfl, rfl, _, rfl, ?_⟩
    have h0 : 0 ≤ mx % 4 := Int.emod_nonneg _ (by decide)
    have h1 : mx % 4 < 4 := Int.emod_lt_of_pos _ (by decide)
    have fin : ∀ d : Int, 0 < d → d ≤ 25 → ∀ p, H p = none → ∃ (p' : Addr) (xs : List V) (i : Int) (v : V), V.ref p = .ref p' ∧ V.int (mx % 4) = .int i ∧ SqT K (upd H p (.tup [.int 2, .int 2, .int 3, .int (2 + mx / 4 % d)])) p' xs ∧ atI xs i = some v ∧
        t2 { nx := fun _ H' => Q .non H', rt := Q } [some (.ref a), some (.int mx), some v, none, none, none, none, none] (upd H p (.tup [.int 2, .int 2, .int 3, .int (2 + mx / 4 % d)])) := fun d hd0 hd1 p hp => by
      have e0 : 0 ≤ mx / 4 % d := Int.emod_nonneg _ (by lia)
      have e1 : mx / 4 % d < d := Int.emod_lt_of_pos _ hd0
      have ss : ∀ o, Same H (upd H p o) := fun o => (Same.refl H).upd hp
      have c4 : mx % 4 = ((0 : Nat) : Int) ∨ mx % 4 = ((1 : Nat) : Int) ∨ mx % 4 = ((2 : Nat) : Int) ∨ mx % 4 = ((3 : Nat) : Int) := by lia
      rcases c4 with e | e | e | e
      · rw [e]
        exact ⟨p, _, _, .int 2, rfl, rfl, SqT.of upd_same, rfl, r2 2 mx _ (by lia) (by lia) (ss _)⟩
      · rw [e]
        exact ⟨p, _, _, .int 2, rfl, rfl, SqT.of upd_same, rfl, r2 2 mx _ (by lia) (by lia) (ss _)⟩
      · rw [e]
        exact ⟨p, _, _, .int 3, rfl, rfl, SqT.of upd_same, rfl, r2 3 mx _ (by lia) (by lia) (ss _)⟩
      · rw [e]
        exact ⟨p, _, _, .int (2 + mx / 4 % d), rfl, rfl, SqT.of upd_same, rfl, r2 _ mx _ (by lia) (by lia) (ss _)⟩
    refine ite2 (fun _ => ?_) (fun _ => ?_)
    · exact ⟨_, _, rfl, rfl, (by show (0 : Int) < _; decide), _, _, rfl, rfl, by show 4 ≤ sizeLine; decide, fun p hp => ⟨_, rfl, _, _, rfl, rfl, (by show (0 : Int) < _; decide), fin 25 (by decide) (by decide) p hp⟩⟩
    · exact ⟨_, _, rfl, rfl, (by show (0 : Int) < _; decide), _, _, rfl, rfl, by show 4 ≤ sizeLine; decide, fun p hp => ⟨_, rfl, _, _, rfl, rfl, (by show (0 : Int) < _; decide), fin 5 (by decide) (by decide) p hp⟩⟩
end
end FW
namespace FW
open PySem L2
noncomputable def spLong : Sp := fun vs H Q _ => ∃ w t, vs = [.str (tx w), .str (tx t)] ∧ w.length ≤ 10000 ∧ t.length ≤ 10000 ∧ Q (vi (lng w t)) H
theorem lng_down {w t : List Nat} {k : Nat} (hk : k ≤ w.length) (ht : k ≤ t.length) (hs : t.drop (t.length - k) = w.take k) (hm : ∀ j, k < j → j ≤ w.length → j ≤ t.length → t.drop (t.length - j) ≠ w.take j) : lng w t = k := by
  have key : ∀ j, j ≤ w.length → (w.take j <:+ t ↔ j ≤ t.length ∧ t.drop (t.length - j) = w.take j) := fun j hj => by
    rw [List.suffix_iff_eq_drop, len_take hj]
    constructor
    · intro e
      have := congrArg List.length e
      rw [len_take hj, List.length_drop] at this
      exact ⟨by lia, e.symm⟩
    · intro ⟨_, e⟩
      exact e.symm
  refine lng_eq hk ((key k hk).mpr ⟨ht, hs⟩) fun j hj hjs => ?_
  obtain ⟨h1, h2⟩ := (key j hj).mp hjs
  by_cases h : k < j
  · exact absurd h2 (hm j h hj h1)
  · lia
section
variable {P : Program} {w : World} {K : PySem.W.Frag} {mg : Str → Option Value} {base : Heap}
theorem scLong : FnScope ["_law_word", "_law_throws", "_law_many"] ["_law_word", "_law_throws"] (defScope sLong) := ⟨rfl, rfl, rfl, by decide +kernel, rfl, by decide +kernel, by decide +kernel⟩
theorem down_size (n : Nat) : Builtin.Range.rangeSize (n : Int) 0 (-1) = n := by
  unfold Builtin.Range.rangeSize
  rw [if_neg (by decide), show (- -1 : Int) = 1 from rfl, Int.ediv_one]
  split <;> lia
theorem down_small {n : Nat} (h : n ≤ 10000) : Builtin.Range.small (n : Int) 0 (-1) = true := by
  unfold Builtin.Range.small
  rw [down_size, if_neg (by decide)]
  simp only [Builtin.Range.rangeFitsLong, Bool.and_eq_true, Bool.or_eq_true, decide_eq_true_eq, beq_iff_eq]
  lia
theorem ok_long {f : Addr} {fd : FuncData} (F : Fun K "_law_longest" "_law_longest" sLong f fd) (B : Bl mg) : FnOk P w K mg base CX0 1 f fd ["_law_word", "_law_throws"] spLong := by
  refine F.ok scLong (fun vs H Q E h => ?_) (fun cdv A outer s H vs Q E hr h => ?_)
  · obtain ⟨w, t, rfl, _⟩ := h
    rfl
  · obtain ⟨w, t, rfl, hw, ht, k⟩ := h
    refine ⟨_, pss_cons (ps_for PassesOwn.never rfl (pi_range3 rfl B.range (pa_cons (pe_callB (call_min2 rfl) rfl B.min (by decide +kernel) (pa_cons (pe_callB call_len_tx rfl B.len (by decide +kernel) (pa_cons (pv 0) pa_nil)) (pa_cons (pe_callB call_len_tx rfl B.len (by decide +kernel) (pa_cons (pv 1) pa_nil)) pa_nil))) (pa_cons pe_int (pa_cons (pe_un un_neg pe_int) pa_nil)))) (pg_name (i := 2) scLong.nd rfl (Or.inl rfl))
        (pss_one (ps_if (pt_cmpR op_eq (pe_slice sl_str (pv 1) (po_some (pe_op op_sub (pe_callB call_len_tx rfl B.len (by decide +kernel) (pa_cons (pv 1) pa_nil)) (pv 2))) po_none) (pe_slice sl_str (pv 0) po_none (po_some (pv 2))) (nomark _)) (pss_one (ps_ret (pv 2))) pss_nil)))
      (pss_one (ps_ret pe_int)), ?_⟩
    refine ⟨_, rfl, w, rfl, sz hw, _, rfl, t, rfl, sz ht, _, _, rfl, ?_⟩
    have em : (if ((t.length : Nat) : Int) < ((w.length : Nat) : Int) then ((t.length : Nat) : Int) else ((w.length : Nat) : Int)) = ((min w.length t.length : Nat) : Int) := by
      split <;> lia
    rw [em]
    refine ⟨_, rfl, _, _, _, min w.length t.length, rfl, by decide, by decide, down_small (by lia), down_size _, ?_⟩
    refine for_range3 (fun i σ H2 => ∃ v, σ = [some (.str (tx w)), some (.str (tx t)), v] ∧ H2 = H ∧ ∀ j, min w.length t.length - i < j → j ≤ min w.length t.length → t.drop (t.length - j) ≠ w.take j) ⟨none, rfl, rfl, fun j h1 h2 => by lia⟩ ?_ ?_
    · rintro i σ H2 hi ⟨v, rfl, rfl, hno⟩
      have ei : (((min w.length t.length : Nat) : Int) + (i : Int) * (-1)) = ((min w.length t.length - i : Nat) : Int) := by lia
      rw [ei]
      generalize hm : min w.length t.length - i = m at *
      have hmw : m ≤ w.length := by lia
      have hmt : m ≤ t.length := by lia
      have e1 : ((t.length : Nat) : Int) - ((m : Nat) : Int) = ((t.length - m : Nat) : Int) := by lia
      refine ⟨_, rfl, _, rfl, t, rfl, sz ht, _, rfl, _, _, rfl, rfl, _, rfl, t, rfl, sz ht, ?_⟩
      refine ⟨_, rfl, _, rfl, _, rfl, w, rfl, sz hw, rfl, _, rfl, ?_⟩
      rw [e1, cutL_from, cutL_to, dec_tx]
      by_cases hc : t.drop (t.length - m) = w.take m
      · rw [decide_eq_true hc]
        refine iteT ⟨_, rfl, ?_⟩
        rw [lng_down hmw hmt hc (fun j h1 h2 h3 => hno j (by lia) (by lia))] at k
        exact k
      · rw [decide_eq_false hc]
        refine iteF ⟨_, rfl, rfl, fun j h1 h2 => ?_⟩
        by_cases ej : j = m
        · rw [ej]; exact hc
        · exact hno j (by lia) h2
    · rintro σ H2 ⟨v, rfl, rfl, hno⟩
      rw [lng_down (k := 0) (Nat.zero_le _) (Nat.zero_le _) (by simp) (fun j h1 h2 h3 => hno j (by lia) (by lia))] at k
      exact k
end
end FW
namespace FW
open PySem L2
noncomputable def spSays : Sp := fun vs H Q _ => ∃ (b d : Bool), vs = [.bl b, .bl d] ∧ Q (.bl (decide (V.bl b = V.bl d))) H
theorem kit_bool (K : PySem.W.Frag) : PySem.W.kitOne K (.type "bool") (.type "bool") = some true := by
  unfold PySem.W.kitOne
  rw [if_pos (by decide)]
section
variable {P : Program} {w : World} {K : PySem.W.Frag} {mg : Str → Option Value} {base : Heap}
theorem scSays : FnScope ["_law_said", "_law_due"] ["_law_said", "_law_due"] (defScope sSays) := ⟨rfl, rfl, rfl, by decide +kernel, rfl, by decide +kernel, by decide +kernel⟩
theorem ok_says {f : Addr} {fd : FuncData} (F : Fun K "_law_says" "_law_says" sSays f fd) (B : Bl mg) : FnOk P w K mg base CX0 1 f fd ["_law_said", "_law_due"] spSays := by
  refine F.ok scSays (fun vs H Q E h => ?_) (fun cdv A outer s H vs Q E hr h => ?_)
  · obtain ⟨b, d, rfl, _⟩ := h
    rfl
  · obtain ⟨b, d, rfl, k⟩ := h
    refine ⟨_, pss_one (ps_ret (pe_and (pe_callB call_isinst rfl B.isinstance (by decide +kernel) (pa_cons (pv 0) (pa_cons (pe_bltn (v := .ty "bool") rfl B.bool (by decide +kernel) rfl) pa_nil)))
      (pe_one (pe_cmpR op_eq (pv 0) (pv 1) (nomark _))))), ?_⟩
    exact ⟨_, rfl, _, _, _, _, rfl, .bl b, kit_bool K, true, rfl, iteT ⟨_, rfl, _, rfl, rfl, k⟩⟩
end
end FW
namespace FW
open PySem L2
noncomputable def rowS (q : Nat) (w : List Nat) (ts : List Int) (m k : Nat) : Int := (q : Int) + (((alpha.take q).take k).map fun c => ts.getD (lng w (w.take m ++ [c])) 0).sum
noncomputable def tabB (q : Nat) (w : List Nat) (ts : List Int) : Bool := decide (ts.length = w.length + 1) && (decide (ts.getD w.length 0 = 0) && (List.range w.length).all fun m => decide ((q : Int) * ts.getD m 0 = rowS q w ts m q))
noncomputable def spTab (K : PySem.W.Frag) : Sp := fun vs H Q _ => ∃ (q : Nat) (w : List Nat) (p : Addr) (ts : List Int), vs = [.int q, .str (tx w), .ref p] ∧ SqL K H p (ts.map V.int) ∧ 2 ≤ q ∧ q ≤ 26 ∧ w.length ≤ 9000 ∧ Q (.bl (tabB q w ts)) H
theorem rowS_zero (q : Nat) (w : List Nat) (ts : List Int) (m : Nat) : rowS q w ts m 0 = q := by simp [rowS]
theorem rowS_succ {q : Nat} {w : List Nat} {ts : List Int} {m k c : Nat} (h : (alpha.take q)[k]? = some c) : rowS q w ts m (k + 1) = rowS q w ts m k + ts.getD (lng w (w.take m ++ [c])) 0 := by
  unfold rowS
  rw [List.take_add_one, h]
  simp [List.sum_append, Int.add_assoc]
theorem rowS_all {q : Nat} (hq : q ≤ 26) (w : List Nat) (ts : List Int) (m : Nat) : rowS q w ts m (alpha.take q).length = rowS q w ts m q := by
  have e : (alpha.take q).length = q := by rw [List.length_take]; exact Nat.min_eq_left hq
  rw [e]
theorem at_int {ts : List Int} {j : Nat} (h : j < ts.length) : atI (ts.map V.int) (j : Int) = some (.int (ts.getD j 0)) := atI_nat (by rw [List.getElem?_map, List.getElem?_eq_getElem h, List.getD_eq_getElem?_getD, List.getElem?_eq_getElem h]; rfl)
theorem at_last {ts : List Int} {n : Nat} (h : ts.length = n + 1) : atI (ts.map V.int) (-1) = some (.int (ts.getD n 0)) := by
  have hn : n < ts.length := by lia
  unfold atI ixN
  rw [List.length_map, if_neg (by decide), if_pos (by lia)]
  have e : ((-1 : Int) + (ts.length : Int)).toNat = n := by lia
  have e' : ((ts.length : Int) + (-1 : Int)).toNat = n := by lia
  simp only [Option.bind_some, e, e']
  rw [List.getElem?_map, List.getElem?_eq_getElem hn, List.getD_eq_getElem?_getD, List.getElem?_eq_getElem hn]
  rfl
section
variable {P : Program} {w : World} {K : PySem.W.Frag} {mg : Str → Option Value} {base : Heap}
theorem scTab : FnScope ["_law_sides", "_law_word", "_law_table_here", "_law_many", "_law_total", "_law_letter"] ["_law_sides", "_law_word", "_law_table_here"] (defScope sTab) := ⟨rfl, rfl, rfl, by decide +kernel, rfl, by decide +kernel, by decide +kernel⟩
theorem ok_tab {f fL : Addr} {fd dL : FuncData} (F : Fun K "_law_table" "_law_table" sTab f fd) (B : Bl mg) (GL : Gf P w K mg base 1 "_law_longest" ["_law_word", "_law_throws"] spLong fL dL) : FnOk P w K mg base CX0 2 f fd ["_law_sides", "_law_word", "_law_table_here"] (spTab K) := by
  refine F.ok scTab (fun vs H Q E h => ?_) (fun cdv A outer s H vs Q E hr h => ?_)
  · obtain ⟨q, w, p, ts, rfl, _⟩ := h
    rfl
  · obtain ⟨q, w, p, ts, rfl, hS, h2, h26, hw, k⟩ := h
    refine ⟨_, pss_cons (ps_if (PW.pt (pw_or (pt_cmpR op_ne (pe_callB call_len_seq rfl B.len (by decide +kernel) (pa_cons (pv 2) pa_nil)) (pe_op op_add (pe_callB call_len_tx rfl B.len (by decide +kernel) (pa_cons (pv 1) pa_nil)) pe_int) (nomark _))
        (pw_or1 (pt_cmpR op_ne (pe_ix ix_list (pv 2) (pe_un un_neg pe_int) (fun _ _ => rfl)) pe_int (nomark _))))) (pss_one (ps_ret pe_bl)) pss_nil)
      (pss_cons (ps_for PassesOwn.never rfl (pi_range1 rfl B.range (pa_cons (pe_callB call_len_tx rfl B.len (by decide +kernel) (pa_cons (pv 1) pa_nil)) pa_nil)) (pg_name (i := 3) scTab.nd rfl (Or.inl rfl))
        (pss_cons (ps_set (i := 4) scTab.nd rfl (Or.inl rfl) (pv 0))
        (pss_cons (ps_for PassesOwn.never rfl (pi_str (pe_slice sl_str (pe_tx (l := alpha)) po_none (po_some (pv 0)))) (pg_name (i := 5) scTab.nd rfl (Or.inl rfl))
          (pss_one (ps_set (i := 4) scTab.nd rfl (Or.inl rfl) (pe_op op_add (pv 4) (pe_ix ix_list (pv 2) (pe_call GL.ok hr rfl GL.mg GL.kp GL.bd .nil pass0 (pa_cons (pv 1) (pa_cons (pe_op op_add_tx (pe_slice sl_str (pv 1) po_none (po_some (pv 3))) (pv 5)) pa_nil))) (fun _ _ => rfl))))))
        (pss_one (ps_if (pt_cmpR op_ne (pe_op op_mul (pv 0) (pe_ix ix_list (pv 2) (pv 3) (fun _ _ => rfl))) (pv 4) (nomark _)) (pss_one (ps_ret pe_bl)) pss_nil)))))
      (pss_one (ps_ret pe_bl))), ?_⟩
    refine ⟨_, rfl, p, _, rfl, .inl hS, _, rfl, w, rfl, sz (by lia), _, _, rfl, rfl, rfl, _, rfl, ?_⟩
    rw [List.length_map]
    by_cases hl : ts.length = w.length + 1
    · rw [decide_eq_true (by rw [hl]; rfl)]
      refine iteF ⟨_, rfl, _, rfl, p, _, _, _, rfl, rfl, hS, at_last hl, rfl, _, rfl, ?_⟩
      unfold tabB at k
      rw [decide_eq_true hl, Bool.true_and] at k
      by_cases h0 : ts.getD w.length 0 = 0
      · rw [decide_eq_true h0, Bool.true_and] at k
        rw [decide_eq_true (by rw [h0])]
        refine iteF ⟨_, rfl, w, rfl, sz (by lia), _, rfl, by lia, by lia, for_range (fun i σ H2 => ∃ v1 v2 v3, σ = [some (.int q), some (.str (tx w)), some (.ref p), v1, v2, v3] ∧ H2 = H ∧ ∀ m, m < i → (q : Int) * ts.getD m 0 = rowS q w ts m q) ⟨_, _, _, rfl, rfl, fun m hm => absurd hm (Nat.not_lt_zero _)⟩ ?_ ?_⟩
        · rintro i σ H2 hi ⟨v1, v2, v3, rfl, rfl, hall⟩
          have hi' : i < w.length := by rw [Int.toNat_natCast] at hi; exact hi
          rw [Int.zero_add]
          refine ⟨_, rfl, ?_⟩
          refine ⟨_, rfl, _, rfl, alpha, rfl, by decide, _, rfl, ?_⟩
          rw [cutL_to]
          refine for_str (l := alpha.take q) (fun j σ H3 => ∃ v3, σ = [some (.int q), some (.str (tx w)), some (.ref p), some (.int i), some (.int (rowS q w ts i j)), v3] ∧ H3 = H2) ⟨_, by rw [rowS_zero]; rfl, rfl⟩ ?_ ?_
          · rintro j c σ H3 hc ⟨v3, rfl, rfl⟩
            have hlt : lng w (w.take i ++ [c]) < ts.length := by have := lng_le w (w.take i ++ [c]); lia
            refine ⟨_, rfl, _, rfl, _, rfl, _, rfl, _, rfl, _, rfl, w, rfl, sz (by lia), _, rfl, _, _, rfl, rfl, ?_, ?_⟩
            · rw [cutL_to, List.length_take, List.length_singleton]; exact sz (by lia)
            rw [cutL_to]
            refine ⟨w, _, rfl, by lia, ?_, p, _, _, _, rfl, rfl, hS, at_int hlt, _, _, rfl, rfl, ?_⟩
            · rw [List.length_append, List.length_take, List.length_singleton]; lia
            · refine ⟨some (.str (tx [c])), ?_, rfl⟩
              rw [rowS_succ hc]
              rfl
          · rintro σ H3 ⟨v3, rfl, rfl⟩
            rw [rowS_all h26]
            refine ⟨_, rfl, _, rfl, _, rfl, p, _, _, _, rfl, rfl, hS, at_int (by lia), _, _, rfl, rfl, .inl ⟨by lia, by lia⟩, _, rfl, rfl, _, rfl, ?_⟩
            dsimp only
            by_cases hc : (q : Int) * ts.getD i 0 = rowS q w ts i q
            · rw [decide_eq_true (congrArg V.int hc)]
              refine iteF ⟨_, _, _, rfl, rfl, fun m hm => ?_⟩
              by_cases e : m = i
              · rw [e]; exact hc
              · exact hall m (by lia)
            · rw [decide_eq_false (by intro z; injection z with z; exact hc z)]
              refine iteT ?_
              rw [List.all_eq_false.mpr ⟨i, List.mem_range.mpr hi', by simpa using hc⟩] at k
              exact k
        · rintro σ H2 ⟨v1, v2, v3, rfl, rfl, hall⟩
          rw [List.all_eq_true.mpr fun m hm => decide_eq_true (hall m (by rw [Int.toNat_natCast]; exact List.mem_range.mp hm))] at k
          exact k
      · rw [decide_eq_false h0, Bool.false_and] at k
        rw [decide_eq_false (by intro z; injection z with z; exact h0 z)]
        exact iteT k
    · unfold tabB at k
      rw [decide_eq_false hl, Bool.false_and] at k
      rw [decide_eq_false (by intro z; injection z with z; exact hl (by lia))]
      exact iteT (iteT k)
end
end FW
namespace FW
open PySem L2
theorem sides_len {q : Nat} (h : q ≤ 26) : (alpha.take q).length = q := by rw [List.length_take]; exact Nat.min_eq_left h
theorem rowS_sum {q : Nat} (h : q ≤ 26) (w : List Nat) (ts : List Int) (m : Nat) : rowS q w ts m q = (q : Int) + sumZ (alpha.take q) fun c => ts.getD (lng w (w.take m ++ [c])) 0 := by
  unfold rowS sumZ
  rw [List.take_of_length_le (l := alpha.take q) (by rw [sides_len h]; exact Nat.le_refl _)]
theorem waitT_len (q : Nat) (w : List Nat) : (waitT q w).length = w.length + 1 := by unfold waitT; rw [List.length_map, List.length_range]
end FW
namespace FW
open PySem L2
theorem sl_ints {K : PySem.W.Frag} {H : Hp} {Q : VK} {p : Addr} {ns : List Int} {lo hi : Option Int} (hp : SqL K H p (ns.map V.int))
    (go : ∀ (p1 : Addr) (H1 : Hp) (cs : List Int), H p1 = none → Same H H1 → H1 p1 = some (.lst (cs.map V.int)) → cs.length ≤ ns.length → Q (.ref p1) H1) : rSlL K (.ref p) lo hi H Q := by
  obtain ⟨cs, e, l⟩ := cut_ints ns lo hi
  refine ⟨p, _, rfl, hp, fun p1 h1 => ?_⟩
  rw [e]
  exact go p1 _ cs h1 ((Same.refl _).upd h1) upd_same l
theorem cat_ints {H : Hp} {Q : VK} {a b : Addr} {xs ys : List Int} (ha : H a = some (.lst (xs.map V.int))) (hb : H b = some (.lst (ys.map V.int))) (hz : xs.length + ys.length ≤ 10000)
    (go : ∀ p1 H1, H p1 = none → Same H H1 → H1 p1 = some (.lst ((xs ++ ys).map V.int)) → Q (.ref p1) H1) : rCat (.ref a) (.ref b) H Q := by
  refine ⟨a, b, _, _, rfl, rfl, ha, hb, by rw [List.length_map, List.length_map]; exact sz hz, fun p1 h1 => ?_⟩
  rw [← List.map_append]
  exact go p1 _ h1 ((Same.refl _).upd h1) upd_same
theorem lc_ints {K : PySem.W.Frag} {own : Str} {cap : List Nat} {σ : St} {H : Hp} {Q : VK} {a : Addr} {cs : List Int} {te : TE} (f : Int → Int) (hs : SqL K H a (cs.map V.int)) (hn : cs.length ≤ 10000)
    (ht : ∀ (x : Int) (H' : Hp) (K1 : VK), K1 (.int (f x)) H' → te ((lcSt [own] cap σ).set 0 (some (.int x))) H' K1)
    (fin : ∀ D H', H D = none → Same H H' → H' D = some (.lst ((cs.map f).map V.int)) → Q (.ref D) H') : tLcB [own] cap (gName 0) tYes te (Itl K a) σ H Q := by
  have ge : ∀ i, i < cs.length → (cs.map V.int)[i]? = some (.int (cs.getD i 0)) := fun i hi => by
    rw [List.getElem?_map, List.getElem?_eq_getElem hi, List.getD_eq_getElem?_getD, List.getElem?_eq_getElem hi]; rfl
  refine lcb1 cs.length (fun i => .int (f (cs.getD i 0))) (sz hn) (fun i H1 hi s1 => ⟨_, _, s1.seq hs, ge i hi⟩) (fun H1 s1 => ⟨_, s1.seq hs, by rw [List.length_map]; exact Nat.le_refl _⟩) ?_ ?_
  · rintro i H1 K1 hi s1 k1 x H2 ⟨rfl, hx⟩
    obtain rfl : x = .int (cs.getD i 0) := Option.some.inj ((hx _ (s1.seq hs)).symm.trans (ge i hi))
    exact ⟨lcExt_set (by simp), ht _ _ _ (k1 _ (Same.refl _))⟩
  · intro D H' hD s1 hd
    refine fin D H' hD s1 ?_
    rw [hd]
    congr 2
    apply List.ext_getElem?
    intro i
    by_cases hi : i < cs.length
    · rw [List.getElem?_map, List.getElem?_range hi, List.map_map, List.getElem?_map, List.getElem?_eq_getElem hi]
      show some (V.int (f (cs.getD i 0))) = some (V.int (f cs[i]))
      rw [List.getD_eq_getElem?_getD, List.getElem?_eq_getElem hi]; rfl
    · rw [List.getElem?_eq_none (by simp; lia), List.getElem?_eq_none (by simp; lia)]
noncomputable def spBent (K : PySem.W.Frag) : Sp := fun vs H Q _ => ∃ (p : Addr) (c : Int) (ns : List Int), vs = [.ref p, .int c] ∧ SqL K H p (ns.map V.int) ∧ ns.length ≤ 1000 ∧
  ∀ r H' (ms : List Int), H r = none → Same H H' → H' r = some (.lst (ms.map V.int)) → ms.length ≤ 3001 → Q (.ref r) H'
noncomputable abbrev NB : List Str := ["_law_some", "_law_cell", "_law_kind", "_law_at"]
section
variable {P : Program} {w : World} {K : PySem.W.Frag} {mg : Str → Option Value} {base : Heap}
theorem scBent : FnScope NB ["_law_some", "_law_cell"] (defScope sBent) := ⟨rfl, rfl, rfl, by decide +kernel, rfl, by decide +kernel, by decide +kernel⟩
theorem ok_bent {f : Addr} {fd : FuncData} (F : Fun K "_law_bent" "_law_bent" sBent f fd) (B : Bl mg) : FnOk P w K mg base CX0 1 f fd ["_law_some", "_law_cell"] (spBent K) := by
  refine F.ok scBent (fun vs H Q E h => ?_) (fun cdv A outer s H vs Q E hr h => ?_)
  · obtain ⟨p, c, ns, rfl, _⟩ := h
    rfl
  · obtain ⟨p, c, ns, rfl, hp, hn, k⟩ := h
    have T7 : ∃ t, PSs (cxOf CX0 P w K mg base NB "_law_bent" (defScope sBent) f cdv A outer s H E).nox ((defBody sBent).drop 7) t ∧ ∀ (kd ia : Int),
        t { nx := fun _ H' => Q .non H', rt := Q } [some (.ref p), some (.int c), some (.int kd), some (.int ia)] H := by
      refine ⟨_, pss_one (ps_ret (pe_ifExp (pt_cmpR op_eq (pv 2) pe_int (nomark _)) (pe_sliceS sls_list (pv 0) po_none po_none (po_some (pe_un un_neg pe_int))) (pe_callTy call_list_of rfl B.list (by decide +kernel) (pa_cons (pv 0) pa_nil)))), ?_⟩
      intro kd ia
      refine ⟨_, rfl, rfl, _, rfl, ?_⟩
      by_cases h6 : kd = 6
      · rw [decide_eq_true (congrArg V.int h6)]
        refine iteT ⟨_, rfl, _, rfl, _, rfl, _, rfl, p, _, rfl, hp, by decide, fun r hr => ?_⟩
        refine k r _ ns.reverse hr ((Same.refl _).upd hr) ?_ (by rw [List.length_reverse]; lia)
        rw [upd_same, List.map_reverse]
        exact congrArg (fun l => some (HO.lst l)) (pickBy_rev _)
      · rw [decide_eq_false (by intro z; injection z with z; exact h6 z)]
        exact iteF ⟨_, rfl, p, _, rfl, .inl hp, fun r hr => k r _ ns hr ((Same.refl _).upd hr) upd_same (by lia)⟩
    obtain ⟨t7, p7, r7⟩ := T7
    have T6 : ∃ t, PSs (cxOf CX0 P w K mg base NB "_law_bent" (defScope sBent) f cdv A outer s H E).nox ((defBody sBent).drop 6) t ∧ ∀ (kd ia : Int),
        t { nx := fun _ H' => Q .non H', rt := Q } [some (.ref p), some (.int c), some (.int kd), some (.int ia)] H := by
      refine ⟨_, pss_cons (ps_if (pt_cmpR op_eq (pv 2) pe_int (nomark _)) (pss_one (ps_ret
        (pe_lc (N := NB) (sc := defScope sBent) (own := ["_law_one"]) (cap := []) (g := gName 0) (te := tOp (rI CMul fun i j => .int (i * j)) (tC (.int 2)) (tVar 0)) ⟨rfl, by decide +kernel, by decide +kernel, by decide +kernel, by decide +kernel⟩ (pi_list (pv 0))
          (fun _ _ _ _ _ => pg_name (i := 0) (show (lcN NB ["_law_one"] []).Nodup by decide +kernel) rfl (Or.inl rfl) (.inr rfl)) (fun _ _ _ _ _ => pif_nil) (fun _ _ _ _ _ => pe_op op_mul pe_int (pv 0))))) pss_nil) p7, ?_⟩
      intro kd ia
      refine ⟨_, rfl, rfl, _, rfl, ?_⟩
      by_cases h5 : kd = 5
      · rw [decide_eq_true (congrArg V.int h5)]
        refine iteT ⟨_, rfl, p, rfl, ⟨_, hp⟩, lc_ints (fun x => 2 * x) hp (by lia) (fun x H' K1 k1 => ⟨_, rfl, _, _, rfl, rfl, .inl ⟨by decide, by decide⟩, k1⟩) fun D H' hD s1 hd => ?_⟩
        exact k D H' _ hD s1 hd (by rw [List.length_map]; lia)
      · rw [decide_eq_false (by intro z; injection z with z; exact h5 z)]
        exact iteF (r7 kd ia)
    obtain ⟨t6, p6, r6⟩ := T6
    have T5 : ∃ t, PSs (cxOf CX0 P w K mg base NB "_law_bent" (defScope sBent) f cdv A outer s H E).nox ((defBody sBent).drop 5) t ∧ ∀ (kd ia : Int),
        t { nx := fun _ H' => Q .non H', rt := Q } [some (.ref p), some (.int c), some (.int kd), some (.int ia)] H := by
      refine ⟨_, pss_cons (ps_if (pt_cmpR op_eq (pv 2) pe_int (nomark _)) (pss_one (ps_ret (pe_op op_cat (pe_op op_cat (pe_slice sl_list (pv 0) po_none (po_some (pv 3))) (pe_lst (pa_cons (pe_op op_mod (pv 1) pe_int) pa_nil))) (pe_slice sl_list (pv 0) (po_some (pv 3)) po_none)))) pss_nil) p6, ?_⟩
      intro kd ia
      refine ⟨_, rfl, rfl, _, rfl, ?_⟩
      by_cases hk : kd = 4
      · rw [decide_eq_true (congrArg V.int hk)]
        refine iteT ?_
        refine ⟨_, rfl, _, rfl, _, rfl, sl_ints hp fun p1 H1 cs1 f1 s1 d1 l1 => ?_⟩
        refine ⟨_, rfl, _, _, rfl, rfl, by show (0 : Int) < 9; decide, by show 1 ≤ sizeLine; decide, fun p2 f2 => ?_⟩
        have s2 : Same H1 (upd H1 p2 (.lst [.int (c % 9)])) := (Same.refl _).upd f2
        refine cat_ints (ys := [c % 9]) (s2 _ _ d1) upd_same (by rw [List.length_singleton]; lia) fun p4 H4 f4 s4 d4 => ?_
        refine ⟨_, rfl, _, rfl, _, rfl, ?_⟩
        dsimp only [tNoPart]
        refine sl_ints (((s1.trans s2).trans s4).seq hp) fun p5 H5 cs5 f5 s5 d5 l5 => ?_
        refine cat_ints (s5 _ _ d4) d5 (by rw [List.length_append, List.length_singleton]; lia) fun p6 H6 f6 s6 d6 => ?_
        have sA := ((s1.trans s2).trans s4).trans s5
        exact k p6 H6 _ (sA.free f6) (sA.trans s6) d6 (by rw [List.length_append, List.length_append, List.length_singleton]; lia)
      · rw [decide_eq_false (by intro z; injection z with z; exact hk z)]
        exact iteF (r6 kd ia)
    obtain ⟨t5, p5, r5⟩ := T5
    have T4 : ∃ t, PSs (cxOf CX0 P w K mg base NB "_law_bent" (defScope sBent) f cdv A outer s H E).nox ((defBody sBent).drop 4) t ∧ ∀ (kd ia : Int),
        t { nx := fun _ H' => Q .non H', rt := Q } [some (.ref p), some (.int c), some (.int kd), some (.int ia)] H := by
      refine ⟨_, pss_cons (ps_if (pt_cmpR op_eq (pv 2) pe_int (nomark _)) (pss_one (ps_ret (pe_op op_cat (pe_slice sl_list (pv 0) po_none (po_some (pv 3))) (pe_slice sl_list (pv 0) (po_some (pe_op op_add (pv 3) pe_int)) po_none)))) pss_nil) p5, ?_⟩
      intro kd ia
      refine ⟨_, rfl, rfl, _, rfl, ?_⟩
      by_cases hk : kd = 3
      · rw [decide_eq_true (congrArg V.int hk)]
        refine iteT ?_
        refine ⟨_, rfl, _, rfl, _, rfl, sl_ints hp fun p1 H1 cs1 f1 s1 d1 l1 => ?_⟩
        refine ⟨_, rfl, _, rfl, _, _, rfl, rfl, _, rfl, ?_⟩
        dsimp only [tNoPart]
        refine sl_ints (s1.seq hp) fun p5 H5 cs5 f5 s5 d5 l5 => ?_
        refine cat_ints (s5 _ _ d1) d5 (by lia) fun p6 H6 f6 s6 d6 => ?_
        exact k p6 H6 _ ((s1.trans s5).free f6) ((s1.trans s5).trans s6) d6 (by rw [List.length_append]; lia)
      · rw [decide_eq_false (by intro z; injection z with z; exact hk z)]
        exact iteF (r5 kd ia)
    obtain ⟨t4, p4, r4⟩ := T4
    have T3 : ∃ t, PSs (cxOf CX0 P w K mg base NB "_law_bent" (defScope sBent) f cdv A outer s H E).nox ((defBody sBent).drop 3) t ∧ ∀ (kd ia : Int),
        t { nx := fun _ H' => Q .non H', rt := Q } [some (.ref p), some (.int c), some (.int kd), some (.int ia)] H := by
      refine ⟨_, pss_cons (ps_if (pt_cmpR op_eq (pv 2) pe_int (nomark _)) (pss_one (ps_ret (pe_op op_cat (pe_op op_cat (pe_slice sl_list (pv 0) po_none (po_some (pv 3))) (pe_lc (N := NB) (sc := defScope sBent) (own := ["_law_one"]) (cap := []) (g := gName 0) (te := tOp (rI0 fun i j => .int (i - j)) (tVar 0) (tC (.int 1))) ⟨rfl, by decide +kernel, by decide +kernel, by decide +kernel, by decide +kernel⟩ (pi_list (pe_slice sl_list (pv 0) (po_some (pv 3)) (po_some (pe_op op_add (pv 3) pe_int))))
          (fun _ _ _ _ _ => pg_name (i := 0) (show (lcN NB ["_law_one"] []).Nodup by decide +kernel) rfl (Or.inl rfl) (.inr rfl)) (fun _ _ _ _ _ => pif_nil) (fun _ _ _ _ _ => pe_op op_sub (pv 0) pe_int))) (pe_slice sl_list (pv 0) (po_some (pe_op op_add (pv 3) pe_int)) po_none)))) pss_nil) p4, ?_⟩
      intro kd ia
      refine ⟨_, rfl, rfl, _, rfl, ?_⟩
      by_cases hk : kd = 2
      · rw [decide_eq_true (congrArg V.int hk)]
        refine iteT ?_
        refine ⟨_, rfl, _, rfl, _, rfl, sl_ints hp fun p1 H1 cs1 f1 s1 d1 l1 => ?_⟩
        refine ⟨_, rfl, _, rfl, _, rfl, _, rfl, _, _, rfl, rfl, _, rfl, sl_ints (s1.seq hp) fun p2 H2 cs2 f2 s2 d2 l2 => ?_⟩
        refine ⟨p2, rfl, ⟨_, SqL.of d2⟩, lc_ints (fun x => x - 1) (SqL.of d2) (by lia) (fun x H' K1 k1 => ⟨_, rfl, _, _, rfl, rfl, k1⟩) fun p3 H3 f3 s3 d3 => ?_⟩
        refine cat_ints (s3 _ _ (s2 _ _ d1)) d3 (by rw [List.length_map]; lia) fun p4 H4 f4 s4 d4 => ?_
        refine ⟨_, rfl, _, rfl, _, _, rfl, rfl, _, rfl, ?_⟩
        dsimp only [tNoPart]
        refine sl_ints ((((s1.trans s2).trans s3).trans s4).seq hp) fun p5 H5 cs5 f5 s5 d5 l5 => ?_
        refine cat_ints (s5 _ _ d4) d5 (by rw [List.length_append, List.length_map]; lia) fun p6 H6 f6 s6 d6 => ?_
        have sA := (((s1.trans s2).trans s3).trans s4).trans s5
        exact k p6 H6 _ (sA.free f6) (sA.trans s6) d6 (by rw [List.length_append, List.length_append, List.length_map]; lia)
      · rw [decide_eq_false (by intro z; injection z with z; exact hk z)]
        exact iteF (r4 kd ia)
    obtain ⟨t3, p3, r3⟩ := T3
    have T2 : ∃ t, PSs (cxOf CX0 P w K mg base NB "_law_bent" (defScope sBent) f cdv A outer s H E).nox ((defBody sBent).drop 2) t ∧ ∀ (kd ia : Int),
        t { nx := fun _ H' => Q .non H', rt := Q } [some (.ref p), some (.int c), some (.int kd), some (.int ia)] H := by
      refine ⟨_, pss_cons (ps_if (pt_cmpR op_eq (pv 2) pe_int (nomark _)) (pss_one (ps_ret (pe_op op_cat (pe_op op_cat (pe_slice sl_list (pv 0) po_none (po_some (pv 3))) (pe_lc (N := NB) (sc := defScope sBent) (own := ["_law_one"]) (cap := []) (g := gName 0) (te := tOp (rI0 fun i j => .int (i + j)) (tVar 0) (tC (.int 1))) ⟨rfl, by decide +kernel, by decide +kernel, by decide +kernel, by decide +kernel⟩ (pi_list (pe_slice sl_list (pv 0) (po_some (pv 3)) (po_some (pe_op op_add (pv 3) pe_int))))
          (fun _ _ _ _ _ => pg_name (i := 0) (show (lcN NB ["_law_one"] []).Nodup by decide +kernel) rfl (Or.inl rfl) (.inr rfl)) (fun _ _ _ _ _ => pif_nil) (fun _ _ _ _ _ => pe_op op_add (pv 0) pe_int))) (pe_slice sl_list (pv 0) (po_some (pe_op op_add (pv 3) pe_int)) po_none)))) pss_nil) p3, ?_⟩
      intro kd ia
      refine ⟨_, rfl, rfl, _, rfl, ?_⟩
      by_cases hk : kd = 1
      · rw [decide_eq_true (congrArg V.int hk)]
        refine iteT ?_
        refine ⟨_, rfl, _, rfl, _, rfl, sl_ints hp fun p1 H1 cs1 f1 s1 d1 l1 => ?_⟩
        refine ⟨_, rfl, _, rfl, _, rfl, _, rfl, _, _, rfl, rfl, _, rfl, sl_ints (s1.seq hp) fun p2 H2 cs2 f2 s2 d2 l2 => ?_⟩
        refine ⟨p2, rfl, ⟨_, SqL.of d2⟩, lc_ints (fun x => x + 1) (SqL.of d2) (by lia) (fun x H' K1 k1 => ⟨_, rfl, _, _, rfl, rfl, k1⟩) fun p3 H3 f3 s3 d3 => ?_⟩
        refine cat_ints (s3 _ _ (s2 _ _ d1)) d3 (by rw [List.length_map]; lia) fun p4 H4 f4 s4 d4 => ?_
        refine ⟨_, rfl, _, rfl, _, _, rfl, rfl, _, rfl, ?_⟩
        dsimp only [tNoPart]
        refine sl_ints ((((s1.trans s2).trans s3).trans s4).seq hp) fun p5 H5 cs5 f5 s5 d5 l5 => ?_
        refine cat_ints (s5 _ _ d4) d5 (by rw [List.length_append, List.length_map]; lia) fun p6 H6 f6 s6 d6 => ?_
        have sA := (((s1.trans s2).trans s3).trans s4).trans s5
        exact k p6 H6 _ (sA.free f6) (sA.trans s6) d6 (by rw [List.length_append, List.length_append, List.length_map]; lia)
      · rw [decide_eq_false (by intro z; injection z with z; exact hk z)]
        exact iteF (r3 kd ia)
    obtain ⟨t2, p2, r2⟩ := T2
    refine ⟨_, pss_cons (ps_set (i := 2) scBent.nd rfl (Or.inl rfl) (pe_op op_mod (pv 1) pe_int)) (pss_cons (ps_set (i := 3) scBent.nd rfl (Or.inl rfl) (pe_op op_mod (pe_op op_fdiv (pv 1) pe_int) (pe_op op_add (pe_callB call_len_seq rfl B.len (by decide +kernel) (pa_cons (pv 0) pa_nil)) pe_int))) p2), ?_⟩
    refine ⟨_, rfl, _, _, rfl, rfl, by show (0 : Int) < 7; decide, ?_⟩
    refine ⟨_, rfl, _, _, rfl, rfl, ⟨by show (0 : Int) < 7; decide, by show (7 : Int) < 1073741824; decide⟩, _, rfl, p, _, rfl, .inl hp, _, _, rfl, rfl, _, _, rfl, rfl, by rw [List.length_map]; show (0 : Int) < _; lia, ?_⟩
    exact r2 _ _
end
end FW
namespace FW
open PySem L2 L2T
section
variable {P : Program} {w : World} {K : PySem.W.Frag} {mg : Str → Option Value} {base : Heap}
noncomputable abbrev NR : List Str := ["_law_sides", "_law_one", "_law_other", "_law_parts", "_law_whole", "_law_states", "_law_part", "_law_state", "_law_many", "_law_total", "_law_letter", "_law_now"]
theorem scRace : FnScope NR ["_law_sides", "_law_one", "_law_other", "_law_parts", "_law_whole"] (defScope sRace) := ⟨rfl, rfl, rfl, by decide +kernel, rfl, by decide +kernel, by decide +kernel⟩
theorem ok_lrace {f : Addr} {fd : FuncData} (F : Fun K "_law_race" "_law_race" sRace f fd) (B : Bl mg) : FnOk P w K mg base CX0 1 f fd ["_law_sides", "_law_one", "_law_other", "_law_parts", "_law_whole"] (spLRace K) := by
  refine F.ok scRace (fun vs H Q E h => ?_) (fun cdv A outer s H vs Q E hr h => ?_)
  · obtain ⟨q, a, b, p, ps, wh, rfl, _⟩ := h
    rfl
  · obtain ⟨q, a, b, p, ps, wh, rfl, hS, h2, h26, hne, la, lb, k⟩ := h
    have hu := hu_of hr
    have T5 : ∃ t, PSs (cxOf CX0 P w K mg base NR "_law_race" (defScope sRace) f cdv A outer s H E).nox ((defBody sRace).drop 6) t ∧ ∀ (st d : Addr) (v7 v8 : Option V) (H1 : Hp), ps.length = (stS a b).length → Same H H1 → H st = none → H d = none → H1 st = some (.lst (sts a b)) → H1 d = some (.dK (dk (pairsS a b ps))) →
        (∀ H', Same H H' → Q (.bl ((stS a b).all fun s => decide (s = a ∨ s = b) || decide (sumR q a b (pairsS a b ps) s q = q * prt (pairsS a b ps) s))) H') →
        t { nx := fun _ H' => Q .non H', rt := Q } [some (.int q), some (.str (tx a)), some (.str (tx b)), some (.ref p), some (.int wh), some (.ref st), some (.ref d), v7, v8, none, none, none] H1 := by
      refine ⟨_, pss_cons (ps_for PassesOwn.never rfl (pi_list (pv 5)) (pg_name (i := 7) scRace.nd rfl (Or.inl rfl))
          (pss_one (ps_if (pt_cmpR op_notIn_seq (pv 7) (pe_lst (pa_cons (pv 1) (pa_cons (pv 2) pa_nil))) rfl)
            (pss_cons (ps_set (i := 9) scRace.nd rfl (Or.inl rfl) pe_int)
            (pss_cons (ps_for PassesOwn.never rfl (pi_str (pe_slice sl_str (pe_tx (l := alpha)) po_none (po_some (pv 0)))) (pg_name (i := 10) scRace.nd rfl (Or.inl rfl))
              (pss_cons (ps_set (i := 11) scRace.nd rfl (Or.inl rfl) (pe_op op_add_tx (pv 7) (pv 10)))
              (pss_cons (ps_while PassesOwn.never (pt_cmp (pc_dnotin hu (pv 11) (pv 6)) rfl) (pss_one (ps_set (i := 11) scRace.nd rfl (Or.inl rfl) (pe_slice sl_str (pv 11) (po_some pe_int) po_none))))
              (pss_one (ps_set (i := 9) scRace.nd rfl (Or.inl rfl) (pe_op op_add (pv 9) (pe_dget hu (pv 6) (pv 11) (fun _ _ => rfl))))))))
            (pss_one (ps_if (pt_cmpR op_ne (pv 9) (pe_op op_mul (pv 0) (pe_dget hu (pv 6) (pv 7) (fun _ _ => rfl))) (nomark _)) (pss_one (ps_ret pe_bl)) pss_nil))))
            pss_nil)))
        (pss_one (ps_ret pe_bl)), ?_⟩
      intro st d v7 v8 H1 hlen s1 hst hd e1 e2 fin
      have get : ∀ {H2 : Hp} {t : List Nat}, H2 d = some (.dK (dk (pairsS a b ps))) → isSt a b t = true → DGet H2 d (.str (tx t)) (some (.int (prt (pairsS a b ps) t))) := fun {H2 t} e ht => by
        have g := DGet.k (k := .inr (tx t)) e
        rw [valV_dk, lookup_some (by rw [pairs_fst hlen]; exact mem_stS.mpr ht)] at g
        exact g
      have miss : ∀ {H2 : Hp} {t : List Nat}, H2 d = some (.dK (dk (pairsS a b ps))) → ¬ isSt a b t = true → DGet H2 d (.str (tx t)) none := fun {H2 t} e ht => by
        have g := DGet.k (k := .inr (tx t)) e
        rw [valV_dk, lookup_none (by rw [pairs_fst hlen]; exact fun z => ht (mem_stS.mp z))] at g
        exact g
      refine ⟨_, rfl, st, rfl, ⟨_, SqL.of e1⟩, for_list (xs := sts a b) (fun i σ H2 => ∃ v7 v9 v10 v11, σ = [some (.int q), some (.str (tx a)), some (.str (tx b)), some (.ref p), some (.int wh), some (.ref st), some (.ref d), v7, v8, v9, v10, v11] ∧ Same H H2 ∧ H2 st = some (.lst (sts a b)) ∧ H2 d = some (.dK (dk (pairsS a b ps))) ∧
          ∀ s, s ∈ (stS a b).take i → (s = a ∨ s = b) ∨ sumR q a b (pairsS a b ps) s q = q * prt (pairsS a b ps) s) ⟨v7, none, none, none, rfl, s1, e1, e2, fun s hs => by simp at hs⟩ (fun i σ H2 _ zz => by obtain ⟨_, _, _, _, _, _, e, _⟩ := zz; exact SqL.of e) ?_ ?_⟩
      · rintro i x σ H2 hx ⟨v7, v9, v10, v11, rfl, s2, f1, f2, hall⟩
        obtain ⟨sx, hsx, rfl⟩ : ∃ sx, (stS a b)[i]? = some sx ∧ V.str (tx sx) = x := by
          unfold sts at hx
          rw [List.getElem?_map] at hx
          exact Option.map_eq_some_iff.mp hx
        have hst' : isSt a b sx = true := mem_stS.mp (List.mem_of_getElem? hsx)
        have hsl : sx.length ≤ 30 := by
          unfold isSt at hst'
          rw [Bool.or_eq_true, decide_eq_true_eq, decide_eq_true_eq] at hst'
          rcases hst' with z | z
          · exact Nat.le_trans z.length_le la
          · exact Nat.le_trans z.length_le lb
        have more : (sx = a ∨ sx = b) ∨ sumR q a b (pairsS a b ps) sx q = q * prt (pairsS a b ps) sx → ∀ s, s ∈ (stS a b).take (i + 1) → (s = a ∨ s = b) ∨ sumR q a b (pairsS a b ps) s q = q * prt (pairsS a b ps) s := fun hh s hs => by
          rw [List.take_add_one, hsx, List.mem_append] at hs
          rcases hs with z | z
          · exact hall s z
          · have e : s = sx := by simpa using z
            rw [e]; exact hh
        refine ⟨_, rfl, _, rfl, _, rfl, by show 2 ≤ sizeLine; decide, fun L hL => ⟨L, _, rfl, .inl (SqL.of upd_same), rfl, rfl, _, rfl, ?_⟩⟩
        have s3 : Same H (upd H2 L (.lst [.str (tx a), .str (tx b)])) := s2.upd (s2.free hL)
        have g1 : upd H2 L (.lst [.str (tx a), .str (tx b)]) st = some (.lst (sts a b)) := by rw [upd_ne (ne_of_none f1 hL)]; exact f1
        have g2 : upd H2 L (.lst [.str (tx a), .str (tx b)]) d = some (.dK (dk (pairsS a b ps))) := by rw [upd_ne (ne_of_none f2 hL)]; exact f2
        generalize upd H2 L (.lst [.str (tx a), .str (tx b)]) = H3 at s3 g1 g2 ⊢
        rw [inV_two, if_pos rfl]
        by_cases hab : sx = a ∨ sx = b
        · rw [decide_eq_true hab]
          exact iteF ⟨_, _, _, _, rfl, s3, g1, g2, more (.inl hab)⟩
        · rw [decide_eq_false hab]
          refine iteT ?_
          refine ⟨_, rfl, _, rfl, alpha, rfl, by decide, _, rfl, ?_⟩
          rw [cutL_to]
          refine for_str (l := alpha.take q) (fun j σ H4 => ∃ v10 v11, σ = [some (.int q), some (.str (tx a)), some (.str (tx b)), some (.ref p), some (.int wh), some (.ref st), some (.ref d), some (.str (tx sx)), v8, some (.int (sumR q a b (pairsS a b ps) sx j)), v10, v11] ∧ H4 = H3) ⟨_, _, rfl, rfl⟩ ?_ ?_
          · rintro j c σ H4 hc ⟨v10, v11, rfl, rfl⟩
            refine ⟨_, rfl, _, rfl, _, _, rfl, rfl, sz (by rw [List.length_singleton]; lia), ?_⟩
            refine ⟨fun m σ H5 => H5 = H4 ∧ ∃ t, t.length = m ∧ t.length ≤ 1001 ∧ nxt a b t = nxt a b (sx ++ [c]) ∧ σ = [some (.int q), some (.str (tx a)), some (.str (tx b)), some (.ref p), some (.int wh), some (.ref st), some (.ref d), some (.str (tx sx)), v8, some (.int (sumR q a b (pairsS a b ps) sx j)), some (.str (tx [c])), some (.str (tx t))],
              ⟨_, rfl, sx ++ [c], rfl, by rw [List.length_append, List.length_singleton]; lia, rfl, rfl⟩, ?_⟩
            rintro m σ H5 ⟨rfl, t, rfl, ht, en, rfl⟩
            by_cases hs : isSt a b t = true
            · refine ⟨_, rfl, _, rfl, d, _, rfl, get g2 hs, _, rfl, iteF ?_⟩
              refine ⟨_, rfl, _, rfl, _, rfl, d, _, rfl, get g2 hs, _, _, rfl, rfl, ?_⟩
              refine ⟨some (.str (tx [c])), some (.str (tx t)), ?_, rfl⟩
              rw [sumR_succ hc, ← en, nxt_of_st hs]
              rfl
            · refine ⟨_, rfl, _, rfl, d, _, rfl, miss g2 hs, _, rfl, iteT ?_⟩
              cases t with
              | nil => exact absurd (isSt_nil a b) hs
              | cons c0 t0 =>
                refine ⟨fun σ' H' => H' = H5 ∧ σ' = [some (.int q), some (.str (tx a)), some (.str (tx b)), some (.ref p), some (.int wh), some (.ref st), some (.ref d), some (.str (tx sx)), v8, some (.int (sumR q a b (pairsS a b ps) sx j)), some (.str (tx [c])), some (.str (tx t0))],
                  fun σ' H' ⟨z1, z2⟩ => ⟨t0.length, by rw [List.length_cons]; lia, z1, t0, rfl, by rw [List.length_cons] at ht; lia, ?_, z2⟩, ?_⟩
                · rw [← en]
                  conv => rhs; unfold nxt
                  rw [if_neg hs]
                · refine ⟨_, rfl, _, rfl, c0 :: t0, rfl, sz (by lia), ?_⟩
                  rw [show cutL (c0 :: t0) (some 1) none = t0 from cutL_from (c0 :: t0) 1]
                  exact ⟨rfl, rfl⟩
          · rintro σ H4 ⟨v10, v11, rfl, rfl⟩
            rw [sumR_all h26]
            refine ⟨_, rfl, _, rfl, _, rfl, _, rfl, d, _, rfl, get g2 hst', _, _, rfl, rfl, .inl ⟨by lia, by lia⟩, rfl, _, rfl, ?_⟩
            dsimp only
            by_cases hc : sumR q a b (pairsS a b ps) sx q = q * prt (pairsS a b ps) sx
            · rw [decide_eq_true (congrArg V.int hc)]
              exact iteF ⟨_, _, _, _, rfl, s3, g1, g2, more (.inr hc)⟩
            · rw [decide_eq_false (by intro z; injection z with z; exact hc z)]
              refine iteT ?_
              have := fin H4 s3
              rw [List.all_eq_false.mpr ⟨sx, List.mem_of_getElem? hsx, by rw [decide_eq_false hab, decide_eq_false hc]; simp⟩] at this
              exact this
      · rintro σ H2 ⟨v7, v9, v10, v11, rfl, s2, f1, f2, hall⟩
        have := fin H2 s2
        rw [List.all_eq_true.mpr fun sx hs => by
          have e : (sts a b).length = (stS a b).length := by unfold sts; rw [List.length_map]
          rw [e, List.take_length] at hall
          rw [Bool.or_eq_true, decide_eq_true_eq, decide_eq_true_eq]
          exact hall sx hs] at this
        exact this
    obtain ⟨t5, p5, r5⟩ := T5
    have T2 : ∃ t, PSs (cxOf CX0 P w K mg base NR "_law_race" (defScope sRace) f cdv A outer s H E).nox ((defBody sRace).drop 2) t ∧ ∀ (st : Addr) (H1 : Hp), H st = none → Same H H1 → H1 st = some (.lst (sts a b)) →
        t { nx := fun _ H' => Q .non H', rt := Q } [some (.int q), some (.str (tx a)), some (.str (tx b)), some (.ref p), some (.int wh), some (.ref st), none, none, none, none, none, none] H1 := by
      refine ⟨_, pss_cons (ps_if (PW.pt (pw_or (pt_cmpR op_lt (pv 4) pe_int (nomark _)) (pw_or1 (pt_cmpR op_ne (pe_callB call_len_seq rfl B.len (by decide +kernel) (pa_cons (pv 3) pa_nil)) (pe_callB call_len_seq rfl B.len (by decide +kernel) (pa_cons (pv 5) pa_nil)) (nomark _))))) (pss_one (ps_ret pe_bl)) pss_nil)
      (pss_cons (ps_set (i := 6) scRace.nd rfl (Or.inl rfl) pe_dnewK)
      (pss_cons (ps_for PassesOwn.never rfl (pi_zip rfl B.zip (pa_cons (pv 5) (pa_cons (pv 3) pa_nil))) (pg_tup (n := 2) rfl (pgs_cons (pg_name (i := 7) scRace.nd rfl (Or.inl rfl)) (pgs_cons (pg_name (i := 8) scRace.nd rfl (Or.inl rfl)) pgs_nil)))
        (pss_one (ps_dput hu (pv 6) (pv 7) (pv 8) rfl)))
      (pss_cons (ps_if (PW.pt (pw_or (pt_cmpR op_ne (pe_dget hu (pv 6) (pv 1) (fun _ _ => rfl)) (pv 4) (nomark _)) (pw_or1 (pt_cmpR op_ne (pe_dget hu (pv 6) (pv 2) (fun _ _ => rfl)) pe_int (nomark _))))) (pss_one (ps_ret pe_bl)) pss_nil)
      p5))), ?_⟩
      intro st H1 hst s1 e1
      refine ⟨_, rfl, _, _, rfl, rfl, _, rfl, ?_⟩
      unfold raceB at k
      by_cases hw : 1 ≤ wh
      · rw [decide_eq_true hw] at k
        rw [decide_eq_false (by show ¬ wh < 1; lia)]
        refine iteF ⟨_, rfl, p, _, rfl, .inl (s1.seq hS), _, rfl, st, _, rfl, .inl (SqL.of e1), rfl, _, rfl, ?_⟩
        have el : (sts a b).length = (stS a b).length := by unfold sts; rw [List.length_map]
        rw [List.length_map, el]
        by_cases hl : ps.length = (stS a b).length
        · rw [decide_eq_true hl] at k
          rw [decide_eq_true (by rw [hl])]
          refine iteF fun d hd => ?_
          have nsd : st ≠ d := ne_of_none e1 hd
          have hsd := s1.free hd
          refine ⟨_, rfl, _, rfl, st, p, rfl, ⟨_, SqL.of (by rw [upd_ne nsd]; exact e1)⟩, ⟨_, (s1.upd hsd).seq hS⟩,
            for_zip (xs := sts a b) (ys := ps.map V.int) (fun i σ H2 => ∃ v7 v8, σ = [some (.int q), some (.str (tx a)), some (.str (tx b)), some (.ref p), some (.int wh), some (.ref st), some (.ref d), v7, v8, none, none, none] ∧ Same H H2 ∧ H2 st = some (.lst (sts a b)) ∧ H2 d = some (.dK (dk ((pairsS a b ps).take i))))
              ⟨none, none, rfl, s1.upd hsd, by rw [upd_ne nsd]; exact e1, upd_same⟩ (fun i σ H2 zz => by obtain ⟨_, _, _, s2, f1, _⟩ := zz; exact ⟨SqL.of f1, s2.seq hS⟩) (by rw [el, List.length_map, hl]) ?_ ?_⟩
          · rintro i x y T σ H2 hx hy ⟨v7, v8, rfl, s2, f1, f2⟩ hT
            obtain ⟨sx, hsx, rfl⟩ : ∃ sx, (stS a b)[i]? = some sx ∧ V.str (tx sx) = x := by
              unfold sts at hx
              rw [List.getElem?_map] at hx
              exact Option.map_eq_some_iff.mp hx
            obtain ⟨n, hn, rfl⟩ : ∃ n, ps[i]? = some n ∧ V.int n = y := by
              rw [List.getElem?_map] at hy
              exact Option.map_eq_some_iff.mp hy
            have hpair : (pairsS a b ps)[i]? = some (sx, n) := by
              unfold pairsS
              rw [List.getElem?_zip_eq_some]
              exact ⟨hsx, hn⟩
            have hnew : sx ∉ ((pairsS a b ps).take i).map (·.1) := by
              rw [List.map_take, pairs_fst hl]
              intro z
              obtain ⟨j, hj, ej⟩ := List.mem_iff_getElem.mp z
              rw [List.length_take] at hj
              rw [List.getElem_take] at ej
              obtain ⟨hi, ei⟩ := List.getElem?_eq_some_iff.mp hsx
              have := (List.getElem_inj (stS_nd a b)).mp (ej.trans ei.symm)
              lia
            refine ⟨T, _, rfl, SqT.of upd_same, rfl, _, _, rfl, _, _, rfl, rfl, ?_⟩
            have f1' : upd H2 T (.tup [.str (tx sx), .int n]) st = some (.lst (sts a b)) := by rw [upd_ne (ne_of_none f1 hT)]; exact f1
            have f2' : upd H2 T (.tup [.str (tx sx), .int n]) d = some (.dK (dk ((pairsS a b ps).take i))) := by rw [upd_ne (ne_of_none f2 hT)]; exact f2
            have s2' : Same H (upd H2 T (.tup [.str (tx sx), .int n])) := s2.upd (s2.free hT)
            generalize upd H2 T (.tup [.str (tx sx), .int n]) = H3 at f1' f2' s2' ⊢
            refine ⟨_, rfl, _, rfl, _, rfl, d, _, rfl, DPut.k (k := .inr (tx sx)) f2' ?_, ?_⟩
            · unfold dk
              rw [List.length_map, List.length_take]
              have := stS_len a b
              have e3 : (pairsS a b ps).length = (stS a b).length := by unfold pairsS; rw [List.length_zip]; lia
              exact sz' (by lia)
            · refine ⟨_, _, rfl, s2'.upd hsd, by rw [upd_ne nsd]; exact f1', ?_⟩
              rw [upd_same, putK_new _ (by rw [valV_dk, lookup_none hnew]; rfl), List.take_add_one, hpair]
              unfold dk
              rw [List.map_append]
              rfl
          · rintro σ H2 ⟨v7, v8, rfl, s2, f1, f2⟩
            have ft : (pairsS a b ps).take (sts a b).length = pairsS a b ps := by
              refine List.take_of_length_le ?_
              unfold pairsS
              rw [List.length_zip, el]
              lia
            rw [ft] at f2
            have get : ∀ {t : List Nat}, isSt a b t = true → DGet H2 d (.str (tx t)) (some (.int (prt (pairsS a b ps) t))) := fun {t} ht => by
              have g := DGet.k (k := .inr (tx t)) f2
              rw [valV_dk, lookup_some (by rw [pairs_fst hl]; exact mem_stS.mpr ht)] at g
              exact g
            have ia : isSt a b a = true := by have := isSt_takeA a b a.length; rwa [List.take_length] at this
            have ib : isSt a b b = true := by have := isSt_takeB a b b.length; rwa [List.take_length] at this
            refine ⟨_, rfl, _, rfl, d, _, rfl, get ia, _, rfl, rfl, _, rfl, ?_⟩
            by_cases h1 : prt (pairsS a b ps) a = wh
            · rw [decide_eq_true h1] at k
              rw [decide_eq_true (congrArg V.int h1)]
              refine iteF ⟨_, rfl, _, rfl, d, _, rfl, get ib, rfl, _, rfl, ?_⟩
              by_cases h0 : prt (pairsS a b ps) b = 0
              · rw [decide_eq_true h0] at k
                rw [decide_eq_true (congrArg V.int h0)]
                exact iteF (r5 st d v7 v8 H2 hl s2 hst hsd f1 f2 k)
              · rw [decide_eq_false h0] at k
                rw [decide_eq_false (by intro z; injection z with z; exact h0 z)]
                exact iteT (k H2 s2)
            · rw [decide_eq_false h1] at k
              rw [decide_eq_false (by intro z; injection z with z; exact h1 z)]
              exact iteT (iteT (k H2 s2))
        · rw [decide_eq_false hl] at k
          rw [decide_eq_false (by intro z; injection z with z; exact hl (by lia))]
          exact iteT (k H1 s1)
      · rw [decide_eq_false hw] at k
        rw [decide_eq_true (by show wh < 1; lia)]
        exact iteT (iteT (k H1 s1))
    obtain ⟨t2, p2, r2⟩ := T2
    refine ⟨_, pss_cons (ps_set (i := 5) scRace.nd rfl (Or.inl rfl) (pe_op op_cat
        (pe_lc (N := NR) (sc := defScope sRace) (own := ["_law_many"]) (cap := [1]) ⟨rfl, by decide +kernel, by decide +kernel, by decide +kernel, by decide +kernel⟩ (pi_range1 rfl B.range (pa_cons (pe_op op_add (pe_callB call_len_tx rfl B.len (by decide +kernel) (pa_cons (pv 1) pa_nil)) pe_int) pa_nil))
          (fun _ _ _ _ _ => pg_name (i := 0) (show (lcN NR ["_law_many"] [1]).Nodup by decide +kernel) rfl (Or.inl rfl) (.inr rfl)) (fun _ _ _ _ _ => pif_nil) (fun _ _ _ _ _ => pe_slice sl_str (pv 1) po_none (po_some (pv 0))))
        (pe_lc (N := NR) (sc := defScope sRace) (own := ["_law_many"]) (cap := [2]) ⟨rfl, by decide +kernel, by decide +kernel, by decide +kernel, by decide +kernel⟩ (pi_range1 rfl B.range (pa_cons (pe_op op_add (pe_callB call_len_tx rfl B.len (by decide +kernel) (pa_cons (pv 2) pa_nil)) pe_int) pa_nil))
          (fun _ _ _ _ _ => pg_name (i := 0) (show (lcN NR ["_law_many"] [2]).Nodup by decide +kernel) rfl (Or.inl rfl) (.inr rfl)) (fun _ _ _ _ _ => pif_nil) (fun _ _ _ _ _ => pe_slice sl_str (pv 1) po_none (po_some (pv 0))))))
      (pss_cons (ps_set (i := 5) scRace.nd rfl (Or.inl rfl) (pe_callB (call_sortedT rfl) rfl B.sorted (by decide +kernel) (pa_cons (pe_callTy (call_setT rfl) rfl B.set (by decide +kernel) (pa_cons (pv 5) pa_nil)) pa_nil)))
      p2), ?_⟩
    refine ⟨_, rfl, a, rfl, sz (by lia), _, _, rfl, rfl, _, rfl, by lia, by lia, lc_prefs la rfl fun D1 H1 f1 s1 d1 => ?_⟩
    refine ⟨_, rfl, b, rfl, sz (by lia), _, _, rfl, rfl, _, rfl, by lia, by lia, lc_prefs lb rfl fun D2 H2 f2 s2 d2 => ?_⟩
    refine ⟨D1, D2, _, _, rfl, rfl, s2 _ _ d1, d2, ?_, fun p0 hp0 => ?_⟩
    · unfold prefs
      simp only [List.length_map, List.length_range]
      exact sz (by lia)
    have e : ((prefs a).map fun s => V.str (tx s)) ++ ((prefs b).map fun s => V.str (tx s)) = ((bgn a b).map tx).map V.str := by
      unfold bgn
      rw [List.map_map, List.map_append]
      rfl
    rw [e]
    refine ⟨_, rfl, p0, _, rfl, SqL.of upd_same, ?_, fun S hS => ?_⟩
    · rw [List.length_map]
      unfold bgn prefs
      simp only [List.length_append, List.length_map, List.length_range]
      show _ < 4096
      lia
    refine ⟨S, _, _, rfl, upd_same, fun h z => z, bgn_two b hne, bgn_few la lb, fun st ss hR hp hso => ?_⟩
    have es := stS_only hp hso
    have s0 : Same H (upd H2 p0 (.lst (((bgn a b).map tx).map V.str))) := (s1.trans s2).upd ((s1.trans s2).free hp0)
    have s3 := s0.upd (o := .ext fun h => SetX P w h S (ded ((bgn a b).map tx))) (s0.free hS)
    rw [es]
    have hst := s3.free hR
    have s4 := s3.upd (o := .lst (((stS a b).map tx).map V.str)) hst
    have e1 : (upd (upd (upd H2 p0 (.lst (((bgn a b).map tx).map V.str))) S (.ext fun h => SetX P w h S (ded ((bgn a b).map tx)))) st (.lst (((stS a b).map tx).map V.str))) st = some (.lst (sts a b)) := by
      rw [upd_same, List.map_map]
      rfl
    exact r2 st _ hst s4 e1
end
end FW
namespace FW
open PySem L2 L2T
theorem showB_tab {q : Nat} (h26 : q ≤ 26) (w : List Nat) (ts : List Int) : showB q w ts = tabB q w ts := by
  unfold showB tabB
  congr 2
  have e : alpha.take q = (List.range q).map (97 + ·) := by
    unfold alpha
    rw [← List.map_take, List.take_range, Nat.min_eq_left h26]
  have h : ∀ m, rowS q w ts m q = (q : Int) + sumAt ts (rowL q w m) := fun m => by
    rw [rowS_sum h26, e]
    unfold sumZ sumAt rowL
    rw [List.map_map, List.map_map]
    rfl
  congr 1
  funext m
  rw [h m]
theorem made {H : Hp} {C x dx l : Addr} {ys : List V} {fs : List (Str × V)} (hx : H x = none) (hdx : H dx = none) (hl : upd (upd H dx (.own x)) x (.ins C dx []) l = none) :
    Same H (upd (upd (upd (upd H dx (.own x)) x (.ins C dx [])) l (.lst ys)) x (.ins C dx fs)) ∧ upd (upd (upd (upd H dx (.own x)) x (.ins C dx [])) l (.lst ys)) x (.ins C dx fs) l = some (.lst ys) ∧ H l = none := by
  have s1 : Same H (upd (upd H dx (.own x)) x (.ins C dx [])) := ((Same.refl _).upd hdx).upd hx
  have nlx : l ≠ x := by
    rintro rfl
    rw [upd_same] at hl
    cases hl
  exact ⟨(s1.upd (s1.free hl)).upd hx, by rw [upd_ne nlx, upd_same], s1.free hl⟩
theorem made_seq {K : PySem.W.Frag} {H : Hp} {C x dx p : Addr} {ys : List V} (hx : H x = none) (hdx : H dx = none) (hp : SqL K H p ys) : SqL K (upd (upd H dx (.own x)) x (.ins C dx [])) p ys :=
  Same.seq (((Same.refl _).upd hdx).upd hx) hp
theorem cut_neg (l : List Nat) {k : Nat} (hk : 1 ≤ k) : cutL l (some (-(k : Int))) none = l.drop (l.length - k) := by
  have e : HT.sIx l.length 0 (some (-(k : Int))) = l.length - k := by
    show (if -(k : Int) < 0 then (-(k : Int) + (l.length : Int)).toNat else _) = _
    rw [if_pos (by lia)]
    lia
  unfold cutL
  rw [e]
  show (l.drop (l.length - k)).take (l.length - (l.length - k)) = _
  rw [List.take_of_length_le (by rw [List.length_drop]; exact Nat.le_refl _)]
theorem stS_ab : stS [97] [98] = [[], [97], [98]] := by
  have h := stS_only (a := [97]) (b := [98]) (ss := [tx [], tx [97], tx [98]]) (by
    have e : ded ((bgn [97] [98]).map tx) = [tx [], tx [97], tx [98]] := by decide +kernel
    rw [e]) (by decide +kernel)
  have h2 := congrArg (List.map fun x : Str => x.cps.toList) h
  rw [List.map_map] at h2
  have h3 : (stS [97] [98]).map ((fun x : Str => x.cps.toList) ∘ tx) = stS [97] [98] := by
    have : ((fun x : Str => x.cps.toList) ∘ tx) = id := funext fun l => tx_toList l
    rw [this, List.map_id]
  rw [h3] at h2
  rw [← h2]
  decide +kernel
theorem race_ab : raceB 2 [97] [98] [1, 2, 0] 2 = true := by
  unfold raceB pairsS sumR
  rw [stS_ab]
  decide +kernel
noncomputable def forOf (s : Stmt) : List Stmt := match s with
  | .For _ _ b _ _ => b
  | _ => []
noncomputable def spLaw (K : PySem.W.Frag) : Sp := fun vs H Q _ => ∃ (a : Addr) (ns : List Int), vs = [.ref a] ∧ SqL K H a (ns.map V.int) ∧ ns.length ≤ 63 ∧ ∀ H', Q (.bl true) H'
noncomputable abbrev NL : List Str := ["_law_script", "_law_sides", "_law_word", "_law_other", "_law_table_here", "_law_apart", "_law_told", "_law_cell", "_law_drawn", "_law_some", "_law_handed", "_law_answer", "_law_whole", "_law_due"]
noncomputable abbrev lawB : List Stmt := forOf ((defBody sLaw).getD 6 sLaw)
noncomputable abbrev lawI : List Stmt := forOf (lawB.getD 1 sLaw)
noncomputable abbrev sl6 (a : Addr) (q : Nat) (w o : List Nat) (tl : Addr) (ap : Bool) (x : Addr) (v7 v8 v9 v10 v11 v12 v13 : Option V) : St :=
  [some (.ref a), some (vi q), some (.str (tx w)), some (.str (tx o)), some (.ref tl), some (.bl ap), some (.ref x), v7, v8, v9, v10, v11, v12, v13]
structure Wd (q : Nat) (w : List Nat) : Prop where
  q2 : 2 ≤ q
  q26 : q ≤ 26
  ne : w ≠ []
  len : w.length ≤ 30
  of : ∀ c ∈ w, c ∈ alpha.take q
theorem Wd.cut {q : Nat} {l : List Nat} (h2 : 2 ≤ q) (h26 : q ≤ 26) (ne : l ≠ []) (of : ∀ c ∈ l, c ∈ alpha.take q) {k : Nat} (hk : 1 ≤ k) (hk' : k ≤ 30) : Wd q (l.drop (l.length - k)) := by
  have hp : 0 < l.length := List.length_pos_iff.mpr ne
  refine ⟨h2, h26, ?_, by rw [List.length_drop]; lia, fun c hc => of c (List.mem_of_mem_drop hc)⟩
  intro z
  have := congrArg List.length z
  rw [List.length_drop, List.length_nil] at this
  lia
section
variable {P : Program} {w : World} {K : PySem.W.Frag} {mg : Str → Option Value} {base : Heap}
theorem scLaw : FnScope NL ["_law_script"] (defScope sLaw) := ⟨rfl, rfl, rfl, by decide +kernel, rfl, by decide +kernel, by decide +kernel⟩
theorem law_in {f C fI fS fY fT : Addr} {dI dS dY dT : FuncData} {cdv : Value} {A : Around} {outer : List Env} {s : Shared} {H : Hp} {E : XK} (B : Bl mg) (W : WaitC K mg C fI fS) (hr : Room 6 (cxOf CX0 P w K mg base NL "law" (defScope sLaw) f cdv A outer s H E).nox.A)
    (FI : FnOk P w K mg base CX0 1 fI dI ["self", "table"] (spWaitI K C)) (bI : Binds K dI ["self", "table"] []) (FS : FnOk P w K mg base CX0 4 fS dS ["self", "sides", "word"] (spWaitS C)) (bS : Binds K dS ["self", "sides", "word"] [])
    (GY : Gf P w K mg base 1 "_law_says" ["_law_said", "_law_due"] spSays fY dY) (GT : Gf P w K mg base 2 "_law_table" ["_law_sides", "_law_word", "_law_table_here"] (spTab K) fT dT) :
    ∃ t, PSs (cxOf CX0 P w K mg base NL "law" (defScope sLaw) f cdv A outer s H E).nox lawI t ∧ ∀ (a : Addr) (q : Nat) (w o : List Nat) (tl : Addr) (ap : Bool) (x : Addr) (v7 v8 v10 v11 v12 v13 : Option V) (sm : Addr) (ms : List Int) (H1 : Hp) (D : Ends),
      Wd q w → H1 sm = some (.lst (ms.map V.int)) → ms.length ≤ 5000 → (∀ H' u10 u11, Same H1 H' → D.nx (sl6 a q w o tl ap x v7 v8 (some (.ref sm)) u10 u11 v12 v13) H') →
      t D (sl6 a q w o tl ap x v7 v8 (some (.ref sm)) v10 v11 v12 v13) H1 := by
  have hu := hr.units
  have hr1 := hr.mono (show 1 ≤ 6 by decide)
  have hr2 := hr.mono (show 2 ≤ 6 by decide)
  have hr4 := hr.mono (show 4 ≤ 6 by decide)
  refine ⟨_, pss_cons (ps_set (i := 10) scLaw.nd rfl (Or.inl rfl) (pe_callTy call_list_of rfl B.list (by decide +kernel) (pa_cons (pv 9) pa_nil)))
    (pss_cons (ps_set (i := 11) scLaw.nd rfl (Or.inl rfl) (pe_make W.make FI hr2 rfl W.mg bI .nil pass0 (pa_cons (pv 10) pa_nil)))
    (pss_cons (ps_expr (pe_bm PySem.F.plainAttrs_list PySem.F.slot_list_append PySem.F.type_list_append mt_append (pv 10) (pa_cons pe_int pa_nil)))
    (pss_cons (ps_if (pt_cmpR (op_neL hu) (pe_fld (pv 11) rfl) (pv 9) (nomark _)) (pss_one (ps_ret pe_bl)) pss_nil)
    (pss_one (ps_if (pt_not (pt_val (pe_call GY.ok hr1 rfl GY.mg GY.kp GY.bd .nil pass0 (pa_cons (pe_meth (pv 11) W.cl W.sh FS hr4 bS .nil pass0 (pa_cons (pv 1) (pa_cons (pv 2) pa_nil)))
      (pa_cons (pe_call GT.ok hr2 rfl GT.mg GT.kp GT.bd .nil pass0 (pa_cons (pv 1) (pa_cons (pv 2) (pa_cons (pv 9) pa_nil)))) pa_nil))))) (pss_one (ps_ret pe_bl)) pss_nil))))), ?_⟩
  intro a q w o tl ap x v7 v8 v10 v11 v12 v13 sm ms H1 D hw hm ml go
  refine ⟨_, rfl, sm, _, rfl, .inl (SqL.of hm), fun hd fd => ?_⟩
  have s2 : Same H1 (upd H1 hd (.lst (ms.map V.int))) := (Same.refl _).upd fd
  have d2 : upd H1 hd (.lst (ms.map V.int)) hd = some (.lst (ms.map V.int)) := upd_same
  generalize upd H1 hd (.lst (ms.map V.int)) = H2 at s2 d2 ⊢
  refine ⟨_, rfl, fun y dy fy fdy nyd => ?_⟩
  refine ⟨y, dy, hd, _, rfl, upd_same, made_seq fy fdy (SqL.of d2), fun ly hly => ⟨rfl, ?_⟩⟩
  obtain ⟨s3, hl, fl⟩ := made (ys := ms.map V.int) (fs := [("table", .ref ly)]) fy fdy hly
  have hy : upd (upd (upd (upd H2 dy (.own y)) y (.ins C dy [])) ly (.lst (ms.map V.int))) y (.ins C dy [("table", .ref ly)]) y = some (.ins C dy [("table", .ref ly)]) := upd_same
  change tSeq _ _ _ _ (upd (upd (upd (upd H2 dy (.own y)) y (.ins C dy [])) ly (.lst (ms.map V.int))) y (.ins C dy [("table", .ref ly)]))
  generalize upd (upd (upd (upd H2 dy (.own y)) y (.ins C dy [])) ly (.lst (ms.map V.int))) y (.ins C dy [("table", .ref ly)]) = H3 at s3 hy hl ⊢
  refine ⟨_, rfl, .inl ⟨rfl, _, SqL.of (s3 _ _ d2)⟩, hd, _, _, rfl, rfl, s3 _ _ d2, by rw [List.length_map]; exact sz' (by lia), ?_⟩
  have nhy : hd ≠ y := ne_of_none d2 fy
  have nhl : hd ≠ ly := ne_of_none d2 fl
  have s4 : Same H1 (upd H3 hd (.lst (ms.map V.int ++ [.int 0]))) := (s2.trans s3).upd fd
  have hy4 : upd H3 hd (.lst (ms.map V.int ++ [.int 0])) y = some (.ins C dy [("table", .ref ly)]) := by rw [upd_ne nhy.symm]; exact hy
  have hl4 : upd H3 hd (.lst (ms.map V.int ++ [.int 0])) ly = some (.lst (ms.map V.int)) := by rw [upd_ne nhl.symm]; exact hl
  generalize upd H3 hd (.lst (ms.map V.int ++ [.int 0])) = H4 at s4 hy4 hl4 ⊢
  refine ⟨_, rfl, y, C, dy, _, _, rfl, hy4, W.cl, W.na, rfl, _, rfl, ly, sm, ms, ms, rfl, rfl, SqL.of hl4, SqL.of (s4 _ _ hm), _, rfl, ?_⟩
  rw [decide_eq_true rfl]
  refine iteF ?_
  refine ⟨_, rfl, y, dy, _, rfl, hy4, rfl, _, rfl, _, rfl, y, q, w, ms, rfl, ⟨dy, ly, hy4, hl4⟩, hw.q2, hw.q26, hw.ne, Nat.le_trans hw.len (by decide), hw.of, by lia, fun H5 s5 => ?_⟩
  refine ⟨_, rfl, _, rfl, _, rfl, q, w, sm, ms, rfl, SqL.of (s5 _ _ (s4 _ _ hm)), hw.q2, hw.q26, Nat.le_trans hw.len (by decide), ?_⟩
  refine ⟨_, _, rfl, ?_⟩
  rw [showB_tab hw.q26, decide_eq_true rfl]
  exact ⟨_, rfl, iteF (go H5 _ _ (s4.trans s5))⟩
theorem law_b6 {f C fI fS fY fR : Addr} {dI dS dY dR : FuncData} {cdv : Value} {A : Around} {outer : List Env} {s : Shared} {H : Hp} {E : XK} (B : Bl mg) (W : RaceC K mg C fI fS) (hr : Room 6 (cxOf CX0 P w K mg base NL "law" (defScope sLaw) f cdv A outer s H E).nox.A)
    (FI : FnOk P w K mg base CX0 1 fI dI ["self", "parts", "whole"] (spRaceI K C)) (bI : Binds K dI ["self", "parts", "whole"] []) (FS : FnOk P w K mg base CX0 6 fS dS ["self", "sides", "one", "other"] (spRaceS C)) (bS : Binds K dS ["self", "sides", "one", "other"] [])
    (GY : Gf P w K mg base 1 "_law_says" ["_law_said", "_law_due"] spSays fY dY) (GR : Gf P w K mg base 1 "_law_race" ["_law_sides", "_law_one", "_law_other", "_law_parts", "_law_whole"] (spLRace K) fR dR) :
    ∃ t, PSs (cxOf CX0 P w K mg base NL "law" (defScope sLaw) f cdv A outer s H E).nox (lawB.drop 6) t ∧ ∀ (a : Addr) (q : Nat) (w o : List Nat) (tl : Addr) (ap : Bool) (x : Addr) (v7 v8 v10 v11 v13 : Option V) (sm : Addr) (ms : List Int) (wh : Int) (H1 : Hp) (D : Ends),
      Wd q w → Wd q o → (ap = true → ¬ w <:+: o ∧ ¬ o <:+: w) → H1 sm = some (.lst (ms.map V.int)) → ms.length ≤ 5000 → (∀ H' u9 u10 u11 u12 u13, Same H1 H' → D.nx (sl6 a q w o tl ap x v7 v8 u9 u10 u11 u12 u13) H') →
      t D (sl6 a q w o tl ap x v7 v8 (some (.ref sm)) v10 v11 (some (.int wh)) v13) H1 := by
  have hu := hr.units
  have hr1 := hr.mono (show 1 ≤ 6 by decide)
  have hr2 := hr.mono (show 2 ≤ 6 by decide)
  have TB : ∃ t, PSs (cxOf CX0 P w K mg base NL "law" (defScope sLaw) f cdv A outer s H E).nox (lawB.drop 10) t ∧ ∀ (a : Addr) (q : Nat) (w o : List Nat) (tl : Addr) (ap : Bool) (x : Addr) (v7 v8 v10 v13 : Option V) (sm y dy ly : Addr) (ms : List Int) (wh : Int) (H1 : Hp) (D : Ends),
      Wd q w → Wd q o → (ap = true → ¬ w <:+: o ∧ ¬ o <:+: w) → H1 sm = some (.lst (ms.map V.int)) → H1 y = some (.ins C dy [("parts", .ref ly), ("whole", .int wh)]) → H1 ly = some (.lst (ms.map V.int)) → ms.length ≤ 5000 → (∀ H' u9 u10 u11 u12 u13, Same H1 H' → D.nx (sl6 a q w o tl ap x v7 v8 u9 u10 u11 u12 u13) H') →
      t D (sl6 a q w o tl ap x v7 v8 (some (.ref sm)) v10 (some (.ref y)) (some (.int wh)) v13) H1 := by
    refine ⟨_, pss_cons (ps_set (i := 13) scLaw.nd rfl (Or.inl rfl) (pe_ifExp (pt_val (pv 5)) (pe_call GR.ok hr1 rfl GR.mg GR.kp GR.bd .nil pass0 (pa_cons (pv 1) (pa_cons (pv 2) (pa_cons (pv 3) (pa_cons (pv 9) (pa_cons (pv 12) pa_nil)))))) pe_bl))
      (pss_one (ps_if (PW.pt (pw_and (pt_val (pv 5)) (pw_and1 (pt_not (pt_val (pe_call GY.ok hr1 rfl GY.mg GY.kp GY.bd .nil pass0 (pa_cons (pe_meth (pv 11) W.cl W.sh FS hr bS .nil pass0 (pa_cons (pv 1) (pa_cons (pv 2) (pa_cons (pv 3) pa_nil)))) (pa_cons (pv 13) pa_nil)))))))) (pss_one (ps_ret pe_bl)) pss_nil)), ?_⟩
    intro a q w o tl ap x v7 v8 v10 v13 sm y dy ly ms wh H1 D hw ho hap hm hy hl ml go
    refine ⟨_, rfl, _, rfl, ?_⟩
    cases ap with
    | false => exact iteF ⟨_, rfl, _, rfl, iteF (iteF (go H1 _ _ _ _ _ (Same.refl _)))⟩
    | true =>
      obtain ⟨n1, n2⟩ := hap rfl
      refine iteT ⟨_, rfl, _, rfl, _, rfl, _, rfl, _, rfl, q, w, o, sm, ms, wh, rfl, SqL.of hm, hw.q2, hw.q26, hw.ne, hw.len, ho.len, fun H2 s2 => ?_⟩
      refine ⟨_, rfl, _, rfl, iteT ?_⟩
      refine ⟨_, rfl, y, dy, _, rfl, s2 _ _ hy, rfl, _, rfl, _, rfl, _, rfl, y, q, w, o, ms, wh, rfl, ⟨dy, ly, s2 _ _ hy, s2 _ _ hl⟩, hw.q2, hw.q26, hw.ne, ho.ne, hw.len, ho.len, hw.of, ho.of, n1, n2, by lia, fun H3 s3 => ?_⟩
      refine ⟨_, rfl, _, _, rfl, ?_⟩
      rw [decide_eq_true rfl]
      exact ⟨_, rfl, iteF (go H3 _ _ _ _ _ (s2.trans s3))⟩
  obtain ⟨tB, pB, rB⟩ := TB
  refine ⟨_, pss_cons (ps_set (i := 10) scLaw.nd rfl (Or.inl rfl) (pe_callTy call_list_of rfl B.list (by decide +kernel) (pa_cons (pv 9) pa_nil)))
    (pss_cons (ps_set (i := 11) scLaw.nd rfl (Or.inl rfl) (pe_make W.make FI hr2 rfl W.mg bI .nil pass0 (pa_cons (pv 10) (pa_cons (pv 12) pa_nil))))
    (pss_cons (ps_expr (pe_bm PySem.F.plainAttrs_list PySem.F.slot_list_append PySem.F.type_list_append mt_append (pv 10) (pa_cons pe_int pa_nil)))
    (pss_cons (ps_if (PW.pt (pw_or (pt_cmpR (op_neL hu) (pe_fld (pv 11) rfl) (pv 9) (nomark _)) (pw_or1 (pt_cmpR op_ne (pe_fld (pv 11) rfl) (pv 12) (nomark _))))) (pss_one (ps_ret pe_bl)) pss_nil)
    pB))), ?_⟩
  intro a q w o tl ap x v7 v8 v10 v11 v13 sm ms wh H1 D hw ho hap hm ml go
  refine ⟨_, rfl, sm, _, rfl, .inl (SqL.of hm), fun hd fd => ?_⟩
  have s2 : Same H1 (upd H1 hd (.lst (ms.map V.int))) := (Same.refl _).upd fd
  have d2 : upd H1 hd (.lst (ms.map V.int)) hd = some (.lst (ms.map V.int)) := upd_same
  generalize upd H1 hd (.lst (ms.map V.int)) = H2 at s2 d2 ⊢
  refine ⟨_, rfl, _, rfl, fun y dy fy fdy nyd => ?_⟩
  refine ⟨y, dy, hd, _, .int wh, rfl, upd_same, made_seq fy fdy (SqL.of d2), fun ly H3 hly e => ⟨rfl, ?_⟩⟩
  obtain ⟨s3, hl, fl⟩ := made (ys := ms.map V.int) (fs := [("parts", .ref ly)]) fy fdy hly
  have nly : ly ≠ y := by
    rintro rfl
    rw [upd_same] at hly
    cases hly
  have s3' : Same H2 H3 := by rw [e]; exact s3.upd fy
  have hy : H3 y = some (.ins C dy [("parts", .ref ly), ("whole", .int wh)]) := by rw [e, upd_same]
  have hl' : H3 ly = some (.lst (ms.map V.int)) := by rw [e, upd_ne nly]; exact hl
  clear e s3 hl
  refine ⟨_, rfl, .inl ⟨rfl, _, SqL.of (s3' _ _ d2)⟩, hd, _, _, rfl, rfl, s3' _ _ d2, by rw [List.length_map]; exact sz' (by lia), ?_⟩
  have nhy : hd ≠ y := ne_of_none d2 fy
  have nhl : hd ≠ ly := ne_of_none d2 fl
  have s4 : Same H1 (upd H3 hd (.lst (ms.map V.int ++ [.int 0]))) := (s2.trans s3').upd fd
  have hy4 : upd H3 hd (.lst (ms.map V.int ++ [.int 0])) y = some (.ins C dy [("parts", .ref ly), ("whole", .int wh)]) := by rw [upd_ne nhy.symm]; exact hy
  have hl4 : upd H3 hd (.lst (ms.map V.int ++ [.int 0])) ly = some (.lst (ms.map V.int)) := by rw [upd_ne nhl.symm]; exact hl'
  generalize upd H3 hd (.lst (ms.map V.int ++ [.int 0])) = H4 at s4 hy4 hl4 ⊢
  refine ⟨_, rfl, y, C, dy, _, _, rfl, hy4, W.cl, W.na, rfl, _, rfl, ly, sm, ms, ms, rfl, rfl, SqL.of hl4, SqL.of (s4 _ _ hm), _, rfl, ?_⟩
  rw [decide_eq_true rfl]
  refine iteF ⟨_, rfl, y, C, dy, _, _, rfl, hy4, W.cl, W.nw, rfl, _, rfl, rfl, _, rfl, ?_⟩
  rw [decide_eq_true rfl]
  exact iteF (rB a q w o tl ap x v7 v8 _ _ sm y dy ly ms wh H4 D hw ho hap (s4 _ _ hm) hy4 hl4 ml fun H' u9 u10 u11 u12 u13 s' => go H' u9 u10 u11 u12 u13 (s4.trans s'))
theorem law_b2 {f C fI fS fB : Addr} {dB : FuncData} {cdv : Value} {A : Around} {outer : List Env} {s : Shared} {H : Hp} {E : XK} (W : RaceC K mg C fI fS) (hr : Room 6 (cxOf CX0 P w K mg base NL "law" (defScope sLaw) f cdv A outer s H E).nox.A)
    (GB : Gf P w K mg base 1 "_law_bent" ["_law_some", "_law_cell"] (spBent K) fB dB) (T6 : ∃ t, PSs (cxOf CX0 P w K mg base NL "law" (defScope sLaw) f cdv A outer s H E).nox (lawB.drop 6) t ∧ ∀ (a : Addr) (q : Nat) (w o : List Nat) (tl : Addr) (ap : Bool) (x : Addr) (c : Int) (v8 v10 v11 v13 : Option V) (sm : Addr) (ms : List Int) (wh : Int) (H1 : Hp) (D : Ends),
      Wd q w → Wd q o → (ap = true → ¬ w <:+: o ∧ ¬ o <:+: w) → H1 sm = some (.lst (ms.map V.int)) → ms.length ≤ 5000 → (∀ H' u9 u10 u11 u12 u13, Same H1 H' → D.nx (sl6 a q w o tl ap x (some (.int c)) v8 u9 u10 u11 u12 u13) H') →
      t D (sl6 a q w o tl ap x (some (.int c)) v8 (some (.ref sm)) v10 v11 (some (.int wh)) v13) H1) :
    ∃ t, PSs (cxOf CX0 P w K mg base NL "law" (defScope sLaw) f cdv A outer s H E).nox (lawB.drop 2) t ∧ ∀ (a : Addr) (q : Nat) (w o : List Nat) (tl : Addr) (ap : Bool) (x : Addr) (c : Int) (v8 v9 v10 v11 v12 v13 : Option V) (ps : List Int) (wh : Int) (H1 : Hp) (D : Ends),
      Wd q w → Wd q o → (ap = true → ¬ w <:+: o ∧ ¬ o <:+: w) → RaceAt H1 C x ps wh → ps.length ≤ 1000 → (∀ H' u9 u10 u11 u12 u13, Same H1 H' → D.nx (sl6 a q w o tl ap x (some (.int c)) v8 u9 u10 u11 u12 u13) H') →
      t D (sl6 a q w o tl ap x (some (.int c)) v8 v9 v10 v11 v12 v13) H1 := by
  have hr1 := hr.mono (show 1 ≤ 6 by decide)
  obtain ⟨t6, p6, r6⟩ := T6
  have T5 : ∃ t, PSs (cxOf CX0 P w K mg base NL "law" (defScope sLaw) f cdv A outer s H E).nox (lawB.drop 5) t ∧ ∀ (a : Addr) (q : Nat) (w o : List Nat) (tl : Addr) (ap : Bool) (x : Addr) (c : Int) (v8 v10 v11 v13 : Option V) (sm : Addr) (ms : List Int) (wh : Int) (H1 : Hp) (D : Ends),
      Wd q w → Wd q o → (ap = true → ¬ w <:+: o ∧ ¬ o <:+: w) → H1 sm = some (.lst (ms.map V.int)) → ms.length ≤ 5000 → (∀ H' u9 u10 u11 u12 u13, Same H1 H' → D.nx (sl6 a q w o tl ap x (some (.int c)) v8 u9 u10 u11 u12 u13) H') →
      t D (sl6 a q w o tl ap x (some (.int c)) v8 (some (.ref sm)) v10 v11 (some (.int wh)) v13) H1 := by
    refine ⟨_, pss_cons (ps_if (pt_cmpR op_eq (pe_op op_mod (pe_op op_fdiv (pv 7) pe_int) pe_int) pe_int (nomark _)) (pss_cons (ps_set_lc (i := 9) (N := NL) (sc := defScope sLaw) (own := ["_law_one"]) (cap := []) (g := gName 0) (te := tUn (rU fun i => .int (-i)) (tVar 0)) scLaw.nd rfl rfl ⟨rfl, by decide +kernel, by decide +kernel, by decide +kernel, by decide +kernel⟩ (pi_list (pv 9))
          (fun _ _ _ _ _ => pg_name (i := 0) (show (lcN NL ["_law_one"] []).Nodup by decide +kernel) rfl (Or.inl rfl) (.inr rfl)) (fun _ _ _ _ _ => pif_nil) (fun _ _ _ _ _ => pe_un un_neg (pv 0))) (pss_one (ps_set (i := 12) scLaw.nd rfl (Or.inl rfl) (pe_un un_neg (pv 12))))) pss_nil) p6, ?_⟩
    intro a q w o tl ap x c v8 v10 v11 v13 sm ms wh H1 D hw ho hap hm ml go
    refine ⟨_, rfl, _, _, rfl, rfl, ⟨by show (0 : Int) < 49; decide, by show (49 : Int) < 1073741824; decide⟩, _, _, rfl, rfl, by show (0 : Int) < 5; decide, rfl, _, rfl, ?_⟩
    by_cases hk : c / 49 % 5 = 3
    · rw [decide_eq_true (congrArg V.int hk)]
      refine iteT ⟨_, rfl, sm, rfl, ⟨_, SqL.of hm⟩, lc_ints (fun x => -x) (SqL.of hm) (by lia) (fun x H' K1 k1 => ⟨_, rfl, _, rfl, k1⟩) fun r H2 fr s2 dr => ?_⟩
      refine ⟨_, rfl, _, rfl, ?_⟩
      exact r6 a q w o tl ap x c v8 v10 v11 v13 r _ (-wh) H2 D hw ho hap dr (by rw [List.length_map]; exact ml) fun H' u9 u10 u11 u12 u13 s' => go H' u9 u10 u11 u12 u13 (s2.trans s')
    · rw [decide_eq_false (by intro z; injection z with z; exact hk z)]
      exact iteF (r6 a q w o tl ap x c v8 v10 v11 v13 sm ms wh H1 D hw ho hap hm ml go)
  obtain ⟨t5, p5, r5⟩ := T5
  have T4 : ∃ t, PSs (cxOf CX0 P w K mg base NL "law" (defScope sLaw) f cdv A outer s H E).nox (lawB.drop 4) t ∧ ∀ (a : Addr) (q : Nat) (w o : List Nat) (tl : Addr) (ap : Bool) (x : Addr) (c : Int) (v8 v10 v11 v13 : Option V) (sm : Addr) (ms : List Int) (wh : Int) (H1 : Hp) (D : Ends),
      Wd q w → Wd q o → (ap = true → ¬ w <:+: o ∧ ¬ o <:+: w) → H1 sm = some (.lst (ms.map V.int)) → ms.length ≤ 5000 → (∀ H' u9 u10 u11 u12 u13, Same H1 H' → D.nx (sl6 a q w o tl ap x (some (.int c)) v8 u9 u10 u11 u12 u13) H') →
      t D (sl6 a q w o tl ap x (some (.int c)) v8 (some (.ref sm)) v10 v11 (some (.int wh)) v13) H1 := by
    refine ⟨_, pss_cons (ps_if (pt_cmpR op_eq (pe_op op_mod (pe_op op_fdiv (pv 7) pe_int) pe_int) pe_int (nomark _)) (pss_cons (ps_set_lc (i := 9) (N := NL) (sc := defScope sLaw) (own := ["_law_one"]) (cap := []) (g := gName 0) (te := tC (.int 0)) scLaw.nd rfl rfl ⟨rfl, by decide +kernel, by decide +kernel, by decide +kernel, by decide +kernel⟩ (pi_list (pv 9))
          (fun _ _ _ _ _ => pg_name (i := 0) (show (lcN NL ["_law_one"] []).Nodup by decide +kernel) rfl (Or.inl rfl) (.inr rfl)) (fun _ _ _ _ _ => pif_nil) (fun _ _ _ _ _ => pe_int)) (pss_one (ps_set (i := 12) scLaw.nd rfl (Or.inl rfl) pe_int))) pss_nil) p5, ?_⟩
    intro a q w o tl ap x c v8 v10 v11 v13 sm ms wh H1 D hw ho hap hm ml go
    refine ⟨_, rfl, _, _, rfl, rfl, ⟨by show (0 : Int) < 49; decide, by show (49 : Int) < 1073741824; decide⟩, _, _, rfl, rfl, by show (0 : Int) < 5; decide, rfl, _, rfl, ?_⟩
    by_cases hk : c / 49 % 5 = 2
    · rw [decide_eq_true (congrArg V.int hk)]
      refine iteT ⟨_, rfl, sm, rfl, ⟨_, SqL.of hm⟩, lc_ints (fun _ => 0) (SqL.of hm) (by lia) (fun x H' K1 k1 => k1) fun r H2 fr s2 dr => ?_⟩
      exact r5 a q w o tl ap x c v8 v10 v11 v13 r _ 0 H2 D hw ho hap dr (by rw [List.length_map]; exact ml) fun H' u9 u10 u11 u12 u13 s' => go H' u9 u10 u11 u12 u13 (s2.trans s')
    · rw [decide_eq_false (by intro z; injection z with z; exact hk z)]
      exact iteF (r5 a q w o tl ap x c v8 v10 v11 v13 sm ms wh H1 D hw ho hap hm ml go)
  obtain ⟨t4, p4, r4⟩ := T4
  refine ⟨_, pss_cons (ps_set (i := 9) scLaw.nd rfl (Or.inl rfl) (pe_call GB.ok hr1 rfl GB.mg GB.kp GB.bd .nil pass0 (pa_cons (pe_fld (pv 6) rfl) (pa_cons (pv 7) pa_nil))))
    (pss_cons (ps_set (i := 12) scLaw.nd rfl (Or.inl rfl) (pe_op op_add (pe_op op_mul (pe_fld (pv 6) rfl) (pe_ifExp (pt_cmpR op_eq (pe_op op_mod (pv 7) pe_int) pe_int (nomark _)) pe_int pe_int))
      (pe_ifExp (pt_cmpR op_eq (pe_op op_mod (pe_op op_fdiv (pv 7) pe_int) pe_int) pe_int (nomark _)) pe_int pe_int))) p4), ?_⟩
  intro a q w o tl ap x c v8 v9 v10 v11 v12 v13 ps wh H1 D hw ho hap ⟨dx, lx, hx, hl⟩ pl go
  refine ⟨_, rfl, x, C, dx, _, _, rfl, hx, W.cl, W.na, rfl, _, rfl, lx, c, ps, rfl, SqL.of hl, pl, fun sm H2 ms fm s2 dm ml => ?_⟩
  have fin : ∀ wh', t4 D (sl6 a q w o tl ap x (some (.int c)) v8 (some (.ref sm)) v10 v11 (some (.int wh')) v13) H2 := fun wh' =>
    r4 a q w o tl ap x c v8 v10 v11 v13 sm ms wh' H2 D hw ho hap dm (by lia) fun H' u9 u10 u11 u12 u13 s' => go H' u9 u10 u11 u12 u13 (s2.trans s')
  refine ⟨_, rfl, x, C, dx, _, _, rfl, s2 _ _ hx, W.cl, W.nw, rfl, _, rfl, _, _, rfl, rfl, by show (0 : Int) < 7; decide, rfl, _, rfl, ?_⟩
  by_cases h5 : c % 7 = 5
  · rw [decide_eq_true (congrArg V.int h5)]
    refine iteT ⟨_, _, rfl, rfl, .inr ⟨by decide, by decide⟩, _, rfl, _, _, rfl, rfl, ⟨by show (0 : Int) < 49; decide, by show (49 : Int) < 1073741824; decide⟩, _, _, rfl, rfl, by show (0 : Int) < 5; decide, rfl, _, rfl, ?_⟩
    by_cases h1 : c / 49 % 5 = 1
    · rw [decide_eq_true (congrArg V.int h1)]
      exact iteT ⟨_, _, rfl, rfl, fin _⟩
    · rw [decide_eq_false (by intro z; injection z with z; exact h1 z)]
      exact iteF ⟨_, _, rfl, rfl, fin _⟩
  · rw [decide_eq_false (by intro z; injection z with z; exact h5 z)]
    refine iteF ⟨_, _, rfl, rfl, .inr ⟨by decide, by decide⟩, _, rfl, _, _, rfl, rfl, ⟨by show (0 : Int) < 49; decide, by show (49 : Int) < 1073741824; decide⟩, _, _, rfl, rfl, by show (0 : Int) < 5; decide, rfl, _, rfl, ?_⟩
    by_cases h1 : c / 49 % 5 = 1
    · rw [decide_eq_true (congrArg V.int h1)]
      exact iteT ⟨_, _, rfl, rfl, fin _⟩
    · rw [decide_eq_false (by intro z; injection z with z; exact h1 z)]
      exact iteF ⟨_, _, rfl, rfl, fin _⟩
theorem law_b0 {f C fB : Addr} {dB : FuncData} {cdv : Value} {A : Around} {outer : List Env} {s : Shared} {H : Hp} {E : XK} (B : Bl mg) (hr : Room 6 (cxOf CX0 P w K mg base NL "law" (defScope sLaw) f cdv A outer s H E).nox.A)
    (GB : Gf P w K mg base 1 "_law_bent" ["_law_some", "_law_cell"] (spBent K) fB dB) (TI : ∃ t, PSs (cxOf CX0 P w K mg base NL "law" (defScope sLaw) f cdv A outer s H E).nox lawI t ∧ ∀ (a : Addr) (q : Nat) (w o : List Nat) (tl : Addr) (ap : Bool) (x : Addr) (v7 v8 v10 v11 v12 v13 : Option V) (sm : Addr) (ms : List Int) (H1 : Hp) (D : Ends),
      Wd q w → H1 sm = some (.lst (ms.map V.int)) → ms.length ≤ 5000 → (∀ H' u10 u11, Same H1 H' → D.nx (sl6 a q w o tl ap x v7 v8 (some (.ref sm)) u10 u11 v12 v13) H') →
      t D (sl6 a q w o tl ap x v7 v8 (some (.ref sm)) v10 v11 v12 v13) H1) (T2 : ∃ t, PSs (cxOf CX0 P w K mg base NL "law" (defScope sLaw) f cdv A outer s H E).nox (lawB.drop 2) t ∧ ∀ (a : Addr) (q : Nat) (w o : List Nat) (tl : Addr) (ap : Bool) (x : Addr) (c : Int) (v8 v9 v10 v11 v12 v13 : Option V) (ps : List Int) (wh : Int) (H1 : Hp) (D : Ends),
      Wd q w → Wd q o → (ap = true → ¬ w <:+: o ∧ ¬ o <:+: w) → RaceAt H1 C x ps wh → ps.length ≤ 1000 → (∀ H' u9 u10 u11 u12 u13, Same H1 H' → D.nx (sl6 a q w o tl ap x (some (.int c)) v8 u9 u10 u11 u12 u13) H') →
      t D (sl6 a q w o tl ap x (some (.int c)) v8 v9 v10 v11 v12 v13) H1) :
    ∃ t, PSs (cxOf CX0 P w K mg base NL "law" (defScope sLaw) f cdv A outer s H E).nox lawB t ∧ ∀ (a : Addr) (ns : List Int) (q : Nat) (w o : List Nat) (tl : Addr) (ts : List Int) (ap : Bool) (x : Addr) (c : Int) (v8 v9 v10 v11 v12 v13 : Option V) (ps : List Int) (wh : Int) (H1 : Hp) (D : Ends),
      Wd q w → Wd q o → (ap = true → ¬ w <:+: o ∧ ¬ o <:+: w) → SqL K H1 a (ns.map V.int) → ns.length ≤ 63 → H1 tl = some (.lst (ts.map V.int)) → ts.length ≤ 1000 → RaceAt H1 C x ps wh → ps.length ≤ 1000 →
      (∀ H' u8 u9 u10 u11 u12 u13, Same H1 H' → D.nx (sl6 a q w o tl ap x (some (.int c)) u8 u9 u10 u11 u12 u13) H') → t D (sl6 a q w o tl ap x (some (.int c)) v8 v9 v10 v11 v12 v13) H1 := by
  have hr1 := hr.mono (show 1 ≤ 6 by decide)
  obtain ⟨tI, pI, rIn⟩ := TI
  obtain ⟨t2, p2, r2⟩ := T2
  refine ⟨_, pss_cons (ps_set (i := 8) scLaw.nd rfl (Or.inl rfl) (pe_op op_cat (pe_lc (N := NL) (sc := defScope sLaw) (own := ["_law_one"]) (cap := []) (g := gName 0) (te := tOp (rI (fun _ j => 0 < j) fun i j => .int (i % j)) (tVar 0) (tC (.int 40))) ⟨rfl, by decide +kernel, by decide +kernel, by decide +kernel, by decide +kernel⟩
        (pi_list (pe_slice sl_list (pv 0) po_none (po_some (pe_callB call_len_tx rfl B.len (by decide +kernel) (pa_cons (pv 2) pa_nil)))))
        (fun _ _ _ _ _ => pg_name (i := 0) (show (lcN NL ["_law_one"] []).Nodup by decide +kernel) rfl (Or.inl rfl) (.inr rfl)) (fun _ _ _ _ _ => pif_nil) (fun _ _ _ _ _ => pe_op op_mod (pv 0) pe_int)) (pe_lst (pa_cons pe_int pa_nil))))
    (pss_cons (ps_for PassesOwn.never rfl (pi_list (pe_lst (pa_cons (pe_call GB.ok hr1 rfl GB.mg GB.kp GB.bd .nil pass0 (pa_cons (pv 4) (pa_cons (pv 7) pa_nil))) (pa_cons (pv 8) pa_nil)))) (pg_name (i := 9) scLaw.nd rfl (Or.inl rfl)) pI) p2), ?_⟩
  intro a ns q w o tl ts ap x c v8 v9 v10 v11 v12 v13 ps wh H1 D hw ho hap hS hn ht tsl ⟨dx, lx, hx, hl⟩ pl go
  have wl := hw.len
  refine ⟨_, rfl, _, rfl, w, rfl, sz (by lia), _, rfl, sl_ints hS fun p1 H2 cs f1 s1 d1 l1 => ?_⟩
  refine ⟨p1, rfl, ⟨_, SqL.of d1⟩, lc_ints (fun x => x % 40) (SqL.of d1) (by lia) (fun x H' K1 k1 => ⟨_, rfl, _, _, rfl, rfl, by show (0 : Int) < 40; decide, k1⟩) fun p3 H3 f3 s3 d3 => ?_⟩
  refine ⟨by show 1 ≤ sizeLine; decide, fun p4 f4 => ?_⟩
  have s4 : Same H3 (upd H3 p4 (.lst [.int 0])) := (Same.refl _).upd f4
  refine cat_ints (ys := [0]) (s4 _ _ d3) upd_same (by rw [List.length_map, List.length_singleton]; lia) fun dr H5 f5 s5 d5 => ?_
  have sA : Same H1 H5 := ((s1.trans s3).trans s4).trans s5
  refine ⟨_, rfl, _, rfl, tl, c, ts, rfl, SqL.of (sA _ _ ht), tsl, fun bt H6 ms fb s6 db ml => ?_⟩
  refine ⟨_, rfl, by show 2 ≤ sizeLine; decide, fun L fL => ?_⟩
  have s7 : Same H6 (upd H6 L (.lst [.ref bt, .ref dr])) := (Same.refl _).upd fL
  have hL : upd H6 L (.lst [.ref bt, .ref dr]) L = some (.lst [.ref bt, .ref dr]) := upd_same
  have hb7 := s7 _ _ db
  have hd7 := s7 _ _ (s6 _ _ d5)
  have sB : Same H1 (upd H6 L (.lst [.ref bt, .ref dr])) := (sA.trans s6).trans s7
  generalize upd H6 L (.lst [.ref bt, .ref dr]) = H7 at s7 hL hb7 hd7 sB ⊢
  refine ⟨L, rfl, ⟨_, SqL.of hL⟩, for_list (xs := [.ref bt, .ref dr]) (fun i σ H' => ∃ u9 u10 u11, σ = sl6 a q w o tl ap x (some (.int c)) (some (.ref dr)) u9 u10 u11 v12 v13 ∧ Same H7 H') ⟨_, _, _, rfl, Same.refl _⟩ (fun i σ H' _ zz => by obtain ⟨_, _, _, _, s8⟩ := zz; exact SqL.of (s8 _ _ hL)) ?_ ?_⟩
  · rintro i y σ H' hy ⟨u9, u10, u11, rfl, s8⟩
    obtain ⟨sm, ns', rfl, hm, nl⟩ : ∃ (sm : Addr) (ns' : List Int), y = .ref sm ∧ H' sm = some (.lst (ns'.map V.int)) ∧ ns'.length ≤ 5000 := by
      match i, hy with
      | 0, hy => exact ⟨bt, ms, (Option.some.inj hy).symm, s8 _ _ hb7, by lia⟩
      | 1, hy => exact ⟨dr, _, (Option.some.inj hy).symm, s8 _ _ hd7, by rw [List.length_append, List.length_map, List.length_singleton]; lia⟩
      | n + 2, hy => cases hy
    exact rIn a q w o tl ap x _ _ u10 u11 v12 v13 sm ns' H' _ hw hm nl fun H'' u10' u11' s' => ⟨_, _, _, rfl, s8.trans s'⟩
  · rintro σ H' ⟨u9, u10, u11, rfl, s8⟩
    have sC := sB.trans s8
    exact r2 a q w o tl ap x c _ u9 u10 u11 v12 v13 ps wh H' D hw ho hap ⟨dx, lx, sC _ _ hx, sC _ _ hl⟩ pl fun H'' u9 u10 u11 u12 u13 s' => go H'' _ u9 u10 u11 u12 u13 (sC.trans s')
theorem law_end {f C CR fI fS fJ fT fY : Addr} {dI dS dJ dT dY : FuncData} {cdv : Value} {A : Around} {outer : List Env} {s : Shared} {H : Hp} {E : XK} {Q : VK} (W : WaitC K mg C fI fS) (R : RaceC K mg CR fJ fT) (hr : Room 6 (cxOf CX0 P w K mg base NL "law" (defScope sLaw) f cdv A outer s H E).nox.A)
    (FI : FnOk P w K mg base CX0 1 fI dI ["self", "table"] (spWaitI K C)) (bI : Binds K dI ["self", "table"] []) (FS : FnOk P w K mg base CX0 4 fS dS ["self", "sides", "word"] (spWaitS C)) (bS : Binds K dS ["self", "sides", "word"] [])
    (FJ : FnOk P w K mg base CX0 1 fJ dJ ["self", "parts", "whole"] (spRaceI K CR)) (bJ : Binds K dJ ["self", "parts", "whole"] []) (FT : FnOk P w K mg base CX0 6 fT dT ["self", "sides", "one", "other"] (spRaceS CR)) (bT : Binds K dT ["self", "sides", "one", "other"] [])
    (GY : Gf P w K mg base 1 "_law_says" ["_law_said", "_law_due"] spSays fY dY) (k : ∀ H', Q (.bl true) H') :
    ∃ t, PSs (cxOf CX0 P w K mg base NL "law" (defScope sLaw) f cdv A outer s H E).nox ((defBody sLaw).drop 7) t ∧ ∀ (σ : St) (H1 : Hp), t { nx := fun _ H' => Q .non H', rt := Q } σ H1 := by
  have hr1 := hr.mono (show 1 ≤ 6 by decide)
  have hr2 := hr.mono (show 2 ≤ 6 by decide)
  have hr4 := hr.mono (show 4 ≤ 6 by decide)
  refine ⟨_, pss_one (ps_ret (pe_and (pe_call GY.ok hr1 rfl GY.mg GY.kp GY.bd .nil pass0 (pa_cons (pe_meth (pe_make W.make FI hr2 rfl W.mg bI .nil pass0 (pa_cons (pe_lst (pa_cons pe_int (pa_cons pe_int pa_nil))) pa_nil)) W.cl W.sh FS hr4 bS .nil pass0 (pa_cons pe_int (pa_cons (pe_tx (l := [97])) pa_nil))) (pa_cons pe_bl pa_nil)))
    (pe_one (pe_call GY.ok hr1 rfl GY.mg GY.kp GY.bd .nil pass0 (pa_cons (pe_meth (pe_make R.make FJ hr2 rfl R.mg bJ .nil pass0 (pa_cons (pe_lst (pa_cons pe_int (pa_cons pe_int (pa_cons pe_int pa_nil)))) (pa_cons pe_int pa_nil))) R.cl R.sh FT hr bT .nil pass0 (pa_cons pe_int (pa_cons (pe_tx (l := [97])) (pa_cons (pe_tx (l := [98])) pa_nil)))) (pa_cons pe_bl pa_nil)))))), ?_⟩
  intro σ H1
  refine ⟨by show 2 ≤ sizeLine; decide, fun p fp y dy fy fdy nyd => ?_⟩
  refine ⟨y, dy, p, _, rfl, upd_same, made_seq fy fdy (SqL.of upd_same), fun ly hly => ⟨rfl, ?_⟩⟩
  obtain ⟨s3, hl, fl⟩ := made (ys := [V.int 2, V.int 0]) (fs := [("table", .ref ly)]) fy fdy hly
  refine ⟨y, dy, _, rfl, upd_same, rfl, y, 2, [97], [2, 0], rfl, ⟨dy, ly, upd_same, hl⟩, by decide, by decide, by decide, by decide, by decide, by decide, fun H5 s5 => ?_⟩
  refine ⟨_, _, rfl, ?_⟩
  rw [show showB 2 [97] [2, 0] = true by decide +kernel, decide_eq_true rfl]
  refine ⟨_, rfl, iteT ?_⟩
  refine ⟨by show 3 ≤ sizeLine; decide, fun p fp y dy fy fdy nyd => ?_⟩
  refine ⟨y, dy, p, _, .int 2, rfl, upd_same, made_seq fy fdy (SqL.of upd_same), fun ly H3 hly e => ⟨rfl, ?_⟩⟩
  obtain ⟨s3, hl, fl⟩ := made (ys := [V.int 1, V.int 2, V.int 0]) (fs := [("parts", .ref ly)]) fy fdy hly
  have nly : ly ≠ y := by
    rintro rfl
    rw [upd_same] at hly
    cases hly
  have hy : H3 y = some (.ins CR dy [("parts", .ref ly), ("whole", .int 2)]) := by rw [e, upd_same]
  have hl' : H3 ly = some (.lst [V.int 1, V.int 2, V.int 0]) := by rw [e, upd_ne nly]; exact hl
  refine ⟨y, dy, _, rfl, hy, rfl, y, 2, [97], [98], [1, 2, 0], 2, rfl, ⟨dy, ly, hy, hl'⟩, by decide, by decide, by decide, by decide, by decide, by decide, by decide, by decide, by decide, by decide, by decide, fun H6 s6 => ?_⟩
  refine ⟨_, _, rfl, ?_⟩
  rw [race_ab, decide_eq_true rfl]
  exact k _
theorem ok_law {f C CR fI fS fJ fT fV fF fW fY fB fA fR : Addr} {fd dI dS dJ dT dV dF dW dY dB dA dR : FuncData} (F : Fun K "law" "law" sLaw f fd) (B : Bl mg) (W : WaitC K mg C fI fS) (R : RaceC K mg CR fJ fT)
    (FI : FnOk P w K mg base CX0 1 fI dI ["self", "table"] (spWaitI K C)) (bI : Binds K dI ["self", "table"] []) (FS : FnOk P w K mg base CX0 4 fS dS ["self", "sides", "word"] (spWaitS C)) (bS : Binds K dS ["self", "sides", "word"] [])
    (FJ : FnOk P w K mg base CX0 1 fJ dJ ["self", "parts", "whole"] (spRaceI K CR)) (bJ : Binds K dJ ["self", "parts", "whole"] []) (FT : FnOk P w K mg base CX0 6 fT dT ["self", "sides", "one", "other"] (spRaceS CR)) (bT : Binds K dT ["self", "sides", "one", "other"] [])
    (GV : Gf P w K mg base 4 "waits" ["sides", "word"] (spWaits C) fV dV) (GF : Gf P w K mg base 5 "race" ["sides", "one", "other"] (spRace CR) fF dF) (GW : Gf P w K mg base 1 "_law_words" ["_law_script"] (spWords K) fW dW) (GY : Gf P w K mg base 1 "_law_says" ["_law_said", "_law_due"] spSays fY dY)
    (GB : Gf P w K mg base 1 "_law_bent" ["_law_some", "_law_cell"] (spBent K) fB dB) (GA : Gf P w K mg base 2 "_law_table" ["_law_sides", "_law_word", "_law_table_here"] (spTab K) fA dA) (GR : Gf P w K mg base 1 "_law_race" ["_law_sides", "_law_one", "_law_other", "_law_parts", "_law_whole"] (spLRace K) fR dR) :
    FnOk P w K mg base CX0 7 f fd ["_law_script"] (spLaw K) := by
  refine F.ok scLaw (fun vs H Q E h => ?_) (fun cdv A outer s H vs Q E hr h => ?_)
  · obtain ⟨a, ns, rfl, _⟩ := h
    rfl
  · obtain ⟨a, ns, rfl, hS, hn, k⟩ := h
    have hr1 := hr.mono (show 1 ≤ 6 by decide)
    have hr2 := hr.mono (show 2 ≤ 6 by decide)
    have hr4 := hr.mono (show 4 ≤ 6 by decide)
    have hr5 := hr.mono (show 5 ≤ 6 by decide)
    obtain ⟨t7, p7, r7⟩ := law_end (f := f) (cdv := cdv) (A := A) (outer := outer) (s := s) (H := H) (E := E) (Q := Q) W R hr FI bI FS bS FJ bJ FT bT GY k
    obtain ⟨t6, p6, r6⟩ := law_b6 (f := f) (cdv := cdv) (A := A) (outer := outer) (s := s) (H := H) (E := E) B R hr FJ bJ FT bT GY GR
    obtain ⟨tB, pB, rB⟩ := law_b0 (f := f) (cdv := cdv) (A := A) (outer := outer) (s := s) (H := H) (E := E) B hr GB (law_in B W hr FI bI FS bS GY GA)
      (law_b2 R hr GB ⟨t6, p6, fun a q w o tl ap x c v8 v10 v11 v13 sm ms wh H1 D => r6 a q w o tl ap x (some (.int c)) v8 v10 v11 v13 sm ms wh H1 D⟩)
    have T6 : ∃ t, PSs (cxOf CX0 P w K mg base NL "law" (defScope sLaw) f cdv A outer s H E).nox ((defBody sLaw).drop 6) t ∧ ∀ (q : Nat) (w o : List Nat) (tl : Addr) (ts : List Int) (ap : Bool) (x : Addr) (ps : List Int) (wh : Int) (H1 : Hp),
        Wd q w → Wd q o → (ap = true → ¬ w <:+: o ∧ ¬ o <:+: w) → Same H H1 → H1 tl = some (.lst (ts.map V.int)) → ts.length ≤ 1000 → RaceAt H1 CR x ps wh → ps.length ≤ 1000 →
        t { nx := fun _ H' => Q .non H', rt := Q } (sl6 a q w o tl ap x none none none none none none none) H1 := by
      refine ⟨_, pss_cons (ps_for PassesOwn.never rfl (pi_list (pe_op op_cat (pe_slice sl_list (pv 0) po_none (po_some pe_int)) (pe_sliceS sls_list (pv 0) (po_some pe_int) po_none (po_some pe_int)))) (pg_name (i := 7) scLaw.nd rfl (Or.inl rfl)) pB) p7, ?_⟩
      intro q w o tl ts ap x ps wh H1 hw ho hap s1 ht tsl ⟨dx, lx, hx, hl⟩ pl
      refine ⟨_, rfl, _, rfl, sl_ints (s1.seq hS) fun p1 H2 cs1 f1 s2 d1 l1 => ?_⟩
      have e2 : ∃ cs2 : List Int, pickBy (ns.map V.int) (some 6) none 15 = cs2.map V.int ∧ cs2.length ≤ ns.length := by
        refine ⟨pickBy ns (some 6) none 15, pickBy_map V.int ns (some 6) none 15, pickBy_len ns _ _ _⟩
      obtain ⟨cs2, ec, l2⟩ := e2
      refine ⟨_, rfl, _, rfl, _, rfl, _, rfl, a, _, rfl, (s1.trans s2).seq hS, by decide, fun p2 f2 => ?_⟩
      rw [ec]
      have s3 : Same H2 (upd H2 p2 (.lst (cs2.map V.int))) := (Same.refl _).upd f2
      refine cat_ints (s3 _ _ d1) upd_same (by lia) fun L H4 f4 s4 d4 => ?_
      have sA : Same H1 H4 := (s2.trans s3).trans s4
      refine ⟨L, rfl, ⟨_, SqL.of d4⟩, for_list (xs := (cs1 ++ cs2).map V.int) (fun i σ H' => ∃ v7 v8 v9 v10 v11 v12 v13, σ = sl6 a q w o tl ap x v7 v8 v9 v10 v11 v12 v13 ∧ Same H4 H') ⟨_, _, _, _, _, _, _, rfl, Same.refl _⟩ (fun i σ H' _ zz => by obtain ⟨_, _, _, _, _, _, _, _, s8⟩ := zz; exact SqL.of (s8 _ _ d4)) ?_ ?_⟩
      · rintro i y σ H' hy ⟨v7, v8, v9, v10, v11, v12, v13, rfl, s8⟩
        obtain ⟨c, rfl⟩ : ∃ c : Int, y = .int c := by
          rw [List.getElem?_map] at hy
          obtain ⟨c, _, e⟩ := Option.map_eq_some_iff.mp hy
          exact ⟨c, e.symm⟩
        have sC := sA.trans s8
        exact rB a ns q w o tl ts ap x c v8 v9 v10 v11 v12 v13 ps wh H' _ hw ho hap ((s1.trans sC).seq hS) hn (sC _ _ ht) tsl ⟨dx, lx, sC _ _ hx, sC _ _ hl⟩ pl fun H'' u8 u9 u10 u11 u12 u13 s' => ⟨_, _, _, _, _, _, _, rfl, s8.trans s'⟩
      · rintro σ H' _
        exact r7 σ H'
    obtain ⟨t6', p6', r6'⟩ := T6
    have T5 : ∃ t, PSs (cxOf CX0 P w K mg base NL "law" (defScope sLaw) f cdv A outer s H E).nox ((defBody sLaw).drop 5) t ∧ ∀ (q : Nat) (w o : List Nat) (l : Addr) (ap : Bool) (H2 : Hp), Wd q w → Wd q o → (ap = true → ¬ w <:+: o ∧ ¬ o <:+: w) → Same H H2 → H2 l = some (.lst ((waitT q w).map V.int)) →
        t { nx := fun _ H' => Q .non H', rt := Q } [some (.ref a), some (vi q), some (.str (tx w)), some (.str (tx o)), some (.ref l), some (.bl ap), none, none, none, none, none, none, none, none] H2 := by
      refine ⟨_, pss_cons (ps_set (i := 6) scLaw.nd rfl (Or.inl rfl) (pe_ifExp (pt_val (pv 5)) (pe_call GF.ok hr5 rfl GF.mg GF.kp GF.bd .nil pass0 (pa_cons (pv 1) (pa_cons (pv 2) (pa_cons (pv 3) pa_nil))))
          (pe_make R.make FJ hr2 rfl R.mg bJ .nil pass0 (pa_cons (pe_lst pa_nil) (pa_cons pe_int pa_nil)))))
        p6', ?_⟩
      intro q w o l ap H2 hw ho hap s1 hl
      have tsl : (waitT q w).length ≤ 1000 := by rw [waitT_len]; have := hw.len; lia
      refine ⟨_, rfl, _, rfl, ?_⟩
      cases ap with
      | true =>
        obtain ⟨n1, n2⟩ := hap rfl
        refine iteT ⟨_, rfl, _, rfl, _, rfl, q, w, o, rfl, hw.q2, hw.q26, hw.ne, ho.ne, hw.len, ho.len, hw.of, ho.of, n1, n2, fun y H3 fy s3 ra => ?_⟩
        refine r6' q w o l (waitT q w) true y _ _ H3 hw ho hap (s1.trans s3) (s3 _ _ hl) tsl ra ?_
        unfold partT
        rw [List.length_map]
        have := stS_len w o
        have := hw.len
        have := ho.len
        lia
      | false =>
        refine iteF ⟨by show 0 ≤ sizeLine; decide, fun p fp y dy fy fdy nyd => ?_⟩
        refine ⟨y, dy, p, _, .int 1, rfl, upd_same, made_seq fy fdy (SqL.of upd_same), fun ly H3 hly e => ⟨rfl, ?_⟩⟩
        obtain ⟨s3, hl3, fl⟩ := made (ys := []) (fs := [("parts", .ref ly)]) fy fdy hly
        have nly : ly ≠ y := by
          rintro rfl
          rw [upd_same] at hly
          cases hly
        have s2 : Same H2 (upd H2 p (.lst [])) := (Same.refl _).upd fp
        have s3' : Same H2 H3 := by rw [e]; exact s2.trans (s3.upd fy)
        have hy : H3 y = some (.ins CR dy [("parts", .ref ly), ("whole", .int 1)]) := by rw [e, upd_same]
        have hl' : H3 ly = some (.lst (([] : List Int).map V.int)) := by rw [e, upd_ne nly]; exact hl3
        exact r6' q w o l (waitT q w) false y [] 1 H3 hw ho hap (s1.trans s3') (s3' _ _ hl) tsl ⟨dy, ly, hy, hl'⟩ (by decide)
    obtain ⟨t5, p5, r5⟩ := T5
    have T3 : ∃ t, PSs (cxOf CX0 P w K mg base NL "law" (defScope sLaw) f cdv A outer s H E).nox ((defBody sLaw).drop 3) t ∧ ∀ (q : Nat) (w o : List Nat) (H1 : Hp), Wd q w → Wd q o → Same H H1 →
        t { nx := fun _ H' => Q .non H', rt := Q } [some (.ref a), some (vi q), some (.str (tx w)), some (.str (tx o)), none, none, none, none, none, none, none, none, none, none] H1 := by
      refine ⟨_, pss_cons (ps_set (i := 4) scLaw.nd rfl (Or.inl rfl) (pe_fld (pe_call GV.ok hr4 rfl GV.mg GV.kp GV.bd .nil pass0 (pa_cons (pv 1) (pa_cons (pv 2) pa_nil))) rfl))
        (pss_cons (ps_set (i := 5) scLaw.nd rfl (Or.inl rfl) (pe_and (pe_cmpR op_notin_tx (pv 2) (pv 3) rfl) (pe_one (pe_cmpR op_notin_tx (pv 3) (pv 2) rfl))))
        p5), ?_⟩
      intro q w o H1 hw ho s1
      refine ⟨_, rfl, _, rfl, q, w, rfl, hw.q2, hw.q26, hw.ne, Nat.le_trans hw.len (by decide), hw.of, fun x H2 fx s2 zz0 => ?_⟩
      obtain ⟨dx, l, hx, hl⟩ := zz0
      refine ⟨x, C, dx, _, _, rfl, hx, W.cl, W.na, rfl, ?_⟩
      refine ⟨_, rfl, _, rfl, w, o, rfl, rfl, _, rfl, ?_⟩
      by_cases i1 : w <:+: o
      · rw [decide_eq_true i1]
        exact iteF (r5 q w o l false H2 hw ho (fun z => nomatch z) (s1.trans s2) hl)
      · rw [decide_eq_false i1]
        refine iteT ⟨_, rfl, _, rfl, o, w, rfl, rfl, ?_⟩
        exact r5 q w o l _ H2 hw ho (fun z => ⟨i1, by simpa using z⟩) (s1.trans s2) hl
    obtain ⟨t3, p3, r3⟩ := T3
    refine ⟨_, pss_cons (ps_asg (pe_call GW.ok hr1 rfl GW.mg GW.kp GW.bd .nil pass0 (pa_cons (pv 0) pa_nil)) (pg_tup rfl (pgs_cons (pg_name (i := 1) scLaw.nd rfl (Or.inl rfl)) (pgs_cons (pg_name (i := 2) scLaw.nd rfl (Or.inl rfl)) (pgs_cons (pg_name (i := 3) scLaw.nd rfl (Or.inl rfl)) pgs_nil)))))
      (pss_cons (ps_set (i := 2) scLaw.nd rfl (Or.inl rfl) (pe_slice sl_str (pv 2) (po_some (pe_un un_neg pe_int)) po_none))
      (pss_cons (ps_set (i := 3) scLaw.nd rfl (Or.inl rfl) (pe_slice sl_str (pv 3) (po_some (pe_op op_sub (pe_un un_neg pe_int) (pe_op op_mod (pe_op op_fdiv (pe_callB (call_sum rfl) rfl B.sum (by decide +kernel) (pa_cons (pv 0) pa_nil)) pe_int) pe_int))) po_none))
      p3)), ?_⟩
    refine ⟨_, rfl, a, ns, rfl, hS, hn, fun p H1 sd o1 o2 s1 h1 h2 h26 n1 n2 l1 l2 e1 e2 => ?_⟩
    obtain ⟨q, rfl⟩ : ∃ q : Nat, sd = q := ⟨sd.toNat, by lia⟩
    refine ⟨p, _, rfl, SqT.of h1, rfl, _, _, rfl, _, _, rfl, _, _, rfl, rfl, ?_⟩
    have q2 : 2 ≤ q := by lia
    have q26 : q ≤ 26 := by lia
    unfold OfS at l1 l2
    rw [Int.toNat_natCast] at l1 l2
    obtain ⟨kk, ek, k1, k30⟩ : ∃ kk : Nat, -1 - ns.sum / 5 % 12 = -(kk : Int) ∧ 1 ≤ kk ∧ kk ≤ 30 := ⟨(ns.sum / 5 % 12).toNat + 1, by lia, by lia, by lia⟩
    refine ⟨_, rfl, _, rfl, _, rfl, o1, rfl, sz (by lia), ?_⟩
    refine ⟨_, rfl, _, rfl, _, rfl, a, ns, rfl, s1.seq hS, _, _, rfl, rfl, ⟨by show (0 : Int) < 5; decide, by show (5 : Int) < 1073741824; decide⟩, _, _, rfl, rfl, by show (0 : Int) < 12; decide, _, _, rfl, rfl, _, rfl, o2, rfl, sz (by lia), ?_⟩
    rw [show (-12 : Int) = -((12 : Nat) : Int) from rfl, cut_neg o1 (by decide)]
    have e3 : cutL o2 (some (-1 - ns.sum / 5 % 12)) none = o2.drop (o2.length - kk) := by rw [ek]; exact cut_neg o2 k1
    have := r3 q _ _ H1 (Wd.cut q2 q26 n1 l1 (k := 12) (by decide) (by decide)) (Wd.cut q2 q26 n2 l2 k1 k30) s1
    rw [← e3] at this
    exact this
end
end FW
namespace FW
open PySem L2
theorem lst0 {C : List Value → Prop} (h : C []) (us : List Value) (e : us.length = 0) : C us := by rw [List.length_eq_zero_iff.mp e]; exact h
theorem lstS {C : List Value → Prop} {n : Nat} (h : ∀ a us, us.length = n → C (a :: us)) (us : List Value) (e : us.length = n + 1) : C us := by
  cases us with
  | nil => cases e
  | cons a r => exact h a r (Nat.succ.inj e)
theorem lst1 {C : List Value → Prop} (h : ∀ a, C [a]) : ∀ us : List Value, us.length = 1 → C us := lstS (C := fun us => C (us)) fun a => lst0 (C := fun us => C (a :: us)) (h a)
theorem lst2 {C : List Value → Prop} (h : ∀ a b, C [a, b]) : ∀ us : List Value, us.length = 2 → C us := lstS (C := fun us => C (us)) fun a => lstS (C := fun us => C (a :: us)) fun b => lst0 (C := fun us => C (a :: b :: us)) (h a b)
theorem lst3 {C : List Value → Prop} (h : ∀ a b c, C [a, b, c]) : ∀ us : List Value, us.length = 3 → C us := lstS (C := fun us => C (us)) fun a => lstS (C := fun us => C (a :: us)) fun b => lstS (C := fun us => C (a :: b :: us)) fun c => lst0 (C := fun us => C (a :: b :: c :: us)) (h a b c)
theorem lst4 {C : List Value → Prop} (h : ∀ a b c d, C [a, b, c, d]) : ∀ us : List Value, us.length = 4 → C us := lstS (C := fun us => C (us)) fun a => lstS (C := fun us => C (a :: us)) fun b => lstS (C := fun us => C (a :: b :: us)) fun c => lstS (C := fun us => C (a :: b :: c :: us)) fun d => lst0 (C := fun us => C (a :: b :: c :: d :: us)) (h a b c d)
theorem lst5 {C : List Value → Prop} (h : ∀ a b c d e, C [a, b, c, d, e]) : ∀ us : List Value, us.length = 5 → C us := lstS (C := fun us => C (us)) fun a => lstS (C := fun us => C (a :: us)) fun b => lstS (C := fun us => C (a :: b :: us)) fun c => lstS (C := fun us => C (a :: b :: c :: us)) fun d => lstS (C := fun us => C (a :: b :: c :: d :: us)) fun e => lst0 (C := fun us => C (a :: b :: c :: d :: e :: us)) (h a b c d e)
theorem lst6 {C : List Value → Prop} (h : ∀ a b c d e f, C [a, b, c, d, e, f]) : ∀ us : List Value, us.length = 6 → C us := lstS (C := fun us => C (us)) fun a => lstS (C := fun us => C (a :: us)) fun b => lstS (C := fun us => C (a :: b :: us)) fun c => lstS (C := fun us => C (a :: b :: c :: us)) fun d => lstS (C := fun us => C (a :: b :: c :: d :: us)) fun e => lstS (C := fun us => C (a :: b :: c :: d :: e :: us)) fun f => lst0 (C := fun us => C (a :: b :: c :: d :: e :: f :: us)) (h a b c d e f)
theorem all_mk {l : PySem.W.OpenLaw} {w : World} {K : PySem.W.Frag} {h : Heap} {mg : Str → Option Value} {fa : Addr} (X : K.In h) (G : h.Ns mainGlobals mg) (hfa : mg "law" = some (.ref fa))
    {f1 : Addr} {od1 an1 : Option Addr} {sl1 : Array (Option Value)} {oc1 kV1 dc1 pm1 cd1 ct1 : Value}
    (a1 : PySem.W.nsIn K mainGlobals "is_whole" = some (some (.ref f1)))
    (l1 : K.lookup f1 = some ⟨oc1, od1, .func (PySem.W.fnOf "is_whole" "is_whole" (defArgs sWho) (defBody sWho) (defScope sWho) .none kV1 dc1 pm1 an1 cd1 ct1), sl1⟩)
    (c1 : PySem.W.codeIn K cd1 "is_whole" = true)
    (k1 : PySem.W.keepIn K (.ref f1) = true)
    {f2 : Addr} {od2 an2 : Option Addr} {sl2 : Array (Option Value)} {oc2 kV2 dc2 pm2 cd2 ct2 : Value}
    (a2 : PySem.W.nsIn K mainGlobals "is_throws" = some (some (.ref f2)))
    (l2 : K.lookup f2 = some ⟨oc2, od2, .func (PySem.W.fnOf "is_throws" "is_throws" (defArgs sThr) (defBody sThr) (defScope sThr) .none kV2 dc2 pm2 an2 cd2 ct2), sl2⟩)
    (c2 : PySem.W.codeIn K cd2 "is_throws" = true)
    (k2 : PySem.W.keepIn K (.ref f2) = true)
    {f3 : Addr} {od3 an3 : Option Addr} {sl3 : Array (Option Value)} {oc3 kV3 dc3 pm3 cd3 ct3 : Value}
    (a3 : PySem.W.nsIn K mainGlobals "is_word" = some (some (.ref f3)))
    (l3 : K.lookup f3 = some ⟨oc3, od3, .func (PySem.W.fnOf "is_word" "is_word" (defArgs sIsW) (defBody sIsW) (defScope sIsW) .none kV3 dc3 pm3 an3 cd3 ct3), sl3⟩)
    (c3 : PySem.W.codeIn K cd3 "is_word" = true)
    (k3 : PySem.W.keepIn K (.ref f3) = true)
    {f4 : Addr} {od4 an4 : Option Addr} {sl4 : Array (Option Value)} {oc4 kV4 dc4 pm4 cd4 ct4 : Value}
    (a4 : PySem.W.nsIn K mainGlobals "check_sides" = some (some (.ref f4)))
    (l4 : K.lookup f4 = some ⟨oc4, od4, .func (PySem.W.fnOf "check_sides" "check_sides" (defArgs sChS) (defBody sChS) (defScope sChS) .none kV4 dc4 pm4 an4 cd4 ct4), sl4⟩)
    (c4 : PySem.W.codeIn K cd4 "check_sides" = true)
    (k4 : PySem.W.keepIn K (.ref f4) = true)
    {f5 : Addr} {od5 an5 : Option Addr} {sl5 : Array (Option Value)} {oc5 kV5 dc5 pm5 cd5 ct5 : Value}
    (a5 : PySem.W.nsIn K mainGlobals "check_word" = some (some (.ref f5)))
    (l5 : K.lookup f5 = some ⟨oc5, od5, .func (PySem.W.fnOf "check_word" "check_word" (defArgs sChW) (defBody sChW) (defScope sChW) .none kV5 dc5 pm5 an5 cd5 ct5), sl5⟩)
    (c5 : PySem.W.codeIn K cd5 "check_word" = true)
    (k5 : PySem.W.keepIn K (.ref f5) = true)
    {f6 : Addr} {od6 an6 : Option Addr} {sl6 : Array (Option Value)} {oc6 kV6 dc6 pm6 cd6 ct6 : Value}
    (a6 : PySem.W.nsIn K mainGlobals "step" = some (some (.ref f6)))
    (l6 : K.lookup f6 = some ⟨oc6, od6, .func (PySem.W.fnOf "step" "step" (defArgs sStep) (defBody sStep) (defScope sStep) .none kV6 dc6 pm6 an6 cd6 ct6), sl6⟩)
    (c6 : PySem.W.codeIn K cd6 "step" = true)
    (k6 : PySem.W.keepIn K (.ref f6) = true)
    {f7 : Addr} {od7 an7 : Option Addr} {sl7 : Array (Option Value)} {oc7 kV7 dc7 pm7 cd7 ct7 : Value}
    (a7 : PySem.W.nsIn K mainGlobals "shorter_beginnings" = some (some (.ref f7)))
    (l7 : K.lookup f7 = some ⟨oc7, od7, .func (PySem.W.fnOf "shorter_beginnings" "shorter_beginnings" (defArgs sSh) (defBody sSh) (defScope sSh) .none kV7 dc7 pm7 an7 cd7 ct7), sl7⟩)
    (c7 : PySem.W.codeIn K cd7 "shorter_beginnings" = true)
    (k7 : PySem.W.keepIn K (.ref f7) = true)
    {f8 : Addr} {od8 an8 : Option Addr} {sl8 : Array (Option Value)} {oc8 kV8 dc8 pm8 cd8 ct8 : Value}
    (a8 : PySem.W.nsIn K mainGlobals "reached_by_count" = some (some (.ref f8)))
    (l8 : K.lookup f8 = some ⟨oc8, od8, .func (PySem.W.fnOf "reached_by_count" "reached_by_count" (defArgs sRe) (defBody sRe) (defScope sRe) .none kV8 dc8 pm8 an8 cd8 ct8), sl8⟩)
    (c8 : PySem.W.codeIn K cd8 "reached_by_count" = true)
    (k8 : PySem.W.keepIn K (.ref f8) = true)
    {f9 : Addr} {od9 an9 : Option Addr} {sl9 : Array (Option Value)} {oc9 kV9 dc9 pm9 cd9 ct9 : Value}
    (a9 : PySem.W.nsIn K mainGlobals "are_wholes" = some (some (.ref f9)))
    (l9 : K.lookup f9 = some ⟨oc9, od9, .func (PySem.W.fnOf "are_wholes" "are_wholes" (defArgs sAre) (defBody sAre) (defScope sAre) .none kV9 dc9 pm9 an9 cd9 ct9), sl9⟩)
    (c9 : PySem.W.codeIn K cd9 "are_wholes" = true)
    (k9 : PySem.W.keepIn K (.ref f9) = true)
    {f10 : Addr} {od10 an10 : Option Addr} {sl10 : Array (Option Value)} {oc10 kV10 dc10 pm10 cd10 ct10 : Value}
    (a10 : PySem.W.nsIn K mainGlobals "sum_at" = some (some (.ref f10)))
    (l10 : K.lookup f10 = some ⟨oc10, od10, .func (PySem.W.fnOf "sum_at" "sum_at" (defArgs sSum) (defBody sSum) (defScope sSum) .none kV10 dc10 pm10 an10 cd10 ct10), sl10⟩)
    (c10 : PySem.W.codeIn K cd10 "sum_at" = true)
    (k10 : PySem.W.keepIn K (.ref f10) = true)
    {f11 : Addr} {od11 an11 : Option Addr} {sl11 : Array (Option Value)} {oc11 kV11 dc11 pm11 cd11 ct11 : Value}
    (a11 : PySem.W.nsIn K mainGlobals "leads_by_count" = some (some (.ref f11)))
    (l11 : K.lookup f11 = some ⟨oc11, od11, .func (PySem.W.fnOf "leads_by_count" "leads_by_count" (defArgs sLeads) (defBody sLeads) (defScope sLeads) .none kV11 dc11 pm11 an11 cd11 ct11), sl11⟩)
    (c11 : PySem.W.codeIn K cd11 "leads_by_count" = true)
    (k11 : PySem.W.keepIn K (.ref f11) = true)
    {f12 : Addr} {od12 an12 : Option Addr} {sl12 : Array (Option Value)} {oc12 kV12 dc12 pm12 cd12 ct12 : Value}
    (a12 : PySem.W.nsIn K mainGlobals "beginnings_of" = some (some (.ref f12)))
    (l12 : K.lookup f12 = some ⟨oc12, od12, .func (PySem.W.fnOf "beginnings_of" "beginnings_of" (defArgs sBegO) (defBody sBegO) (defScope sBegO) .none kV12 dc12 pm12 an12 cd12 ct12), sl12⟩)
    (c12 : PySem.W.codeIn K cd12 "beginnings_of" = true)
    (k12 : PySem.W.keepIn K (.ref f12) = true)
    {f13 : Addr} {od13 an13 : Option Addr} {sl13 : Array (Option Value)} {oc13 kV13 dc13 pm13 cd13 ct13 : Value}
    (a13 : PySem.W.nsIn K mainGlobals "beginnings" = some (some (.ref f13)))
    (l13 : K.lookup f13 = some ⟨oc13, od13, .func (PySem.W.fnOf "beginnings" "beginnings" (defArgs sBeg) (defBody sBeg) (defScope sBeg) .none kV13 dc13 pm13 an13 cd13 ct13), sl13⟩)
    (c13 : PySem.W.codeIn K cd13 "beginnings" = true)
    (k13 : PySem.W.keepIn K (.ref f13) = true)
    {f14 : Addr} {od14 an14 : Option Addr} {sl14 : Array (Option Value)} {oc14 kV14 dc14 pm14 cd14 ct14 : Value}
    (a14 : PySem.W.nsIn K mainGlobals "leads_by_state" = some (some (.ref f14)))
    (l14 : K.lookup f14 = some ⟨oc14, od14, .func (PySem.W.fnOf "leads_by_state" "leads_by_state" (defArgs sLeadsS) (defBody sLeadsS) (defScope sLeadsS) .none kV14 dc14 pm14 an14 cd14 ct14), sl14⟩)
    (c14 : PySem.W.codeIn K cd14 "leads_by_state" = true)
    (k14 : PySem.W.keepIn K (.ref f14) = true)
    {f15 : Addr} {od15 an15 : Option Addr} {sl15 : Array (Option Value)} {oc15 kV15 dc15 pm15 cd15 ct15 : Value}
    (a15 : PySem.W.nsIn K mainGlobals "leads_of_beginnings" = some (some (.ref f15)))
    (l15 : K.lookup f15 = some ⟨oc15, od15, .func (PySem.W.fnOf "leads_of_beginnings" "leads_of_beginnings" (defArgs sLeadsB) (defBody sLeadsB) (defScope sLeadsB) .none kV15 dc15 pm15 an15 cd15 ct15), sl15⟩)
    (c15 : PySem.W.codeIn K cd15 "leads_of_beginnings" = true)
    (k15 : PySem.W.keepIn K (.ref f15) = true)
    {f16 : Addr} {od16 an16 : Option Addr} {sl16 : Array (Option Value)} {oc16 kV16 dc16 pm16 cd16 ct16 : Value}
    (a16 : PySem.W.nsIn K mainGlobals "held_by_count" = some (some (.ref f16)))
    (l16 : K.lookup f16 = some ⟨oc16, od16, .func (PySem.W.fnOf "held_by_count" "held_by_count" (defArgs sHeld) (defBody sHeld) (defScope sHeld) .none kV16 dc16 pm16 an16 cd16 ct16), sl16⟩)
    (c16 : PySem.W.codeIn K cd16 "held_by_count" = true)
    (k16 : PySem.W.keepIn K (.ref f16) = true)
    {f17 : Addr} {od17 an17 : Option Addr} {sl17 : Array (Option Value)} {oc17 kV17 dc17 pm17 cd17 ct17 : Value}
    (a17 : PySem.W.nsIn K mainGlobals "waits" = some (some (.ref f17)))
    (l17 : K.lookup f17 = some ⟨oc17, od17, .func (PySem.W.fnOf "waits" "waits" (defArgs sWaits) (defBody sWaits) (defScope sWaits) .none kV17 dc17 pm17 an17 cd17 ct17), sl17⟩)
    (c17 : PySem.W.codeIn K cd17 "waits" = true)
    (k17 : PySem.W.keepIn K (.ref f17) = true)
    {f18 : Addr} {od18 an18 : Option Addr} {sl18 : Array (Option Value)} {oc18 kV18 dc18 pm18 cd18 ct18 : Value}
    (a18 : PySem.W.nsIn K mainGlobals "margins_by_count" = some (some (.ref f18)))
    (l18 : K.lookup f18 = some ⟨oc18, od18, .func (PySem.W.fnOf "margins_by_count" "margins_by_count" (defArgs sMarg) (defBody sMarg) (defScope sMarg) .none kV18 dc18 pm18 an18 cd18 ct18), sl18⟩)
    (c18 : PySem.W.codeIn K cd18 "margins_by_count" = true)
    (k18 : PySem.W.keepIn K (.ref f18) = true)
    {f19 : Addr} {od19 an19 : Option Addr} {sl19 : Array (Option Value)} {oc19 kV19 dc19 pm19 cd19 ct19 : Value}
    (a19 : PySem.W.nsIn K mainGlobals "race" = some (some (.ref f19)))
    (l19 : K.lookup f19 = some ⟨oc19, od19, .func (PySem.W.fnOf "race" "race" (defArgs sRaceF) (defBody sRaceF) (defScope sRaceF) .none kV19 dc19 pm19 an19 cd19 ct19), sl19⟩)
    (c19 : PySem.W.codeIn K cd19 "race" = true)
    (k19 : PySem.W.keepIn K (.ref f19) = true)
    {f20 : Addr} {od20 an20 : Option Addr} {sl20 : Array (Option Value)} {oc20 kV20 dc20 pm20 cd20 ct20 : Value}
    (a20 : PySem.W.nsIn K mainGlobals "_law_words" = some (some (.ref f20)))
    (l20 : K.lookup f20 = some ⟨oc20, od20, .func (PySem.W.fnOf "_law_words" "_law_words" (defArgs sWords) (defBody sWords) (defScope sWords) .none kV20 dc20 pm20 an20 cd20 ct20), sl20⟩)
    (c20 : PySem.W.codeIn K cd20 "_law_words" = true)
    (k20 : PySem.W.keepIn K (.ref f20) = true)
    {f21 : Addr} {od21 an21 : Option Addr} {sl21 : Array (Option Value)} {oc21 kV21 dc21 pm21 cd21 ct21 : Value}
    (a21 : PySem.W.nsIn K mainGlobals "_law_longest" = some (some (.ref f21)))
    (l21 : K.lookup f21 = some ⟨oc21, od21, .func (PySem.W.fnOf "_law_longest" "_law_longest" (defArgs sLong) (defBody sLong) (defScope sLong) .none kV21 dc21 pm21 an21 cd21 ct21), sl21⟩)
    (c21 : PySem.W.codeIn K cd21 "_law_longest" = true)
    (k21 : PySem.W.keepIn K (.ref f21) = true)
    {f22 : Addr} {od22 an22 : Option Addr} {sl22 : Array (Option Value)} {oc22 kV22 dc22 pm22 cd22 ct22 : Value}
    (a22 : PySem.W.nsIn K mainGlobals "_law_says" = some (some (.ref f22)))
    (l22 : K.lookup f22 = some ⟨oc22, od22, .func (PySem.W.fnOf "_law_says" "_law_says" (defArgs sSays) (defBody sSays) (defScope sSays) .none kV22 dc22 pm22 an22 cd22 ct22), sl22⟩)
    (c22 : PySem.W.codeIn K cd22 "_law_says" = true)
    (k22 : PySem.W.keepIn K (.ref f22) = true)
    {f23 : Addr} {od23 an23 : Option Addr} {sl23 : Array (Option Value)} {oc23 kV23 dc23 pm23 cd23 ct23 : Value}
    (a23 : PySem.W.nsIn K mainGlobals "_law_table" = some (some (.ref f23)))
    (l23 : K.lookup f23 = some ⟨oc23, od23, .func (PySem.W.fnOf "_law_table" "_law_table" (defArgs sTab) (defBody sTab) (defScope sTab) .none kV23 dc23 pm23 an23 cd23 ct23), sl23⟩)
    (c23 : PySem.W.codeIn K cd23 "_law_table" = true)
    (k23 : PySem.W.keepIn K (.ref f23) = true)
    {f24 : Addr} {od24 an24 : Option Addr} {sl24 : Array (Option Value)} {oc24 kV24 dc24 pm24 cd24 ct24 : Value}
    (a24 : PySem.W.nsIn K mainGlobals "_law_race" = some (some (.ref f24)))
    (l24 : K.lookup f24 = some ⟨oc24, od24, .func (PySem.W.fnOf "_law_race" "_law_race" (defArgs sRace) (defBody sRace) (defScope sRace) .none kV24 dc24 pm24 an24 cd24 ct24), sl24⟩)
    (c24 : PySem.W.codeIn K cd24 "_law_race" = true)
    (k24 : PySem.W.keepIn K (.ref f24) = true)
    {f25 : Addr} {od25 an25 : Option Addr} {sl25 : Array (Option Value)} {oc25 kV25 dc25 pm25 cd25 ct25 : Value}
    (a25 : PySem.W.nsIn K mainGlobals "_law_bent" = some (some (.ref f25)))
    (l25 : K.lookup f25 = some ⟨oc25, od25, .func (PySem.W.fnOf "_law_bent" "_law_bent" (defArgs sBent) (defBody sBent) (defScope sBent) .none kV25 dc25 pm25 an25 cd25 ct25), sl25⟩)
    (c25 : PySem.W.codeIn K cd25 "_law_bent" = true)
    (k25 : PySem.W.keepIn K (.ref f25) = true)
    {f26 : Addr} {od26 an26 : Option Addr} {sl26 : Array (Option Value)} {oc26 kV26 dc26 pm26 cd26 ct26 : Value}
    (a26 : PySem.W.nsIn K mainGlobals "law" = some (some (.ref f26)))
    (l26 : K.lookup f26 = some ⟨oc26, od26, .func (PySem.W.fnOf "law" "law" (defArgs sLaw) (defBody sLaw) (defScope sLaw) .none kV26 dc26 pm26 an26 cd26 ct26), sl26⟩)
    (c26 : PySem.W.codeIn K cd26 "law" = true)
    (k26 : PySem.W.keepIn K (.ref f26) = true)
    {xc1 : Str} {tc1 : Tok}
    (v1 : PySem.W.nsIn K mainGlobals "LETTERS" = some (some (.str xc1 tc1)))
    (e1 : xc1 = tx alpha)
    {tc2 : Tok}
    (v2 : PySem.W.nsIn K mainGlobals "LEAST_SIDES" = some (some (.int 2 tc2)))
    {tc3 : Tok}
    (v3 : PySem.W.nsIn K mainGlobals "MOST_SIDES" = some (some (.int 26 tc3)))
    {CWait : Addr}
    (aWait : PySem.W.nsIn K mainGlobals "Wait" = some (some (.ref CWait)))
    (pgWait : PySem.W.plainGet K CWait Str.empty = true)
    (hdWait : PySem.W.hasDictIn K CWait = true)
    (poWait : PySem.W.plainOver K CWait = true)
    (saWait : PySem.W.findIn K (.ref CWait) "__setattr__" = some (some (.builtin "object.__setattr__")))
    {fIWait : Addr}
    (mkWait : PySem.W.makesIn K CWait = true)
    (inWait : PySem.W.findIn K (.ref CWait) "__init__" = some (some (.ref fIWait)))
    (fnWait : PySem.W.isFn K (.ref fIWait) = true)
    (kcWait : PySem.W.keepIn K (.ref CWait) = true)
    {odIWait anIWait : Option Addr} {slIWait : Array (Option Value)} {ocIWait kVIWait dcIWait pmIWait cdIWait ctIWait : Value}
    (lIWait : K.lookup fIWait = some ⟨ocIWait, odIWait, .func (PySem.W.fnOf "__init__" "Wait.__init__" (defArgs sWaitI) (defBody sWaitI) (defScope sWaitI) .none kVIWait dcIWait pmIWait anIWait cdIWait ctIWait), slIWait⟩)
    (cIWait : PySem.W.codeIn K cdIWait "Wait.__init__" = true)
    (kIWait : PySem.W.keepIn K (.ref fIWait) = true)
    {fSWait : Addr}
    (atWait : PySem.W.findIn K (.ref CWait) "shows" = some (some (.ref fSWait)))
    (mfWait : PySem.W.isFn K (.ref fSWait) = true)
    {odSWait anSWait : Option Addr} {slSWait : Array (Option Value)} {ocSWait kVSWait dcSWait pmSWait cdSWait ctSWait : Value}
    (lSWait : K.lookup fSWait = some ⟨ocSWait, odSWait, .func (PySem.W.fnOf "shows" "Wait.shows" (defArgs sWaitS) (defBody sWaitS) (defScope sWaitS) .none kVSWait dcSWait pmSWait anSWait cdSWait ctSWait), slSWait⟩)
    (cSWait : PySem.W.codeIn K cdSWait "Wait.shows" = true)
    (kSWait : PySem.W.keepIn K (.ref fSWait) = true)
    (noWait_table : PySem.W.findIn K (.ref CWait) "table" = some none)
    {CRace : Addr}
    (aRace : PySem.W.nsIn K mainGlobals "Race" = some (some (.ref CRace)))
    (pgRace : PySem.W.plainGet K CRace Str.empty = true)
    (hdRace : PySem.W.hasDictIn K CRace = true)
    (poRace : PySem.W.plainOver K CRace = true)
    (saRace : PySem.W.findIn K (.ref CRace) "__setattr__" = some (some (.builtin "object.__setattr__")))
    {fIRace : Addr}
    (mkRace : PySem.W.makesIn K CRace = true)
    (inRace : PySem.W.findIn K (.ref CRace) "__init__" = some (some (.ref fIRace)))
    (fnRace : PySem.W.isFn K (.ref fIRace) = true)
    (kcRace : PySem.W.keepIn K (.ref CRace) = true)
    {odIRace anIRace : Option Addr} {slIRace : Array (Option Value)} {ocIRace kVIRace dcIRace pmIRace cdIRace ctIRace : Value}
    (lIRace : K.lookup fIRace = some ⟨ocIRace, odIRace, .func (PySem.W.fnOf "__init__" "Race.__init__" (defArgs sRaceI) (defBody sRaceI) (defScope sRaceI) .none kVIRace dcIRace pmIRace anIRace cdIRace ctIRace), slIRace⟩)
    (cIRace : PySem.W.codeIn K cdIRace "Race.__init__" = true)
    (kIRace : PySem.W.keepIn K (.ref fIRace) = true)
    {fSRace : Addr}
    (atRace : PySem.W.findIn K (.ref CRace) "shows" = some (some (.ref fSRace)))
    (mfRace : PySem.W.isFn K (.ref fSRace) = true)
    {odSRace anSRace : Option Addr} {slSRace : Array (Option Value)} {ocSRace kVSRace dcSRace pmSRace cdSRace ctSRace : Value}
    (lSRace : K.lookup fSRace = some ⟨ocSRace, odSRace, .func (PySem.W.fnOf "shows" "Race.shows" (defArgs sRaceS) (defBody sRaceS) (defScope sRaceS) .none kVSRace dcSRace pmSRace anSRace cdSRace ctSRace), slSRace⟩)
    (cSRace : PySem.W.codeIn K cdSRace "Race.shows" = true)
    (kSRace : PySem.W.keepIn K (.ref fSRace) = true)
    (noRace_parts : PySem.W.findIn K (.ref CRace) "parts" = some none)
    (noRace_whole : PySem.W.findIn K (.ref CRace) "whole" = some none)
    (z1 : PySem.W.nsIn K mainGlobals "isinstance" = some none)
    (z2 : PySem.W.nsIn K mainGlobals "str" = some none)
    (z3 : PySem.W.nsIn K mainGlobals "int" = some none)
    (z4 : PySem.W.nsIn K mainGlobals "bool" = some none)
    (z5 : PySem.W.nsIn K mainGlobals "list" = some none)
    (z6 : PySem.W.nsIn K mainGlobals "all" = some none)
    (z7 : PySem.W.nsIn K mainGlobals "any" = some none)
    (z8 : PySem.W.nsIn K mainGlobals "len" = some none)
    (z9 : PySem.W.nsIn K mainGlobals "sum" = some none)
    (z10 : PySem.W.nsIn K mainGlobals "min" = some none)
    (z11 : PySem.W.nsIn K mainGlobals "max" = some none)
    (z12 : PySem.W.nsIn K mainGlobals "range" = some none)
    (z13 : PySem.W.nsIn K mainGlobals "enumerate" = some none)
    (z14 : PySem.W.nsIn K mainGlobals "reversed" = some none)
    (z15 : PySem.W.nsIn K mainGlobals "zip" = some none)
    (z16 : PySem.W.nsIn K mainGlobals "set" = some none)
    (z17 : PySem.W.nsIn K mainGlobals "sorted" = some none)
    (z18 : PySem.W.nsIn K mainGlobals "ValueError" = some none)
    (z19 : PySem.W.nsIn K mainGlobals "ord" = some none)
    (z20 : PySem.W.nsIn K mainGlobals "dict" = some none) :
    ∃ fd : FuncData, (∀ (s : Shared) (v : Value), BindsTo s fd ⟨[v], []⟩ [("_law_script", v)]) ∧ ∀ base : Heap, K.In base → base.Ns mainGlobals mg → FnOk l.prog w K mg base CX0 7 fa fd ["_law_script"] (spLaw K) := by
  have e := hfa.symm.trans (PySem.W.mg_of X G a26)
  cases e
  have B : Bl mg := ⟨PySem.W.mg_none_of X G z1, PySem.W.mg_none_of X G z2, PySem.W.mg_none_of X G z3, PySem.W.mg_none_of X G z4, PySem.W.mg_none_of X G z5, PySem.W.mg_none_of X G z6, PySem.W.mg_none_of X G z7, PySem.W.mg_none_of X G z8, PySem.W.mg_none_of X G z9, PySem.W.mg_none_of X G z10, PySem.W.mg_none_of X G z11, PySem.W.mg_none_of X G z12, PySem.W.mg_none_of X G z13, PySem.W.mg_none_of X G z14, PySem.W.mg_none_of X G z15, PySem.W.mg_none_of X G z16, PySem.W.mg_none_of X G z17, PySem.W.mg_none_of X G z18, PySem.W.mg_none_of X G z19, PySem.W.mg_none_of X G z20⟩
  have F1 := fun_mk (st := sWho) l1 c1 k1
  have b1 := F1.binds (ps := ["thing"]) fun _ _ _ _ _ _ us hl => lst1 (C := fun us => bindArgs _ ⟨us, []⟩ = pure (List.zip _ us)) (fun _ => rfl) us hl
  have m1 := PySem.W.mg_of X G a1
  have F2 := fun_mk (st := sThr) l2 c2 k2
  have b2 := F2.binds (ps := ["sides", "thing"]) fun _ _ _ _ _ _ us hl => lst2 (C := fun us => bindArgs _ ⟨us, []⟩ = pure (List.zip _ us)) (fun _ _ => rfl) us hl
  have m2 := PySem.W.mg_of X G a2
  have F3 := fun_mk (st := sIsW) l3 c3 k3
  have b3 := F3.binds (ps := ["sides", "thing"]) fun _ _ _ _ _ _ us hl => lst2 (C := fun us => bindArgs _ ⟨us, []⟩ = pure (List.zip _ us)) (fun _ _ => rfl) us hl
  have m3 := PySem.W.mg_of X G a3
  have F4 := fun_mk (st := sChS) l4 c4 k4
  have b4 := F4.binds (ps := ["sides"]) fun _ _ _ _ _ _ us hl => lst1 (C := fun us => bindArgs _ ⟨us, []⟩ = pure (List.zip _ us)) (fun _ => rfl) us hl
  have m4 := PySem.W.mg_of X G a4
  have F5 := fun_mk (st := sChW) l5 c5 k5
  have b5 := F5.binds (ps := ["sides", "word"]) fun _ _ _ _ _ _ us hl => lst2 (C := fun us => bindArgs _ ⟨us, []⟩ = pure (List.zip _ us)) (fun _ _ => rfl) us hl
  have m5 := PySem.W.mg_of X G a5
  have F6 := fun_mk (st := sStep) l6 c6 k6
  have b6 := F6.binds (ps := ["word", "shorter", "reached", "letter"]) fun _ _ _ _ _ _ us hl => lst4 (C := fun us => bindArgs _ ⟨us, []⟩ = pure (List.zip _ us)) (fun _ _ _ _ => rfl) us hl
  have m6 := PySem.W.mg_of X G a6
  have F7 := fun_mk (st := sSh) l7 c7 k7
  have b7 := F7.binds (ps := ["word"]) fun _ _ _ _ _ _ us hl => lst1 (C := fun us => bindArgs _ ⟨us, []⟩ = pure (List.zip _ us)) (fun _ => rfl) us hl
  have m7 := PySem.W.mg_of X G a7
  have F8 := fun_mk (st := sRe) l8 c8 k8
  have b8 := F8.binds (ps := ["word", "throws"]) fun _ _ _ _ _ _ us hl => lst2 (C := fun us => bindArgs _ ⟨us, []⟩ = pure (List.zip _ us)) (fun _ _ => rfl) us hl
  have m8 := PySem.W.mg_of X G a8
  have F9 := fun_mk (st := sAre) l9 c9 k9
  have b9 := F9.binds (ps := ["numbers", "many"]) fun _ _ _ _ _ _ us hl => lst2 (C := fun us => bindArgs _ ⟨us, []⟩ = pure (List.zip _ us)) (fun _ _ => rfl) us hl
  have m9 := PySem.W.mg_of X G a9
  have F10 := fun_mk (st := sSum) l10 c10 k10
  have b10 := F10.binds (ps := ["numbers", "places"]) fun _ _ _ _ _ _ us hl => lst2 (C := fun us => bindArgs _ ⟨us, []⟩ = pure (List.zip _ us)) (fun _ _ => rfl) us hl
  have m10 := PySem.W.mg_of X G a10
  have F11 := fun_mk (st := sLeads) l11 c11 k11
  have b11 := F11.binds (ps := ["sides", "word"]) fun _ _ _ _ _ _ us hl => lst2 (C := fun us => bindArgs _ ⟨us, []⟩ = pure (List.zip _ us)) (fun _ _ => rfl) us hl
  have m11 := PySem.W.mg_of X G a11
  have F12 := fun_mk (st := sBegO) l12 c12 k12
  have b12 := F12.binds (ps := ["word"]) fun _ _ _ _ _ _ us hl => lst1 (C := fun us => bindArgs _ ⟨us, []⟩ = pure (List.zip _ us)) (fun _ => rfl) us hl
  have m12 := PySem.W.mg_of X G a12
  have F13 := fun_mk (st := sBeg) l13 c13 k13
  have b13 := F13.binds (ps := ["one", "other"]) fun _ _ _ _ _ _ us hl => lst2 (C := fun us => bindArgs _ ⟨us, []⟩ = pure (List.zip _ us)) (fun _ _ => rfl) us hl
  have m13 := PySem.W.mg_of X G a13
  have F14 := fun_mk (st := sLeadsS) l14 c14 k14
  have b14 := F14.binds (ps := ["sides", "one", "other"]) fun _ _ _ _ _ _ us hl => lst3 (C := fun us => bindArgs _ ⟨us, []⟩ = pure (List.zip _ us)) (fun _ _ _ => rfl) us hl
  have m14 := PySem.W.mg_of X G a14
  have F15 := fun_mk (st := sLeadsB) l15 c15 k15
  have b15 := F15.binds (ps := ["sides", "word", "other"]) fun _ _ _ _ _ _ us hl => lst3 (C := fun us => bindArgs _ ⟨us, []⟩ = pure (List.zip _ us)) (fun _ _ _ => rfl) us hl
  have m15 := PySem.W.mg_of X G a15
  have F16 := fun_mk (st := sHeld) l16 c16 k16
  have b16 := F16.binds (ps := ["sides", "word"]) fun _ _ _ _ _ _ us hl => lst2 (C := fun us => bindArgs _ ⟨us, []⟩ = pure (List.zip _ us)) (fun _ _ => rfl) us hl
  have m16 := PySem.W.mg_of X G a16
  have F17 := fun_mk (st := sWaits) l17 c17 k17
  have b17 := F17.binds (ps := ["sides", "word"]) fun _ _ _ _ _ _ us hl => lst2 (C := fun us => bindArgs _ ⟨us, []⟩ = pure (List.zip _ us)) (fun _ _ => rfl) us hl
  have m17 := PySem.W.mg_of X G a17
  have F18 := fun_mk (st := sMarg) l18 c18 k18
  have b18 := F18.binds (ps := ["sides", "one", "other", "throws"]) fun _ _ _ _ _ _ us hl => lst4 (C := fun us => bindArgs _ ⟨us, []⟩ = pure (List.zip _ us)) (fun _ _ _ _ => rfl) us hl
  have m18 := PySem.W.mg_of X G a18
  have F19 := fun_mk (st := sRaceF) l19 c19 k19
  have b19 := F19.binds (ps := ["sides", "one", "other"]) fun _ _ _ _ _ _ us hl => lst3 (C := fun us => bindArgs _ ⟨us, []⟩ = pure (List.zip _ us)) (fun _ _ _ => rfl) us hl
  have m19 := PySem.W.mg_of X G a19
  have F20 := fun_mk (st := sWords) l20 c20 k20
  have b20 := F20.binds (ps := ["_law_script"]) fun _ _ _ _ _ _ us hl => lst1 (C := fun us => bindArgs _ ⟨us, []⟩ = pure (List.zip _ us)) (fun _ => rfl) us hl
  have m20 := PySem.W.mg_of X G a20
  have F21 := fun_mk (st := sLong) l21 c21 k21
  have b21 := F21.binds (ps := ["_law_word", "_law_throws"]) fun _ _ _ _ _ _ us hl => lst2 (C := fun us => bindArgs _ ⟨us, []⟩ = pure (List.zip _ us)) (fun _ _ => rfl) us hl
  have m21 := PySem.W.mg_of X G a21
  have F22 := fun_mk (st := sSays) l22 c22 k22
  have b22 := F22.binds (ps := ["_law_said", "_law_due"]) fun _ _ _ _ _ _ us hl => lst2 (C := fun us => bindArgs _ ⟨us, []⟩ = pure (List.zip _ us)) (fun _ _ => rfl) us hl
  have m22 := PySem.W.mg_of X G a22
  have F23 := fun_mk (st := sTab) l23 c23 k23
  have b23 := F23.binds (ps := ["_law_sides", "_law_word", "_law_table_here"]) fun _ _ _ _ _ _ us hl => lst3 (C := fun us => bindArgs _ ⟨us, []⟩ = pure (List.zip _ us)) (fun _ _ _ => rfl) us hl
  have m23 := PySem.W.mg_of X G a23
  have F24 := fun_mk (st := sRace) l24 c24 k24
  have b24 := F24.binds (ps := ["_law_sides", "_law_one", "_law_other", "_law_parts", "_law_whole"]) fun _ _ _ _ _ _ us hl => lst5 (C := fun us => bindArgs _ ⟨us, []⟩ = pure (List.zip _ us)) (fun _ _ _ _ _ => rfl) us hl
  have m24 := PySem.W.mg_of X G a24
  have F25 := fun_mk (st := sBent) l25 c25 k25
  have b25 := F25.binds (ps := ["_law_some", "_law_cell"]) fun _ _ _ _ _ _ us hl => lst2 (C := fun us => bindArgs _ ⟨us, []⟩ = pure (List.zip _ us)) (fun _ _ => rfl) us hl
  have m25 := PySem.W.mg_of X G a25
  have F26 := fun_mk (st := sLaw) l26 c26 k26
  have b26 := F26.binds (ps := ["_law_script"]) fun _ _ _ _ _ _ us hl => lst1 (C := fun us => bindArgs _ ⟨us, []⟩ = pure (List.zip _ us)) (fun _ => rfl) us hl
  have m26 := PySem.W.mg_of X G a26
  have G_LETTERS : Gv mg "LETTERS" (.str (tx alpha)) := ⟨_, PySem.W.mg_of X G v1, _, by rw [e1]⟩
  have G_LEAST_SIDES : Gv mg "LEAST_SIDES" (.int 2) := ⟨_, PySem.W.mg_of X G v2, _, rfl⟩
  have G_MOST_SIDES : Gv mg "MOST_SIDES" (.int 26) := ⟨_, PySem.W.mg_of X G v3, _, rfl⟩
  have mWait := PySem.W.mg_of X G aWait
  have clWait : Cls K CWait := ⟨pgWait, hdWait, poWait, saWait⟩
  have mkWait : Mk K CWait fIWait := ⟨mkWait, inWait, fnWait, kcWait⟩
  have FIWait := fun_mk (st := sWaitI) lIWait cIWait kIWait
  have bIWait := FIWait.binds (ps := ["self", "table"]) fun _ _ _ _ _ _ us hl => lst2 (C := fun us => bindArgs _ ⟨us, []⟩ = pure (List.zip _ us)) (fun _ _ => rfl) us hl
  have FSWait := fun_mk (st := sWaitS) lSWait cSWait kSWait
  have bSWait := FSWait.binds (ps := ["self", "sides", "word"]) fun _ _ _ _ _ _ us hl => lst3 (C := fun us => bindArgs _ ⟨us, []⟩ = pure (List.zip _ us)) (fun _ _ _ => rfl) us hl
  have meWait : Meth K CWait "shows" fSWait := ⟨atWait, mfWait, kSWait⟩
  have mRace := PySem.W.mg_of X G aRace
  have clRace : Cls K CRace := ⟨pgRace, hdRace, poRace, saRace⟩
  have mkRace : Mk K CRace fIRace := ⟨mkRace, inRace, fnRace, kcRace⟩
  have FIRace := fun_mk (st := sRaceI) lIRace cIRace kIRace
  have bIRace := FIRace.binds (ps := ["self", "parts", "whole"]) fun _ _ _ _ _ _ us hl => lst3 (C := fun us => bindArgs _ ⟨us, []⟩ = pure (List.zip _ us)) (fun _ _ _ => rfl) us hl
  have FSRace := fun_mk (st := sRaceS) lSRace cSRace kSRace
  have bSRace := FSRace.binds (ps := ["self", "sides", "one", "other"]) fun _ _ _ _ _ _ us hl => lst4 (C := fun us => bindArgs _ ⟨us, []⟩ = pure (List.zip _ us)) (fun _ _ _ _ => rfl) us hl
  have meRace : Meth K CRace "shows" fSRace := ⟨atRace, mfRace, kSRace⟩
  refine ⟨PySem.W.fnOf "law" "law" (defArgs sLaw) (defBody sLaw) (defScope sLaw) .none kV26 dc26 pm26 an26 cd26 ct26, fun s v => .of_eq rfl, fun base _ _ => ?_⟩
  have W : WaitC K mg CWait fIWait fSWait := ⟨mWait, clWait, mkWait, meWait, noWait_table⟩
  have R : RaceC K mg CRace fIRace fSRace := ⟨mRace, clRace, mkRace, meRace, noRace_parts, noRace_whole⟩
  have g1 : Gf l.prog w K mg base 1 "is_whole" ["thing"] (spWho K) f1 _ := ⟨ok_who F1 B, m1, k1, b1⟩
  have g2 : Gf l.prog w K mg base 1 "is_throws" ["sides", "thing"] (spThr K) f2 _ := ⟨ok_thr F2 B G_LETTERS, m2, k2, b2⟩
  have g3 : Gf l.prog w K mg base 2 "is_word" ["sides", "thing"] (spIsW K) f3 _ := ⟨ok_isw F3 B g2, m3, k3, b3⟩
  have g4 : Gf l.prog w K mg base 2 "check_sides" ["sides"] spChS f4 _ := ⟨ok_chs F4 g1 G_LEAST_SIDES G_MOST_SIDES, m4, k4, b4⟩
  have g5 : Gf l.prog w K mg base 3 "check_word" ["sides", "word"] spChW f5 _ := ⟨ok_chw F5 g3, m5, k5, b5⟩
  have g6 : Gf l.prog w K mg base 1 "step" ["word", "shorter", "reached", "letter"] (spStep K) f6 _ := ⟨ok_step F6 B, m6, k6, b6⟩
  have g7 : Gf l.prog w K mg base 2 "shorter_beginnings" ["word"] spSh f7 _ := ⟨ok_sh F7 g6, m7, k7, b7⟩
  have g8 : Gf l.prog w K mg base 3 "reached_by_count" ["word", "throws"] spRe f8 _ := ⟨ok_re F8 g6 g7, m8, k8, b8⟩
  have g9 : Gf l.prog w K mg base 2 "are_wholes" ["numbers", "many"] (spAre K) f9 _ := ⟨ok_are F9 B g1, m9, k9, b9⟩
  have g10 : Gf l.prog w K mg base 1 "sum_at" ["numbers", "places"] (spSumD K) f10 _ := ⟨ok_sumD F10 B, m10, k10, b10⟩
  have h10 : Gf l.prog w K mg base 1 "sum_at" ["numbers", "places"] (spSum K) f10 _ := ⟨ok_sum F10 B, m10, k10, b10⟩
  have g11 : Gf l.prog w K mg base 3 "leads_by_count" ["sides", "word"] spLeads f11 _ := ⟨ok_leads F11 B g7, m11, k11, b11⟩
  have g12 : Gf l.prog w K mg base 1 "beginnings_of" ["word"] spBegO f12 _ := ⟨ok_begO F12 B, m12, k12, b12⟩
  have g13 : Gf l.prog w K mg base 2 "beginnings" ["one", "other"] spSts f13 _ := ⟨ok_beg F13 B g12, m13, k13, b13⟩
  have g15 : Gf l.prog w K mg base 4 "leads_of_beginnings" ["sides", "word", "other"] spLob f15 _ := ⟨ok_lob F15 B g12 g11 g8, m15, k15, b15⟩
  have g14 : Gf l.prog w K mg base 5 "leads_by_state" ["sides", "one", "other"] spLbs f14 _ := ⟨ok_lbs F14 g15, m14, k14, b14⟩
  have g16 : Gf l.prog w K mg base 3 "held_by_count" ["sides", "word"] spHeld f16 _ := ⟨ok_held F16 B g7, m16, k16, b16⟩
  have oI : FnOk l.prog w K mg base CX0 1 fIWait _ ["self", "table"] (spWaitI K CWait) := ok_waitI FIWait B W
  have oS : FnOk l.prog w K mg base CX0 4 fSWait _ ["self", "sides", "word"] (spWaitS CWait) := ok_waitS FSWait B W g9 h10 g11
  have g17 : Gf l.prog w K mg base 4 "waits" ["sides", "word"] (spWaits CWait) f17 _ := ⟨ok_waits F17 B W oI bIWait g4 g5 g16, m17, k17, b17⟩
  have g18 : Gf l.prog w K mg base 4 "margins_by_count" ["sides", "one", "other", "throws"] spMarg f18 _ := ⟨ok_marg F18 B g16 g8, m18, k18, b18⟩
  have oJ : FnOk l.prog w K mg base CX0 1 fIRace _ ["self", "parts", "whole"] (spRaceI K CRace) := ok_raceI FIRace B R
  have oT : FnOk l.prog w K mg base CX0 6 fSRace _ ["self", "sides", "one", "other"] (spRaceS CRace) := ok_raceS FSRace B R g13 g9 g10 g14
  have g19 : Gf l.prog w K mg base 5 "race" ["sides", "one", "other"] (spRace CRace) f19 _ := ⟨ok_race F19 B R oJ bIRace g4 g5 g18 g13, m19, k19, b19⟩
  have g20 : Gf l.prog w K mg base 1 "_law_words" ["_law_script"] (spWords K) f20 _ := ⟨ok_words F20 B, m20, k20, b20⟩
  have g21 : Gf l.prog w K mg base 1 "_law_longest" ["_law_word", "_law_throws"] spLong f21 _ := ⟨ok_long F21 B, m21, k21, b21⟩
  have g22 : Gf l.prog w K mg base 1 "_law_says" ["_law_said", "_law_due"] spSays f22 _ := ⟨ok_says F22 B, m22, k22, b22⟩
  have g23 : Gf l.prog w K mg base 2 "_law_table" ["_law_sides", "_law_word", "_law_table_here"] (spTab K) f23 _ := ⟨ok_tab F23 B g21, m23, k23, b23⟩
  have g24 : Gf l.prog w K mg base 1 "_law_race" ["_law_sides", "_law_one", "_law_other", "_law_parts", "_law_whole"] (spLRace K) f24 _ := ⟨ok_lrace F24 B, m24, k24, b24⟩
  have g25 : Gf l.prog w K mg base 1 "_law_bent" ["_law_some", "_law_cell"] (spBent K) f25 _ := ⟨ok_bent F25 B, m25, k25, b25⟩
  exact ok_law F26 B W R oI bIWait oS bSWait oJ bIRace oT bSRace g17 g19 g20 g22 g25 g23 g24
theorem walk {l : PySem.W.OpenLaw} {q : Program} {loose : List Str} {XP : (Str → Option Value) → Heap → Prop} {YP : World → Heap → Prop} {d : DefRec} {K : Params → PySem.W.Frag} (hn : l.most = some 63) (hdf : d.params.defaults = [])
    (hY : ∀ (w : World) (h : Heap), YP w h → (K w.params).In h)
    (F : ∀ (w : World) (mg : Str → Option Value) (fa : Addr) (h : Heap), (K w.params).In h → h.Ns mainGlobals mg → mg d.name = some (.ref fa) →
      ∃ fd : FuncData, (∀ (s : Shared) (u : Value), BindsTo s fd ⟨[u], []⟩ [("_law_script", u)]) ∧ ∀ base : Heap, (K w.params).In base → base.Ns mainGlobals mg → FnOk l.prog w (K w.params) mg base CX0 7 fa fd ["_law_script"] (spLaw (K w.params))) :
    PySem.W.WalkO q loose XP YP l.row.toRowW d [] (fun f vs => PySem.call f vs) :=
  L2.walk_of (n := 63) (k := 7) (x := "_law_script") (CX := fun w => CX0) (sp := fun w => spLaw (K w.params)) hn (by decide) hdf ⟨rfl, by decide, by decide⟩ hY F (fun _ _ a ns hl _ hS => ⟨a, ns, rfl, hS, hl, fun _ => rfl⟩) fun _ _ _ _ _ z => z
end FW
open PySem PySem.W PyProof.Rows
set_option maxRecDepth 100000 in
set_option maxHeartbeats 0 in
theorem PySem.Challenge.cw_firstword_k06_answers_by_hand_holds : PySem.Challenge.rw_firstword_k06_answers_by_hand.Holds := by
  w_on; o_law; k_head; (case hw => w_witness2)
  k_fill
  refine FW.walk (l := PySem.Challenge.rw_firstword_k06_answers_by_hand) rfl rfl (fun w h Y => PySem.W.kIn_of Y) ?F
  case F =>
    intro w mg fa h KX G hmg
    refine' FW.all_mk KX G hmg ?a1 ?l1 ?c1 ?k1 ?a2 ?l2 ?c2 ?k2 ?a3 ?l3 ?c3 ?k3 ?a4 ?l4 ?c4 ?k4 ?a5 ?l5 ?c5 ?k5 ?a6 ?l6 ?c6 ?k6 ?a7 ?l7 ?c7 ?k7 ?a8 ?l8 ?c8 ?k8 ?a9 ?l9 ?c9 ?k9 ?a10 ?l10 ?c10 ?k10 ?a11 ?l11 ?c11 ?k11 ?a12 ?l12 ?c12 ?k12 ?a13 ?l13 ?c13 ?k13 ?a14 ?l14 ?c14 ?k14 ?a15 ?l15 ?c15 ?k15 ?a16 ?l16 ?c16 ?k16 ?a17 ?l17 ?c17 ?k17 ?a18 ?l18 ?c18 ?k18 ?a19 ?l19 ?c19 ?k19 ?a20 ?l20 ?c20 ?k20 ?a21 ?l21 ?c21 ?k21 ?a22 ?l22 ?c22 ?k22 ?a23 ?l23 ?c23 ?k23 ?a24 ?l24 ?c24 ?k24 ?a25 ?l25 ?c25 ?k25 ?a26 ?l26 ?c26 ?k26 ?v1 ?e1 ?v2 ?v3 ?aWait ?pgWait ?hdWait ?poWait ?saWait ?mkWait ?inWait ?fnWait ?kcWait ?lIWait ?cIWait ?kIWait ?atWait ?mfWait ?lSWait ?cSWait ?kSWait ?noWait_table ?aRace ?pgRace ?hdRace ?poRace ?saRace ?mkRace ?inRace ?fnRace ?kcRace ?lIRace ?cIRace ?kIRace ?atRace ?mfRace ?lSRace ?cSRace ?kSRace ?noRace_parts ?noRace_whole ?z1 ?z2 ?z3 ?z4 ?z5 ?z6 ?z7 ?z8 ?z9 ?z10 ?z11 ?z12 ?z13 ?z14 ?z15 ?z16 ?z17 ?z18 ?z19 ?z20
    (case a1 => k_is)
    (case l1 => k_is)
    (case c1 => k_is)
    (case k1 => k_is)
    (case a2 => k_is)
    (case l2 => k_is)
    (case c2 => k_is)
    (case k2 => k_is)
    (case a3 => k_is)
    (case l3 => k_is)
    (case c3 => k_is)
    (case k3 => k_is)
    (case a4 => k_is)
    (case l4 => k_is)
    (case c4 => k_is)
    (case k4 => k_is)
    (case a5 => k_is)
    (case l5 => k_is)
    (case c5 => k_is)
    (case k5 => k_is)
    (case a6 => k_is)
    (case l6 => k_is)
    (case c6 => k_is)
    (case k6 => k_is)
    (case a7 => k_is)
    (case l7 => k_is)
    (case c7 => k_is)
    (case k7 => k_is)
    (case a8 => k_is)
    (case l8 => k_is)
    (case c8 => k_is)
    (case k8 => k_is)
    (case a9 => k_is)
    (case l9 => k_is)
    (case c9 => k_is)
    (case k9 => k_is)
    (case a10 => k_is)
    (case l10 => k_is)
    (case c10 => k_is)
    (case k10 => k_is)
    (case a11 => k_is)
    (case l11 => k_is)
    (case c11 => k_is)
    (case k11 => k_is)
    (case a12 => k_is)
    (case l12 => k_is)
    (case c12 => k_is)
    (case k12 => k_is)
    (case a13 => k_is)
    (case l13 => k_is)
    (case c13 => k_is)
    (case k13 => k_is)
    (case a14 => k_is)
    (case l14 => k_is)
    (case c14 => k_is)
    (case k14 => k_is)
    (case a15 => k_is)
    (case l15 => k_is)
    (case c15 => k_is)
    (case k15 => k_is)
    (case a16 => k_is)
    (case l16 => k_is)
    (case c16 => k_is)
    (case k16 => k_is)
    (case a17 => k_is)
    (case l17 => k_is)
    (case c17 => k_is)
    (case k17 => k_is)
    (case a18 => k_is)
    (case l18 => k_is)
    (case c18 => k_is)
    (case k18 => k_is)
    (case a19 => k_is)
    (case l19 => k_is)
    (case c19 => k_is)
    (case k19 => k_is)
    (case a20 => k_is)
    (case l20 => k_is)
    (case c20 => k_is)
    (case k20 => k_is)
    (case a21 => k_is)
    (case l21 => k_is)
    (case c21 => k_is)
    (case k21 => k_is)
    (case a22 => k_is)
    (case l22 => k_is)
    (case c22 => k_is)
    (case k22 => k_is)
    (case a23 => k_is)
    (case l23 => k_is)
    (case c23 => k_is)
    (case k23 => k_is)
    (case a24 => k_is)
    (case l24 => k_is)
    (case c24 => k_is)
    (case k24 => k_is)
    (case a25 => k_is)
    (case l25 => k_is)
    (case c25 => k_is)
    (case k25 => k_is)
    (case a26 => k_is)
    (case l26 => k_is)
    (case c26 => k_is)
    (case k26 => k_is)
    (case v1 => k_is)
    (case e1 => exact (by decide +kernel))
    (case v2 => k_is)
    (case v3 => k_is)
    (case aWait => k_is)
    (case pgWait => k_is)
    (case hdWait => k_is)
    (case poWait => k_is)
    (case saWait => k_is)
    (case mkWait => k_is)
    (case inWait => k_is)
    (case fnWait => k_is)
    (case kcWait => k_is)
    (case lIWait => k_is)
    (case cIWait => k_is)
    (case kIWait => k_is)
    (case atWait => k_is)
    (case mfWait => k_is)
    (case lSWait => k_is)
    (case cSWait => k_is)
    (case kSWait => k_is)
    (case noWait_table => k_is)
    (case aRace => k_is)
    (case pgRace => k_is)
    (case hdRace => k_is)
    (case poRace => k_is)
    (case saRace => k_is)
    (case mkRace => k_is)
    (case inRace => k_is)
    (case fnRace => k_is)
    (case kcRace => k_is)
    (case lIRace => k_is)
    (case cIRace => k_is)
    (case kIRace => k_is)
    (case atRace => k_is)
    (case mfRace => k_is)
    (case lSRace => k_is)
    (case cSRace => k_is)
    (case kSRace => k_is)
    (case noRace_parts => k_is)
    (case noRace_whole => k_is)
    (case z1 => k_is)
    (case z2 => k_is)
    (case z3 => k_is)
    (case z4 => k_is)
    (case z5 => k_is)
    (case z6 => k_is)
    (case z7 => k_is)
    (case z8 => k_is)
    (case z9 => k_is)
    (case z10 => k_is)
    (case z11 => k_is)
    (case z12 => k_is)
    (case z13 => k_is)
    (case z14 => k_is)
    (case z15 => k_is)
    (case z16 => k_is)
    (case z17 => k_is)
    (case z18 => k_is)
    (case z19 => k_is)
    (case z20 => k_is)

import PyProof.Rows.All
import Wide.All
import OpenK.AllK
import Wide.FinOn
import Lean
import PyProof.EqAt
import PyProof.EqKinds
import PyProof.TupleCall
import PySem.Challenge.RW_firstword_k07_refused
set_option Elab.async false
set_option linter.all false
set_option maxRecDepth 100000
set_option maxHeartbeats 4000000
-- CHANGE: your row's module here, as the last of these rows
namespace L2
open PySem PySem.Spec PyProof.Rows
noncomputable abbrev Key := Sum Int Str
noncomputable def keyIs : Key → Value → Bool
  | .inl k, v => Value.isInt k v
  | .inr x, v => Value.isStrOf x v
noncomputable def keyH (w : World) : Key → Int
  | .inl k => hashInt k
  | .inr x => hashStr w x
theorem keyIs_shape : ∀ {k : Key} {v : Value}, keyIs k v = true → (∃ i t, k = Sum.inl i ∧ v = Value.int i t) ∨ (∃ x t, k = Sum.inr x ∧ v = Value.str x t)
  | .inl i, v, h => by
    obtain ⟨t, e⟩ := Value.isInt_shape (k := i) (v := v) h
    exact .inl ⟨i, t, rfl, e⟩
  | .inr x, v, h => by
    obtain ⟨t, e⟩ := Value.isStrOf_shape (x := x) (v := v) h
    exact .inr ⟨x, t, rfl, e⟩
theorem key_ll (a b : Int) : decide ((Sum.inl a : Key) = Sum.inl b) = (a == b) := by
  by_cases e : a = b
  · subst e; simp
  · have h : ¬ (Sum.inl a : Key) = Sum.inl b := fun q => e (Sum.inl.inj q)
    rw [decide_eq_false h]
    exact (beq_eq_false_iff_ne.mpr e).symm
theorem key_rr (a b : Str) : decide ((Sum.inr a : Key) = Sum.inr b) = decide (a = b) := by
  by_cases e : a = b
  · subst e; simp
  · have h : ¬ (Sum.inr a : Key) = Sum.inr b := fun q => e (Sum.inr.inj q)
    rw [decide_eq_false h, decide_eq_false e]
theorem key_lr (a : Int) (b : Str) : decide ((Sum.inl a : Key) = Sum.inr b) = false := decide_eq_false (fun q => nomatch q)
theorem key_rl (a : Str) (b : Int) : decide ((Sum.inr a : Key) = Sum.inl b) = false := decide_eq_false (fun q => nomatch q)
noncomputable def mixKind (prog : Program) (w : World) : PySem.KeyKind prog w Key where
  is := keyIs
  hash := keyH w
  inj := fun v a b ha hb => by
    rcases keyIs_shape ha with ⟨i, t, rfl, rfl⟩ | ⟨x, t, rfl, rfl⟩
    · rcases keyIs_shape hb with ⟨j, u, rfl, e⟩ | ⟨y, u, rfl, e⟩
      · injection e with e1 _; rw [e1]
      · exact nomatch e
    · rcases keyIs_shape hb with ⟨j, u, rfl, e⟩ | ⟨y, u, rfl, e⟩
      · exact nomatch e
      · injection e with e1 _; rw [e1]
  byValue := fun k v h => by
    rcases keyIs_shape h with ⟨i, t, rfl, rfl⟩ | ⟨x, t, rfl, rfl⟩ <;> rfl
  pyHash := fun hv h => by
    rcases keyIs_shape hv with ⟨i, t, rfl, rfl⟩ | ⟨x, t, rfl, rfl⟩
    · exact wpAny_pyHash_int h
    · exact wpAny_pyHash_str h
  eqBool := fun hu hv h => by
    rcases keyIs_shape hu with ⟨i, t, rfl, rfl⟩ | ⟨x, t, rfl, rfl⟩
    · rcases keyIs_shape hv with ⟨j, u, rfl, rfl⟩ | ⟨y, u, rfl, rfl⟩
      · rw [key_ll] at h; exact wpAny_eqBool_int h
      · rw [key_lr] at h; exact SeqAt.EqAt.int_str i t y u _ _ _ _ h
    · rcases keyIs_shape hv with ⟨j, u, rfl, rfl⟩ | ⟨y, u, rfl, rfl⟩
      · rw [key_rl] at h; exact SeqAt.EqAt.str_int x t j u _ _ _ _ h
      · rw [key_rr] at h; exact wpAny_eqBool_str h
  «strs» := fun k x t v h => by
    rcases keyIs_shape h with ⟨i, u, rfl, e⟩ | ⟨y, u, rfl, e⟩
    · exact nomatch e
    · injection e with e1 _
      subst e1
      cases v <;> rfl
end L2
namespace L2
open PySem PySem.Spec PyProof.Rows
inductive V where
  | non | bl (b : Bool) | int (i : Int) | str (x : Str) | byt (b : Array UInt8) | flt (b : UInt64) | ref (a : Addr) | ty (n : String)
  deriving DecidableEq
noncomputable def RelV : V → Value → Prop
  | .non, u => u = Value.none
  | .bl b, u => u = Value.bool b
  | .int i, u => ∃ t, u = Value.int i t
  | .str x, u => ∃ t, u = Value.str x t
  | .byt b, u => ∃ t, u = Value.bytes b t
  | .flt b, u => ∃ t, u = Value.float b t
  | .ref a, u => u = Value.ref a
  | .ty n, u => u = Value.type n
noncomputable abbrev Vals : List V → List Value → Prop := Paired RelV
theorem Vals.length {xs : List V} {us : List Value} (r : Vals xs us) : xs.length = us.length := Paired.length r
theorem Vals.get : ∀ {xs : List V} {us : List Value} {i : Nat} {x : V}, Vals xs us → xs[i]? = some x → ∃ u, us[i]? = some u ∧ RelV x u
  | _, _, _, _, .nil, e => by simp at e
  | _, _, 0, _, .cons r _, e => by simp at e; subst e; exact ⟨_, rfl, r⟩
  | _, _, i + 1, x, .cons _ t, e => by
    obtain ⟨u, h1, h2⟩ := Vals.get (i := i) (x := x) t (by simpa using e)
    exact ⟨u, by simpa using h1, h2⟩
theorem Vals.append : ∀ {xs ys : List V} {us ws : List Value}, Vals xs us → Vals ys ws → Vals (xs ++ ys) (us ++ ws)
  | _, _, _, _, .nil, s => s
  | _, _, _, _, .cons r t, s => .cons r (Vals.append t s)
theorem Vals.take : ∀ {xs : List V} {us : List Value} (n : Nat), Vals xs us → Vals (xs.take n) (us.take n)
  | _, _, 0, _ => .nil
  | _, _, _ + 1, .nil => .nil
  | _, _, n + 1, .cons r t => .cons r (Vals.take n t)
theorem Vals.drop : ∀ {xs : List V} {us : List Value} (n : Nat), Vals xs us → Vals (xs.drop n) (us.drop n)
  | _, _, 0, r => r
  | _, _, _ + 1, .nil => .nil
  | _, _, n + 1, .cons _ t => Vals.drop n t
noncomputable def RelO : Option V → Option Value → Prop
  | some v, some u => RelV v u
  | none, none => True
  | _, _ => False
noncomputable def KV {κ : Type} : List (κ × V) → List (κ × Value) → Prop := Paired fun (p : κ × V) (q : κ × Value) => p.1 = q.1 ∧ RelV p.2 q.2
noncomputable def kV : Key → V
  | .inl i => .int i
  | .inr x => .str x
inductive HO where
  
  | lst (xs : List V)
  
  | tup (xs : List V)
  
  | dK (kvs : List (Key × V)) | dT (kvs : List (List Key × V))
  
  | set (S : Int → Bool) (n : Nat)
  
  | ins (C dx : Addr) (fs : List (Str × V))
  
  | own (x : Addr)
  
  | xd (fs : List (Str × V))
  
  | met (f x : Addr)
  
  | rng (lo hi : Int)
  
  | frz (o : Obj) (u : HO)
  
  | tbl (ps : Array Value)
  
  | ext (φ : Heap → Prop)
noncomputable abbrev Hp := Addr → Option HO
noncomputable def upd (H : Hp) (a : Addr) (o : HO) : Hp := fun b => if b = a then some o else H b
theorem upd_same {H : Hp} {a : Addr} {o : HO} : upd H a o a = some o := by unfold upd; rw [if_pos rfl]
theorem upd_ne {H : Hp} {a b : Addr} {o : HO} (h : b ≠ a) : upd H a o b = H b := by unfold upd; rw [if_neg h]
theorem ne_of_none {H : Hp} {a b : Addr} {o : HO} (h : H a = some o) (h' : H b = none) : a ≠ b := by
  intro e; subst e; rw [h] at h'; cases h'
section
variable (P : Program) (w : World)
noncomputable def ObjOk (H : Hp) (h : Heap) (a : Addr) : HO → Prop
  | .lst xs => xs.length ≤ sizeLine ∧ ∃ (its : List Value) (n : Nat), Vals xs its ∧ h.get? a = some { cls := .type "list", data := .seq its.toArray n }
  | .tup xs => xs.length ≤ sizeLine ∧ ∃ its : List Value, Vals xs its ∧ IsTup h a its.toArray
  | .dK kvs => kvs.length ≤ sizeLine ∧ (a == sysModules) = false ∧ ∃ vs, KV kvs vs ∧ h.DictOf (mixKind P w) a vs
  | .dT kvs => kvs.length ≤ sizeLine ∧ (a == sysModules) = false ∧ ∃ xs : List (List Key × Addr × Value),
      Paired (fun (p : List Key × V) (q : List Key × Addr × Value) => p.1 = q.1 ∧ H q.2.1 = some (.tup (p.1.map kV)) ∧ RelV p.2 q.2.2) kvs xs ∧
      ∃ o es ep, h.get? a = some o ∧ o.ExactDict ∧ o.data = .dict es ep ∧ es.toList = xs.map (entryOfKey (tupleKind (mixKind P w))) ∧ (xs.map (·.1)).Nodup
  | .set S n => h.SetOf (intKind P w) a S n
  | .ins C dx fs => H dx = some (.own a) ∧ fs.length ≤ 1000 ∧ dx ≠ a ∧ h.get? a = some (PySem.W.instObj C dx) ∧
      ∃ mA, h.Ns1 dx mA ∧ (∀ f, RelO (fs.lookup f) (mA f)) ∧ PySem.Within mA (fs.map (·.1))
  | .own _ => ∃ o, h.get? a = some o
  | .xd fs => ∃ mA, h.Ns1 a mA ∧ ∀ f, RelO (fs.lookup f) (mA f)
  | .rng lo hi => ∃ t u v, h.get? a = some { cls := .type "range", data := .fields #[.int lo t, .int hi u, .int 1 v] }
  | .frz o u => h.get? a = some o ∧ ObjOk H h a u
  | .tbl ps => h.get? a = some { cls := .none, data := .fields ps }
  | .met f x => h.get? a = some (PySem.W.methodObj (.ref f) (.ref x))
  | .ext φ => φ h ∧ (∃ o, h.get? a = some o) ∧ ∀ h1 h2 : Heap, φ h1 → (∀ o, h1.get? a = some o → h2.get? a = some o) → φ h2
noncomputable def HOk (H : Hp) (h : Heap) : Prop := ∀ a o, H a = some o → ObjOk P w H h a o
end
section
variable {P : Program} {w : World} {H H' : Hp} {h h' : Heap} {a : Addr} {o : HO}
theorem ObjOk.lt (x : ObjOk P w H h a o) : a < h.objs.size := by
  cases o with
  | lst xs => obtain ⟨_, _, _, _, e⟩ := x; exact Heap.lt_size e
  | tup xs => obtain ⟨_, _, _, p⟩ := x; exact p.lt
  | dK kvs => obtain ⟨_, _, _, _, o, _, _, e, _⟩ := x; exact Heap.lt_size e
  | dT kvs => obtain ⟨_, _, _, _, o, _, _, e, _⟩ := x; exact Heap.lt_size e
  | set S n => obtain ⟨o, _, _, _, e, _⟩ := x; exact Heap.lt_size e
  | ins C dx fs => obtain ⟨_, _, _, e, _⟩ := x; exact Heap.lt_size e
  | own y => obtain ⟨_, e⟩ := x; exact Heap.lt_size e
  | xd fs => obtain ⟨_, ⟨_, _, _, e, _⟩, _⟩ := x; exact Heap.lt_size e
  | rng lo hi => obtain ⟨_, _, _, e⟩ := x; exact Heap.lt_size e
  | frz ob u => obtain ⟨e, _⟩ := x; exact Heap.lt_size e
  | tbl ps => exact Heap.lt_size (show h.get? a = some _ from x)
  | met f y => exact Heap.lt_size (show h.get? a = some _ from x)
  | ext φ => obtain ⟨_, ⟨_, e⟩, _⟩ := x; exact Heap.lt_size e
theorem Paired.mapP {α β : Type} {F G : α → β → Prop} : ∀ {l₁ : List α} {l₂ : List β}, Paired F l₁ l₂ → (∀ a b, F a b → G a b) → Paired G l₁ l₂
  | _, _, .nil, _ => .nil
  | _, _, .cons r t, f => .cons (f _ _ r) (Paired.mapP t f)
theorem ObjOk.stay (x : ObjOk P w H h a o) (k : ∀ b u, (b = a ∨ H b = some (.own a)) → h.get? b = some u → h'.get? b = some u)
    (ho : ∀ b, H b = some (.own a) → H' b = some (.own a)) (ht : ∀ b xs, H b = some (.tup xs) → H' b = some (.tup xs)) : ObjOk P w H' h' a o := by
  induction o with
  | lst xs => obtain ⟨z, its, n, r, e⟩ := x; exact ⟨z, its, n, r, k _ _ (.inl rfl) e⟩
  | tup xs => obtain ⟨z, its, r, ob, e, c⟩ := x; exact ⟨z, its, r, ob, k _ _ (.inl rfl) e, c⟩
  | dK kvs => obtain ⟨z, y, vs, r, ob, es, ep, e, c⟩ := x; exact ⟨z, y, vs, r, ob, es, ep, k _ _ (.inl rfl) e, c⟩
  | dT kvs =>
    obtain ⟨z, y, xs, r, ob, es, ep, e, c⟩ := x
    exact ⟨z, y, xs, Paired.mapP r fun p q z => ⟨z.1, ht _ _ z.2.1, z.2.2⟩, ob, es, ep, k _ _ (.inl rfl) e, c⟩
  | set S n => obtain ⟨ob, es, ep, t, e, c⟩ := x; exact ⟨ob, es, ep, t, k _ _ (.inl rfl) e, c⟩
  | ins C dx fs =>
    obtain ⟨d, z, ne, e, mA, ⟨od, es, ep, e2, c⟩, r⟩ := x
    exact ⟨ho _ d, z, ne, k _ _ (.inl rfl) e, mA, ⟨od, es, ep, k _ _ (.inr d) e2, c⟩, r⟩
  | own y => obtain ⟨ob, e⟩ := x; exact ⟨ob, k _ _ (.inl rfl) e⟩
  | xd fs => obtain ⟨mA, ⟨od, es, ep, e, c⟩, r⟩ := x; exact ⟨mA, ⟨od, es, ep, k _ _ (.inl rfl) e, c⟩, r⟩
  | rng lo hi => obtain ⟨t, u, v, e⟩ := x; exact ⟨t, u, v, k _ _ (.inl rfl) e⟩
  | frz ob u ih => obtain ⟨e, q⟩ := x; exact ⟨k _ _ (.inl rfl) e, ih q⟩
  | tbl ps =>
    have e : h.get? a = some { cls := .none, data := .fields ps } := x
    show h'.get? a = some { cls := .none, data := .fields ps }
    exact k a _ (.inl rfl) e
  | met f y =>
    have e : h.get? a = some (PySem.W.methodObj (.ref f) (.ref y)) := x
    show h'.get? a = some (PySem.W.methodObj (.ref f) (.ref y))
    exact k a _ (.inl rfl) e
  | ext φ => obtain ⟨p, ⟨o, e⟩, st⟩ := x; exact ⟨st _ _ p fun o q => k _ _ (.inl rfl) q, ⟨o, k _ _ (.inl rfl) e⟩, st⟩
theorem HOk.lt (x : HOk P w H h) (e : H a = some o) : a < h.objs.size := (x a o e).lt
theorem HOk.fresh (x : HOk P w H h) (e : h.objs.size ≤ a) : H a = none := by
  cases q : H a with
  | none => rfl
  | some u => exact absurd (Nat.lt_of_lt_of_le (x.lt q) e) (Nat.lt_irrefl _)
theorem HOk.kept (x : HOk P w H h) (k : ∀ b u, h.get? b = some u → h'.get? b = some u) : HOk P w H h' := fun a o e =>
  (x a o e).stay (fun b u _ q => k b u q) (fun _ q => q) fun _ _ q => q
theorem HOk.laid (x : HOk P w H h) (k : ∀ b u, h.get? b = some u → h'.get? b = some u) (hp : h.objs.size ≤ a) (new : ObjOk P w (upd H a o) h' a o) : HOk P w (upd H a o) h' := fun b u e => by
  have hn := x.fresh hp
  by_cases hb : b = a
  · subst hb; rw [upd_same] at e; cases e; exact new
  · rw [upd_ne hb] at e
    exact (x b u e).stay (fun c v _ q => k c v q) (fun c q => by rw [upd_ne (ne_of_none q hn)]; exact q) fun c xs q => by rw [upd_ne (ne_of_none q hn)]; exact q
end
noncomputable def Rd (H : Hp) (a : Addr) (u : HO) : Prop := H a = some u ∨ ∃ o, H a = some (.frz o u)
theorem Rd.ok {P : Program} {w : World} {H : Hp} {h : Heap} {a : Addr} {u : HO} (r : Rd H a u) (x : HOk P w H h) : ObjOk P w H h a u := by
  rcases r with r | ⟨o, r⟩
  · exact x a u r
  · obtain ⟨_, q⟩ := x a _ r
    exact q
noncomputable def Mut : Option HO → Prop
  | some (.lst _) => True
  | some (.dK _) => True
  | some (.dT _) => True
  | some (.set _ _) => True
  | some (.ins _ _ _) => True
  | some (.ext _) => True
  | _ => False
section
variable {P : Program} {w : World} {H : Hp} {h h' : Heap} {x e : Addr} {o' : HO}
theorem HOk.write (ok : HOk P w H h) (mu : Mut (H x)) (he : e = x ∨ H e = some (.own x)) (k : ∀ b u, b ≠ e → h.get? b = some u → h'.get? b = some u) (heo : ∃ u, h'.get? e = some u)
    (new : ObjOk P w (upd H x o') h' x o') : HOk P w (upd H x o') h' := fun b u q => by
  have nown : ∀ c y, H c = some (.own y) → c ≠ x := fun c y r z => by subst z; rw [r] at mu; exact mu
  have ntup : ∀ c xs, H c = some (.tup xs) → c ≠ x := fun c xs r z => by subst z; rw [r] at mu; exact mu
  by_cases hb : b = x
  · subst hb; rw [upd_same] at q; cases q; exact new
  · rw [upd_ne hb] at q
    by_cases hbe : b = e
    · have q' : H b = some (.own x) := by
        rcases he with z | z
        · exact absurd (hbe.trans z) hb
        · rw [hbe]; exact z
      rw [q] at q'; cases q'
      obtain ⟨v, hv⟩ := heo
      exact ⟨v, by rw [hbe]; exact hv⟩
    · refine (ok b u q).stay (fun c v hc r => k c v ?_ r) (fun c r => by rw [upd_ne (nown c b r)]; exact r) fun c xs r => by rw [upd_ne (ntup c xs r)]; exact r
      rcases hc with rfl | hc
      · exact hbe
      · rintro rfl
        rcases he with z | z
        · exact nown c b hc z
        · rw [hc] at z; cases z; exact hb rfl
end
structure Un (fs ex : List Addr) (H H' : Hp) (h h' : Heap) : Prop where
  keep : ∀ b o, h.get? b = some o → H b = none → b ∉ fs → b ∉ ex → h'.get? b = some o
  slot : ∀ b o, h.get? b = some o → H b = none → b ∈ fs → b ∉ ex → ∃ sl, h'.get? b = some { o with slots := sl }
  free : ∀ b o, h.get? b = some o → H b = none → b ∉ ex → H' b = none
  there : ∀ b o, h.get? b = some o → b ∉ ex → ∃ o', h'.get? b = some o'
  tups : ∀ b xs, H b = some (.tup xs) → H' b = some (.tup xs)
  frzs : ∀ b o u, H b = some (.frz o u) → H' b = some (.frz o u)
  tbls : ∀ b ps, H b = some (.tbl ps) → ∃ more, H' b = some (.tbl (ps ++ more))
section
variable {fs fs' ex ex' : List Addr} {H H1 H2 : Hp} {h h1 h2 h' : Heap} {a x e : Addr} {o : HO}
theorem Un.any (u : Un fs ex H H1 h h1) {b : Addr} {ob : Obj} (q : h.get? b = some ob) (n : H b = none) (hx : b ∉ ex) : ∃ sl, h1.get? b = some { ob with slots := sl } := by
  by_cases hb : b ∈ fs
  · exact u.slot b ob q n hb hx
  · exact ⟨ob.slots, u.keep b ob q n hb hx⟩
theorem Un.kept (k : ∀ b u, h.get? b = some u → h'.get? b = some u) : Un fs ex H H h h' :=
  ⟨fun b ob q _ _ _ => k b ob q, fun b ob q _ _ _ => ⟨ob.slots, k b ob q⟩, fun _ _ _ n _ => n, fun b ob q _ => ⟨ob, k b ob q⟩, fun _ _ q => q, fun _ _ _ q => q, fun _ ps q => ⟨#[], by rw [q]; simp⟩⟩
theorem Un.refl : Un fs ex H H h h := Un.kept fun _ _ q => q
theorem Un.laid (k : ∀ b u, h.get? b = some u → h'.get? b = some u) (hp : h.objs.size ≤ a) (hn : H a = none) : Un fs ex H (upd H a o) h h' where
  keep := fun b u q _ _ _ => k b u q
  slot := fun b u q _ _ _ => ⟨u.slots, k b u q⟩
  free := fun b u q n _ => by rw [upd_ne (Nat.ne_of_lt (Nat.lt_of_lt_of_le (Heap.lt_size q) hp))]; exact n
  there := fun b u q _ => ⟨u, k b u q⟩
  tups := fun b xs q => by rw [upd_ne (ne_of_none q hn)]; exact q
  frzs := fun b u xs q => by rw [upd_ne (ne_of_none q hn)]; exact q
  tbls := fun b ps q => ⟨#[], by rw [upd_ne (ne_of_none q hn), q]; simp⟩
theorem Un.write (mu : Mut (H x)) (he : e = x ∨ H e = some (.own x)) (k : ∀ b u, b ≠ e → h.get? b = some u → h'.get? b = some u) (heo : ∃ u, h'.get? e = some u) : Un fs ex H (upd H x o) h h' := by
  have hx : ∀ b, H b = none → b ≠ x := fun b n z => by subst z; rw [n] at mu; exact mu
  have hb : ∀ b, H b = none → b ≠ e := fun b n z => by
    subst z
    rcases he with r | r
    · exact hx b n r
    · rw [n] at r; cases r
  have hm : ∀ b u, H b = some u → ¬ Mut (some u) → b ≠ x := fun b u q nm z => by subst z; rw [q] at mu; exact nm mu
  refine ⟨fun b u q n _ _ => k b u (hb b n) q, fun b u q n _ _ => ⟨u.slots, k b u (hb b n) q⟩, fun b u q n _ => by rw [upd_ne (hx b n)]; exact n, fun b u q _ => ?_,
    fun b xs q => by rw [upd_ne (hm b _ q fun z => z)]; exact q, fun b u xs q => by rw [upd_ne (hm b _ q fun z => z)]; exact q, fun b ps q => ⟨#[], by rw [upd_ne (hm b _ q fun z => z), q]; simp⟩⟩
  by_cases hbe : b = e
  · subst hbe; exact heo
  · exact ⟨u, k b u hbe q⟩
end
noncomputable def trk (h : Heap) (H : Hp) : List Addr := (List.range h.objs.size).filter fun a => (H a).isSome
noncomputable def hidT (h : Heap) (H : Hp) : Heap := PySem.W.hideAll h (trk h H)
theorem hidT_size (h : Heap) (H : Hp) : (hidT h H).objs.size = h.objs.size := PySem.W.hideAll_size _ _
theorem hidT_get {h : Heap} {H : Hp} {b : Addr} {o : Obj} (e : h.get? b = some o) (n : H b = none) : (hidT h H).get? b = some o :=
  PySem.W.hideAll_get _ e fun hm => by
    have q : (H b).isSome = true := (List.mem_filter.mp hm).2
    rw [n] at q; simp at q
theorem of_hidT {h : Heap} {H : Hp} {b : Addr} {o : Obj} (e : (hidT h H).get? b = some o) : h.get? b = some o ∧ H b = none := by
  have e' : h.get? b = some o := PySem.W.of_hideAll (trk h H) e
  refine ⟨e', ?_⟩
  cases q : H b with
  | none => rfl
  | some x =>
    have hm : b ∈ trk h H := List.mem_filter.mpr ⟨List.mem_range.mpr (Heap.lt_size e'), by simp [q]⟩
    have z : (hidT h H).get? b = none := PySem.W.hideAll_none (trk h H) hm
    rw [z] at e; cases e
end L2
namespace L2
open PySem PySem.Spec PyProof.Rows
structure Mod (K : PySem.W.Frag) (mg : Str → Option Value) (base : Heap) : Prop where
  kin : K.In base
  glob : base.Ns mainGlobals mg
  blt : ∃ mb, base.Ns builtinsNs mb ∧ ∀ x : Str, x ≠ "__name__" → mb x = bootBuiltins x
  nolimit : base.NoLimit
structure Cx where
  prog : Program
  w : World
  K : PySem.W.Frag
  mg : Str → Option Value
  base : Heap
  A : Around
  N : List Str
  s₀ : Shared
  H₀ : Hp
  env : Env
  outer : List Env
  stack : List Env
  ex : List Addr
  fn : Str → Bool
  calm : Bool
  pn : List (Addr × Obj)
  xe : Value → Shared → Prop
noncomputable def frs (l : List Env) : List Addr := l.filterMap (·.frame)
noncomputable abbrev Cx.fs (X : Cx) : List Addr := frs X.outer
noncomputable def Vis (sc : Scope) (x : Str) : Prop := sc.names.lookup x = some .local ∨ sc.names.lookup x = some .cell ∨ sc.names.lookup x = some .free
noncomputable def Loc (sc : Scope) (x : Str) : Prop := sc.names.lookup x = some .local ∨ sc.names.lookup x = some .cell
noncomputable def Look (env : Env) (h : Heap) (m : Str → Option Value) (x : Str) (u : Value) : Prop :=
  (env.kindOf x = some .local ∧ m x = some u) ∨ ((env.kindOf x = some .cell ∨ env.kindOf x = some .free) ∧ ∃ c, env.cells.lookup x = some c ∧ h.IsCell c (some u))
structure Cx.Ok (X : Cx) : Prop where
  mod : Mod X.K X.mg X.base
  kind : X.env.scope.kind = .function
  glob : X.env.globals = mainGlobals
  blt : X.env.builtins = builtinsNs
  above : X.s₀.heap.objs.size ≤ X.env.locals
  inj : ∀ x y c, X.env.cells.lookup x = some c → X.env.cells.lookup y = some c → x = y
  has : ∀ x, (X.env.kindOf x = some .cell ∨ X.env.kindOf x = some .free) → ∃ c, X.env.cells.lookup x = some c
  cab : ∀ x c, X.fn x = true → X.env.cells.lookup x = some c → X.s₀.heap.objs.size ≤ c
  hd : X.calm = true → X.A.handled = none
  frames : X.A.frames = some X.stack
  stk : X.stack = X.outer ∨ (X.stack = X.env :: X.outer ∧ X.env.frame = some X.env.locals)
  exf : ∀ b ∈ X.ex, b ≠ X.env.locals ∧ ∀ x c, X.env.cells.lookup x = some c → c ≠ b
  bs : ∀ b o, X.base.get? b = some o → X.s₀.heap.get? b = some o ∧ X.H₀ b = none
  bsz : X.base.objs.size ≤ X.s₀.heap.objs.size
  noex : ∀ b o, X.base.get? b = some o → b ∉ X.ex
  exfs : ∀ b ∈ X.ex, b ∉ X.fs
  funs : X.s₀.heap.FunFrames X.base X.outer
  frf : ∀ b ∈ X.fs, X.H₀ b = none
structure Inv (X : Cx) (pins : List (Addr × Obj)) (σ : List (Option V)) (H : Hp) (s : Shared) : Prop where
  ok : X.Ok
  os : s.os = X.s₀.os
  bare : AllBare s.gens
  base : Un X.fs X.ex X.H₀ H X.s₀.heap s.heap
  loc : ∃ m, s.heap.Ns X.env.locals m ∧ ∀ (i : Nat) (x : Str) (v : V), X.N[i]? = some x → σ[i]? = some (some v) → Vis X.env.scope x → ∃ u, RelV v u ∧ Look X.env s.heap m x u
  cell : ∀ x c, X.env.cells.lookup x = some c → ∃ v, s.heap.IsCell c v
  free : H X.env.locals = none
  freeC : ∀ x c, X.env.cells.lookup x = some c → H c = none
  pin : ∀ p ∈ X.pn ++ pins, s.heap.get? p.1 = some p.2 ∧ H p.1 = none ∧ p.1 ≠ X.env.locals ∧ p.1 ∉ X.fs ∧ ∀ v, p.2.data ≠ .cell v
  hok : HOk X.prog X.w H s.heap
  len : σ.length = X.N.length
section
variable {X : Cx} {pins : List (Addr × Obj)} {σ : List (Option V)} {H H' : Hp} {s : Shared} {h' : Heap}
theorem Cx.Ok.nofr (ok : X.Ok) {b : Addr} {o : Obj} (e : X.base.get? b = some o) : b ∉ X.fs := fun hb => by
  have := (ok.funs.mem hb).1
  rw [e] at this; cases this
theorem Inv.bs (I : Inv X pins σ H s) : ∀ b o, X.base.get? b = some o → s.heap.get? b = some o ∧ H b = none := fun b o e =>
  ⟨I.base.keep b o (I.ok.bs b o e).1 (I.ok.bs b o e).2 (I.ok.nofr e) (I.ok.noex b o e), I.base.free b o (I.ok.bs b o e).1 (I.ok.bs b o e).2 (I.ok.noex b o e)⟩
theorem Inv.bk (I : Inv X pins σ H s) : ∀ b o, X.base.get? b = some o → s.heap.get? b = some o := fun b o e => (I.bs b o e).1
theorem Inv.mod (I : Inv X pins σ H s) : Mod X.K X.mg X.base := I.ok.mod
theorem Inv.kIn (I : Inv X pins σ H s) : X.K.In s.heap := I.ok.mod.kin.keeps I.bk
theorem Inv.lt (I : Inv X pins σ H s) : X.env.locals < s.heap.objs.size := let ⟨_, hn, _⟩ := I.loc; hn.lt
theorem Inv.sz (I : Inv X pins σ H s) : X.s₀.heap.objs.size ≤ s.heap.objs.size := Nat.le_trans I.ok.above (Nat.le_of_lt I.lt)
theorem Inv.nofs (I : Inv X pins σ H s) {a : Addr} (h : s.heap.objs.size ≤ a) : a ∉ X.fs := fun hb => by
  obtain ⟨_, o, ho, _⟩ := I.ok.funs.mem hb
  exact absurd (Nat.lt_of_lt_of_le (Heap.lt_size ho) (Nat.le_trans I.sz h)) (Nat.lt_irrefl _)
theorem Inv.cne (I : Inv X pins σ H s) : ∀ x c, X.env.cells.lookup x = some c → c ≠ X.env.locals := fun x c e z => by
  obtain ⟨v, o, ho, hd⟩ := I.cell x c e
  obtain ⟨m, ⟨o', es, ep, ho', hd', _⟩, _⟩ := I.loc
  rw [z, ho'] at ho; cases ho; rw [hd'] at hd; cases hd
theorem Inv.funs (I : Inv X pins σ H s) : s.heap.FunFrames X.base X.outer := by
  have all : ∀ (l : List Env), (∀ b ∈ frs l, b ∈ X.fs) → X.s₀.heap.FunFrames X.base l → s.heap.FunFrames X.base l := by
    intro l
    induction l with
    | nil => intro _ _; trivial
    | cons env r ih =>
      intro hs hl
      obtain ⟨hk, ⟨L, o, hf, hn, ho, hd⟩, hr⟩ := hl
      have hL : L ∈ X.fs := hs L (by unfold frs; rw [List.filterMap_cons, hf]; exact List.mem_cons_self)
      obtain ⟨sl, e⟩ := I.base.slot L o ho (I.ok.frf L hL) hL fun z => I.ok.exfs L z hL
      exact ⟨hk, ⟨L, _, hf, hn, e, hd⟩, ih (fun b hb => hs b (by unfold frs; rw [List.filterMap_cons, hf]; exact List.mem_cons_of_mem _ hb)) hr⟩
  exact all X.outer (fun _ hb => hb) I.ok.funs
theorem Inv.stack (I : Inv X pins σ H s) : s.heap.FunFrames X.base X.stack := by
  rcases I.ok.stk with e | ⟨e, hf⟩
  · rw [e]; exact I.funs
  · rw [e]
    obtain ⟨m, hn, _⟩ := I.loc
    refine .cons (by rw [I.ok.kind]; decide) hf hn ?_ I.funs
    exact Heap.get?_none_of_le (Nat.le_trans I.ok.bsz I.ok.above)
theorem Inv.stkSub (I : Inv X pins σ H s) : ∀ b ∈ frs X.stack, b ∈ X.env.locals :: X.fs := fun b hb => by
  rcases I.ok.stk with e | ⟨e, hf⟩
  · rw [e] at hb; exact List.mem_cons_of_mem _ hb
  · rw [e] at hb
    unfold frs at hb
    rw [List.filterMap_cons, hf] at hb
    exact hb
theorem Inv.stkFree (I : Inv X pins σ H s) : ∀ b ∈ frs X.stack, H b = none := fun b hb => by
  rcases List.mem_cons.mp (I.stkSub b hb) with e | hb
  · rw [e]; exact I.free
  · obtain ⟨_, o, ho, _⟩ := I.ok.funs.mem hb
    exact I.base.free b o ho (I.ok.frf b hb) fun z => I.ok.exfs b z hb
theorem Inv.step {g' : Array GenState} {t' : Nat} {d' : Drawn} {ch : List Addr} (I : Inv X pins σ H s)
    (hch : ∀ b ∈ ch, (b ∈ X.ex ∨ X.s₀.heap.objs.size ≤ b) ∧ b ≠ X.env.locals ∧ (∀ x c, X.env.cells.lookup x = some c → c ≠ b) ∧ ∀ p ∈ X.pn ++ pins, p.1 ≠ b)
    (keep : ∀ b o, b ≠ X.env.locals → b ∉ X.fs → b ∉ ch → s.heap.get? b = some o → H b = none → h'.get? b = some o)
    (slot : ∀ b o, b ≠ X.env.locals → b ∈ X.fs → b ∉ ch → s.heap.get? b = some o → H b = none → ∃ sl, h'.get? b = some { o with slots := sl }) (free : ∀ b o, b ∉ ch → s.heap.get? b = some o → H b = none → H' b = none)
    (there : ∀ b o, b ∉ ch → s.heap.get? b = some o → ∃ o', h'.get? b = some o')
    (tups : ∀ b xs, H b = some (.tup xs) → H' b = some (.tup xs)) (frzs : ∀ b o u, H b = some (.frz o u) → H' b = some (.frz o u)) (tbls : ∀ b ps, H b = some (.tbl ps) → ∃ more, H' b = some (.tbl (ps ++ more)))
    (ns : ∀ m, s.heap.Ns X.env.locals m → h'.Ns X.env.locals m) (hok : HOk X.prog X.w H' h') (hg : AllBare g') :
    Inv X pins σ H' { s with heap := h', gens := g', drawn := d', toks := t' } := by
  have neL : ∀ b o, X.s₀.heap.get? b = some o → b ≠ X.env.locals := fun b o e => Nat.ne_of_lt (Nat.lt_of_lt_of_le (Heap.lt_size e) I.ok.above)
  have neC : ∀ b o, X.s₀.heap.get? b = some o → b ∉ X.ex → b ∉ ch := fun b o e hx hb => by
    rcases (hch b hb).1 with z | z
    · exact hx z
    · exact absurd (Nat.lt_of_lt_of_le (Heap.lt_size e) z) (Nat.lt_irrefl _)
  have cellK : ∀ x c, X.env.cells.lookup x = some c → ∀ v, s.heap.IsCell c v → h'.IsCell c v := fun x c e v ⟨o, ho, hd⟩ => by
    have nch : c ∉ ch := fun z => (hch c z).2.2.1 x c e rfl
    by_cases hc : c ∈ X.fs
    · obtain ⟨sl, q⟩ := slot c o (I.cne x c e) hc nch ho (I.freeC x c e)
      exact ⟨_, q, hd⟩
    · exact ⟨o, keep c o (I.cne x c e) hc nch ho (I.freeC x c e), hd⟩
  refine ⟨I.ok, I.os, hg, ⟨fun b o e n hb hx => ?_, fun b o e n hb hx => ?_, fun b o e n hx => ?_, fun b o e hx => ?_, fun b xs e => tups b xs (I.base.tups b xs e), fun b o xs e => frzs b o xs (I.base.frzs b o xs e), fun b ps e => ?_⟩, ?_, fun x c e => ?_, ?_, fun x c e => ?_, fun p hp => ?_, hok, I.len⟩
  · exact keep b o (neL b o e) hb (neC b o e hx) (I.base.keep b o e n hb hx) (I.base.free b o e n hx)
  · obtain ⟨sl, e1⟩ := I.base.slot b o e n hb hx
    obtain ⟨sl', e2⟩ := slot b _ (neL b o e) hb (neC b o e hx) e1 (I.base.free b o e n hx)
    exact ⟨sl', e2⟩
  · obtain ⟨o', e1⟩ := I.base.there b o e hx
    exact free b o' (neC b o e hx) e1 (I.base.free b o e n hx)
  · obtain ⟨o', e1⟩ := I.base.there b o e hx
    exact there b o' (neC b o e hx) e1
  · obtain ⟨m1, e1⟩ := I.base.tbls b ps e
    obtain ⟨m2, e2⟩ := tbls b _ e1
    exact ⟨m1 ++ m2, by rw [e2, Array.append_assoc]⟩
  · obtain ⟨m, hn, hl⟩ := I.loc
    refine ⟨m, ns m hn, fun i x v e1 e2 e3 => ?_⟩
    obtain ⟨u, r, l⟩ := hl i x v e1 e2 e3
    refine ⟨u, r, ?_⟩
    rcases l with l | ⟨k, c, e, z⟩
    · exact .inl l
    · exact .inr ⟨k, c, e, cellK x c e _ z⟩
  · obtain ⟨v, z⟩ := I.cell x c e
    exact ⟨v, cellK x c e v z⟩
  · obtain ⟨m, ⟨o, _, _, ho, _⟩, _⟩ := I.loc
    exact free _ o (fun z => (hch _ z).2.1 rfl) ho I.free
  · obtain ⟨v, o, ho, hd⟩ := I.cell x c e
    exact free c o (fun z => (hch c z).2.2.1 x c e rfl) ho (I.freeC x c e)
  · obtain ⟨e, n, ne, nf, d⟩ := I.pin p hp
    have nch : p.1 ∉ ch := fun z => (hch p.1 z).2.2.2 p hp rfl
    exact ⟨keep p.1 p.2 ne nf nch e n, free p.1 p.2 nch e n, ne, nf, d⟩
theorem Inv.un {t' : Nat} (I : Inv X pins σ H s) (u : Un X.fs [] H H' s.heap h') (hok : HOk X.prog X.w H' h') : Inv X pins σ H' { s with heap := h', toks := t' } := by
  obtain ⟨m, ⟨o, es, ep, ho, r⟩, _⟩ := id I.loc
  obtain ⟨sl, hL⟩ := u.any ho I.free (by simp)
  exact I.step (g' := s.gens) (d' := s.drawn) (ch := []) (fun _ z => nomatch z) (fun b o _ hb _ e n => u.keep b o e n hb (by simp)) (fun b o _ hb _ e n => u.slot b o e n hb (by simp)) (fun b o _ e n => u.free b o e n (by simp)) (fun b o _ e => u.there b o e (by simp)) u.tups u.frzs u.tbls (fun m' hm => by
    obtain ⟨o', es', ep', ho', r'⟩ := hm
    rw [ho] at ho'; cases ho'
    exact ⟨_, es', ep', hL, r'⟩) hok I.bare
theorem Inv.call {g' : Array GenState} {t' : Nat} {d' : Drawn} {ch : List Addr} (I : Inv X pins σ H s) (u : Un (frs X.stack) ch H H' s.heap h') (hok : HOk X.prog X.w H' h') (hg : AllBare g')
    (hch : ∀ b ∈ ch, (b ∈ X.ex ∨ X.s₀.heap.objs.size ≤ b) ∧ b ≠ X.env.locals ∧ (∀ x c, X.env.cells.lookup x = some c → c ≠ b) ∧ ∀ p ∈ X.pn ++ pins, p.1 ≠ b) :
    Inv X pins σ H' { s with heap := h', gens := g', drawn := d', toks := t' } := by
  obtain ⟨m, ⟨o, es, ep, ho, r⟩, _⟩ := id I.loc
  obtain ⟨sl, hL⟩ := u.any ho I.free fun z => (hch _ z).2.1 rfl
  exact I.step (ch := ch) hch (fun b o hL hb hc e n => u.keep b o e n (fun z => (List.mem_cons.mp (I.stkSub b z)).elim hL hb) hc) (fun b o _ _ hc e n => u.any e n hc) (fun b o hc e n => u.free b o e n hc) (fun b o hc e => u.there b o e hc) u.tups u.frzs u.tbls (fun m' hm => by
    obtain ⟨o', es', ep', ho', r'⟩ := hm
    rw [ho] at ho'; cases ho'
    exact ⟨_, es', ep', hL, r'⟩) hok hg
theorem Inv.turned {t' : Nat} {it : Addr} (I : Inv X pins σ H s) (k : ∀ b o, b ≠ it → s.heap.get? b = some o → h'.get? b = some o) (hn : H it = none) (hL : it ≠ X.env.locals)
    (h1 : it ∈ X.ex ∨ X.s₀.heap.objs.size ≤ it) (h2 : ∀ x c, X.env.cells.lookup x = some c → c ≠ it) (h3 : ∀ p ∈ X.pn ++ pins, p.1 ≠ it) : Inv X pins σ H { s with heap := h', toks := t' } := by
  have nit : ∀ b u, H b = some u → b ≠ it := fun b u e z => by rw [z, hn] at e; cases e
  refine I.step (g' := s.gens) (d' := s.drawn) (ch := [it]) (fun b hb => ?_) (fun b o _ _ hc e _ => k b o (fun z => hc (by simp [z])) e) (fun b o _ _ hc e _ => ⟨o.slots, k b o (fun z => hc (by simp [z])) e⟩) (fun _ _ _ _ n => n)
    (fun b o hc e => ⟨o, k b o (fun z => hc (by simp [z])) e⟩) (fun _ _ e => e) (fun _ _ _ e => e) (fun b ps e => ⟨#[], by rw [e]; simp⟩) (fun m hm => ?_) (fun b u e => ?_) I.bare
  · have e : b = it := by simpa using hb
    subst e
    exact ⟨h1, hL, h2, h3⟩
  · obtain ⟨o, es, ep, ho, r⟩ := hm
    exact ⟨o, es, ep, k _ o (Ne.symm hL) ho, r⟩
  · refine (I.hok b u e).stay (fun c v hc q => k c v ?_ q) (fun _ q => q) fun _ _ q => q
    rcases hc with z | z
    · rw [z]; exact nit b u e
    · exact nit c _ z
theorem Inv.tok (I : Inv X pins σ H s) (t : Nat) : Inv X pins σ H { s with toks := t } := I.un (h' := s.heap) (t' := t) Un.refl I.hok
theorem Inv.kept {t' : Nat} (I : Inv X pins σ H s) (k : ∀ b u, s.heap.get? b = some u → h'.get? b = some u) : Inv X pins σ H { s with heap := h', toks := t' } := I.un (Un.kept k) (I.hok.kept k)
theorem Inv.laid {a : Addr} {o : HO} {t' : Nat} (I : Inv X pins σ H s) (k : ∀ b u, s.heap.get? b = some u → h'.get? b = some u) (hp : s.heap.objs.size ≤ a) (new : ObjOk X.prog X.w (upd H a o) h' a o) :
    Inv X pins σ (upd H a o) { s with heap := h', toks := t' } := I.un (Un.laid k hp (I.hok.fresh hp)) (I.hok.laid k hp new)
theorem Inv.write {x e : Addr} {o : HO} {t' : Nat} (I : Inv X pins σ H s) (mu : Mut (H x)) (he : e = x ∨ H e = some (.own x)) (k : ∀ b u, b ≠ e → s.heap.get? b = some u → h'.get? b = some u) (heo : ∃ u, h'.get? e = some u)
    (new : ObjOk X.prog X.w (upd H x o) h' x o) : Inv X pins σ (upd H x o) { s with heap := h', toks := t' } := I.un (Un.write mu he k heo) (I.hok.write mu he k heo new)
theorem Inv.weak {σ' : List (Option V)} (I : Inv X pins σ H s) (hl : σ'.length = σ.length) (w : ∀ (i : Nat) v, σ'[i]? = some (some v) → σ[i]? = some (some v)) : Inv X pins σ' H s :=
  ⟨I.ok, I.os, I.bare, I.base, let ⟨m, hn, hl'⟩ := I.loc; ⟨m, hn, fun i x v e1 e2 e3 => hl' i x v e1 (w i v e2) e3⟩, I.cell, I.free, I.freeC, I.pin, I.hok, hl.trans I.len⟩
theorem Inv.pins_of {pins' : List (Addr × Obj)} (I : Inv X pins σ H s) (h : ∀ p ∈ pins', s.heap.get? p.1 = some p.2 ∧ H p.1 = none ∧ p.1 ≠ X.env.locals ∧ p.1 ∉ X.fs ∧ ∀ v, p.2.data ≠ .cell v) : Inv X pins' σ H s :=
  ⟨I.ok, I.os, I.bare, I.base, I.loc, I.cell, I.free, I.freeC, fun p hp => (List.mem_append.mp hp).elim (fun z => I.pin p (List.mem_append_left _ z)) (h p), I.hok, I.len⟩
theorem nodup_ix {N : List Str} (hN : N.Nodup) {i j : Nat} {x : Str} (a : N[i]? = some x) (b : N[j]? = some x) : i = j := by
  obtain ⟨h1, e1⟩ := List.getElem?_eq_some_iff.mp a
  obtain ⟨h2, e2⟩ := List.getElem?_eq_some_iff.mp b
  exact (List.getElem_inj hN).mp (e1.trans e2.symm)
theorem store_ok2 {M : Model} {A : Around} {E : Value → Shared → Prop} {i : Nat} {x : Str} {v : V} {u : Value} {Q : Unit → Shared → Prop} (I : Inv X pins σ H s) (hN : X.N.Nodup) (hi : X.N[i]? = some x) (hx : Loc X.env.scope x) (r : RelV v u)
    (h : ∀ s', Inv X pins (σ.set i (some v)) H s' → (∃ a, Heap.SameBut a s.heap s'.heap ∧ (a = X.env.locals ∨ X.env.cells.lookup x = some a)) → Q () s') (hf : X.fn x = true ∨ X.env.scope.names.lookup x = some .local := by first | exact .inl rfl | exact .inr rfl | assumption) : wpAny M A (storeName X.env x u) Q E s := by
  obtain ⟨m, hn, hl⟩ := id I.loc
  have hcls : (X.env.scope.kind == .class || (X.env.scope.kind == .module && X.env.locals != X.env.globals)) = false := by rw [I.ok.kind]; rfl
  have hiσ : i < σ.length := by rw [I.len]; exact (List.getElem?_eq_some_iff.mp hi).1
  have cne := I.cne
  have tracked : ∀ {a : Addr} {h' : Heap}, (∃ o, s.heap.get? a = some o ∧ H a = none) → Heap.SameBut a s.heap h' → HOk X.prog X.w H h' := fun {a h'} ha hs b ob e => by
    obtain ⟨_, _, hfree⟩ := ha
    refine (I.hok b ob e).stay (fun c w' hc q => (hs.2 c ?_).trans q) (fun _ q => q) fun _ _ q => q
    rintro rfl
    rcases hc with rfl | hc
    · rw [hfree] at e; cases e
    · rw [hfree] at hc; cases hc
  rcases hx with hk | hk
  · refine wpAny_storeName_local hk hn (fun h' hn' hs => ?_) hcls
    obtain ⟨oL, _, _, hoL, _⟩ := id hn
    refine h _ ⟨I.ok, I.os, I.bare, ⟨fun b o e n hb hx => ?_, fun b o e n hb hx => ?_, I.base.free, fun b o e hx => ?_, I.base.tups, I.base.frzs, I.base.tbls⟩, ⟨_, hn', fun j y v' e1 e2 e3 => ?_⟩, fun y c e => ?_, I.free, I.freeC, fun p hp => ?_, tracked ⟨oL, hoL, I.free⟩ hs, by simpa using I.len⟩ ⟨_, hs, .inl rfl⟩
    · exact (hs.2 b (Nat.ne_of_lt (Nat.lt_of_lt_of_le (Heap.lt_size e) I.ok.above))).trans (I.base.keep b o e n hb hx)
    · obtain ⟨sl, e1⟩ := I.base.slot b o e n hb hx
      exact ⟨sl, (hs.2 b (Nat.ne_of_lt (Nat.lt_of_lt_of_le (Heap.lt_size e) I.ok.above))).trans e1⟩
    · obtain ⟨o', e1⟩ := I.base.there b o e hx
      exact ⟨o', (hs.2 b (Nat.ne_of_lt (Nat.lt_of_lt_of_le (Heap.lt_size e) I.ok.above))).trans e1⟩
    · by_cases hj : j = i
      · subst hj
        rw [hi] at e1; cases e1
        rw [List.getElem?_set_self hiσ] at e2
        cases e2
        exact ⟨u, r, .inl ⟨hk, by simp⟩⟩
      · rw [List.getElem?_set_ne (Ne.symm hj)] at e2
        obtain ⟨u', r', q⟩ := hl j y v' e1 e2 e3
        refine ⟨u', r', ?_⟩
        rcases q with ⟨k, e⟩ | ⟨k, c, e, z⟩
        · refine .inl ⟨k, ?_⟩
          have : y ≠ x := fun e => hj (nodup_ix hN e1 (e ▸ hi))
          simp [this, e]
        · exact .inr ⟨k, c, e, z.sameBut hs (cne y c e)⟩
    · obtain ⟨w', z⟩ := I.cell y c e
      exact ⟨w', z.sameBut hs (cne y c e)⟩
    · obtain ⟨e, n, ne, nf, d⟩ := I.pin p hp
      exact ⟨(hs.2 p.1 ne).trans e, n, ne, nf, d⟩
  · have hfn : X.fn x = true := by
      rcases hf with z | z
      · exact z
      · rw [z] at hk; cases hk
    obtain ⟨c, hc⟩ := I.ok.has x (.inl hk)
    obtain ⟨w', z⟩ := I.cell x c hc
    refine wpAny_storeName_cell I.ok.kind hk hc z (fun h' hc' hs => ?_)
    obtain ⟨oc, hoc, hocd⟩ := id z
    refine h { s with heap := h' } ⟨I.ok, I.os, I.bare, ⟨fun b o e n hb hx => ?_, fun b o e n hb hx => ?_, I.base.free, fun b o e hx => ?_, I.base.tups, I.base.frzs, I.base.tbls⟩, ⟨m, hn.sameBut hs (Ne.symm (cne x c hc)), fun j y v' e1 e2 e3 => ?_⟩, fun y c' e => ?_, I.free, I.freeC, fun p hp => ?_, tracked ⟨oc, hoc, I.freeC x c hc⟩ hs, by simpa using I.len⟩ ⟨c, hs, .inr hc⟩
    · exact (hs.2 b (Nat.ne_of_lt (Nat.lt_of_lt_of_le (Heap.lt_size e) (I.ok.cab x c hfn hc)))).trans (I.base.keep b o e n hb hx)
    · obtain ⟨sl, e1⟩ := I.base.slot b o e n hb hx
      exact ⟨sl, (hs.2 b (Nat.ne_of_lt (Nat.lt_of_lt_of_le (Heap.lt_size e) (I.ok.cab x c hfn hc)))).trans e1⟩
    · obtain ⟨o', e1⟩ := I.base.there b o e hx
      exact ⟨o', (hs.2 b (Nat.ne_of_lt (Nat.lt_of_lt_of_le (Heap.lt_size e) (I.ok.cab x c hfn hc)))).trans e1⟩
    · by_cases hj : j = i
      · subst hj
        rw [hi] at e1; cases e1
        rw [List.getElem?_set_self hiσ] at e2
        cases e2
        exact ⟨u, r, .inr ⟨.inl hk, c, hc, hc'⟩⟩
      · rw [List.getElem?_set_ne (Ne.symm hj)] at e2
        obtain ⟨u', r', q⟩ := hl j y v' e1 e2 e3
        refine ⟨u', r', ?_⟩
        rcases q with q | ⟨k, c', e, z'⟩
        · exact .inl q
        · refine .inr ⟨k, c', e, z'.sameBut hs ?_⟩
          rintro rfl
          exact hj (nodup_ix hN e1 (I.ok.inj _ _ _ e hc ▸ hi))
    · by_cases hcc : c' = c
      · subst hcc; exact ⟨_, hc'⟩
      · obtain ⟨w2, z2⟩ := I.cell y c' e
        exact ⟨w2, z2.sameBut hs hcc⟩
    · obtain ⟨e, n, ne, nf, d⟩ := I.pin p hp
      refine ⟨(hs.2 p.1 ?_).trans e, n, ne, nf, d⟩
      intro q
      rw [q, hoc] at e
      have q' : oc = p.2 := Option.some.inj e
      exact d w' (by rw [← q']; exact hocd)
theorem store_ok {M : Model} {A : Around} {E : Value → Shared → Prop} {i : Nat} {x : Str} {v : V} {u : Value} {Q : Unit → Shared → Prop} (I : Inv X pins σ H s) (hN : X.N.Nodup) (hi : X.N[i]? = some x) (hx : Loc X.env.scope x) (r : RelV v u)
    (h : ∀ s', Inv X pins (σ.set i (some v)) H s' → Q () s') (hf : X.fn x = true ∨ X.env.scope.names.lookup x = some .local := by first | exact .inl rfl | exact .inr rfl | assumption) : wpAny M A (storeName X.env x u) Q E s :=
  store_ok2 I hN hi hx r (fun s' I' _ => h s' I') hf
theorem Inv.call' {s' : Shared} {ch : List Addr} (I : Inv X pins σ H s) (ho : s'.os = s.os) (u : Un (frs X.stack) ch H H' s.heap s'.heap) (hok : HOk X.prog X.w H' s'.heap) (hg : AllBare s'.gens)
    (hch : ∀ b ∈ ch, (b ∈ X.ex ∨ X.s₀.heap.objs.size ≤ b) ∧ b ≠ X.env.locals ∧ (∀ x c, X.env.cells.lookup x = some c → c ≠ b) ∧ ∀ p ∈ X.pn ++ pins, p.1 ≠ b) : Inv X pins σ H' s' := by
  obtain ⟨h', g', d', t', o'⟩ := s'
  have e : o' = s.os := ho
  subst e
  exact I.call (g' := g') (t' := t') (d' := d') u hok hg hch
end
noncomputable abbrev XK := Value → Option Addr → Hp → Prop
noncomputable abbrev St := List (Option V)
noncomputable abbrev VK := V → Hp → Prop
noncomputable abbrev TE := St → Hp → VK → Prop
noncomputable abbrev TT := St → Hp → (Bool → Hp → Prop) → Prop
noncomputable abbrev TA := St → Hp → (List V → Hp → Prop) → Prop
structure Ends where
  nx : St → Hp → Prop
  rt : VK
  bk : St → Hp → Prop := fun _ _ => False
  ct : St → Hp → Prop := fun _ _ => False
noncomputable abbrev TS := Ends → St → Hp → Prop
noncomputable def EP (X : Cx) (pins : List (Addr × Obj)) (σ : St) (Q : VK) (u : Value) (s' : Shared) : Prop := ∃ v H', Inv X pins σ H' s' ∧ RelV v u ∧ Q v H'
noncomputable def TP (X : Cx) (pins : List (Addr × Obj)) (σ : St) (Q : Bool → Hp → Prop) (b : Bool) (s' : Shared) : Prop := ∃ H', Inv X pins σ H' s' ∧ Q b H'
noncomputable def AP (X : Cx) (pins : List (Addr × Obj)) (σ : St) (Q : List V → Hp → Prop) (us : List Value) (s' : Shared) : Prop := ∃ vs H', Inv X pins σ H' s' ∧ Vals vs us ∧ Q vs H'
noncomputable def SP (X : Cx) (pins : List (Addr × Obj)) (D : Ends) (f : Flow) (s' : Shared) : Prop :=
  match f with
  | .next => ∃ σ' H', Inv X pins σ' H' s' ∧ D.nx σ' H'
  | .brk => ∃ σ' H', Inv X pins σ' H' s' ∧ D.bk σ' H'
  | .cont => ∃ σ' H', Inv X pins σ' H' s' ∧ D.ct σ' H'
  | .ret u => ∃ v σ' H', Inv X pins σ' H' s' ∧ RelV v u ∧ D.rt v H'
noncomputable def PE (X : Cx) (e : Expr) (t : TE) : Prop :=
  ∀ (pins : List (Addr × Obj)) (s : Shared) (σ : St) (H : Hp) (Q : VK), Inv X pins σ H s → t σ H Q → wpAny (model X.prog X.w) X.A (eval e X.env) (EP X pins σ Q) X.xe s
noncomputable def PT (X : Cx) (e : Expr) (t : TT) : Prop :=
  ∀ (pins : List (Addr × Obj)) (s : Shared) (σ : St) (H : Hp) (Q : Bool → Hp → Prop), Inv X pins σ H s → t σ H Q → wpAny (model X.prog X.w) X.A (isTrue e X.env (eval e X.env)) (TP X pins σ Q) X.xe s
noncomputable def PW (X : Cx) (e : Expr) (t : TT) : Prop :=
  ∀ (whole : Sem Value) (pins : List (Addr × Obj)) (s : Shared) (σ : St) (H : Hp) (Q : Bool → Hp → Prop), Inv X pins σ H s → t σ H Q → wpAny (model X.prog X.w) X.A (isTrue e X.env whole) (TP X pins σ Q) X.xe s
theorem PW.pt {X : Cx} {e : Expr} {t : TT} (h : PW X e t) : PT X e t := h _
noncomputable def PA (X : Cx) (es : List Expr) (t : TA) : Prop :=
  ∀ (pos : Pos) (pins : List (Addr × Obj)) (s : Shared) (σ : St) (H : Hp) (Q : List V → Hp → Prop), Inv X pins σ H s → t σ H Q → wpAny (model X.prog X.w) X.A (spliced (backTo pos (starEach es X.env))) (AP X pins σ Q) X.xe s
noncomputable def PS (X : Cx) (st : Stmt) (t : TS) : Prop :=
  ∀ (pins : List (Addr × Obj)) (s : Shared) (σ : St) (H : Hp) (D : Ends), Inv X pins σ H s → t D σ H → wpAny (model X.prog X.w) X.A (exec st X.env) (SP X pins D) X.xe s
noncomputable def PSs (X : Cx) (st : List Stmt) (t : TS) : Prop :=
  ∀ (pins : List (Addr × Obj)) (s : Shared) (σ : St) (H : Hp) (D : Ends), Inv X pins σ H s → t D σ H → wpAny (model X.prog X.w) X.A (execs st X.env) (SP X pins D) X.xe s
theorem thn {α : Type} {t : Sem α} {Q Q' : α → Shared → Prop} {M : Model} {A : Around} {E : Value → Shared → Prop} {s : Shared} (h : wpAny M A t Q E s) (hQ : ∀ a s, Q a s → Q' a s) : wpAny M A t Q' E s := wpAny_mono h hQ fun _ _ x => x
end L2
namespace L2
open PySem PySem.Spec PyProof.Rows
section
variable {X : Cx}
noncomputable def tVar (i : Nat) : TE := fun σ H Q => ∃ v, σ[i]? = some (some v) ∧ Q v H
noncomputable def tC (v : V) : TE := fun _ H Q => Q v H
theorem pe_var {i : Nat} {x : Str} {pos : Pos} (hN : X.N[i]? = some x) (hv : Vis X.env.scope x) (hd : (x == ("__debug__" : Str)) = false := by decide) (hcd : (x == ("__classdict__" : Str)) = false := by decide) : PE X (.Name x pos) (tVar i) := by
  intro pins s σ H Q I h
  obtain ⟨v, e, h⟩ := h
  obtain ⟨m, hn, hl⟩ := I.loc
  obtain ⟨u, r, l⟩ := hl i x v hN e hv
  have fin : EP X pins σ Q u s := ⟨v, H, I, r, h⟩
  rcases l with ⟨hk, hm⟩ | ⟨hk, c, hc, hcell⟩
  · exact wpAny_Name (wpAny_loadName_local I.ok.kind hk hn hm fin) hd
  · rcases hk with hk | hk
    · exact wpAny_Name (wpAny_loadName_cell I.ok.kind hk hc hcell fin) hd
    · exact wpAny_Name (wpAny_loadName_free I.ok.kind hk hc hcell fin hcd) hd
theorem pe_int {i j pos} : PE X (.Constant (.int i) j pos) (tC (.int i)) := fun _ _ _ H _ I h => wpAny_Constant_int ⟨.int i, H, I.tok _, ⟨_, rfl⟩, h⟩
theorem pe_bl {b j pos} : PE X (.Constant (.bool b) j pos) (tC (.bl b)) := fun _ _ _ H _ I h => Constant_bool ⟨.bl b, H, I, rfl, h⟩
theorem pe_non {j pos} : PE X (.Constant .none j pos) (tC .non) := fun _ _ _ H _ I h => Constant_none ⟨.non, H, I, rfl, h⟩
theorem pe_str {x j pos} : PE X (.Constant (.str x) j pos) (tC (.str x)) := fun _ _ _ H _ I h => Calls.Constant_str ⟨.str x, H, I.tok _, ⟨_, rfl⟩, h⟩
noncomputable def Gl (X : Cx) (x : Str) : Prop := X.env.kindOf x = some .globalImplicit
theorem ld_glob {E : Value → Shared → Prop} {pins : List (Addr × Obj)} {s : Shared} {σ : St} {H : Hp} {x : Str} {u : Value} {pos : Pos} {Q : Value → Shared → Prop} (I : Inv X pins σ H s) (hg : Gl X x) (hm : X.mg x = some u) (h : Q u s)
    (hd : (x == ("__debug__" : Str)) = false := by decide) : wpAny (model X.prog X.w) X.A (eval (.Name x pos) X.env) Q E s :=
  Calls.Name_function_global I.ok.kind hg (Calls.loadGlobal_global (by rw [I.ok.glob]; exact I.mod.glob.keeps I.bk) hm h) hd
theorem ld_blt {E : Value → Shared → Prop} {pins : List (Addr × Obj)} {s : Shared} {σ : St} {H : Hp} {x : Str} {u : Value} {pos : Pos} {Q : Value → Shared → Prop} (I : Inv X pins σ H s) (hg : Gl X x) (hm : X.mg x = none) (hv : bootBuiltins x = some u) (h : Q u s)
    (hn : x ≠ "__name__" := by decide) (hd : (x == ("__debug__" : Str)) = false := by decide) : wpAny (model X.prog X.w) X.A (eval (.Name x pos) X.env) Q E s := by
  obtain ⟨mb, h1, h2⟩ := I.mod.blt
  exact Calls.Name_function_global I.ok.kind hg (Calls.loadGlobal_builtin (by rw [I.ok.glob]; exact I.mod.glob.keeps I.bk) hm (by rw [I.ok.blt]; exact h1.keeps I.bk) ((h2 x hn).trans hv) h) hd
theorem pe_glob {x : Str} {v : V} {u : Value} {pos : Pos} (hg : Gl X x) (hm : X.mg x = some u) (r : RelV v u) (hd : (x == ("__debug__" : Str)) = false := by decide) : PE X (.Name x pos) (tC v) :=
  fun _ _ _ H _ I h => ld_glob I hg hm ⟨v, H, I, r, h⟩ hd
theorem pe_bltn {x : Str} {v : V} {u : Value} {pos : Pos} (hg : Gl X x) (hm : X.mg x = none) (hv : bootBuiltins x = some u) (r : RelV v u) (hn : x ≠ "__name__" := by decide) (hd : (x == ("__debug__" : Str)) = false := by decide) : PE X (.Name x pos) (tC v) :=
  fun _ _ _ H _ I h => ld_blt I hg hm hv ⟨v, H, I, r, h⟩ hn hd
variable {a b : Expr} {ta tb : TE} {pos : Pos}
noncomputable def tB (t : TE) : TT := fun σ H Q => t σ H fun x H1 => ∃ c, x = .bl c ∧ Q c H1
theorem pt_val {e : Expr} {t : TE} (h : PE X e t) (he : ∀ whole, isTrue e X.env whole = (do let v ← whole; standAt e.pos; holding [v] (truthy v)) := by intro _; rfl) : PT X e (tB t) := by
  intro pins s σ H Q I hw
  refine isTrue_plain (thn (h pins s σ H _ I hw) fun v s1 zz0 => ?_) (he _)
  obtain ⟨x, H1, I1, r1, q1⟩ := zz0
  obtain ⟨d, rfl, q⟩ := q1
  cases r1
  exact wpAny_truthy_bool ⟨H1, I1, q⟩
variable {tA tB' : TT} {rest : List Expr}
noncomputable def tAnd (t u : TT) : TT := fun σ H Q => t σ H fun c H1 => if c = true then u σ H1 Q else Q false H1
noncomputable def tOr (t u : TT) : TT := fun σ H Q => t σ H fun c H1 => if c = true then Q true H1 else u σ H1 Q
noncomputable def tNot (t : TT) : TT := fun σ H Q => t σ H fun c H1 => Q (!c) H1
theorem pw_and1 (ha : PT X a tA) : PW X (.BoolOp .And [a] pos) tA := by
  intro wh pins s σ H Q I h
  refine isTrue_and (thn (ha pins s σ H Q I h) fun c s1 e => ?_)
  cases c with
  | true => exact isTrue_and_nil e
  | false => exact e
theorem pw_or1 (ha : PT X a tA) : PW X (.BoolOp .Or [a] pos) tA := by
  intro wh pins s σ H Q I h
  refine isTrue_or (thn (ha pins s σ H Q I h) fun c s1 e => ?_)
  cases c with
  | false => exact isTrue_or_nil e
  | true => exact e
theorem pw_and (ha : PT X a tA) (hb : PW X (.BoolOp .And (b :: rest) pos) tB') : PW X (.BoolOp .And (a :: b :: rest) pos) (tAnd tA tB') := by
  intro wh pins s σ H Q I h
  refine isTrue_and (thn (ha pins s σ H _ I h) fun c s1 zz0 => ?_)
  obtain ⟨H1, I1, q1⟩ := zz0
  cases c with
  | true => exact hb wh pins s1 σ H1 Q I1 q1
  | false => exact ⟨H1, I1, q1⟩
theorem pw_or (ha : PT X a tA) (hb : PW X (.BoolOp .Or (b :: rest) pos) tB') : PW X (.BoolOp .Or (a :: b :: rest) pos) (tOr tA tB') := by
  intro wh pins s σ H Q I h
  refine isTrue_or (thn (ha pins s σ H _ I h) fun c s1 zz0 => ?_)
  obtain ⟨H1, I1, q1⟩ := zz0
  cases c with
  | true => exact ⟨H1, I1, q1⟩
  | false => exact hb wh pins s1 σ H1 Q I1 q1
theorem pt_not (ha : PT X a tA) : PT X (.UnaryOp .Not a pos) (tNot tA) := by
  intro pins s σ H Q I h
  exact isTrue_not (ha pins s σ H (fun c H1 => Q (!c) H1) I h)
noncomputable def tAndV (ta tb : TE) : TE := fun σ H Q => ta σ H fun x H1 => ∃ c, x = .bl c ∧ if c = true then tb σ H1 Q else Q (.bl false) H1
noncomputable def tNotV (ta : TE) : TE := fun σ H Q => ta σ H fun x H1 => ∃ c, x = .bl c ∧ Q (.bl (!c)) H1
theorem pe_one {op} {t : TE} (h : PE X a t) : PE X (.BoolOp op [a] pos) t := fun pins s σ H Q I hw => BoolOp_one (h pins s σ H Q I hw)
theorem pe_and (ha : PE X a ta) (hb : PE X (.BoolOp .And (b :: rest) pos) tb) : PE X (.BoolOp .And (a :: b :: rest) pos) (tAndV ta tb) := by
  intro pins s σ H Q I h
  refine BoolOp_and (thn (ha pins s σ H _ I h) fun v s1 zz0 => ?_)
  obtain ⟨x, H1, I1, r1, q1⟩ := zz0
  obtain ⟨c, rfl, q1⟩ := q1
  cases r1
  refine wpAny_truthy_bool ?_
  cases c with
  | true => exact hb pins s1 σ H1 Q I1 q1
  | false => exact ⟨.bl false, H1, I1, rfl, q1⟩
theorem pe_not (ha : PE X a ta) : PE X (.UnaryOp .Not a pos) (tNotV ta) := by
  intro pins s σ H Q I h
  refine UnaryOp_ (thn (ha pins s σ H _ I h) fun v s1 zz0 => ?_)
  obtain ⟨x, H1, I1, r1, q1⟩ := zz0
  obtain ⟨c, rfl, q1⟩ := q1
  cases r1
  exact not_of (wpAny_truthy_bool ⟨.bl (!c), H1, I1, rfl, q1⟩)
noncomputable def tIf (t : TT) (ta tb : TE) : TE := fun σ H Q => t σ H fun c H1 => if c = true then ta σ H1 Q else tb σ H1 Q
theorem pe_ifExp {c : Expr} (hc : PT X c tA) (ha : PE X a ta) (hb : PE X b tb) : PE X (.IfExp c a b pos) (tIf tA ta tb) := by
  intro pins s σ H Q I h
  refine wpAny_IfExp (thn (hc pins s σ H _ I h) fun d s1 zz0 => ?_)
  obtain ⟨H1, I1, q1⟩ := zz0
  cases d with
  | true => exact ha pins s1 σ H1 Q I1 q1
  | false => exact hb pins s1 σ H1 Q I1 q1
end
end L2
namespace L2
open PySem PySem.Spec PyProof.Rows
noncomputable def SqL (K : PySem.W.Frag) (H : Hp) (a : Addr) (xs : List V) : Prop :=
  Rd H a (.lst xs) ∨
    ∃ (o : Obj) (its : Array Value) (n : Nat), K.lookup a = some o ∧ o.cls = .type "list" ∧ o.dict = none ∧ o.data = .seq its n ∧ its.size ≤ sizeLine ∧ Vals xs its.toList
noncomputable def SqT (K : PySem.W.Frag) (H : Hp) (a : Addr) (xs : List V) : Prop :=
  Rd H a (.tup xs) ∨
    ∃ (o : Obj) (its : Array Value) (n : Nat), K.lookup a = some o ∧ o.cls = .type "tuple" ∧ o.data = .seq its n ∧ its.size ≤ sizeLine ∧ Vals xs its.toList
noncomputable def absV : Value → Option V
  | .none => some .non
  | .bool b => some (.bl b)
  | .int i _ => some (.int i)
  | .str x _ => some (.str x)
  | .bytes b _ => some (.byt b)
  | .float b _ => some (.flt b)
  | .ref a => some (.ref a)
  | .type n => some (.ty n)
  | _ => none
theorem RelV.abs {x : V} {u : Value} (r : RelV x u) : absV u = some x := by
  cases x with
  | non => cases r; rfl
  | bl _ => cases r; rfl
  | int _ => obtain ⟨t, rfl⟩ := r; rfl
  | str _ => obtain ⟨t, rfl⟩ := r; rfl
  | byt _ => obtain ⟨t, rfl⟩ := r; rfl
  | flt _ => obtain ⟨t, rfl⟩ := r; rfl
  | ref _ => cases r; rfl
  | ty _ => cases r; rfl
theorem RelV.inj {x y : V} {u : Value} (r : RelV x u) (q : RelV y u) : x = y := Option.some.inj (r.abs.symm.trans q.abs)
theorem Vals.inj : ∀ {xs ys : List V} {us : List Value}, Vals xs us → Vals ys us → xs = ys
  | _, _, _, .nil, .nil => rfl
  | _, _, _, .cons r t, .cons r' t' => by rw [r.inj r', Vals.inj t t']
section
variable {X : Cx} {pins : List (Addr × Obj)} {σ : St} {H : Hp} {s : Shared} {a : Addr} {xs ys : List V}
theorem SqL.of {K : PySem.W.Frag} (h : H a = some (.lst xs)) : SqL K H a xs := .inl (.inl h)
theorem SqT.of {K : PySem.W.Frag} (h : H a = some (.tup xs)) : SqT K H a xs := .inl (.inl h)
theorem Inv.list (I : Inv X pins σ H s) (h : SqL X.K H a xs) : ∃ its : List Value, Vals xs its ∧ PlainL s.heap a its.toArray ∧ xs.length ≤ sizeLine := by
  rcases h with h | ⟨o, its, n, hk, hc, hd, hs, hz, r⟩
  · obtain ⟨z, its, n, r, e⟩ := h.ok I.hok
    exact ⟨its, r, ⟨_, n, e, rfl, rfl, rfl⟩, z⟩
  · refine ⟨its.toList, r, ⟨o, n, I.kIn a o hk, hc, hd, by simpa using hs⟩, ?_⟩
    have e := r.length
    simp only [Array.length_toList] at e
    (first | lia | omega)
theorem Inv.tuple (I : Inv X pins σ H s) (h : SqT X.K H a xs) : ∃ its : List Value, Vals xs its ∧ IsTup s.heap a its.toArray ∧ xs.length ≤ sizeLine := by
  rcases h with h | ⟨o, its, n, hk, hc, hs, hz, r⟩
  · obtain ⟨z, its, r, p⟩ := h.ok I.hok
    exact ⟨its, r, p, z⟩
  · refine ⟨its.toList, r, ⟨o, I.kIn a o hk, hc, n, by simpa using hs⟩, ?_⟩
    have e := r.length
    simp only [Array.length_toList] at e
    (first | lia | omega)
theorem Inv.list_inj (I : Inv X pins σ H s) (h : SqL X.K H a xs) (h' : SqL X.K H a ys) : xs = ys := by
  obtain ⟨its, r, ⟨o, n, e, _, _, d⟩, _⟩ := I.list h
  obtain ⟨its', r', ⟨o', n', e', _, _, d'⟩, _⟩ := I.list h'
  rw [e] at e'; cases e'
  rw [d] at d'
  injection d' with d1 _
  have : its = its' := by simpa using congrArg Array.toList d1
  subst this
  exact r.inj r'
end
noncomputable abbrev Cx.wish (X : Cx) (E : Value → Shared → Prop) : Cx := { X with xe := E }
noncomputable abbrev Cx.nox (X : Cx) : Cx := X.wish fun _ _ => False
theorem Cx.Ok.wish {X : Cx} (ok : X.Ok) (E : Value → Shared → Prop) : (X.wish E).Ok :=
  ⟨ok.mod, ok.kind, ok.glob, ok.blt, ok.above, ok.inj, ok.has, ok.cab, ok.hd, ok.frames, ok.stk, ok.exf, ok.bs, ok.bsz, ok.noex, ok.exfs, ok.funs, ok.frf⟩
theorem Cx.Ok.unwish {X : Cx} {E : Value → Shared → Prop} (ok : (X.wish E).Ok) : X.Ok :=
  ⟨ok.mod, ok.kind, ok.glob, ok.blt, ok.above, ok.inj, ok.has, ok.cab, ok.hd, ok.frames, ok.stk, ok.exf, ok.bs, ok.bsz, ok.noex, ok.exfs, ok.funs, ok.frf⟩
section
variable {X : Cx} {pins : List (Addr × Obj)} {σ : St} {H : Hp} {s : Shared} {E : Value → Shared → Prop}
theorem Inv.wish (I : Inv X pins σ H s) (E : Value → Shared → Prop) : Inv (X.wish E) pins σ H s := ⟨I.ok.wish E, I.os, I.bare, I.base, I.loc, I.cell, I.free, I.freeC, I.pin, I.hok, I.len⟩
theorem Inv.unwish (I : Inv (X.wish E) pins σ H s) : Inv X pins σ H s := ⟨I.ok.unwish, I.os, I.bare, I.base, I.loc, I.cell, I.free, I.freeC, I.pin, I.hok, I.len⟩
theorem SP.unwish {D : Ends} {f : Flow} {s' : Shared} (h : SP (X.wish E) pins D f s') : SP X pins D f s' := by
  cases f with
  | next => obtain ⟨σ', H', I, q⟩ := h; exact ⟨σ', H', I.unwish, q⟩
  | brk => obtain ⟨σ', H', I, q⟩ := h; exact ⟨σ', H', I.unwish, q⟩
  | cont => obtain ⟨σ', H', I, q⟩ := h; exact ⟨σ', H', I.unwish, q⟩
  | ret u => obtain ⟨v, σ', H', I, r, q⟩ := h; exact ⟨v, σ', H', I.unwish, r, q⟩
theorem PSs.nox {st : List Stmt} {t : TS} (h : PSs X.nox st t) : PSs X st t := fun pins s σ H D I hw =>
  wpAny_mono (h pins s σ H D (I.wish _) hw) (fun _ _ q => q.unwish) fun _ _ z => False.elim z
end
section
variable {X : Cx} {st : Stmt} {rest : List Stmt} {t u : TS} {e : Expr} {te : TE} {pos : Pos}
noncomputable def tNext : TS := fun D σ H => D.nx σ H
noncomputable def tSeq (t u : TS) : TS := fun D σ H => t { D with nx := u D } σ H
theorem pss_nil : PSs X [] tNext := fun _ _ σ H _ I h => wpAny_execs_nil ⟨σ, H, I, h⟩
theorem pss_cons (h1 : PS X st t) (h2 : PSs X rest u) : PSs X (st :: rest) (tSeq t u) := by
  intro pins s σ H D I h
  refine wpAny_execs_cons (thn (h1 pins s σ H { D with nx := u D } I h) fun f s1 q => ?_)
  cases f with
  | next =>
    obtain ⟨σ', H', I', q⟩ := q
    exact h2 pins s1 σ' H' D I' q
  | ret v => exact q
  | brk => exact q
  | cont => exact q
theorem pss_one (h1 : PS X st t) : PSs X [st] t := by
  intro pins s σ H D I h
  refine wpAny_execs_cons (thn (h1 pins s σ H D I h) fun f s1 q => ?_)
  cases f with
  | next => exact wpAny_execs_nil q
  | ret v => exact q
  | brk => exact q
  | cont => exact q
theorem Inv.quiet {pins : List (Addr × Obj)} {σ : St} {H : Hp} {s : Shared} (I : Inv X pins σ H s) : interactive X.env = false := by simp [interactive, I.ok.kind]
noncomputable def tDrop (te : TE) : TS := fun D σ H => te σ H fun _ H1 => D.nx σ H1
theorem ps_expr (he : PE X e te) (hs : swapsWith e none pos.line X.env = pure false := by rfl) : PS X (.Expr e pos) (tDrop te) := by
  intro pins s σ H D I h
  exact wpAny_Expr_any (thn (he pins s σ H _ I h) fun v s1 zz => by obtain ⟨x, H1, I1, r1, q1⟩ := zz; exact ⟨σ, H1, I1, q1⟩) I.quiet hs
noncomputable def tRet (te : TE) : TS := fun D σ H => te σ H D.rt
theorem ps_ret (he : PE X e te) : PS X (.Return (some e) pos) (tRet te) := by
  intro pins s σ H D I h
  exact wpAny_Return_some (thn (he pins s σ H _ I h) fun v s1 zz => by obtain ⟨x, H1, I1, r1, q1⟩ := zz; exact ⟨x, σ, H1, I1, r1, q1⟩)
noncomputable def tIfS (c : TT) (t u : TS) : TS := fun D σ H => c σ H fun b H1 => if b = true then t D σ H1 else u D σ H1
theorem ps_if {c : Expr} {a b : List Stmt} {tc : TT} (hc : PT X c tc) (ha : PSs X a t) (hb : PSs X b u) : PS X (.If c a b pos) (tIfS tc t u) := by
  intro pins s σ H D I h
  refine wpAny_If (thn (hc pins s σ H _ I h) fun d s1 zz0 => ?_)
  obtain ⟨H1, I1, q1⟩ := zz0
  cases d with
  | true => exact ha pins s1 σ H1 D I1 q1
  | false => exact hb pins s1 σ H1 D I1 q1
noncomputable def tNever : TS := fun _ _ _ => False
theorem pss_never {sts : List Stmt} : PSs X sts tNever := fun _ _ _ _ _ _ h => h.elim
end
noncomputable abbrev TG := V → St → Hp → (St → Hp → Prop) → Prop
noncomputable abbrev TGs := List V → St → Hp → (St → Hp → Prop) → Prop
noncomputable def PG (X : Cx) (target : Expr) (t : TG) : Prop :=
  ∀ (pins : List (Addr × Obj)) (s : Shared) (σ : St) (H : Hp) (v : V) (u : Value) (Q : St → Hp → Prop), Inv X pins σ H s → RelV v u → t v σ H Q →
    wpAny (model X.prog X.w) X.A (assign target X.env u) (fun _ s' => ∃ σ' H', Inv X pins σ' H' s' ∧ Q σ' H') X.xe s
noncomputable def PGs (X : Cx) (ts : List Expr) (t : TGs) : Prop :=
  ∀ (pins : List (Addr × Obj)) (s : Shared) (σ : St) (H : Hp) (vs : List V) (us : List Value) (Q : St → Hp → Prop), Inv X pins σ H s → Vals vs us → t vs σ H Q →
    wpAny (model X.prog X.w) X.A (assignInOrder ((assignEach ts X.env).map (·.2)) us) (fun _ s' => ∃ σ' H', Inv X pins σ' H' s' ∧ Q σ' H') X.xe s
section
variable {X : Cx} {pos : Pos}
noncomputable def gName (i : Nat) : TG := fun v σ H Q => Q (σ.set i (some v)) H
theorem pg_name {i : Nat} {x : Str} (hN : X.N.Nodup) (hi : X.N[i]? = some x) (hx : Loc X.env.scope x) (hf : X.fn x = true ∨ X.env.scope.names.lookup x = some .local := by first | exact .inl rfl | exact .inr rfl | assumption) : PG X (.Name x pos) (gName i) := by
  intro pins s σ H v u Q I r h
  exact wpAny_assign_Name (store_ok I hN hi hx r (fun s' I' => ⟨_, H, I', h⟩) hf)
noncomputable def gNil : TGs := fun vs σ H Q => vs = [] ∧ Q σ H
noncomputable def gCons (t : TG) (u : TGs) : TGs := fun vs σ H Q => ∃ v r, vs = v :: r ∧ t v σ H fun σ' H' => u r σ' H' Q
theorem pgs_nil : PGs X [] gNil := by
  intro pins s σ H vs us Q I r h
  obtain ⟨e, h⟩ := h
  subst e
  cases r
  exact assignInOrder_nil ⟨σ, H, I, h⟩
theorem pgs_cons {e : Expr} {es : List Expr} {t : TG} {u : TGs} (h1 : PG X e t) (h2 : PGs X es u)
    (hs : (assignEach (e :: es) X.env).map (·.2) = assign e X.env :: (assignEach es X.env).map (·.2) := by rfl) : PGs X (e :: es) (gCons t u) := by
  intro pins s σ H vs us Q I r h
  obtain ⟨v, vr, e1, h⟩ := h
  subst e1
  cases r with
  | cons r rr =>
    rw [hs]
    refine assignInOrder_cons (thn (h1 pins s σ H _ _ _ I r h) fun _ s1 zz0 => ?_)
    obtain ⟨σ1, H1, I1, q1⟩ := zz0
    exact h2 pins s1 σ1 H1 _ _ Q I1 rr q1
noncomputable def gTup (K : PySem.W.Frag) (n : Nat) (t : TGs) : TG := fun v σ H Q => ∃ a xs, v = .ref a ∧ SqT K H a xs ∧ xs.length = n ∧ t xs σ H Q
theorem pg_tup {es : List Expr} {k : Nat} {t : TGs} {n : Nat} (hc : X.calm = true) (h : PGs X es t)
    (hn : (assignEach es X.env).length = n := by rfl) (hst : (assignEach es X.env).findIdx? (·.1) = none := by rfl) : PG X (.Tuple es k pos) (gTup X.K n t) := by
  intro pins s σ H v u Q I r hw
  obtain ⟨a, xs, e1, hq, hl, hw⟩ := hw
  subst e1
  cases r
  obtain ⟨its, rv, ht, hz⟩ := I.tuple hq
  refine assign_Tuple_tuple (I.ok.hd hc) ht (by simp [hn, ← hl, rv.length]) hst fun h' hx => ?_
  have I1 : Inv X pins σ H { s with heap := h' } := I.kept (t' := s.toks) fun b o e => hx b o (Nat.ne_of_lt (Heap.lt_size e)) e
  exact h pins _ σ H xs _ Q I1 (by simpa using rv) hw
noncomputable def tAsg (te : TE) (g : TG) : TS := fun D σ H => te σ H fun x H1 => g x σ H1 D.nx
theorem ps_asg {tg e : Expr} {te : TE} {g : TG} (he : PE X e te) (hg : PG X tg g) (hs : swapsWithSole [tg] e pos.line X.env = pure false := by rfl) (hw : swappedStores [tg] e X.env = pure none := by rfl)
    (h1 : (assignEach [tg] X.env).map (·.2) = [assign tg X.env] := by rfl) : PS X (.Assign [tg] e pos) (tAsg te g) := by
  intro pins s σ H D I h
  refine wpAny_Assign_stores (thn (he pins s σ H _ I h) fun v s1 zz0 => ?_) hs hw
  obtain ⟨x, H1, I1, r1, q1⟩ := zz0
  rw [h1]
  exact thn (hg pins s1 σ H1 x v _ I1 r1 q1) fun _ s2 q => q
theorem ps_set {i : Nat} {x : Str} {e : Expr} {te : TE} {pos' : Pos} (hN : X.N.Nodup) (hi : X.N[i]? = some x) (hx : Loc X.env.scope x) (he : PE X e te) (hs : swapsWith e (some (.Name x pos')) pos.line X.env = pure false := by rfl) (hf : X.fn x = true ∨ X.env.scope.names.lookup x = some .local := by first | exact .inl rfl | exact .inr rfl | assumption) :
    PS X (.Assign [.Name x pos'] e pos) (tAsg te (gName i)) := by
  intro pins s σ H D I h
  refine wpAny_Assign_Name (thn (he pins s σ H _ I h) fun v s1 zz0 => ?_) hs
  obtain ⟨y, H1, I1, r1, q1⟩ := zz0
  exact store_ok I1 hN hi hx r1 (fun s2 I2 => ⟨_, H1, I2, q1⟩) hf
end
section
variable {X : Cx} {pos : Pos}
noncomputable def tWhile (c : TT) (tb : TS) : TS := fun D σ H => ∃ W : Nat → St → Hp → Prop, (∃ m, W m σ H) ∧ ∀ m σ H, W m σ H →
  c σ H fun b H1 => if b = true then ∃ N : St → Hp → Prop, (∀ σ' H', N σ' H' → ∃ m', m' < m ∧ W m' σ' H') ∧ tb { D with nx := N, ct := N, bk := D.nx } σ H1 else D.nx σ H1
theorem ps_while {c : Expr} {body : List Stmt} {tc : TT} {tb : TS} (hp : PassesOwn (model X.prog X.w) X.A X.env X.xe) (hc : PT X c tc) (hb : PSs X body tb) : PS X (.While c body [] pos) (tWhile tc tb) := by
  intro pins s σ H D I h
  obtain ⟨W, ⟨m0, w0⟩, turn⟩ := h
  refine wpAny_While (codeAny_whileLoop (fun n s' => ∃ σ' H', Inv X pins σ' H' s' ∧ W n σ' H') ?_ m0 ⟨σ, H, I, w0⟩)
  rintro n s1 ⟨σ1, H1, I1, w1⟩
  refine wpAny_passesOwn hp (thn (hc pins s1 σ1 H1 _ I1 (turn n σ1 H1 w1)) fun b s2 zz0 => ?_)
  obtain ⟨H2, I2, q2⟩ := zz0
  cases b with
  | true =>
    obtain ⟨N, hN, q2⟩ := q2
    rw [if_pos rfl]
    refine wpAny_passesOwn hp (thn (hb pins s2 σ1 H2 _ I2 q2) fun f s3 q3 => ?_)
    cases f with
    | next =>
      obtain ⟨σ3, H3, I3, n3⟩ := q3
      obtain ⟨m', hm, w3⟩ := hN σ3 H3 n3
      exact ⟨m', hm, σ3, H3, I3, w3⟩
    | cont =>
      obtain ⟨σ3, H3, I3, n3⟩ := q3
      obtain ⟨m', hm, w3⟩ := hN σ3 H3 n3
      exact ⟨m', hm, σ3, H3, I3, w3⟩
    | brk => exact q3
    | ret v => exact q3
  | false =>
    rw [if_neg Bool.false_ne_true]
    exact wpAny_execs_nil ⟨σ1, H2, I2, q2⟩
end
structure It where
  go : Nat → Hp → Prop
  yld : Nat → Hp → V → Hp → Prop
  stop : Nat → Hp → Prop
noncomputable def FpOk (X : Cx) (pins : List (Addr × Obj)) (H : Hp) (b : Addr) : Prop :=
  H b = none ∧ b ≠ X.env.locals ∧ b ∉ X.fs ∧ (b ∈ X.ex ∨ X.s₀.heap.objs.size ≤ b) ∧ (∀ x c, X.env.cells.lookup x = some c → c ≠ b) ∧ ∀ p ∈ X.pn ++ pins, p.1 ≠ b
theorem Inv.fpOk {X : Cx} {pins : List (Addr × Obj)} {σ : St} {H H' : Hp} {s : Shared} {b : Addr} (I : Inv X pins σ H s) (hb : s.heap.objs.size ≤ b) (hn : H' b = none) : FpOk X pins H' b := by
  refine ⟨hn, Nat.ne_of_gt (Nat.lt_of_lt_of_le I.lt hb), I.nofs hb, .inr (Nat.le_trans I.sz hb), fun x c e z => ?_, fun p hp z => ?_⟩
  · obtain ⟨v, q⟩ := I.cell x c e
    exact absurd (Nat.lt_of_lt_of_le q.lt (by rw [z]; exact hb)) (Nat.lt_irrefl _)
  · exact absurd (Nat.lt_of_lt_of_le (Heap.lt_size (I.pin p hp).1) (by rw [z]; exact hb)) (Nat.lt_irrefl _)
structure Turn (P : Program) (w : World) (K : PySem.W.Frag) (tg : Expr) (J : It) (fp : List Addr) (it : Addr) (tn : Nat → Heap → Prop) : Prop where
  mem : it ∈ fp
  obj : ∀ i h, tn i h → ∀ b ∈ fp, ∃ o, h.get? b = some o ∧ ∀ v, o.data ≠ .cell v
  keep : ∀ i h h', tn i h → (∀ b ∈ fp, ∀ o, h.get? b = some o → h'.get? b = some o) → tn i h'
  item : ∀ (X : Cx), X.prog = P → X.w = w → X.K = K → X.calm = true → ∀ (i : Nat) (pins : List (Addr × Obj)) (s : Shared) (σ : St) (H : Hp) (E : Value → Shared → Prop), Inv X pins σ H s → (∀ b ∈ fp, FpOk X pins H b) → tn i s.heap → J.go i H →
    wpAny (model P w) X.A (pyNext (.ref it)) (fun r s1 => ∃ u, r = some u ∧
      wpAny (model P w) X.A (letOwnedTupleGo tg (.ref it) u) (fun _ s2 => ∃ x H', Inv X pins σ H' s2 ∧ RelV x u ∧ J.yld i H x H' ∧ tn (i + 1) s2.heap ∧ ∀ b ∈ fp, H' b = none) E s1) E s
  done : ∀ (X : Cx), X.prog = P → X.w = w → X.K = K → X.calm = true → ∀ (i : Nat) (pins : List (Addr × Obj)) (s : Shared) (σ : St) (H : Hp) (E : Value → Shared → Prop), Inv X pins σ H s → (∀ b ∈ fp, FpOk X pins H b) → tn i s.heap → J.stop i H →
    wpAny (model P w) X.A (pyNext (.ref it)) (fun r s1 => r = none ∧ Inv X pins σ H s1) E s
  self : ∀ (A : Around) (i : Nat) (s : Shared) (Q : Value → Shared → Prop) (E : Value → Shared → Prop), tn i s.heap → Q (.ref it) s → wpAny (model P w) A (pyIter (.ref it)) Q E s
noncomputable abbrev TI := St → Hp → (It → Hp → Prop) → Prop
noncomputable def PIE (X : Cx) (pins : List (Addr × Obj)) (σ : St) (tg : Expr) (R : It → Hp → Prop) (itv : Value) (s2 : Shared) : Prop :=
  ∃ (it : Addr) (fp : List Addr) (tn : Nat → Heap → Prop) (J : It) (H' : Hp), itv = .ref it ∧ Inv X pins σ H' s2 ∧ Turn X.prog X.w X.K tg J fp it tn ∧ tn 0 s2.heap ∧ (∀ b ∈ fp, FpOk X pins H' b) ∧ R J H'
noncomputable def PI (X : Cx) (tg iter : Expr) (wi : TI) : Prop :=
  ∀ (pins : List (Addr × Obj)) (s : Shared) (σ : St) (H : Hp) (R : It → Hp → Prop), Inv X pins σ H s → wi σ H R →
    wpAny (model X.prog X.w) X.A (eval iter X.env) (fun v s1 => wpAny (model X.prog X.w) X.A (pyIter v) (PIE X pins σ tg R) X.xe s1) X.xe s
theorem go_of {M : Model} {A : Around} {E : Value → Shared → Prop} {s : Shared} {tg : Expr} {it : Addr} {u : Value} {o : Obj} {n : String} {vs : Array Value} {Q : Unit → Shared → Prop} (ho : s.heap.get? it = some o) (hc : o.cls = .type n) (hd : o.data = .fields vs)
    (hn : ["enumerate", "zip", "dict_itemiterator", "dict_reverseitemiterator", "odict_iterator", "itertools.zip_longest", "itertools.pairwise"].contains n = false) (hQ : Q () s) : wpAny M A (letOwnedTupleGo tg (.ref it) u) Q E s := by
  unfold letOwnedTupleGo
  cases tg <;> first
    | exact wpAny_pure hQ
    | (cases u <;> first
        | exact wpAny_pure hQ
        | (refine wpAny_bind (wpAny_load ho ?_)
           rw [hc, hd]
           show wpAny M A (if (["enumerate", "zip", "dict_itemiterator", "dict_reverseitemiterator", "odict_iterator", "itertools.zip_longest", "itertools.pairwise"].contains n && vs[0]? == some (rawInt _)) = true then _ else _) Q E s
           rw [if_neg (by intro h; rw [hn, Bool.false_and] at h; cases h)]
           exact wpAny_pure hQ))
noncomputable def Itl (K : PySem.W.Frag) (a : Addr) : It :=
  ⟨fun i H => ∃ xs x, SqL K H a xs ∧ xs[i]? = some x, fun i H x H' => H' = H ∧ ∀ xs, SqL K H a xs → xs[i]? = some x, fun i H => ∃ xs, SqL K H a xs ∧ xs.length ≤ i⟩
noncomputable def Itr (lo : Int) (n : Nat) : It := ⟨fun i _ => i < n, fun i H x H' => H' = H ∧ x = .int (lo + i), fun i _ => n ≤ i⟩
theorem turn_list {P : Program} {w : World} {K : PySem.W.Frag} {tg : Expr} (a it : Addr) : Turn P w K tg (Itl K a) [it] it (fun i h => h.IsListIter it a i) where
  mem := by simp
  obj := fun i h st b hb => by
    have e : b = it := by simpa using hb
    subst e
    obtain ⟨o, e, c, d⟩ := st
    exact ⟨o, e, fun v z => by rw [d] at z; cases z⟩
  keep := fun i h h' st k => st.at fun o e => k it (by simp) o e
  item := by
    intro X hP hw hK hc i pins s σ H E I hf st hg
    subst hP hw hK
    obtain ⟨xs, x, hq, hx⟩ := hg
    obtain ⟨its, rv, p, hz⟩ := I.list hq
    obtain ⟨u, hu, ru⟩ := rv.get hx
    obtain ⟨f0, f1, f2, f3, f4, f5⟩ := hf it (by simp)
    refine wpAny_pyNext_list_item st p.isList (x := u) (by simpa using hu) fun h' st' sb => ?_
    have I1 : Inv X pins σ H { s with heap := h' } := I.turned (t' := s.toks) (fun b o hb e => (sb.2 b hb).trans e) f0 f1 f3 f4 f5
    obtain ⟨o, e, c, d⟩ := id st'
    exact ⟨u, rfl, go_of (s := { s with heap := h' }) e c d (by decide) ⟨x, H, I1, ru, ⟨rfl, fun ys hy => by rw [I.list_inj hy hq]; exact hx⟩, st', fun b hb => (hf b hb).1⟩⟩
  done := by
    intro X hP hw hK hc i pins s σ H E I hf st hg
    subst hP hw hK
    obtain ⟨xs, hq, hx⟩ := hg
    obtain ⟨its, rv, p, hz⟩ := I.list hq
    obtain ⟨f0, f1, f2, f3, f4, f5⟩ := hf it (by simp)
    have hl := rv.length
    exact wpAny_pyNext_list_end (I.ok.hd hc) st p.isList (by simp; (first | lia | omega)) fun h' eb => ⟨rfl, I.turned (t' := s.toks) (fun b o hb e => eb b o hb e) f0 f1 f3 f4 f5⟩
  self := fun _ _ _ _ _ st h => wpAny_pyIter_listiter st h
theorem turn_range {P : Program} {w : World} {K : PySem.W.Frag} {tg : Expr} (it : Addr) (lo : Int) (n : Nat) : Turn P w K tg (Itr lo n) [it] it (fun i h => IsRangeIter h it (lo + (i : Nat) * 1) ((n : Int) - (i : Nat)) 1) where
  mem := by simp
  obj := fun i h st b hb => by
    have e : b = it := by simpa using hb
    subst e
    exact ⟨_, st, fun v z => by
      have z' : Data.fields _ = Data.cell v := z
      cases z'⟩
  keep := fun i h h' st k => k it (by simp) _ st
  item := by
    intro X hP hw hK hc i pins s σ H E I hf st hg
    subst hP hw hK
    obtain ⟨f0, f1, f2, f3, f4, f5⟩ := hf it (by simp)
    have W := Walks.range (prog := X.prog) (w := X.w) (I.ok.hd hc) it lo 1 n
    refine W.item i s _ _ hg st fun v h' tk hv st' kk => ?_
    obtain ⟨t, rfl⟩ := hv
    have I1 : Inv X pins σ H { s with heap := h', toks := tk } := I.turned (fun b o hb e => kk b o (by simpa using hb) e) f0 f1 f3 f4 f5
    refine ⟨_, rfl, go_of (s := { s with heap := h', toks := tk }) (n := "range_iterator") st' rfl rfl (by decide) ⟨.int (lo + i), H, I1, ⟨t, ?_⟩, ⟨rfl, rfl⟩, st', fun b hb => (hf b hb).1⟩⟩
    rw [Int.mul_one]
  done := by
    intro X hP hw hK hc i pins s σ H E I hf st hg
    subst hP hw hK
    obtain ⟨f0, f1, f2, f3, f4, f5⟩ := hf it (by simp)
    exact wpAny_pyNext_range_end (I.ok.hd hc) st (by have : n ≤ i := hg; (first | lia | omega)) fun h' eb => ⟨rfl, I.turned (t' := s.toks) (fun b o hb e => eb b o hb e) f0 f1 f3 f4 f5⟩
  self := fun _ _ _ _ _ st h => wpAny_pyIter_rangeiter st h
end L2
namespace L2
open PySem PySem.Spec PyProof.Rows
section
variable {X : Cx} {tg : Expr}
noncomputable def iList (K : PySem.W.Frag) (tl : TE) : TI := fun σ H R => tl σ H fun x H1 => ∃ a, x = .ref a ∧ (∃ xs, SqL K H1 a xs) ∧ R (Itl K a) H1
theorem pi_list {l : Expr} {tl : TE} (hl : PE X l tl) : PI X tg l (iList X.K tl) := by
  intro pins s σ H R I h
  refine thn (hl pins s σ H _ I h) fun v s1 zz0 => ?_
  obtain ⟨x, H1, I1, r1, q1⟩ := zz0
  obtain ⟨a, e, ⟨xs, hq⟩, q⟩ := q1
  subst e
  cases r1
  obtain ⟨its, rv, p, hz⟩ := I1.list hq
  refine wpAny_pyIter_list p.isList ?_
  refine ⟨s1.heap.objs.size, [s1.heap.objs.size], _, _, H1, rfl, I1.kept (t' := s1.toks) fun b o e => Heap.get?_push_of_some _ e, turn_list a _, ⟨_, Heap.get?_push_size _ rfl, rfl, rfl⟩, fun b hb => ?_, q⟩
  have e : b = s1.heap.objs.size := by simpa using hb
  subst e
  exact I1.fpOk (Nat.le_refl _) (I1.hok.fresh (Nat.le_refl _))
theorem range_it {pins : List (Addr × Obj)} {σ : St} {H : Hp} {s : Shared} {R : It → Hp → Prop} {E : Value → Shared → Prop} {lo hi : Int} {t u v : Tok} {tk : Nat} (I : Inv X pins σ H s) (h1 : -(2 ^ 62) ≤ lo) (h2 : lo < 2 ^ 62) (h3 : -(2 ^ 62) ≤ hi) (h4 : hi < 2 ^ 62)
    (q : R (Itr lo (hi - lo).toNat) H) : wpAny (model X.prog X.w) X.A (pyIter (.ref s.heap.objs.size)) (PIE X pins σ tg R) E { s with heap := s.heap.push { cls := .type "range", data := .fields #[.int lo t, .int hi u, .int 1 v] }, toks := tk } := by
  refine wpAny_pyIter_range (IsRange.new ..) (small_one h1 h2 h3 h4) ?_
  have I1 : Inv X pins σ H { s with heap := s.heap.push { cls := .type "range", data := .fields #[.int lo t, .int hi u, .int 1 v] }, toks := tk } := I.kept fun b o e => Heap.get?_push_of_some _ e
  refine ⟨(s.heap.push { cls := .type "range", data := .fields #[.int lo t, .int hi u, .int 1 v] }).objs.size, [(s.heap.push { cls := .type "range", data := .fields #[.int lo t, .int hi u, .int 1 v] }).objs.size], _, _, H, rfl,
    I1.kept (t' := tk) fun b o e => Heap.get?_push_of_some _ e, turn_range _ lo (hi - lo).toNat, ?_, fun b hb => ?_, q⟩
  · have e1 : lo + ((0 : Nat) : Int) * 1 = lo := by simp
    have e2 : (((hi - lo).toNat : Nat) : Int) - ((0 : Nat) : Int) = Builtin.Range.rangeSize lo hi 1 := by rw [rangeSize_one]; split <;> (first | lia | omega)
    show IsRangeIter _ _ (lo + ((0 : Nat) : Int) * 1) ((((hi - lo).toNat : Nat) : Int) - ((0 : Nat) : Int)) 1
    rw [e1, e2]
    exact Heap.get?_push_size _ rfl
  · have e : b = (s.heap.push { cls := .type "range", data := .fields #[.int lo t, .int hi u, .int 1 v] }).objs.size := by simpa using hb
    subst e
    exact I1.fpOk (Nat.le_refl _) (I1.hok.fresh (Nat.le_refl _))
noncomputable def iRng1 (ta : TA) : TI := fun σ H R => ta σ H fun vs H1 => ∃ j : Int, vs = [.int j] ∧ -(2 ^ 62) ≤ j ∧ j < 2 ^ 62 ∧ R (Itr 0 j.toNat) H1
noncomputable def iRng2 (ta : TA) : TI := fun σ H R => ta σ H fun vs H1 => ∃ i j : Int, vs = [.int i, .int j] ∧ (-(2 ^ 62) ≤ i ∧ i < 2 ^ 62 ∧ -(2 ^ 62) ≤ j ∧ j < 2 ^ 62) ∧ R (Itr i (j - i).toNat) H1
theorem pi_range1 {a : Expr} {ta : TA} {p pos : Pos} (hg : Gl X "range") (hm : X.mg "range" = none) (ha : PA X [a] ta) (hs : starEach [a] X.env = [(false, eval a X.env)] := by rfl) : PI X tg (.Call (.Name "range" p) [a] [] pos) (iRng1 ta) := by
  intro pins s σ H R I h
  refine Call_ (ld_blt I hg hm boot_range (PyProof.Rows.callWith_type1 (thn (ha pos pins s σ H _ I h) fun us s1 zz0 => ?_) hs rfl))
  obtain ⟨vs, H1, I1, r1, q1⟩ := zz0
  obtain ⟨j, e, q1, q2, q⟩ := q1
  subst e
  cases r1 with
  | cons r rr =>
    cases rr
    obtain ⟨t, rfl⟩ := r
    exact call_range_1 (range_it I1 (by (first | lia | omega)) (by (first | lia | omega)) q1 q2 (by simpa using q))
theorem pi_range2 {a b : Expr} {ta : TA} {p pos : Pos} (hg : Gl X "range") (hm : X.mg "range" = none) (ha : PA X [a, b] ta) (hs : starEach [a, b] X.env = [(false, eval a X.env), (false, eval b X.env)] := by rfl) (hs2 : starEach [b] X.env = [(false, eval b X.env)] := by rfl) :
    PI X tg (.Call (.Name "range" p) [a, b] [] pos) (iRng2 ta) := by
  intro pins s σ H R I h
  refine Call_ (ld_blt I hg hm boot_range (PyProof.Rows.callWith_type1 (thn (ha pos pins s σ H _ I h) fun us s1 zz0 => ?_) (by rw [hs, hs2]) (by rw [hs2]; rfl)))
  obtain ⟨vs, H1, I1, r1, q1⟩ := zz0
  obtain ⟨i, j, e, ⟨q1, q2, q3, q4⟩, q⟩ := q1
  subst e
  cases r1 with
  | cons r rr =>
    cases rr with
    | cons r' rr =>
      cases rr
      obtain ⟨t, rfl⟩ := r
      obtain ⟨t', rfl⟩ := r'
      exact call_range_2 (range_it I1 q1 q2 q3 q4 q)
noncomputable def tFor (wi : TI) (g : TG) (tb : TS) : TS := fun D σ H => wi σ H fun J H1 => ∃ W : Nat → Nat → St → Hp → Prop, (∃ m, W 0 m σ H1) ∧ ∀ i m σ H, W i m σ H →
  (J.stop i H ∧ D.nx σ H) ∨ (J.go i H ∧ ∃ N : St → Hp → Prop, (∀ σ' H', N σ' H' → ∃ m', m' < m ∧ W (i + 1) m' σ' H') ∧ ∀ x H', J.yld i H x H' → g x σ H' fun σ2 H2 => tb { D with nx := N, ct := N, bk := D.nx } σ2 H2)
noncomputable def pinsAt (fp : List Addr) (h : Heap) : List (Addr × Obj) := fp.filterMap fun b => (h.get? b).map fun o => (b, o)
theorem mem_pinsAt {fp : List Addr} {h : Heap} {b : Addr} {o : Obj} (hb : b ∈ fp) (e : h.get? b = some o) : (b, o) ∈ pinsAt fp h := List.mem_filterMap.mpr ⟨b, hb, by rw [e]; rfl⟩
theorem of_pinsAt {fp : List Addr} {h : Heap} {p : Addr × Obj} (hp : p ∈ pinsAt fp h) : p.1 ∈ fp ∧ h.get? p.1 = some p.2 := by
  obtain ⟨b, hb, e⟩ := List.mem_filterMap.mp hp
  cases q : h.get? b with
  | none => rw [q] at e; cases e
  | some o =>
    rw [q] at e
    have e' : (b, o) = p := Option.some.inj e
    subst e'
    exact ⟨hb, q⟩
theorem Inv.pinned {pins : List (Addr × Obj)} {σ : St} {H : Hp} {s : Shared} {fp : List Addr} (I : Inv X pins σ H s) (hf : ∀ b ∈ fp, FpOk X pins H b) (ho : ∀ b ∈ fp, ∃ o, s.heap.get? b = some o ∧ ∀ v, o.data ≠ .cell v) : Inv X (pins ++ pinsAt fp s.heap) σ H s :=
  I.pins_of fun p hp => (List.mem_append.mp hp).elim (fun z => I.pin p (List.mem_append_right _ z)) fun z => by
    obtain ⟨hb, e⟩ := of_pinsAt z
    obtain ⟨f0, f1, f2, _⟩ := hf p.1 hb
    obtain ⟨o, e', d⟩ := ho p.1 hb
    rw [e] at e'; cases e'
    exact ⟨e, f0, f1, f2, d⟩
theorem Inv.unpinned {pins pl : List (Addr × Obj)} {σ : St} {H : Hp} {s : Shared} (I : Inv X (pins ++ pl) σ H s) : Inv X pins σ H s := I.pins_of fun p hp => I.pin p (List.mem_append_right _ (List.mem_append_left _ hp))
theorem ps_for {iter : Expr} {body : List Stmt} {wi : TI} {g : TG} {tb : TS} {pos : Pos} (hp : PassesOwn (model X.prog X.w) X.A X.env X.xe) (hc : X.calm = true) (hi : PI X tg iter wi) (hg : PG X tg g) (hb : PSs X body tb)
    (hs : ∀ x, foldedSetIterable iter X.env x = pure x := by intro _; rfl) : PS X (.For tg iter body [] pos) (tFor wi g tb) := by
  intro pins s σ H D I h
  refine wpAny_For (thn (hi pins s σ H _ I h) fun v s1 h1 => thn h1 fun itv s2 h2 => ?_) hs
  obtain ⟨it, fp, tn, J, H2, e, I2, T, st2, f2, W, ⟨m0, w0⟩, turn⟩ := h2
  subst e
  -- what stays true of the iterator's objects through the loop
  have stat : ∀ {H' : Hp}, (∀ b ∈ fp, H' b = none) → ∀ b ∈ fp, FpOk X pins H' b := fun hn b hb => ⟨hn b hb, (f2 b hb).2⟩
  refine codeAny_forLoop_any (fun n s' => ∃ i σ' H', Inv X pins σ' H' s' ∧ tn i s'.heap ∧ (∀ b ∈ fp, H' b = none) ∧ W i n σ' H') ?_ m0 ⟨0, σ, H2, I2, st2, fun b hb => (f2 b hb).1, w0⟩
  rintro n s3 ⟨i, σ3, H3, I3, st3, fr3, w3⟩
  rcases turn i n σ3 H3 w3 with ⟨stop, qn⟩ | ⟨go, N, hN, step⟩
  · refine wpAny_passesOwn hp (thn (T.done X rfl rfl rfl hc i pins s3 σ3 H3 X.xe I3 (stat fr3) st3 stop) fun r s4 zz0 => ?_)
    obtain ⟨hr, I4⟩ := zz0
    subst hr
    exact wpAny_execs_nil ⟨σ3, H3, I4, qn⟩
  · refine wpAny_passesOwn hp (thn (T.item X rfl rfl rfl hc i pins s3 σ3 H3 X.xe I3 (stat fr3) st3 go) fun r s4 zz0 => ?_)
    obtain ⟨u, hr, h4⟩ := zz0
    subst hr
    refine wpAny_passesOwn hp (thn h4 fun _ s5 zz0 => ?_)
    obtain ⟨x, H5, I5, r5, y5, st5, fr5⟩ := zz0
    have I5' := I5.pinned (stat fr5) (T.obj _ _ st5)
    refine wpAny_passesOwn hp (thn (hg _ s5 σ3 H5 x u _ I5' r5 (step x H5 y5)) fun _ s6 zz0 => ?_)
    obtain ⟨σ6, H6, I6, q6⟩ := zz0
    refine wpAny_passesOwn hp (thn (hb _ s6 σ6 H6 _ I6 q6) fun f s7 q7 => ?_)
    have again : ∀ {σ7 : St} {H7 : Hp}, Inv X (pins ++ pinsAt fp s5.heap) σ7 H7 s7 → N σ7 H7 → ∃ m, m < n ∧ ∃ i σ' H', Inv X pins σ' H' s7 ∧ tn i s7.heap ∧ (∀ b ∈ fp, H' b = none) ∧ W i m σ' H' := fun {σ7 H7} I7 n7 => by
      obtain ⟨m', hm, w7⟩ := hN σ7 H7 n7
      refine ⟨m', hm, i + 1, σ7, H7, I7.unpinned, T.keep _ _ _ st5 fun b hb o e => (I7.pin (b, o) (List.mem_append_right _ (List.mem_append_right _ (mem_pinsAt hb e)))).1, fun b hb => ?_, w7⟩
      obtain ⟨o, e, d⟩ := T.obj _ _ st5 b hb
      exact (I7.pin (b, o) (List.mem_append_right _ (List.mem_append_right _ (mem_pinsAt hb e)))).2.1
    cases f with
    | next => obtain ⟨σ7, H7, I7, n7⟩ := q7; exact again I7 n7
    | cont => obtain ⟨σ7, H7, I7, n7⟩ := q7; exact again I7 n7
    | brk => obtain ⟨σ7, H7, I7, q7⟩ := q7; exact ⟨σ7, H7, I7.unpinned, q7⟩
    | ret v => obtain ⟨x7, σ7, H7, I7, r7, q7⟩ := q7; exact ⟨x7, σ7, H7, I7.unpinned, r7, q7⟩
end
theorem for_list {K : PySem.W.Frag} {a : Addr} {xs : List V} {g : TG} {tb : TS} {D : Ends} {σ : St} {H : Hp} (Pv : Nat → St → Hp → Prop) (h0 : Pv 0 σ H) (hl : ∀ i σ H, i ≤ xs.length → Pv i σ H → SqL K H a xs)
    (hs : ∀ i x σ H, xs[i]? = some x → Pv i σ H → g x σ H fun σ2 H2 => tb { D with nx := Pv (i + 1), ct := Pv (i + 1), bk := D.nx } σ2 H2) (hd : ∀ σ H, Pv xs.length σ H → D.nx σ H) :
    ∃ W : Nat → Nat → St → Hp → Prop, (∃ m, W 0 m σ H) ∧ ∀ i m σ H, W i m σ H →
      ((Itl K a).stop i H ∧ D.nx σ H) ∨ ((Itl K a).go i H ∧ ∃ N : St → Hp → Prop, (∀ σ' H', N σ' H' → ∃ m', m' < m ∧ W (i + 1) m' σ' H') ∧ ∀ x H', (Itl K a).yld i H x H' → g x σ H' fun σ2 H2 => tb { D with nx := N, ct := N, bk := D.nx } σ2 H2) := by
  refine ⟨fun i m σ H => m = xs.length - i ∧ i ≤ xs.length ∧ Pv i σ H, ⟨xs.length, by simp, Nat.zero_le _, h0⟩, ?_⟩
  rintro i m σ H ⟨rfl, hi, p⟩
  have q := hl i σ H hi p
  by_cases hlt : i < xs.length
  · refine .inr ⟨⟨xs, xs[i], q, by simp [hlt]⟩, Pv (i + 1), fun σ' H' p' => ⟨xs.length - (i + 1), by (first | lia | omega), rfl, hlt, p'⟩, fun x H' y => ?_⟩
    obtain ⟨e, y⟩ := y
    subst e
    exact hs i x σ _ (y xs q) p
  · have e : i = xs.length := by (first | lia | omega)
    subst e
    exact .inl ⟨⟨xs, q, Nat.le_refl _⟩, hd σ H p⟩
theorem for_range {lo : Int} {n : Nat} {g : TG} {tb : TS} {D : Ends} {σ : St} {H : Hp} (Pv : Nat → St → Hp → Prop) (h0 : Pv 0 σ H)
    (hs : ∀ i σ H, i < n → Pv i σ H → g (.int (lo + i)) σ H fun σ2 H2 => tb { D with nx := Pv (i + 1), ct := Pv (i + 1), bk := D.nx } σ2 H2) (hd : ∀ σ H, Pv n σ H → D.nx σ H) :
    ∃ W : Nat → Nat → St → Hp → Prop, (∃ m, W 0 m σ H) ∧ ∀ i m σ H, W i m σ H →
      ((Itr lo n).stop i H ∧ D.nx σ H) ∨ ((Itr lo n).go i H ∧ ∃ N : St → Hp → Prop, (∀ σ' H', N σ' H' → ∃ m', m' < m ∧ W (i + 1) m' σ' H') ∧ ∀ x H', (Itr lo n).yld i H x H' → g x σ H' fun σ2 H2 => tb { D with nx := N, ct := N, bk := D.nx } σ2 H2) := by
  refine ⟨fun i m σ H => m = n - i ∧ i ≤ n ∧ Pv i σ H, ⟨n, by simp, Nat.zero_le _, h0⟩, ?_⟩
  rintro i m σ H ⟨rfl, hi, p⟩
  by_cases hlt : i < n
  · refine .inr ⟨hlt, Pv (i + 1), fun σ' H' p' => ⟨n - (i + 1), by (first | lia | omega), rfl, hlt, p'⟩, fun x H' y => ?_⟩
    obtain ⟨e, y⟩ := y
    subst e y
    exact hs i σ _ hlt p
  · have e : i = n := by (first | lia | omega)
    subst e
    exact .inl ⟨Nat.le_refl _, hd σ H p⟩
end L2
namespace L2
open PySem PySem.Spec PyProof.Rows
noncomputable abbrev R2 := V → V → Hp → VK → Prop
noncomputable def OpR (X : Cx) (f : Value → Value → Sem Value) (r : R2) : Prop :=
  ∀ (pins : List (Addr × Obj)) (s : Shared) (σ : St) (H : Hp) (x y : V) (v u : Value) (Q : VK), Inv X pins σ H s → RelV x v → RelV y u → r x y H Q →
    wpAny (model X.prog X.w) X.A (f v u) (EP X pins σ Q) X.xe s
noncomputable def UnR (X : Cx) (f : Value → Sem Value) (r : V → Hp → VK → Prop) : Prop :=
  ∀ (pins : List (Addr × Obj)) (s : Shared) (σ : St) (H : Hp) (x : V) (v : Value) (Q : VK), Inv X pins σ H s → RelV x v → r x H Q →
    wpAny (model X.prog X.w) X.A (f v) (EP X pins σ Q) X.xe s
noncomputable def CallR (X : Cx) (f : Value) (r : List V → Hp → VK → Prop) : Prop :=
  ∀ (pins : List (Addr × Obj)) (s : Shared) (σ : St) (H : Hp) (xs : List V) (us : List Value) (Q : VK), Inv X pins σ H s → Vals xs us → r xs H Q →
    wpAny (model X.prog X.w) X.A (call f us) (EP X pins σ Q) X.xe s
noncomputable def tOp (r : R2) (ta tb : TE) : TE := fun σ H Q => ta σ H fun x H1 => tb σ H1 fun y H2 => r x y H2 Q
noncomputable def tUn (r : V → Hp → VK → Prop) (ta : TE) : TE := fun σ H Q => ta σ H fun x H1 => r x H1 Q
noncomputable def rI (C : Int → Int → Prop) (g : Int → Int → V) : R2 := fun x y H Q => ∃ i j, x = .int i ∧ y = .int j ∧ C i j ∧ Q (g i j) H
noncomputable def rI0 (g : Int → Int → V) : R2 := fun x y H Q => ∃ i j, x = .int i ∧ y = .int j ∧ Q (g i j) H
noncomputable def rU (g : Int → V) : V → Hp → VK → Prop := fun x H Q => ∃ i, x = .int i ∧ Q (g i) H
section
variable {X : Cx} {a b c : Expr} {ta tb tc : TE} {pos : Pos}
theorem binT (ha : PE X a ta) (hb : PE X b tb) {pins : List (Addr × Obj)} {s : Shared} {σ : St} {H : Hp} {R : V → V → Hp → Prop} (I : Inv X pins σ H s)
    (h : ta σ H fun x H1 => tb σ H1 fun y H2 => R x y H2) {Q : Value → Shared → Prop} {f : Value → Value → Sem Value}
    (hf : ∀ v u s2 x y H2, Inv X pins σ H2 s2 → RelV x v → RelV y u → R x y H2 → wpAny (model X.prog X.w) X.A (f v u) Q X.xe s2) :
    wpAny (model X.prog X.w) X.A (eval a X.env) (fun v s₁ => wpAny (model X.prog X.w) X.A (eval b X.env) (fun u s₂ => wpAny (model X.prog X.w) X.A (f v u) Q X.xe s₂) X.xe s₁) X.xe s := by
  refine thn (ha pins s σ H _ I h) fun v s1 zz0 => ?_
  obtain ⟨x, H1, I1, r1, q1⟩ := zz0
  refine thn (hb pins s1 σ H1 _ I1 q1) fun u s2 zz0 => ?_
  obtain ⟨y, H2, I2, r2, q2⟩ := zz0
  exact hf v u s2 x y H2 I2 r1 r2 q2
theorem pe_op {op : Operator} {r : R2} (ho : OpR X (binaryOp op) r) (ha : PE X a ta) (hb : PE X b tb) : PE X (.BinOp a op b pos) (tOp r ta tb) := by
  intro pins s σ H Q I h
  exact wpAny_BinOp (binT ha hb I h fun v u s2 x y H2 I2 rx ry q => ho pins s2 σ H2 x y v u Q I2 rx ry q)
theorem pe_un {op : UnaryOp} {r : V → Hp → VK → Prop} (ho : UnR X (unaryOp op) r) (ha : PE X a ta) : PE X (.UnaryOp op a pos) (tUn r ta) := by
  intro pins s σ H Q I h
  exact UnaryOp_ (thn (ha pins s σ H _ I h) fun v s1 zz => by obtain ⟨x, H1, I1, r1, q1⟩ := zz; exact ho pins s1 σ H1 x v Q I1 r1 q1)
theorem opI {f : Value → Value → Sem Value} {C : Int → Int → Prop} {g : Int → Int → Int}
    (rule : ∀ (i j : Int) (t u : Tok) (s : Shared) (Q : Value → Shared → Prop) (E : Value → Shared → Prop), C i j → Q (.int (g i j) s.toks) { s with toks := s.toks + 1 } → wpAny (model X.prog X.w) X.A (f (.int i t) (.int j u)) Q E s) :
    OpR X f (rI C fun i j => .int (g i j)) := by
  intro pins s σ H x y v u Q I rx ry h
  obtain ⟨i, j, rfl, rfl, hc, q⟩ := h
  obtain ⟨t, rfl⟩ := rx
  obtain ⟨t', rfl⟩ := ry
  exact rule i j t t' s _ _ hc ⟨.int (g i j), H, I.tok _, ⟨_, rfl⟩, q⟩
theorem opI0 {f : Value → Value → Sem Value} {g : Int → Int → Int}
    (rule : ∀ (i j : Int) (t u : Tok) (s : Shared) (Q : Value → Shared → Prop) (E : Value → Shared → Prop), Q (.int (g i j) s.toks) { s with toks := s.toks + 1 } → wpAny (model X.prog X.w) X.A (f (.int i t) (.int j u)) Q E s) :
    OpR X f (rI0 fun i j => .int (g i j)) := by
  intro pins s σ H x y v u Q I rx ry h
  obtain ⟨i, j, rfl, rfl, q⟩ := h
  obtain ⟨t, rfl⟩ := rx
  obtain ⟨t', rfl⟩ := ry
  exact rule i j t t' s _ _ ⟨.int (g i j), H, I.tok _, ⟨_, rfl⟩, q⟩
theorem opB0 {f : Value → Value → Sem Value} {g : Int → Int → Bool}
    (rule : ∀ (i j : Int) (t u : Tok) (s : Shared) (Q : Value → Shared → Prop) (E : Value → Shared → Prop), Q (.bool (g i j)) s → wpAny (model X.prog X.w) X.A (f (.int i t) (.int j u)) Q E s) :
    OpR X f (rI0 fun i j => .bl (g i j)) := by
  intro pins s σ H x y v u Q I rx ry h
  obtain ⟨i, j, rfl, rfl, q⟩ := h
  obtain ⟨t, rfl⟩ := rx
  obtain ⟨t', rfl⟩ := ry
  exact rule i j t t' s _ _ ⟨.bl (g i j), H, I, rfl, q⟩
noncomputable def CDiv (i j : Int) : Prop := 0 < j ∧ j < 1073741824
noncomputable def CMul (i j : Int) : Prop := (-(2 ^ 64) < i ∧ i < 2 ^ 64) ∨ (-(2 ^ 64) < j ∧ j < 2 ^ 64)
theorem CMul.ok {i j : Int} (h : CMul i j) : IntMulOk i j := by
  rcases h with ⟨h1, h2⟩ | ⟨h1, h2⟩
  · exact .of_left (intBits_le_64 h1 h2)
  · exact .of_right (intBits_le_64 h1 h2)
theorem op_add : OpR X (binaryOp .Add) (rI0 fun i j => .int (i + j)) := opI0 fun _ _ _ _ _ _ _ q => add_int q
theorem op_sub : OpR X (binaryOp .Sub) (rI0 fun i j => .int (i - j)) := opI0 fun _ _ _ _ _ _ _ q => sub_int q
theorem op_mul : OpR X (binaryOp .Mult) (rI CMul fun i j => .int (i * j)) := opI fun _ _ _ _ _ _ _ hc q => mul_int q hc.ok
theorem op_fdiv : OpR X (binaryOp .FloorDiv) (rI CDiv fun i j => .int (i / j)) := opI fun i j _ _ _ _ _ hc q => by
  have h1 : (0 : Int) < j := hc.1
  have h2 : j < 1073741824 := hc.2
  exact floordiv_int (by (first | lia | omega)) (by rw [Int.fdiv_eq_ediv_of_nonneg i (by (first | lia | omega))]; exact q) (.inl (PyProof.noPylong_small (by (first | lia | omega))))
theorem op_mod : OpR X (binaryOp .Mod) (rI (fun _ j => 0 < j) fun i j => .int (i % j)) := opI fun i j _ _ _ _ _ hc q => by
  have h1 : (0 : Int) < j := hc
  exact mod_int' (by (first | lia | omega)) (by rw [Int.fmod_eq_emod_of_nonneg i (by (first | lia | omega))]; exact q)
theorem unI {f : Value → Sem Value} {g : Int → Int}
    (rule : ∀ (i : Int) (t : Tok) (s : Shared) (Q : Value → Shared → Prop) (E : Value → Shared → Prop), Q (.int (g i) s.toks) { s with toks := s.toks + 1 } → wpAny (model X.prog X.w) X.A (f (.int i t)) Q E s) :
    UnR X f (rU fun i => .int (g i)) := by
  intro pins s σ H x v Q I rx h
  obtain ⟨i, rfl, q⟩ := h
  obtain ⟨t, rfl⟩ := rx
  exact rule i t s _ _ ⟨.int (g i), H, I.tok _, ⟨_, rfl⟩, q⟩
theorem un_neg : UnR X (unaryOp .USub) (rU fun i => .int (-i)) := unI fun _ _ _ _ _ q => neg_int q
end
noncomputable def scal : V → V → Bool
  | .non, .non => true | .non, .int _ => true | .int _, .non => true | .non, .bl _ => true | .bl _, .non => true | .non, .str _ => true | .str _, .non => true
  | .int _, .int _ => true | .bl _, .bl _ => true | .str _, .str _ => true | .byt _, .byt _ => true
  | .int _, .str _ => true | .str _, .int _ => true | .bl _, .str _ => true | .str _, .bl _ => true
  | _, _ => false
noncomputable def rEq : R2 := fun x y H Q => scal x y = true ∧ Q (.bl (decide (x = y))) H
noncomputable def rNe : R2 := fun x y H Q => scal x y = true ∧ Q (.bl (!decide (x = y))) H
theorem dec_int {i j : Int} : decide (V.int i = V.int j) = (i == j) := by
  rw [Bool.eq_iff_iff]
  simp
theorem dec_bl {i j : Bool} : decide (V.bl i = V.bl j) = (i == j) := by
  rw [Bool.eq_iff_iff]
  simp
theorem dec_str {i j : Str} : decide (V.str i = V.str j) = (i == j) := by
  rw [Bool.eq_iff_iff]
  simp
theorem dec_byt {i j : Array UInt8} : decide (V.byt i = V.byt j) = (i.toList == j.toList) := by
  rw [Bool.eq_iff_iff]
  cases i
  cases j
  simp
section
variable {X : Cx} {a b c : Expr} {ta tb tc : TE} {pos : Pos}
theorem fin_bl {pins : List (Addr × Obj)} {σ : St} {H : Hp} {s : Shared} {Q : VK} {k k' : Bool} (I : Inv X pins σ H s) (q : Q (.bl k) H) (e : k = k') : EP X pins σ Q (.bool k') s := by
  subst e
  exact ⟨.bl k, H, I, rfl, q⟩
theorem op_eq : OpR X (compareOp .Eq) rEq := by
  intro pins s σ H x y v u Q I rx ry h
  obtain ⟨hs, q⟩ := h
  cases x with
  | non =>
    cases rx
    cases y with
    | non => cases ry; exact PySem.EqNone.eq_none_none (fin_bl I q (by simp))
    | bl j => cases ry; exact PySem.EqNone.eq_none_bool (fin_bl I q (by simp))
    | int j => obtain ⟨t', rfl⟩ := ry; exact PySem.EqNone.eq_none_int (fin_bl I q (by simp))
    | str j => obtain ⟨t', rfl⟩ := ry; exact PySem.EqNone.eq_none_str (fin_bl I q (by simp))
    | _ => exact absurd (show false = true from hs) Bool.false_ne_true
  | bl i =>
    cases rx
    cases y with
    | non => cases ry; exact PySem.EqNone.eq_bool_none (fin_bl I q (by simp))
    | bl j => cases ry; exact eq_bool (fin_bl I q dec_bl)
    | str j => obtain ⟨t', rfl⟩ := ry; exact PySem.EqMixed.eq_bool_str (fin_bl I q (by simp))
    | _ => exact absurd (show false = true from hs) Bool.false_ne_true
  | int i =>
    obtain ⟨t, rfl⟩ := rx
    cases y with
    | non => cases ry; exact PySem.EqNone.eq_int_none (fin_bl I q (by simp))
    | int j => obtain ⟨t', rfl⟩ := ry; exact eq_int (fin_bl I q dec_int)
    | str j => obtain ⟨t', rfl⟩ := ry; exact PySem.EqMixed.eq_int_str (fin_bl I q (by simp))
    | _ => exact absurd (show false = true from hs) Bool.false_ne_true
  | str i =>
    obtain ⟨t, rfl⟩ := rx
    cases y with
    | non => cases ry; exact PySem.EqNone.eq_str_none (fin_bl I q (by simp))
    | bl j => cases ry; exact PySem.EqMixed.eq_str_bool (fin_bl I q (by simp))
    | int j => obtain ⟨t', rfl⟩ := ry; exact PySem.EqMixed.eq_str_int (fin_bl I q (by simp))
    | str j => obtain ⟨t', rfl⟩ := ry; exact eq_str (fin_bl I q dec_str)
    | _ => exact absurd (show false = true from hs) Bool.false_ne_true
  | byt i =>
    obtain ⟨t, rfl⟩ := rx
    cases y with
    | byt j => obtain ⟨t', rfl⟩ := ry; exact PySem.W.eq_bytes (fin_bl I q dec_byt)
    | _ => exact absurd (show false = true from hs) Bool.false_ne_true
  | _ => cases y <;> exact absurd (show false = true from hs) Bool.false_ne_true
theorem op_ne : OpR X (compareOp .NotEq) rNe := by
  intro pins s σ H x y v u Q I rx ry h
  obtain ⟨hs, q⟩ := h
  cases x with
  | non =>
    cases rx
    cases y with
    | non => cases ry; exact PySem.EqNone.ne_none_none (fin_bl I q (by simp))
    | bl j => cases ry; exact PySem.EqNone.ne_none_bool (fin_bl I q (by simp))
    | int j => obtain ⟨t', rfl⟩ := ry; exact PySem.EqNone.ne_none_int (fin_bl I q (by simp))
    | str j => obtain ⟨t', rfl⟩ := ry; exact PySem.EqNone.ne_none_str (fin_bl I q (by simp))
    | _ => exact absurd (show false = true from hs) Bool.false_ne_true
  | bl i =>
    cases rx
    cases y with
    | non => cases ry; exact PySem.EqNone.ne_bool_none (fin_bl I q (by simp))
    | bl j => cases ry; exact ne_bool (fin_bl I q (congrArg not dec_bl))
    | str j => obtain ⟨t', rfl⟩ := ry; exact PySem.EqMixed.ne_bool_str (fin_bl I q (by simp))
    | _ => exact absurd (show false = true from hs) Bool.false_ne_true
  | int i =>
    obtain ⟨t, rfl⟩ := rx
    cases y with
    | non => cases ry; exact PySem.EqNone.ne_int_none (fin_bl I q (by simp))
    | int j => obtain ⟨t', rfl⟩ := ry; exact ne_int (fin_bl I q (congrArg not dec_int))
    | str j => obtain ⟨t', rfl⟩ := ry; exact PySem.EqMixed.ne_int_str (fin_bl I q (by simp))
    | _ => exact absurd (show false = true from hs) Bool.false_ne_true
  | str i =>
    obtain ⟨t, rfl⟩ := rx
    cases y with
    | non => cases ry; exact PySem.EqNone.ne_str_none (fin_bl I q (by simp))
    | bl j => cases ry; exact PySem.EqMixed.ne_str_bool (fin_bl I q (by simp))
    | int j => obtain ⟨t', rfl⟩ := ry; exact PySem.EqMixed.ne_str_int (fin_bl I q (by simp))
    | str j => obtain ⟨t', rfl⟩ := ry; exact ne_str (fin_bl I q (congrArg not dec_str))
    | _ => exact absurd (show false = true from hs) Bool.false_ne_true
  | byt i =>
    obtain ⟨t, rfl⟩ := rx
    cases y with
    | byt j => obtain ⟨t', rfl⟩ := ry; exact PySem.W.ne_bytes (fin_bl I q (congrArg not dec_byt))
    | _ => exact absurd (show false = true from hs) Bool.false_ne_true
  | _ => cases y <;> exact absurd (show false = true from hs) Bool.false_ne_true
theorem op_lt : OpR X (compareOp .Lt) (rI0 fun i j => .bl (decide (i < j))) := opB0 fun _ _ _ _ _ _ _ q => lt_int q
theorem op_le : OpR X (compareOp .LtE) (rI0 fun i j => .bl (decide (i ≤ j))) := opB0 fun _ _ _ _ _ _ _ q => le_int q
theorem op_gt : OpR X (compareOp .Gt) (rI0 fun i j => .bl (decide (j < i))) := opB0 fun _ _ _ _ _ _ _ q => gt_int q
theorem op_in_str : OpR X (compareOp .In) (fun x y H Q => ∃ i j, x = .str i ∧ y = .str j ∧ Q (.bl (!(Builtin.Str.occurrences j i 0 j.length 1).isEmpty)) H) := by
  intro pins s σ H x y v u Q I rx ry h
  obtain ⟨i, j, rfl, rfl, q⟩ := h
  obtain ⟨t, rfl⟩ := rx
  obtain ⟨t', rfl⟩ := ry
  exact in_str (fin_bl I q rfl)
theorem nomark (b : Expr) {op : CmpOp} (h : op ≠ .In := by decide) (h2 : op ≠ .NotIn := by decide) : behindInMarks op b = false := by
  have e1 : (op == CmpOp.In) = false := by cases op <;> first | rfl | exact absurd rfl h
  have e2 : (op == CmpOp.NotIn) = false := by cases op <;> first | rfl | exact absurd rfl h2
  cases b <;> simp [behindInMarks, e1, e2]
theorem pe_cmpR {op : CmpOp} {r : R2} (ho : OpR X (compareOp op) r) (ha : PE X a ta) (hb : PE X b tb) (hm : behindInMarks op b = false) : PE X (.Compare a [op] [b] pos) (tOp r ta tb) := by
  intro pins s σ H Q I h
  exact wpAny_Compare1 (binT ha hb I h fun v u s2 x y H2 I2 rx ry q => ho pins s2 σ H2 x y v u Q I2 rx ry q) hm
noncomputable def tTest (t : TE) : TT := fun σ H Q => t σ H fun x H' => ∃ k, x = .bl k ∧ Q k H'
theorem pt_cmpR {op : CmpOp} {r : R2} (ho : OpR X (compareOp op) r) (ha : PE X a ta) (hb : PE X b tb) (hm : behindInMarks op b = false) : PT X (.Compare a [op] [b] pos) (tTest (tOp r ta tb)) := by
  intro pins s σ H Q I h
  refine wpAny_isTrue_Compare1 (thn (ha pins s σ H _ I h) fun v s1 ⟨x, H1, I1, r1, q1⟩ => thn (hb pins s1 σ H1 _ I1 q1) fun u s2 ⟨y, H2, I2, r2, q2⟩ =>
    thn (ho pins s2 σ H2 x y v u _ I2 r1 r2 q2) fun c s3 ⟨z, H3, I3, r3, k, e, q3⟩ => ?_) hm
  subst e
  cases r3
  exact wpAny_truthy_bool ⟨H3, I3, q3⟩
noncomputable def tChain (r r' : R2) (ta tb tc : TE) : TE := fun σ H Q => ta σ H fun x H1 => tb σ H1 fun y H2 => r x y H2 fun z H3 => ∃ k, z = .bl k ∧
  (if k = true then tc σ H3 fun w' H4 => r' y w' H4 Q else Q (.bl false) H3)
theorem pt_chain {op op' : CmpOp} {r r' : R2} (ho : OpR X (compareOp op) r) (ho' : OpR X (compareOp op') r') (ha : PE X a ta) (hb : PE X b tb) (hc : PE X c tc)
    (hm : lastMarks [op, op'] [b, c] = false := by with_unfolding_all rfl) : PT X (.Compare a [op, op'] [b, c] pos) (tTest (tChain r r' ta tb tc)) := by
  intro pins s σ H Q I h
  refine isTrue_chain (thn (ha pins s σ H _ I h) fun v s1 ⟨x, H1, I1, r1, q1⟩ => test_link (thn (hb pins s1 σ H1 _ I1 q1) fun u s2 ⟨y, H2, I2, r2, q2⟩ =>
    thn (ho pins s2 σ H2 x y v u _ I2 r1 r2 q2) fun d s3 ⟨z, H3, I3, r3, k, e, q3⟩ => ?_)) hm
  subst e
  cases r3
  refine wpAny_truthy_bool ?_
  cases k with
  | false =>
    obtain ⟨k', e', q'⟩ := q3
    cases e'
    exact ite_ff ⟨H3, I3, q'⟩
  | true =>
    refine ite_tt (test_last (thn (hc pins s3 σ H3 _ I3 q3) fun w' s4 ⟨z', H4, I4, r4, q4⟩ => thn (ho' pins s4 σ H4 y z' u w' _ I4 r2 r4 q4) fun d' s5 zz0 => ?_))
    obtain ⟨z2, H5, I5, r5, k2, e2, q5⟩ := zz0
    subst e2
    cases r5
    exact wpAny_truthy_bool ⟨H5, I5, q5⟩
theorem line63 : (sizeLine : Nat) < 2 ^ 63 := by rw [sizeLine_eq]; decide
theorem op_add_str : OpR X (binaryOp .Add) (fun x y H Q => ∃ i j, x = .str i ∧ y = .str j ∧ i.length + j.length ≤ sizeLine ∧ Q (.str (i ++ j)) H) := by
  intro pins s σ H x y v u Q I rx ry h
  obtain ⟨i, j, rfl, rfl, hz, q⟩ := h
  obtain ⟨t, rfl⟩ := rx
  obtain ⟨t', rfl⟩ := ry
  exact add_str (fun t' tk => ⟨.str (i ++ j), H, I.tok _, ⟨_, rfl⟩, q⟩) hz
theorem vals1 {x : V} {us : List Value} (r : Vals [x] us) : ∃ u, us = [u] ∧ RelV x u := by
  cases r with
  | cons r1 r2 => cases r2; exact ⟨_, rfl, r1⟩
theorem vals2 {x y : V} {us : List Value} (r : Vals [x, y] us) : ∃ u w', us = [u, w'] ∧ RelV x u ∧ RelV y w' := by
  cases r with
  | cons r1 r2 =>
    cases r2 with
    | cons r3 r4 => cases r4; exact ⟨_, _, rfl, r1, r3⟩
end
end L2
namespace L2
open PySem PySem.Spec PyProof.Rows
structure ObjM (h : Heap) (x dx C : Addr) (mA : Str → Option Value) : Prop where
  obj : h.get? x = some (PySem.W.instObj C dx)
  ns : h.Ns1 dx mA
  ne : dx ≠ x
theorem lookIn_ns {h : Heap} {dx : Addr} {mA : Str → Option Value} (n : h.Ns1 dx mA) : ∃ od, h.get? dx = some od ∧ ∀ name, PySem.W.lookIn name od = some (mA name) := by
  obtain ⟨o, es, ep, ho, hd, hk, _, hm⟩ := n
  refine ⟨o, ho, fun name => ?_⟩
  have e := hm name
  unfold nsFind findBy at e
  rw [← Array.find?_toList] at e
  unfold PySem.W.lookIn
  rw [hd]
  dsimp only
  split
  · rename_i y q
    rw [q] at e
    exact congrArg some e
  · rename_i q
    rw [q] at e
    have a : es.toList.any (·.refKey) = false := by
      rw [List.any_eq_false]
      intro y hy
      obtain ⟨z, t, hkey⟩ := hk y (Array.mem_toList_iff.mp hy)
      simp [DictEntry.refKey, hkey]
    have a' : ¬ es.toList.any (·.refKey) = true := by rw [a]; exact Bool.false_ne_true
    rw [if_neg a']
    exact congrArg some e
theorem ObjM.look {h : Heap} {x dx C : Addr} {mA : Str → Option Value} (I : ObjM h x dx C mA) : ∃ od, PySem.W.InstAt h x (PySem.W.instObj C dx) C (some od) ∧ ∀ name, PySem.W.lookIn name od = some (mA name) :=
  let ⟨od, ho, hl⟩ := lookIn_ns I.ns
  ⟨od, ⟨I.obj, rfl, rfl, ho⟩, hl⟩
section
variable {prog : Program} {w : World} {A : Around} {E : Value → Shared → Prop} {s : Shared} {K : PySem.W.Frag} {x dx C f : Addr} {mA : Str → Option Value} {name : Str} {v : Value}
theorem get_map {expr : Bool} {Q : Value → Shared → Prop} (X : K.In s.heap) (I : ObjM s.heap x dx C mA) (hg : PySem.W.plainGet K C name = true) (hh : PySem.W.hasDictIn K C = true)
    (ha : PySem.W.findIn K (.ref C) name = some none) (hv : mA name = some v) (hv' : PySem.W.handedIn v = true) (h : Q v { s with toks := s.toks + 1 }) :
    wpAny (model prog w) A (getAttr (.ref x) name expr) Q E s := by
  obtain ⟨od, J, hl⟩ := I.look
  exact PySem.W.get_value X J (PySem.W.plainGet_of hg).1 (PySem.W.findObj_own hh ha rfl (by rw [hl, hv])) hv' h
theorem set_map {ns : List Str} {Q : Unit → Shared → Prop} (X : K.In s.heap) (I : ObjM s.heap x dx C mA)
    (hs : PySem.W.findIn K (.ref C) "__setattr__" = some (some (.builtin "object.__setattr__"))) (hp : PySem.W.plainOver K C = true) (ht : PySem.W.takerIn K C name = some none) (hh : PySem.W.hasDictIn K C = true)
    (hw : PySem.Within mA ns) (hsz : ns.length ≤ sizeLine)
    (h : ∀ h', ObjM h' x dx C (fun y => if y = name then some v else mA y) → Heap.SameBut dx s.heap h' → Q () { s with heap := h', toks := s.toks + 2 }) :
    wpAny (model prog w) A (setAttr (.ref x) name v) Q E s := by
  obtain ⟨od, J, hl⟩ := I.look
  refine PySem.W.set_plain X J hs (PySem.W.osa_open (s := { s with toks := s.toks + 1 }) (r := none) X J hp ht fun b => ?_)
  obtain ⟨cd, hc, hd'⟩ := PySem.W.any_some hh
  have hx : s.heap.get? x = some ⟨.ref C, some dx, .plain, #[]⟩ := I.obj
  refine wpAny_bind (wpAny_pure (wpAny_bind (wpAny_bind (wpAny_loadPart hx (wpAny_bind (PySem.W.Looks.here (s := { s with toks := s.toks + 1 }) (PySem.W.looks_clsIn X hc) ?_))))))
  rw [hd']
  refine wpAny_pure (a := some dx) (wpAny_bind (wpAny_pure (wpAny_bind ?_)))
  refine wpAny_nsSet1 (s := { s with toks := s.toks + 1 }) I.ns fun h' hn2 hs2 => ?_
  obtain ⟨oD, esD, epD, hoD, hdD, hcD⟩ := hn2.count (PySem.Within.cons name v hw)
  refine wpAny_bind (wpAny_lookBehind hoD (by rw [hdD]; exact pastItsLine_dict (Nat.le_trans hcD (by rw [List.length_cons]; (first | lia | omega)))) ?_)
  exact wpAny_pure (h _ ⟨(hs2.2 _ (Ne.symm I.ne)).trans I.obj, hn2, I.ne⟩ hs2)
theorem make_map {R : Result → Shared → Prop} {vs : List Value} {kw : List (Str × Value)} (X : K.In s.heap) (hm : PySem.W.makesIn K C = true)
    (hi : PySem.W.findIn K (.ref C) "__init__" = some (some (.ref f))) (hf : PySem.W.typeIn K (.ref f) = some (.type "function"))
    (h : codeAny (model prog w) (A.under (.builtin "type.__call__" ⟨.ref C :: vs, kw⟩)) (.call (.ref f) ⟨.ref (s.heap.objs.size + 1) :: vs, kw⟩) (PySem.W.InitBack (s.heap.objs.size + 1) R)
      { s with heap := (s.heap.push PySem.W.emptyDict).push (PySem.W.instObj C s.heap.objs.size) }) :
    codeAny (model prog w) A (.call (.ref C) ⟨vs, kw⟩) R s := by
  obtain ⟨hh, g, d, t, os⟩ := s
  exact PySem.W.make_core (PySem.W.makes_of X hm) (PySem.W.looks_findIn X hi) (fun self => PySem.W.bind_fn X self hf) (.inl rfl) h
end
noncomputable def putF (f : Str) (v : V) : List (Str × V) → List (Str × V)
  | [] => [(f, v)]
  | (g, x) :: r => if g = f then (g, v) :: r else (g, x) :: putF f v r
theorem lookup_putF (f g : Str) (v : V) : ∀ fs : List (Str × V), (putF f v fs).lookup g = if g = f then some v else fs.lookup g
  | [] => by
    show List.lookup g [(f, v)] = _
    by_cases h : g = f
    · have hb : (g == f) = true := beq_iff_eq.mpr h
      simp only [List.lookup, hb, if_pos h]
    · have hb : (g == f) = false := beq_eq_false_iff_ne.mpr h
      simp only [List.lookup, hb, if_neg h]
  | (k, x) :: r => by
    have ih := lookup_putF f g v r
    rw [show putF f v ((k, x) :: r) = (if k = f then (k, v) :: r else (k, x) :: putF f v r) from rfl]
    by_cases hk : k = f
    · rw [if_pos hk]
      by_cases h : g = k
      · have hb : (g == k) = true := beq_iff_eq.mpr h
        simp only [List.lookup, hb, if_pos (h.trans hk)]
      · have hb : (g == k) = false := beq_eq_false_iff_ne.mpr h
        simp only [List.lookup, hb, if_neg (fun e : g = f => h (e.trans hk.symm))]
    · rw [if_neg hk]
      by_cases h : g = k
      · have hb : (g == k) = true := beq_iff_eq.mpr h
        simp only [List.lookup, hb, if_neg (fun e : g = f => hk (h.symm.trans e))]
      · have hb : (g == k) = false := beq_eq_false_iff_ne.mpr h
        simp only [List.lookup, hb]
        exact ih
theorem keys_putF (f : Str) (v : V) : ∀ fs : List (Str × V), f ∈ (putF f v fs).map (·.1) ∧ ∀ g, g ∈ fs.map (·.1) → g ∈ (putF f v fs).map (·.1)
  | [] => ⟨by simp [putF], fun g h => by simp at h⟩
  | (k, x) :: r => by
    obtain ⟨i1, i2⟩ := keys_putF f v r
    rw [show putF f v ((k, x) :: r) = (if k = f then (k, v) :: r else (k, x) :: putF f v r) from rfl]
    by_cases hk : k = f
    · rw [if_pos hk]
      subst hk
      exact ⟨by simp, fun g h => by simpa using h⟩
    · rw [if_neg hk]
      refine ⟨?_, fun g h => ?_⟩
      · rw [List.map_cons]
        exact List.mem_cons_of_mem _ i1
      · rw [List.map_cons] at h ⊢
        rcases List.mem_cons.mp h with e | e
        · exact List.mem_cons.mpr (.inl e)
        · exact List.mem_cons_of_mem _ (i2 g e)
theorem length_putF (f : Str) (v : V) : ∀ fs : List (Str × V), (putF f v fs).length ≤ fs.length + 1
  | [] => by simp [putF]
  | (k, x) :: r => by
    have ih := length_putF f v r
    rw [show putF f v ((k, x) :: r) = (if k = f then (k, v) :: r else (k, x) :: putF f v r) from rfl]
    by_cases hk : k = f
    · rw [if_pos hk, List.length_cons, List.length_cons]; (first | lia | omega)
    · rw [if_neg hk, List.length_cons, List.length_cons]; (first | lia | omega)
theorem RelO.some_of {v : V} {o : Option Value} (r : RelO (some v) o) : ∃ u, o = some u ∧ RelV v u := by
  cases o with
  | none => exact (show False from r).elim
  | some u => exact ⟨u, rfl, r⟩
theorem handed_of {v : V} {u : Value} (r : RelV v u) : PySem.W.handedIn u = true := by
  cases v with
  | non => cases (show u = Value.none from r); rfl
  | bl b => cases (show u = Value.bool b from r); rfl
  | int i => obtain ⟨t, e⟩ := (show ∃ t, u = Value.int i t from r); cases e; rfl
  | str x => obtain ⟨t, e⟩ := (show ∃ t, u = Value.str x t from r); cases e; rfl
  | byt b => obtain ⟨t, e⟩ := (show ∃ t, u = Value.bytes b t from r); cases e; rfl
  | flt b => obtain ⟨t, e⟩ := (show ∃ t, u = Value.float b t from r); cases e; rfl
  | ref a => cases (show u = Value.ref a from r); rfl
  | ty n => cases (show u = Value.type n from r); rfl
section
variable {P : Program} {w : World} {H H' : Hp} {h h' : Heap} {a C dx : Addr} {fs fs' : List (Str × V)}
theorem ins_get (hok : HOk P w H h) (e : H a = some (.ins C dx fs)) : ∃ mA, ObjM h a dx C mA ∧ (∀ f, RelO (fs.lookup f) (mA f)) ∧ PySem.Within mA (fs.map (·.1)) ∧ fs.length ≤ 1000 ∧ H dx = some (.own a) := by
  obtain ⟨d, z, ne, ob, mA, n, r, q⟩ := (show ObjOk P w H h a (.ins C dx fs) from hok a _ e)
  exact ⟨mA, ⟨ob, n, ne⟩, r, q, z, d⟩
end
structure Cls (K : PySem.W.Frag) (C : Addr) : Prop where
  pg : PySem.W.plainGet K C Str.empty = true
  hd : PySem.W.hasDictIn K C = true
  po : PySem.W.plainOver K C = true
  sa : PySem.W.findIn K (.ref C) "__setattr__" = some (some (.builtin "object.__setattr__"))
theorem Cls.get {K : PySem.W.Frag} {C : Addr} (c : Cls K C) (f : Str) : PySem.W.plainGet K C f = true := c.pg
noncomputable def NoAttr (K : PySem.W.Frag) (C : Addr) (f : Str) : Prop := PySem.W.findIn K (.ref C) f = some none
theorem NoAttr.taker {K : PySem.W.Frag} {C : Addr} {f : Str} (n : NoAttr K C f) : PySem.W.takerIn K C f = some none := by
  unfold PySem.W.takerIn
  rw [show PySem.W.findIn K (.ref C) f = some none from n]
  rfl
structure Meth (K : PySem.W.Frag) (C : Addr) (m : Str) (f : Addr) : Prop where
  at_ : PySem.W.findIn K (.ref C) m = some (some (.ref f))
  fn : PySem.W.isFn K (.ref f) = true
  kp : PySem.W.keepIn K (.ref f) = true
section
variable {X : Cx} {pins : List (Addr × Obj)} {σ : St} {H : Hp} {s : Shared} {a C dx : Addr} {fs : List (Str × V)} {f : Str} {v : V} {A : Around} {E : Value → Shared → Prop}
theorem getattr_ok {b : Bool} {Q : Value → Shared → Prop} (I : Inv X pins σ H s) (e : H a = some (.ins C dx fs)) (c : Cls X.K C) (n : NoAttr X.K C f) (l : fs.lookup f = some v)
    (h : ∀ u s', Inv X pins σ H s' → RelV v u → Q u s') : wpAny (model X.prog X.w) A (getAttr (.ref a) f b) Q E s := by
  obtain ⟨mA, O, r, _, _, _⟩ := ins_get I.hok e
  obtain ⟨u, hu, ru⟩ := RelO.some_of (v := v) (o := mA f) (by rw [← l]; exact r f)
  exact get_map I.kIn O (c.get f) c.hd n hu (handed_of ru) (h u _ (I.tok _) ru)
theorem setattr_ok {y : V} {u : Value} {Q : Unit → Shared → Prop} (I : Inv X pins σ H s) (e : H a = some (.ins C dx fs)) (c : Cls X.K C) (n : NoAttr X.K C f) (hl : fs.length < 1000) (ry : RelV y u)
    (h : ∀ s', Inv X pins σ (upd H a (.ins C dx (putF f y fs))) s' → Q () s') : wpAny (model X.prog X.w) A (setAttr (.ref a) f u) Q E s := by
  obtain ⟨mA, O, r, wi, _, ho⟩ := ins_get I.hok e
  have hz : (fs.map (·.1)).length ≤ sizeLine := by rw [List.length_map, sizeLine_eq]; (first | lia | omega)
  refine set_map I.kIn O c.sa c.po n.taker c.hd wi hz fun h' O' sb => h _ ?_
  have hd : ∃ o, h'.get? dx = some o := let ⟨o, _, _, e', _⟩ := O'.ns; ⟨o, e'⟩
  refine I.write (x := a) (e := dx) (by rw [e]; exact True.intro) (.inr ho) (fun b q hb z => (sb.2 b hb).trans z) hd ?_
  refine ⟨by rw [upd_ne O.ne]; exact ho, ?_, O.ne, O'.obj, _, O'.ns, fun g => ?_, fun g hg => ?_⟩
  · have := length_putF f y fs; (first | lia | omega)
  · show RelO ((putF f y fs).lookup g) (if g = f then some u else mA g)
    rw [lookup_putF]
    by_cases q : g = f
    · rw [if_pos q, if_pos q]; exact ry
    · rw [if_neg q, if_neg q]; exact r g
  · by_cases q : g = f
    · rw [q]; exact (keys_putF f y fs).1
    · refine (keys_putF f y fs).2 g (wi g fun z => hg ?_)
      show (if g = f then some u else mA g) = none
      rw [if_neg q]; exact z
theorem Inv.made (I : Inv X pins σ H s) : Inv X pins σ (upd (upd H s.heap.objs.size (.own (s.heap.objs.size + 1))) (s.heap.objs.size + 1) (.ins C s.heap.objs.size []))
    { s with heap := (s.heap.push PySem.W.emptyDict).push (PySem.W.instObj C s.heap.objs.size) } := by
  have e1 : (s.heap.push PySem.W.emptyDict).get? s.heap.objs.size = some PySem.W.emptyDict := Heap.get?_push_size s.heap rfl
  have e2 : ((s.heap.push PySem.W.emptyDict).push (PySem.W.instObj C s.heap.objs.size)).get? (s.heap.objs.size + 1) = some (PySem.W.instObj C s.heap.objs.size) := by
    have := Heap.get?_push_size (s.heap.push PySem.W.emptyDict) (o := PySem.W.instObj C s.heap.objs.size) rfl
    rwa [Heap.size_push] at this
  have e3 : (s.heap.push PySem.W.emptyDict).Ns s.heap.objs.size (fun _ => none) := ⟨PySem.W.emptyDict, #[], _, e1, rfl, (fun e he => absurd he (by simp)), fun _ => rfl⟩
  have I1 := I.laid (a := s.heap.objs.size) (o := .own (s.heap.objs.size + 1)) (h' := s.heap.push PySem.W.emptyDict) (t' := s.toks) (fun b u q => Heap.get?_push_of_some _ q) (Nat.le_refl _) ⟨_, e1⟩
  refine I1.laid (a := s.heap.objs.size + 1) (o := .ins C s.heap.objs.size []) (t' := s.toks) (fun b u q => Heap.get?_push_of_some _ q) (Nat.le_of_eq (Heap.size_push _ _)) ?_
  have ne : s.heap.objs.size ≠ s.heap.objs.size + 1 := Nat.ne_of_lt (Nat.lt_succ_self _)
  refine ⟨by rw [upd_ne ne, upd_same], Nat.zero_le _, ne, e2, fun _ => none, (Heap.Ns1.of_empty e3).at fun o q => Heap.get?_push_of_some _ q, fun _ => True.intro, fun y hy => absurd rfl hy⟩
theorem attr_of {prog : Program} {w : World} {env : Env} {e : Expr} {f : Str} {pos : Pos} {s : Shared} {Q : Value → Shared → Prop} (hb : attributeBase e f env (eval e env) = eval e env)
    (h : wpAny (model prog w) A (eval e env) (fun o s₁ => wpAny (model prog w) A (getAttr o f true) Q E s₁) E s) : wpAny (model prog w) A (eval (.Attribute e f pos) env) Q E s :=
  Attribute_any_ h (by rw [arm_eval_Attribute, hb])
end
noncomputable def tFld (K : PySem.W.Frag) (ta : TE) (f : Str) : TE := fun σ H Q => ta σ H fun x H1 => ∃ a C dx fs v, x = .ref a ∧ H1 a = some (.ins C dx fs) ∧ Cls K C ∧ NoAttr K C f ∧ fs.lookup f = some v ∧ Q v H1
noncomputable def sFld (K : PySem.W.Frag) (ta tv : TE) (f : Str) : TS := fun D σ H => tv σ H fun y H1 => ta σ H1 fun x H2 => ∃ a C dx fs, x = .ref a ∧ H2 a = some (.ins C dx fs) ∧ Cls K C ∧ NoAttr K C f ∧ fs.length < 1000 ∧
  D.nx σ (upd H2 a (.ins C dx (putF f y fs)))
section
variable {X : Cx} {o e value : Expr} {f : Str} {pos pos' tpos : Pos} {ta tv : TE}
theorem pe_fld (he : PE X e ta) (hb : attributeBase e f X.env (eval e X.env) = eval e X.env) : PE X (.Attribute e f pos) (tFld X.K ta f) := by
  intro pins s σ H Q I h
  refine attr_of hb (thn (he pins s σ H _ I h) fun u s1 zz0 => ?_)
  obtain ⟨x, H1, I1, rx, a, C, dx, fs, v, ex, ea, c, n, l, q⟩ := zz0
  subst ex
  obtain rfl : u = Value.ref a := rx
  exact getattr_ok I1 ea c n l fun u' s2 I2 ru => ⟨v, H1, I2, ru, q⟩
theorem ps_fld (ha : PE X o ta) (hv : PE X value tv) (hs : swapsWith value (some (.Attribute o f pos')) pos.line X.env = pure false) : PS X (.Assign [.Attribute o f pos'] value pos) (sFld X.K ta tv f) := by
  intro pins s σ H D I h
  refine plainObj_wpAny_Assign_Attribute (thn (hv pins s σ H _ I h) fun u s1 ⟨y, H1, I1, ry, q⟩ => thn (ha pins s1 σ H1 _ I1 q) fun ov s2 zz0 => ?_) hs
  obtain ⟨x, H2, I2, rx, a, C, dx, fs, ex, ea, c, n, l, q2⟩ := zz0
  subst ex
  obtain rfl : ov = Value.ref a := rx
  exact setattr_ok I2 ea c n l ry fun s3 I3 => ⟨σ, _, I3, q2⟩
end
section
variable {X : Cx} {pins : List (Addr × Obj)} {σ : St} {H : Hp} {s : Shared} {A : Around} {E : Value → Shared → Prop} {Q : Value → Shared → Prop} {c : Value} {b : Bool}
inductive TyOf (K : PySem.W.Frag) (H : Hp) : V → Value → Prop where
  | non : TyOf K H .non (.type "NoneType")
  | bl (x : Bool) : TyOf K H (.bl x) (.type "bool")
  | int (i : Int) : TyOf K H (.int i) (.type "int")
  | str (x : Str) : TyOf K H (.str x) (.type "str")
  | flt (x : UInt64) : TyOf K H (.flt x) (.type "float")
  | lst {a : Addr} {xs : List V} (e : H a = some (.lst xs)) : TyOf K H (.ref a) (.type "list")
  | frz {a : Addr} {o : Obj} {xs : List V} (e : H a = some (.frz o (.lst xs))) : TyOf K H (.ref a) (.type "list")
  | tup {a : Addr} {xs : List V} (e : H a = some (.tup xs)) : TyOf K H (.ref a) (.type "tuple")
  | dK {a : Addr} {kvs : List (Key × V)} (e : H a = some (.dK kvs)) : TyOf K H (.ref a) (.type "dict")
  | dT {a : Addr} {kvs : List (List Key × V)} (e : H a = some (.dT kvs)) : TyOf K H (.ref a) (.type "dict")
  | ins {a C dx : Addr} {fs : List (Str × V)} (e : H a = some (.ins C dx fs)) (cl : Cls K C) (ha : PySem.W.findIn K (.ref C) "__class__" = some (some (.builtin "object.__class__")))
      (hn : PySem.W.specialIn K (.builtin "object.__class__") "__get__" = some (some (.builtin "getset_descriptor.__get__"))) (htk : PySem.W.takesIn K (.builtin "object.__class__") = some true)
      (hm : PySem.W.mroIn K C (.type "object") = some true) : TyOf K H (.ref a) (.ref C)
theorem isinst_ok {x : V} {u t : Value} (I : Inv X pins σ H s) (rx : RelV x u) (ty : TyOf X.K H x t) (e : PySem.W.kitOne X.K t c = some b) (h : ∀ tk, Q (.bool b) { s with toks := tk }) :
    wpAny (model X.prog X.w) A (call (.builtin "isinstance") [u, c]) Q E s := by
  cases ty with
  | non => cases (show u = Value.none from rx); exact PySem.W.kia_one PySem.W.kitx_none I.kIn True.intro e (fun z => nomatch z) h
  | bl y => cases (show u = Value.bool y from rx); exact PySem.W.kia_one PySem.W.kitx_bool I.kIn True.intro e (fun z => nomatch z) h
  | int i => obtain ⟨t, q⟩ := (show ∃ t, u = Value.int i t from rx); cases q; exact PySem.W.kia_one PySem.W.kitx_int I.kIn True.intro e (fun z => nomatch z) h
  | str y => obtain ⟨t, q⟩ := (show ∃ t, u = Value.str y t from rx); cases q; exact PySem.W.kia_one PySem.W.kitx_str I.kIn True.intro e (fun z => nomatch z) h
  | flt y => obtain ⟨t, q⟩ := (show ∃ t, u = Value.float y t from rx); cases q; exact PySem.W.kia_one PySem.W.kitx_float I.kIn True.intro e (fun z => nomatch z) h
  | @lst a xs ea =>
    cases (show u = Value.ref a from rx)
    obtain ⟨_, _, n, _, h1⟩ := (show ObjOk X.prog X.w H s.heap a (.lst xs) from I.hok a _ ea)
    exact PySem.W.kia_one PySem.W.kitx_list I.kIn ⟨_, h1, rfl⟩ e (fun z => nomatch z) h
  | @frz a ob xs ea =>
    cases (show u = Value.ref a from rx)
    obtain ⟨_, _, _, n, _, h1⟩ := (show ObjOk X.prog X.w H s.heap a (.frz ob (.lst xs)) from I.hok a _ ea)
    exact PySem.W.kia_one PySem.W.kitx_list I.kIn ⟨_, h1, rfl⟩ e (fun z => nomatch z) h
  | @tup a xs ea =>
    cases (show u = Value.ref a from rx)
    obtain ⟨_, _, _, p⟩ := (show ObjOk X.prog X.w H s.heap a (.tup xs) from I.hok a _ ea)
    obtain ⟨o, h1, h2, _⟩ := p
    exact PySem.W.kia_one PySem.W.kitx_tuple I.kIn ⟨o, h1, h2⟩ e (fun z => nomatch z) h
  | @dK a kvs ea =>
    cases (show u = Value.ref a from rx)
    obtain ⟨_, _, vs, _, p⟩ := (show ObjOk X.prog X.w H s.heap a (.dK kvs) from I.hok a _ ea)
    obtain ⟨o, es, ep, h1, h2, _⟩ := p
    exact PySem.W.kia_one PySem.W.kitx_dict I.kIn ⟨o, h1, h2.1⟩ e (fun z => nomatch z) h
  | @dT a kvs ea =>
    cases (show u = Value.ref a from rx)
    obtain ⟨_, _, xs, _, o, es, ep, h1, h2, _⟩ := (show ObjOk X.prog X.w H s.heap a (.dT kvs) from I.hok a _ ea)
    exact PySem.W.kia_one PySem.W.kitx_dict I.kIn ⟨o, h1, h2.1⟩ e (fun z => nomatch z) h
  | @ins a C dx fs ea cl ha hn htk hm =>
    cases (show u = Value.ref a from rx)
    obtain ⟨mA, O, _⟩ := ins_get I.hok ea
    obtain ⟨od, J, _⟩ := O.look
    exact PySem.W.kia_one (PySem.W.kitx_own (cl.get _) cl.hd ha hn htk hm) I.kIn J e (fun z => nomatch z) h
end
end L2
namespace L2
open PySem PySem.Spec PyProof.Rows
structure Room (k : Nat) (A : Around) : Prop where
  hd : A.handled = none
  dp : A.depth + 3 * k + 5 < recursionLimit
  un : A.units + 16 * k + 200 < cLine
theorem Room.mono {j k : Nat} {A : Around} (r : Room k A) (h : j ≤ k) : Room j A := ⟨r.hd, by have := r.dp; (first | lia | omega), by have := r.un; (first | lia | omega)⟩
theorem Room.deeper {k : Nat} {A : Around} (r : Room (k + 1) A) (env : Env) : Room k (A.deeper env) :=
  ⟨r.hd, by have := r.dp; show A.depth + 1 + 3 * k + 5 < _; (first | lia | omega), by have := r.un; show A.units + 3 + 16 * k + 200 < _; (first | lia | omega)⟩
theorem make_depth {A : Around} {C : Addr} {us : List Value} {kw : List (Str × Value)} : (A.under (.builtin "type.__call__" ⟨.ref C :: us, kw⟩)).depth = A.depth + 1 := by
  first | rfl | simp [Around.under, Code.weight, Code.isCreation, Code.isGuard, Code.isCaller, Code.frames, Code.isFrame, guardIds]
theorem make_units {A : Around} {C : Addr} {us : List Value} {kw : List (Str × Value)} : (A.under (.builtin "type.__call__" ⟨.ref C :: us, kw⟩)).units = A.units + 1 := by
  first | rfl | simp [Around.under, Code.cUnits, Code.frames, Code.isFrame]
theorem Room.make {k : Nat} {A : Around} (r : Room (k + 1) A) (C : Addr) (us : List Value) (kw : List (Str × Value)) : Room k (A.under (.builtin "type.__call__" ⟨.ref C :: us, kw⟩)) :=
  ⟨r.hd, by have := r.dp; rw [make_depth]; (first | lia | omega), by have := r.un; rw [make_units]; (first | lia | omega)⟩
theorem Room.depth {k : Nat} {A : Around} (r : Room k A) : A.depth < recursionLimit := by have := r.dp; (first | lia | omega)
theorem Room.units {k : Nat} {A : Around} (r : Room k A) : A.units + 64 < cLine := by have := r.un; (first | lia | omega)
noncomputable def tNil : TA := fun _ H Q => Q [] H
noncomputable def tCons (ta : TE) (tr : TA) : TA := fun σ H Q => ta σ H fun x H1 => tr σ H1 fun xs H2 => Q (x :: xs) H2
section
variable {X : Cx} {e : Expr} {es : List Expr} {te : TE} {t : TA} {pos : Pos}
theorem pa_nil : PA X [] tNil := fun _ _ _ _ H Q I h => Calls.spliced_nil ⟨[], H, I, .nil, h⟩
theorem pa_cons (ha : PE X e te) (hr : PA X es t) (hs : starEach (e :: es) X.env = (false, eval e X.env) :: starEach es X.env := by rfl) : PA X (e :: es) (tCons te t) := by
  intro pos pins s σ H Q I h
  rw [hs]
  show wpAny _ _ (spliced ((false, eval e X.env) :: backTo pos (starEach es X.env))) _ _ s
  refine Calls.spliced_cons (thn (ha pins s σ H _ I h) fun u s1 zz0 => ?_)
  obtain ⟨x, H1, I1, r1, q1⟩ := zz0
  exact thn (hr pos pins s1 σ H1 _ I1 q1) fun us s2 ⟨xs, H2, I2, r2, q2⟩ => ⟨x :: xs, H2, I2, .cons r1 r2, q2⟩
noncomputable def tTup (t : TA) : TE := fun σ H Q => t σ H fun xs H1 => xs.length ≤ sizeLine ∧ ∀ p, H1 p = none → Q (.ref p) (upd H1 p (.tup xs))
noncomputable def tLst (t : TA) : TE := fun σ H Q => t σ H fun xs H1 => xs.length ≤ sizeLine ∧ ∀ p, H1 p = none → Q (.ref p) (upd H1 p (.lst xs))
theorem pe_tup {x1} (h : PA X es t) : PE X (.Tuple es x1 pos) (tTup t) := by
  intro pins s σ H Q I hq
  refine wpAny_Tuple_spliced (thn (h pos pins s σ H _ I hq) fun us s1 ⟨xs, H1, I1, r, z, q⟩ => ⟨by rw [← r.length]; exact z, ?_⟩)
  have hf : H1 s1.heap.objs.size = none := I1.hok.fresh (Nat.le_refl _)
  refine ⟨.ref s1.heap.objs.size, upd H1 s1.heap.objs.size (.tup xs), I1.laid (t' := s1.toks) (fun b u e => Heap.get?_push_of_some _ e) (Nat.le_refl _) ?_, rfl, q _ hf⟩
  exact ⟨z, us, r, ⟨_, Heap.get?_push_size _ rfl, rfl, _, rfl⟩⟩
theorem pe_lst (h : PA X es t) : PE X (.List es pos) (tLst t) := by
  intro pins s σ H Q I hq
  refine wpAny_List_spliced (thn (h pos pins s σ H _ I hq) fun us s1 ⟨xs, H1, I1, r, z, q⟩ => ⟨by rw [← r.length]; exact z, ?_⟩)
  have hf : H1 s1.heap.objs.size = none := I1.hok.fresh (Nat.le_refl _)
  refine ⟨.ref s1.heap.objs.size, upd H1 s1.heap.objs.size (.lst xs), I1.laid (t' := s1.toks) (fun b u e => Heap.get?_push_of_some _ e) (Nat.le_refl _) ?_, rfl, q _ hf⟩
  exact ⟨z, us, 0, r, Heap.get?_push_size _ rfl⟩
end
noncomputable abbrev Sp := List V → Hp → VK → XK → Prop
noncomputable abbrev CXT := List Env → Hp → Shared → XK → Value → Shared → Prop
structure Env0 (P : Program) (w : World) (K : PySem.W.Frag) (mg : Str → Option Value) (base : Heap) (A : Around) (outer : List Env) (s : Shared) (H : Hp) : Prop where
  frames : A.frames = some outer
  mod : Mod K mg base
  bs : ∀ b o, base.get? b = some o → s.heap.get? b = some o ∧ H b = none
  bsz : base.objs.size ≤ s.heap.objs.size
  funs : s.heap.FunFrames base outer
  frf : ∀ b ∈ frs outer, H b = none
  hok : HOk P w H s.heap
  bare : AllBare s.gens
noncomputable def CE (outer : List Env) (P : Program) (w : World) (H : Hp) (s : Shared) (Q : VK) (u : Value) (s' : Shared) : Prop :=
  ∃ v H', s'.os = s.os ∧ AllBare s'.gens ∧ Un (frs outer) [] H H' s.heap s'.heap ∧ HOk P w H' s'.heap ∧ RelV v u ∧ Q v H'
noncomputable def CR (CX : CXT) (outer : List Env) (P : Program) (w : World) (H : Hp) (s : Shared) (Q : VK) (E : XK) (r : Result) (s' : Shared) : Prop :=
  match r with
  | .ok (.ret u) => CE outer P w H s Q u s'
  | .ok _ => False
  | .error e => CX outer H s E e s'
structure FnOk (P : Program) (w : World) (K : PySem.W.Frag) (mg : Str → Option Value) (base : Heap) (CX : CXT) (k : Nat) (f : Addr) (fd : FuncData) (ps : List Str) (sp : Sp) : Prop where
  len : ∀ vs H Q E, sp vs H Q E → vs.length = ps.length
  run : ∀ (A : Around) (outer : List Env) (s : Shared) (H : Hp) (args : Args) (us : List Value) (vs : List V) (Q : VK) (E : XK), Room k A → Env0 P w K mg base A outer s H → BindsTo s fd args (ps.zip us) → Vals vs us → sp vs H Q E →
    codeAny (model P w) A (.call (.ref f) args) (CR CX outer P w H s Q E) s
theorem FnOk.mono {P : Program} {w : World} {K : PySem.W.Frag} {mg : Str → Option Value} {base : Heap} {CX : CXT} {j k : Nat} {f : Addr} {fd : FuncData} {ps : List Str} {sp : Sp} (F : FnOk P w K mg base CX j f fd ps sp) (h : j ≤ k) :
    FnOk P w K mg base CX k f fd ps sp := ⟨F.len, fun A outer s H args us vs Q E hr => F.run A outer s H args us vs Q E (hr.mono h)⟩
theorem FnOk.imp {P : Program} {w : World} {K : PySem.W.Frag} {mg : Str → Option Value} {base : Heap} {CX : CXT} {k : Nat} {f : Addr} {fd : FuncData} {ps : List Str} {sp sp' : Sp} (F : FnOk P w K mg base CX k f fd ps sp)
    (h : ∀ vs H Q E, sp' vs H Q E → sp vs H Q E) : FnOk P w K mg base CX k f fd ps sp' :=
  ⟨fun vs H Q E q => F.len vs H Q E (h _ _ _ _ q), fun A outer s H args us vs Q E hr he hb hv hs => F.run A outer s H args us vs Q E hr he hb hv (h _ _ _ _ hs)⟩
theorem Env0.make {P : Program} {w : World} {K : PySem.W.Frag} {mg : Str → Option Value} {base : Heap} {A : Around} {outer : List Env} {s : Shared} {H : Hp} (e : Env0 P w K mg base A outer s H) (C : Addr) (us : List Value) (kw : List (Str × Value)) :
    Env0 P w K mg base (A.under (.builtin "type.__call__" ⟨.ref C :: us, kw⟩)) outer s H := ⟨by first | exact e.frames | (simpa [Around.under, Code.envs, Code.isFrame, pushEnvs] using e.frames), e.mod, e.bs, e.bsz, e.funs, e.frf, e.hok, e.bare⟩
section
variable {X : Cx} {pins : List (Addr × Obj)} {σ : St} {H : Hp} {s s' : Shared}
theorem Inv.env0 (I : Inv X pins σ H s) : Env0 X.prog X.w X.K X.mg X.base X.A X.stack s H :=
  ⟨I.ok.frames, I.ok.mod, I.bs, Nat.le_trans I.ok.bsz I.sz, I.stack, I.stkFree, I.hok, I.bare⟩
theorem Inv.after {Q : VK} {u : Value} (I : Inv X pins σ H s) (h : CE X.stack X.prog X.w H s Q u s') : EP X pins σ Q u s' := by
  obtain ⟨v, H', os, bare, un, hok, r, q⟩ := h
  obtain ⟨hh, g, d, t, os'⟩ := s'
  obtain rfl : os' = s.os := os
  exact ⟨v, H', I.call (h' := hh) (g' := g) (d' := d) (t' := t) (ch := []) un hok bare (fun b z => absurd z (by simp)), r, q⟩
end
noncomputable def tCall (sp : Sp) (dvs : List V) (E : XK) (t : TA) : TE := fun σ H Q => t σ H fun vs H1 => sp (vs ++ dvs) H1 Q E
noncomputable def tMake (C : Addr) (sp : Sp) (dvs : List V) (E : XK) (t : TA) : TE := fun σ H Q => t σ H fun vs H1 => ∀ x dx, H1 x = none → H1 dx = none → dx ≠ x →
  sp (.ref x :: (vs ++ dvs)) (upd (upd H1 dx (.own x)) x (.ins C dx [])) (fun v H2 => v = .non ∧ Q (.ref x) H2) E
noncomputable def Binds (K : PySem.W.Frag) (fd : FuncData) (ps : List Str) (ds : List Value) : Prop :=
  ∀ (s : Shared) (us : List Value), K.In s.heap → (us ++ ds).length = ps.length → BindsTo s fd ⟨us, []⟩ (ps.zip (us ++ ds))
theorem Binds.all {K : PySem.W.Frag} {fd : FuncData} {ps : List Str} (h : ∀ us : List Value, us.length = ps.length → bindArgs fd ⟨us, []⟩ = pure (ps.zip us)) : Binds K fd ps [] := fun s us _ hl => by
  rw [List.append_nil] at hl ⊢
  exact .of_eq (h us hl)
noncomputable def Passes (CX : CXT) (X : Cx) (E : XK) : Prop := ∀ (pins : List (Addr × Obj)) (σ : St) (H : Hp) (s : Shared) (e : Value) (s' : Shared), Inv X pins σ H s → CX X.stack H s E e s' → X.xe e s'
section
variable {X : Cx} {CX : CXT} {k : Nat} {f C : Addr} {fd : FuncData} {ps : List Str} {sp : Sp} {dvs : List V} {ds : List Value} {E : XK} {x m : Str} {p pos apos : Pos} {e o : Expr} {es : List Expr} {ta : TE} {t : TA}
theorem run_fn {pins : List (Addr × Obj)} {σ : St} {H : Hp} {s : Shared} {Q : VK} {us : List Value} {vs : List V} (F : FnOk X.prog X.w X.K X.mg X.base CX k f fd ps sp) (hr : Room k X.A) (hb : Binds X.K fd ps ds) (hd : Vals dvs ds) (hx : Passes CX X E)
    (I : Inv X pins σ H s) (r : Vals vs us) (h : sp (vs ++ dvs) H Q E) : wpAny (model X.prog X.w) X.A (call (.ref f) us) (EP X pins σ Q) X.xe s := by
  have r2 : Vals (vs ++ dvs) (us ++ ds) := r.append hd
  have hl : (us ++ ds).length = ps.length := by rw [← r2.length]; exact F.len _ _ _ _ h
  refine wpAny_call (codeAny_mono (F.run X.A X.stack s H ⟨us, []⟩ (us ++ ds) (vs ++ dvs) Q E hr I.env0 (hb s us I.kIn hl) r2 h) fun r s' hq => ?_)
  cases r with
  | error e => exact hx pins σ H s e s' I hq
  | ok fl =>
    cases fl with
    | ret u => exact I.after hq
    | next => exact False.elim hq
    | brk => exact False.elim hq
    | cont => exact False.elim hq
theorem pe_call (F : FnOk X.prog X.w X.K X.mg X.base CX k f fd ps sp) (hr : Room k X.A) (hg : Gl X x) (hm : X.mg x = some (.ref f)) (hk : PySem.W.keepIn X.K (.ref f) = true) (hb : Binds X.K fd ps ds) (hd : Vals dvs ds) (hx : Passes CX X E)
    (ha : PA X (e :: es) t) (hdb : (x == ("__debug__" : Str)) = false := by decide) (he : starEach (e :: es) X.env = (false, eval e X.env) :: starEach es X.env := by rfl) (hpl : (backTo pos (starEach es X.env)).any (·.1) = false := by rfl) :
    PE X (.Call (.Name x p) (e :: es) [] pos) (tCall sp dvs E t) := by
  intro pins s σ H Q I h
  refine wpAny_Call_Name_kw (ld_glob I hg hm ?_ hdb)
  refine PySem.W.callWith_K (h₀ := X.base) I.ok.mod.kin hk (thn (ha pos pins s σ H _ I h) fun us s1 ⟨vs, H1, I1, r, q⟩ => ⟨I1.kIn, ?_⟩) he hpl
  exact run_fn F hr hb hd hx I1 r q
structure Mk (K : PySem.W.Frag) (C f : Addr) : Prop where
  makes : PySem.W.makesIn K C = true
  init : PySem.W.findIn K (.ref C) "__init__" = some (some (.ref f))
  fn : PySem.W.isFn K (.ref f) = true
  kp : PySem.W.keepIn K (.ref C) = true
theorem run_make {pins : List (Addr × Obj)} {σ : St} {H : Hp} {s : Shared} {Q : VK} {us : List Value} {vs : List V} (M : Mk X.K C f) (F : FnOk X.prog X.w X.K X.mg X.base CX k f fd ps sp) (hr : Room (k + 1) X.A) (hb : Binds X.K fd ps ds) (hd : Vals dvs ds)
    (hx : Passes CX X E) (I : Inv X pins σ H s) (r : Vals vs us)
    (h : ∀ x dx, H x = none → H dx = none → dx ≠ x → sp (.ref x :: (vs ++ dvs)) (upd (upd H dx (.own x)) x (.ins C dx [])) (fun v H2 => v = .non ∧ Q (.ref x) H2) E) :
    wpAny (model X.prog X.w) X.A (call (.ref C) us) (EP X pins σ Q) X.xe s := by
  have hq := h (s.heap.objs.size + 1) s.heap.objs.size (I.hok.fresh (Nat.le_succ _)) (I.hok.fresh (Nat.le_refl _)) (Nat.ne_of_lt (Nat.lt_succ_self _))
  have I2 := Inv.made (C := C) I
  have r2 : Vals (V.ref (s.heap.objs.size + 1) :: (vs ++ dvs)) (Value.ref (s.heap.objs.size + 1) :: (us ++ ds)) := .cons rfl (r.append hd)
  have hl : (Value.ref (s.heap.objs.size + 1) :: us ++ ds).length = ps.length := by
    have e := r2.length
    rw [F.len _ _ _ _ hq] at e
    exact e.symm
  refine wpAny_call (make_map (f := f) I.kIn M.makes M.init (beq_iff_eq.mp M.fn) (codeAny_mono (F.run _ X.stack _ _ ⟨Value.ref (s.heap.objs.size + 1) :: us, []⟩ (Value.ref (s.heap.objs.size + 1) :: (us ++ ds)) _ _ E (hr.make C us [])
    (I2.env0.make C us []) (hb _ (Value.ref (s.heap.objs.size + 1) :: us) I2.kIn hl) r2 hq) fun r s' hq' => ?_))
  cases r with
  | error e => exact hx pins σ _ _ e s' I2 hq'
  | ok fl =>
    cases fl with
    | ret u =>
      obtain ⟨v, H', I3, rv, ev, q3⟩ := I2.after hq'
      subst ev
      exact ⟨rv, ⟨V.ref (s.heap.objs.size + 1), H', I3, rfl, q3⟩⟩
    | next => exact False.elim hq'
    | brk => exact False.elim hq'
    | cont => exact False.elim hq'
theorem pe_make (M : Mk X.K C f) (F : FnOk X.prog X.w X.K X.mg X.base CX k f fd ps sp) (hr : Room (k + 1) X.A) (hg : Gl X x) (hm : X.mg x = some (.ref C)) (hb : Binds X.K fd ps ds) (hd : Vals dvs ds) (hx : Passes CX X E)
    (ha : PA X (e :: es) t) (hdb : (x == ("__debug__" : Str)) = false := by decide) (he : starEach (e :: es) X.env = (false, eval e X.env) :: starEach es X.env := by rfl) (hpl : (backTo pos (starEach es X.env)).any (·.1) = false := by rfl) :
    PE X (.Call (.Name x p) (e :: es) [] pos) (tMake C sp dvs E t) := by
  intro pins s σ H Q I h
  refine wpAny_Call_Name_kw (ld_glob I hg hm ?_ hdb)
  refine PySem.W.callWith_K (h₀ := X.base) I.ok.mod.kin M.kp (thn (ha pos pins s σ H _ I h) fun us s1 ⟨vs, H1, I1, r, q⟩ => ⟨I1.kIn, ?_⟩) he hpl
  exact run_make M F hr hb hd hx I1 r q
end
section
variable {X : Cx} {CX : CXT} {k : Nat} {f C : Addr} {fd : FuncData} {ps ks : List Str} {sp : Sp} {E : XK} {x m : Str} {p pos apos kpos : Pos} {e o : Expr} {es : List Expr} {kws : List Keyword} {te ta : TE} {t tk : TA} {nm : Option Str}
variable {g : List Value → List Value → List Value} {gV : List V → List V → List V}
end
structure FnScope (N P : List Str) (sc : Scope) : Prop where
  kind : sc.kind = .function
  co : sc.isCoroutine = false
  gen : sc.isGenerator = false
  nd : N.Nodup
  pre : N.take P.length = P
  par : ∀ x ∈ P, sc.names.lookup x = some .local ∨ sc.names.lookup x = some .cell
  nofree : ∀ y ∈ sc.names, y.2 ≠ .free
theorem bindL_out {kindOf : Str → Option NameKind} {x : Str} : ∀ {binds : List (Str × Value)} {m : Str → Option Value}, (∀ v, (x, v) ∉ binds) → bindL kindOf binds m x = m x
  | [], _, _ => rfl
  | (n, v) :: r, m, h => by
    unfold bindL
    rw [bindL_out fun w hw => h w (List.mem_cons_of_mem _ hw)]
    split
    · have : x ≠ n := by rintro rfl; exact h v List.mem_cons_self
      simp [this]
    · rfl
theorem bindC_out {kindOf : Str → Option NameKind} {x : Str} : ∀ {binds : List (Str × Value)} {m : Str → Option Value}, (∀ v, (x, v) ∉ binds) → bindC kindOf binds m x = m x
  | [], _, _ => rfl
  | (n, v) :: r, m, h => by
    unfold bindC
    rw [bindC_out fun w hw => h w (List.mem_cons_of_mem _ hw)]
    split
    · rfl
    · have : x ≠ n := by rintro rfl; exact h v List.mem_cons_self
      simp [this]
theorem bindL_get {kindOf : Str → Option NameKind} {x : Str} {v : Value} : ∀ {P : List Str} {vs : List Value} {i : Nat} {m : Str → Option Value}, P.Nodup → P[i]? = some x → vs[i]? = some v → kindOf x = some .local →
    bindL kindOf (P.zip vs) m x = some v
  | [], _, _, _, _, h, _, _ => by simp at h
  | _ :: _, [], _, _, _, _, h, _ => by simp at h
  | p :: P, w :: vs, 0, m, nd, h1, h2, hk => by
    simp at h1 h2; subst h1; subst h2
    show bindL kindOf ((p, w) :: P.zip vs) m p = _
    unfold bindL
    rw [bindL_out fun v hv => (List.nodup_cons.mp nd).1 (List.of_mem_zip hv).1, if_pos hk]
    simp
  | p :: P, w :: vs, i + 1, m, nd, h1, h2, hk => by
    show bindL kindOf ((p, w) :: P.zip vs) m x = _
    unfold bindL
    exact bindL_get (i := i) (List.nodup_cons.mp nd).2 (by simpa using h1) (by simpa using h2) hk
theorem bindC_get {kindOf : Str → Option NameKind} {x : Str} {v : Value} : ∀ {P : List Str} {vs : List Value} {i : Nat} {m : Str → Option Value}, P.Nodup → P[i]? = some x → vs[i]? = some v → kindOf x ≠ some .local →
    bindC kindOf (P.zip vs) m x = some v
  | [], _, _, _, _, h, _, _ => by simp at h
  | _ :: _, [], _, _, _, _, h, _ => by simp at h
  | p :: P, w :: vs, 0, m, nd, h1, h2, hk => by
    simp at h1 h2; subst h1; subst h2
    show bindC kindOf ((p, w) :: P.zip vs) m p = _
    unfold bindC
    rw [bindC_out fun v hv => (List.nodup_cons.mp nd).1 (List.of_mem_zip hv).1, if_neg hk]
    simp
  | p :: P, w :: vs, i + 1, m, nd, h1, h2, hk => by
    show bindC kindOf ((p, w) :: P.zip vs) m x = _
    unfold bindC
    exact bindC_get (i := i) (List.nodup_cons.mp nd).2 (by simpa using h1) (by simpa using h2) hk
noncomputable def start (N : List Str) (vs : List V) : St := vs.map some ++ List.replicate (N.length - vs.length) none
noncomputable def cxOf (CX : CXT) (P : Program) (w : World) (K : PySem.W.Frag) (mg : Str → Option Value) (base : Heap) (N : List Str) (qual : Str) (scope : Scope) (f : Addr) (cd : Value) (A : Around) (outer : List Env) (s : Shared) (H : Hp) (E : XK) : Cx where
  prog := P
  w := w
  K := K
  mg := mg
  base := base
  A := A.deeper (envOfC qual scope s.heap.objs.size f cd)
  N := N
  s₀ := s
  H₀ := H
  env := envOfC qual scope s.heap.objs.size f cd
  outer := outer
  stack := envOfC qual scope s.heap.objs.size f cd :: outer
  ex := []
  calm := true
  fn := fun _ => true
  pn := []
  xe := fun e s' => wpAny (model P w) (A.deeper (envOfC qual scope s.heap.objs.size f cd)) (leaving (envOfC qual scope s.heap.objs.size f cd) e) (fun _ s'' => CX outer H s E e s'') (fun e' s'' => CX outer H s E e' s'') s'
theorem cell_has {sc : Scope} {n : Nat} {x : Str} (h : sc.names.lookup x = some .cell) : ∃ c, (cellsFrom n sc.names []).lookup x = some c := by
  have q := PySem.W.cellsFrom_some sc.names n [] (.inl h)
  exact Option.isSome_iff_exists.mp q
theorem inv_start {CX : CXT} {P : Program} {w : World} {K : PySem.W.Frag} {mg : Str → Option Value} {base : Heap} {N ps : List Str} {qual : Str} {scope : Scope} {f : Addr} {cd : Value} {A : Around} {outer : List Env} {s s1 : Shared} {H : Hp} {E : XK} {us : List Value} {vs : List V}
    (S : FnScope N ps scope) (hd : A.handled = none) (e0 : Env0 P w K mg base A outer s H) (hl : vs.length = ps.length) (r : Vals vs us)
    (x : InCallC s s.heap.objs.size (bindL (envOfC qual scope s.heap.objs.size f cd).kindOf (ps.zip us) fun _ => none) (cellsFrom (s.heap.objs.size + 1) scope.names []) (bindC (envOfC qual scope s.heap.objs.size f cd).kindOf (ps.zip us) fun _ => none) s1) :
    Inv (cxOf CX P w K mg base N qual scope f cd A outer s H E) [] (start N vs) H s1 := by
  have hpl : ps.length ≤ N.length := by have := congrArg List.length S.pre; rw [List.length_take] at this; (first | lia | omega)
  obtain ⟨h1, tk, rfl, hk⟩ := x.done
  have noA : ∀ b : Addr, b ∉ (cxOf CX P w K mg base N qual scope f cd A outer s H E).ex := fun b z => absurd (show b ∈ ([] : List Addr) from z) (by simp)
  refine ⟨⟨e0.mod, S.kind, rfl, rfl, Nat.le_refl _, fun y z c h1 h2 => ?_, fun y hy => ?_, fun y c _ h => ?_, fun _ => hd, Around.frames_deeper e0.frames, .inr ⟨rfl, rfl⟩, fun b z => absurd z (noA b), e0.bs, e0.bsz, fun b _ _ => noA b, fun b z => absurd z (noA b), e0.funs, e0.frf⟩,
    rfl, e0.bare, Un.kept hk, ⟨_, x.toInCall.ns, fun i y v h1 h2 h3 => ?_⟩, fun y c h => ⟨_, x.cell y c h⟩, e0.hok.fresh (Nat.le_refl _), fun y c h => ?_, fun p hp => absurd (show p ∈ ([] : List (Addr × Obj)) from hp) (by simp), e0.hok.kept hk, ?_⟩
  · exact name_of_addr x.apart (PySem.mem_of_lookup h1) (PySem.mem_of_lookup h2)
  · have hy : scope.names.lookup y = some .cell ∨ scope.names.lookup y = some .free := hy
    rcases hy with hy | hy
    · exact cell_has hy
    · exact absurd rfl (S.nofree _ (PySem.mem_of_lookup hy))
  · exact Nat.le_of_lt (x.above y c (PySem.mem_of_lookup h))
  · have hi : i < vs.length := by
      unfold start at h2
      by_cases hi : i < vs.length
      · exact hi
      · rw [List.getElem?_append_right (by simpa using hi)] at h2
        rw [List.getElem?_replicate] at h2
        split at h2 <;> cases h2
    have ha : vs[i]? = some v := by
      unfold start at h2
      rw [List.getElem?_append_left (by simpa using hi), List.getElem?_map] at h2
      cases e : vs[i]? with
      | none => rw [e] at h2; cases h2
      | some a => rw [e] at h2; cases h2; rfl
    obtain ⟨u, hu, rv⟩ := r.get ha
    have hp : ps[i]? = some y := by
      rw [← S.pre, List.getElem?_take_of_lt (by (first | lia | omega))]; exact h1
    have ndP : ps.Nodup := by rw [← S.pre]; exact S.nd.sublist (List.take_sublist _ _)
    refine ⟨u, rv, ?_⟩
    rcases S.par y (List.mem_of_getElem? hp) with k | k
    · exact .inl ⟨k, bindL_get ndP hp hu k⟩
    · obtain ⟨c, e⟩ := cell_has (n := s.heap.objs.size + 1) k
      refine .inr ⟨.inl k, c, e, ?_⟩
      have q := x.cell y c e
      rw [bindC_get ndP hp hu (by show scope.names.lookup y ≠ _; rw [k]; decide)] at q
      exact q
  · exact e0.hok.fresh (Nat.le_of_lt (x.above y c (PySem.mem_of_lookup h)))
  · unfold start
    show _ = N.length
    rw [List.length_append, List.length_map, List.length_replicate]
    (first | lia | omega)
theorem fn_of {CX : CXT} {P : Program} {w : World} {K : PySem.W.Frag} {mg : Str → Option Value} {base : Heap} {k : Nat} {f : Addr} {name qual : Str} {params : Arguments} {body : List Stmt} {scope : Scope} {dV kV doc pm cdv ct oc : Value} {an od : Option Addr}
    {osl : Array (Option Value)} {N ps : List Str} {sp : Sp} (lk : K.lookup f = some ⟨oc, od, .func (PySem.W.fnOf name qual params body scope dV kV doc pm an cdv ct), osl⟩) (hcd : PySem.W.codeIn K cdv qual = true) (S : FnScope N ps scope)
    (len : ∀ vs H Q E, sp vs H Q E → vs.length = ps.length)
    (hbody : ∀ (A : Around) (outer : List Env) (s : Shared) (H : Hp) (vs : List V) (Q : VK) (E : XK), Room k (A.deeper (envOfC qual scope s.heap.objs.size f cdv)) → sp vs H Q E →
      ∃ t, PSs (cxOf CX P w K mg base N qual scope f cdv A outer s H E) body t ∧ t { nx := fun _ H' => Q .non H', rt := Q } (start N vs) H) :
    FnOk P w K mg base CX (k + 1) f (PySem.W.fnOf name qual params body scope dV kV doc pm an cdv ct) ps sp := by
  refine ⟨len, fun A outer s H args us vs Q E hr e0 hb r hsp => ?_⟩
  have hl := len _ _ _ _ hsp
  have KX : K.In s.heap := e0.mod.kin.keeps fun b o e => (e0.bs b o e).1
  have lim : s.heap.NoLimit := e0.mod.nolimit.keeps fun b o e => (e0.bs b o e).1
  have hkind : ∀ y ∈ ps.zip us, scope.names.lookup y.1 = some .local ∨ (scope.names.lookup y.1 = some .cell ∧ ((cellsFrom (s.heap.objs.size + 1) scope.names []).lookup y.1).isSome = true) := fun ⟨n, v⟩ hy => by
    rcases S.par n (List.of_mem_zip hy).1 with q | q
    · exact .inl q
    · exact .inr ⟨q, PySem.W.cellsFrom_some _ _ _ (.inl q)⟩
  refine codeAny_call_function hr.depth (KX _ _ lk) rfl S.co S.gen rfl (PySem.W.codeRec_of KX hcd) (hb _ _ _ _ ?_)
  refine wpAny_newFunctionEnv_cells S.kind hkind fun env he s1 x => ?_
  subst he
  refine ⟨lim.keeps x.toInCall.keep, codeAny_func ?_⟩
  obtain ⟨t, ht, hq⟩ := hbody A outer s H vs Q E (hr.deeper _) hsp
  have I : Inv (cxOf CX P w K mg base N qual scope f cdv A outer s H E) [] (start N vs) H s1 := inv_start S hr.hd e0 hl r x
  refine wpAny_mono (ht [] s1 (start N vs) H _ I hq) (fun fl s' hs => ?_) fun e s' hs => hs
  have fin : ∀ {σ' : St} {H' : Hp} {v : V} {u : Value}, Inv (cxOf CX P w K mg base N qual scope f cdv A outer s H E) [] σ' H' s' → RelV v u → Q v H' → CE outer P w H s Q u s' :=
    fun {σ' H' v u} J rv q => ⟨v, H', J.os, J.bare, J.base, J.hok, rv, q⟩
  cases fl with
  | ret u =>
    obtain ⟨v, σ', H', J, rv, q⟩ := hs
    exact fin J rv q
  | next =>
    obtain ⟨σ', H', J, q⟩ := hs
    exact fin (v := V.non) (u := Value.none) J rfl q
  | brk =>
    obtain ⟨_, _, _, q⟩ := hs
    exact False.elim q
  | cont =>
    obtain ⟨_, _, _, q⟩ := hs
    exact False.elim q
end L2
namespace L2
open PySem PySem.Spec PyProof.Rows
section
variable {X : Cx} {x : Str} {p pos : Pos} {e : Expr} {es : List Expr} {t : TA} {id T : String} {r : List V → Hp → VK → Prop}
noncomputable def tCB (r : List V → Hp → VK → Prop) (t : TA) : TE := fun σ H Q => t σ H fun vs H1 => r vs H1 Q
theorem pe_callB (hc : CallR X (.builtin id) r) (hg : Gl X x) (hm : X.mg x = none) (hv : bootBuiltins x = some (.builtin id)) (ha : PA X (e :: es) t) (hn : x ≠ "__name__" := by decide) (hdb : (x == ("__debug__" : Str)) = false := by decide)
    (he : starEach (e :: es) X.env = (false, eval e X.env) :: starEach es X.env := by rfl) (hpl : (backTo pos (starEach es X.env)).any (·.1) = false := by rfl) : PE X (.Call (.Name x p) (e :: es) [] pos) (tCB r t) := by
  intro pins s σ H Q I h
  refine wpAny_Call_Name_kw (ld_blt I hg hm hv ?_ hn hdb)
  exact PyProof.Rows.callWith_builtin1 (thn (ha pos pins s σ H _ I h) fun us s1 zz => by obtain ⟨vs, H1, I1, r1, q1⟩ := zz; exact hc pins s1 σ H1 vs us Q I1 r1 q1) he hpl
theorem pe_callTy (hc : CallR X (.type T) r) (hg : Gl X x) (hm : X.mg x = none) (hv : bootBuiltins x = some (.type T)) (ha : PA X (e :: es) t) (hn : x ≠ "__name__" := by decide) (hdb : (x == ("__debug__" : Str)) = false := by decide)
    (he : starEach (e :: es) X.env = (false, eval e X.env) :: starEach es X.env := by rfl) (hpl : (backTo pos (starEach es X.env)).any (·.1) = false := by rfl) : PE X (.Call (.Name x p) (e :: es) [] pos) (tCB r t) := by
  intro pins s σ H Q I h
  refine wpAny_Call_Name_kw (ld_blt I hg hm hv ?_ hn hdb)
  exact PyProof.Rows.callWith_type1 (thn (ha pos pins s σ H _ I h) fun us s1 zz => by obtain ⟨vs, H1, I1, r1, q1⟩ := zz; exact hc pins s1 σ H1 vs us Q I1 r1 q1) he hpl
end
end L2
namespace HT
open PySem PyProof.Rows
section
open PySem.SeqAt
open PySem.AutoSeq1 (wpAny_loadPart')
open PySem.MeetsSeq PySem.MeetsSeq2 PySem.MeetsSeq3
end
section
variable {prog : Program} {w : World} {A : Around} {E : Value → Shared → Prop} {s : Shared}
noncomputable def sIx (n d : Nat) : Option Int → Nat
  | none => d
  | some v => if v < 0 then (v + (n : Int)).toNat else min v.toNat n
theorem sIx_none (n d : Nat) : sIx n d none = d := rfl
theorem sIx_nat (n d k : Nat) : sIx n d (some (k : Int)) = min k n := by
  show (if (k : Int) < 0 then ((k : Int) + (n : Int)).toNat else min (k : Int).toNat n) = min k n
  rw [if_neg (by (first | lia | omega)), Int.toNat_natCast]
theorem sIx_le (n d : Nat) (hd : d ≤ n) (o : Option Int) : sIx n d o ≤ n := by
  cases o with
  | none => exact hd
  | some v =>
    show (if v < 0 then (v + (n : Int)).toNat else min v.toNat n) ≤ n
    by_cases hv : v < 0
    · rw [if_pos hv]; (first | lia | omega)
    · rw [if_neg hv]; exact Nat.min_le_right _ _
end
end HT
namespace L2
open PySem PySem.Spec PyProof.Rows
noncomputable abbrev TO := St → Hp → (Option Int → Hp → Prop) → Prop
noncomputable def PO (X : Cx) (e : Option Expr) (t : TO) : Prop :=
  ∀ (pins : List (Addr × Obj)) (s : Shared) (σ : St) (H : Hp) (Q : Option Int → Hp → Prop), Inv X pins σ H s → t σ H Q →
    wpAny (model X.prog X.w) X.A (evalPart e X.env) (fun u s' => ∃ o H', Inv X pins σ H' s' ∧ IsPart u o ∧ Q o H') X.xe s
noncomputable def tNoPart : TO := fun _ H Q => Q none H
noncomputable def tPart (t : TE) : TO := fun σ H Q => t σ H fun x H1 => ∃ i, x = .int i ∧ Q (some i) H1
theorem intsAre_of {ns : List Int} : ∀ {us : List Value}, Vals (ns.map V.int) us → IntsAre us ns := by
  induction ns with
  | nil => intro us r; rw [List.map_nil] at r; cases r; exact .nil
  | cons n ns ih =>
    intro us r
    rw [List.map_cons] at r
    cases r with
    | cons r1 r2 =>
      obtain ⟨t, e⟩ := r1
      subst e
      exact .cons n t (ih r2)
section
variable {X : Cx} {e : Expr} {te : TE} {lo hi : Option Expr} {tl th : TO} {pos p2 : Pos}
theorem po_none : PO X none tNoPart := by
  intro pins s σ H Q I h
  rw [evalPart_none]
  exact wpAny_pure ⟨none, H, I, .none, h⟩
theorem po_some (h : PE X e te) : PO X (some e) (tPart te) := by
  intro pins s σ H Q I hw
  rw [evalPart_some]
  refine thn (h pins s σ H _ I hw) fun u s1 zz0 => ?_
  obtain ⟨x, H1, I1, r1, q1⟩ := zz0
  obtain ⟨i, rfl, q⟩ := q1
  obtain ⟨t, rfl⟩ := r1
  exact ⟨some i, H1, I1, .int i t, q⟩
noncomputable def SlR (X : Cx) (r : V → Option Int → Option Int → Hp → VK → Prop) : Prop :=
  ∀ (pins : List (Addr × Obj)) (s : Shared) (σ : St) (H : Hp) (x : V) (v vl vu : Value) (lo hi : Option Int) (sl : Addr) (Q : VK), Inv X pins σ H s → RelV x v → s.heap.IsSliceOf sl vl vu .none → IsPart vl lo → IsPart vu hi → r x lo hi H Q →
    ∃ T id, typeLookup (.type T) "__getitem__" = pure (some (.builtin id)) ∧ s.TypeIs v T ∧ wpAny (model X.prog X.w) X.A (getItem v (.ref sl)) (EP X pins σ Q) X.xe s
noncomputable def tSl (r : V → Option Int → Option Int → Hp → VK → Prop) (te : TE) (tl th : TO) : TE := fun σ H Q => te σ H fun x H1 => tl σ H1 fun l H2 => th σ H2 fun u H3 => r x l u H3 Q
theorem pe_slice {r : V → Option Int → Option Int → Hp → VK → Prop} (hr : SlR X r) (he : PE X e te) (hl : PO X lo tl) (hu : PO X hi th) : PE X (.Subscript e (.Slice lo hi none p2) pos) (tSl r te tl th) := by
  intro pins s σ H Q I h
  refine Subscript_ (thn (he pins s σ H _ I h) fun v s1 zz0 => ?_)
  obtain ⟨x, H1, I1, r1, q1⟩ := zz0
  refine wpAny_Slice (thn (hl pins s1 σ H1 _ I1 q1) fun vl s2 ⟨l, H2, I2, pl, q2⟩ => thn (hu pins s2 σ H2 _ I2 q2) fun vu s3 zz0 => ?_)
  obtain ⟨u, H3, I3, pu, q3⟩ := zz0
  rw [evalPart_none]
  refine wpAny_pure ?_
  have I4 : Inv X pins σ H3 { s3 with heap := s3.heap.push { cls := .type "slice", data := .fields #[vl, vu, .none] } } := I3.kept (t' := s3.toks) fun b ob q => Heap.get?_push_of_some _ q
  obtain ⟨T, id, hT, ht, hg⟩ := hr pins { s3 with heap := s3.heap.push { cls := .type "slice", data := .fields #[vl, vu, .none] } } σ H3 x v vl vu l u s3.heap.objs.size Q I4 r1 (Heap.IsSliceOf.new ..) pl pu q3
  show wpAny (model X.prog X.w) X.A (subscriptTail e (.Slice lo hi none p2) v (.ref s3.heap.objs.size)) (EP X pins σ Q) X.xe { s3 with heap := s3.heap.push { cls := .type "slice", data := .fields #[vl, vu, .none] } }
  exact tail_any (ops := [.ref s3.heap.objs.size, v]) ht hT hg (by with_unfolding_all rfl)
noncomputable def cutV (xs : List V) (lo hi : Option Int) : List V := (xs.drop (HT.sIx xs.length 0 lo)).take (HT.sIx xs.length xs.length hi - HT.sIx xs.length 0 lo)
theorem cutV_length (xs : List V) (lo hi : Option Int) : (cutV xs lo hi).length ≤ xs.length := by
  unfold cutV
  rw [List.length_take, List.length_drop]
  (first | lia | omega)
end
end L2
namespace L2
open PySem PySem.Spec PyProof.Rows
noncomputable def ixN (n : Nat) (i : Int) : Option Nat := if 0 ≤ i then (if i < n then some i.toNat else none) else if -(n : Int) ≤ i then some (i + n).toNat else none
noncomputable def atI {α : Type} (xs : List α) (i : Int) : Option α := (ixN xs.length i).bind fun j => xs[j]?
theorem ixN_seq {n : Nat} {i : Int} {j : Nat} (h : ixN n i = some j) : seqIndex? i n = some j ∧ j < n ∧ -(n : Int) ≤ i ∧ i < n := by
  unfold ixN at h
  by_cases h0 : 0 ≤ i
  · rw [if_pos h0] at h
    by_cases h1 : i < n
    · rw [if_pos h1] at h
      have e : i.toNat = j := Option.some.inj h
      exact ⟨by rw [seqIndex_of h0 h1, e], by (first | lia | omega), by (first | lia | omega), h1⟩
    · rw [if_neg h1] at h; cases h
  · rw [if_neg h0] at h
    by_cases h1 : -(n : Int) ≤ i
    · rw [if_pos h1] at h
      have e : (i + n).toNat = j := Option.some.inj h
      exact ⟨by rw [seqIndex_neg (by (first | lia | omega)) h1, e], by (first | lia | omega), h1, by (first | lia | omega)⟩
    · rw [if_neg h1] at h; cases h
theorem atI_get {α : Type} {xs : List α} {i : Int} {v : α} (h : atI xs i = some v) : ∃ j, seqIndex? i xs.length = some j ∧ xs[j]? = some v ∧ j < xs.length ∧ -(xs.length : Int) ≤ i ∧ i < xs.length := by
  unfold atI at h
  cases e : ixN xs.length i with
  | none => rw [e] at h; cases h
  | some j =>
    rw [e] at h
    obtain ⟨h1, h2, h3, h4⟩ := ixN_seq e
    exact ⟨j, h1, h, h2, h3, h4⟩
theorem atI_nat {α : Type} {xs : List α} {j : Nat} {v : α} (h : xs[j]? = some v) : atI xs (j : Int) = some v := by
  have hj : j < xs.length := (List.getElem?_eq_some_iff.mp h).1
  have e : ixN xs.length (j : Int) = some j := by
    unfold ixN
    rw [if_pos (by (first | lia | omega)), if_pos (by (first | lia | omega))]; simp
  unfold atI; rw [e]; exact h
noncomputable def PlainIx (b : Expr) : Prop := ∀ o i, subscripted b false o i = operate [o, i] (getItem o i)
noncomputable def IxR (X : Cx) (r : R2) : Prop :=
  ∀ (value slice : Expr) (pins : List (Addr × Obj)) (s : Shared) (σ : St) (H : Hp) (x y : V) (v u : Value) (Q : VK), Inv X pins σ H s → RelV x v → RelV y u → r x y H Q →
    subscripted slice false v u = operate [v, u] (getItem v u) → wpAny (model X.prog X.w) X.A (subscriptTail value slice v u) (EP X pins σ Q) X.xe s
noncomputable def MtR (X : Cx) (id : String) (r : V → List V → Hp → VK → Prop) : Prop :=
  ∀ (pins : List (Addr × Obj)) (s : Shared) (σ : St) (H : Hp) (x : V) (xs : List V) (v : Value) (us : List Value) (Q : VK), Inv X pins σ H s → RelV x v → Vals xs us → r x xs H Q →
    wpAny (model X.prog X.w) X.A (call (.builtin id) (v :: us)) (EP X pins σ Q) X.xe s
section
variable {X : Cx} {a b : Expr} {ta tb : TE} {pos : Pos}
theorem pe_ix {r : R2} (hr : IxR X r) (ha : PE X a ta) (hb : PE X b tb) (hs : PlainIx b) : PE X (.Subscript a b pos) (tOp r ta tb) := by
  intro pins s σ H Q I h
  exact Subscript_ (binT ha hb I h fun v u s2 x y H2 I2 rx ry q => hr a b pins s2 σ H2 x y v u Q I2 rx ry q (hs _ _))
noncomputable def rIxL (K : PySem.W.Frag) : R2 := fun x y H Q => ∃ p xs i v, x = .ref p ∧ y = .int i ∧ SqL K H p xs ∧ atI xs i = some v ∧ Q v H
noncomputable def rIxT (K : PySem.W.Frag) : R2 := fun x y H Q => ∃ p xs i v, x = .ref p ∧ y = .int i ∧ SqT K H p xs ∧ atI xs i = some v ∧ Q v H
noncomputable def rIxS : R2 := fun x y H Q => ∃ z i c, x = .str z ∧ y = .int i ∧ z.length ≤ sizeLine ∧ atI z.cps.toList i = some c ∧ Q (.str ⟨#[c]⟩) H
theorem ix_list : IxR X (rIxL X.K) := by
  intro value slice pins s σ H x y v u Q I rx ry h hs
  obtain ⟨p, xs, i, z, rfl, rfl, hq, he, q⟩ := h
  cases rx
  obtain ⟨t, rfl⟩ := ry
  obtain ⟨its, r, pl, hz⟩ := I.list hq
  obtain ⟨j, h1, h2, h3, h4, h5⟩ := atI_get he
  obtain ⟨w, ew, rw'⟩ := r.get h2
  have hl := r.length
  have hn := line63
  have fin : EP X pins σ Q w s := ⟨z, H, I, rw', q⟩
  by_cases h0 : 0 ≤ i
  · have hj : i.toNat = j := by
      rw [seqIndex_of h0 h5] at h1
      exact Option.some.inj h1
    exact item_listR pl.isList h0 (by (first | lia | omega)) (by rw [hj]; simpa using ew) fin hs
  · have hj : (i + (its.toArray.size : Int)).toNat = j := by
      rw [seqIndex_neg (by (first | lia | omega)) h4] at h1
      rw [List.size_toArray, ← hl]
      exact Option.some.inj h1
    exact subscriptTail_builtinR (x := w) pl.isList.typeIs slot_list_getitem.lookup
      (wpAny_getItem_list_neg (Q := fun r s' => r = w ∧ EP X pins σ Q r s') pl.isList (by (first | lia | omega)) (by rw [List.size_toArray] <;> (first | lia | omega)) (by (first | lia | omega)) (by rw [hj]; simpa using ew) ⟨rfl, fin⟩) hs
theorem ix_tup : IxR X (rIxT X.K) := by
  intro value slice pins s σ H x y v u Q I rx ry h hs
  obtain ⟨p, xs, i, z, rfl, rfl, hq, he, q⟩ := h
  cases rx
  obtain ⟨t, rfl⟩ := ry
  obtain ⟨its, r, pl, hz⟩ := I.tuple hq
  obtain ⟨j, h1, h2, h3, h4, h5⟩ := atI_get he
  obtain ⟨w, ew, rw'⟩ := r.get h2
  have hl := r.length
  have hn := line63
  have fin : EP X pins σ Q w s := ⟨z, H, I, rw', q⟩
  exact subscriptTail_builtinR (x := w) pl.typeIs slot_tuple_getitem.lookup
    (getItem_tuple (j := j) (Q := fun r s' => r = w ∧ EP X pins σ Q r s') pl (by (first | lia | omega)) (by (first | lia | omega)) (by rw [List.size_toArray, ← hl]; exact h1) (by simpa using ew) ⟨rfl, fin⟩) hs
theorem ix_str : IxR X rIxS := by
  intro value slice pins s σ H x y v u Q I rx ry h hs
  obtain ⟨z, i, c, rfl, rfl, hz, he, q⟩ := h
  obtain ⟨t, rfl⟩ := rx
  obtain ⟨t', rfl⟩ := ry
  obtain ⟨j, h1, h2, h3, h4, h5⟩ := atI_get he
  have hl : z.cps.toList.length = z.length := by simp [Str.length]
  rw [hl] at h1 h4 h5
  have hn := line63
  exact tail_any (typeIs_str s z t) slot_str_getitem.lookup (getItem_str (c := c) (by
    have e1 : decide (i < -(2 ^ 63 : Int)) = false := decide_eq_false (by (first | lia | omega))
    have e2 : decide (i ≥ 2 ^ 63) = false := decide_eq_false (by (first | lia | omega))
    rw [e1, e2, Bool.or_false]) (by rw [h1]; simpa using h2) ⟨.str ⟨#[c]⟩, H, I.tok _, ⟨_, rfl⟩, q⟩) hs
theorem slice_bounds (lo hi : Option Int) (n : Nat) : (sliceBounds lo hi none n).1 = ((HT.sIx n 0 lo : Nat) : Int) ∧ (sliceBounds lo hi none n).2.1 = ((HT.sIx n n hi : Nat) : Int) ∧ (sliceBounds lo hi none n).2.2 = 1 := by
  refine ⟨?_, ?_, rfl⟩
  · cases lo with
    | none => simp [sliceBounds, HT.sIx]
    | some i =>
      simp only [sliceBounds, HT.sIx, Option.getD_none, show (1 : Int) > 0 by decide, if_true]
      by_cases h : i < 0
      · simp only [h, if_true] <;> (first | lia | omega)
      · simp only [h, if_false] <;> (first | lia | omega)
  · cases hi with
    | none => simp [sliceBounds, HT.sIx]
    | some i =>
      simp only [sliceBounds, HT.sIx, Option.getD_none, show (1 : Int) > 0 by decide, if_true]
      by_cases h : i < 0
      · simp only [h, if_true] <;> (first | lia | omega)
      · simp only [h, if_false] <;> (first | lia | omega)
theorem slicePick_cut (its : List Value) (lo hi : Option Int) : slicePick its.toArray lo hi none = ((its.drop (HT.sIx its.length 0 lo)).take (HT.sIx its.length its.length hi - HT.sIx its.length 0 lo)).toArray := by
  obtain ⟨h1, h2, h3⟩ := slice_bounds lo hi its.toArray.size
  unfold slicePick
  rw [h1, h2, h3]
  simp only [sliceRange_one, pick_run, List.size_toArray] <;> rfl
noncomputable def rSlL (K : PySem.W.Frag) : V → Option Int → Option Int → Hp → VK → Prop := fun x lo hi H Q => ∃ a xs, x = .ref a ∧ SqL K H a xs ∧ ∀ p, H p = none → Q (.ref p) (upd H p (.lst (cutV xs lo hi)))
theorem sl_list : SlR X (rSlL X.K) := by
  intro pins s σ H x v vl vu lo hi sl Q I rx hs pl pu h
  obtain ⟨a, xs, rfl, hx, q⟩ := h
  cases rx
  obtain ⟨its, r, ht, hz⟩ := I.list hx
  have hlen := r.length
  refine ⟨"list", _, slot_list_getitem.lookup, ht.isList.typeIs, ?_⟩
  refine wpAny_getItem_list_slice ht.isList hs pl pu .none (by simp) ?_ (by rw [List.size_toArray] <;> (first | lia | omega))
  rw [slicePick_cut, ← hlen]
  refine ⟨.ref s.heap.objs.size, _, I.laid (t' := s.toks) (o := .lst (cutV xs lo hi)) (fun b ob q => Heap.get?_push_of_some _ q) (Nat.le_refl _) ?_, rfl, q _ (I.hok.fresh (Nat.le_refl _))⟩
  exact ⟨Nat.le_trans (cutV_length xs lo hi) hz, _, 0, (r.drop (HT.sIx xs.length 0 lo)).take (HT.sIx xs.length xs.length hi - HT.sIx xs.length 0 lo), Heap.get?_push_size _ rfl⟩
noncomputable def flatV : V → Bool
  | .non => true
  | .bl _ => true
  | .int _ => true
  | .str _ => true
  | _ => false
noncomputable def eqV : V → V → Bool
  | .non, .non => true
  | .bl a, .bl b => a == b
  | .bl a, .int b => (if a then 1 else 0) == b
  | .int a, .bl b => a == (if b then 1 else 0)
  | .int a, .int b => a == b
  | .str a, .str b => a == b
  | _, _ => false
theorem eqAt_V {A : Around} {s : Shared} {y x : V} {u v : Value} (ry : RelV y u) (rx : RelV x v) (fy : flatV y = true) (fx : flatV x = true) : SeqAt.EqAt A s u v (eqV y x) := by
  cases y with
  | non =>
    cases ry
    cases x with
    | non => cases rx; exact SeqAt.EqAt.same _
    | bl b => cases rx; exact SeqAt.EqAt.none_bool b
    | int b => obtain ⟨t, rfl⟩ := rx; exact SeqAt.EqAt.none_int b t
    | str b => obtain ⟨t, rfl⟩ := rx; exact SeqAt.EqAt.none_str b t
    | _ => exact absurd (show false = true from fx) Bool.false_ne_true
  | bl a =>
    cases ry
    cases x with
    | non => cases rx; exact SeqAt.EqAt.bool_none a
    | bl b => cases rx; exact SeqAt.EqAt.bool_bool a b
    | int b => obtain ⟨t, rfl⟩ := rx; exact SeqAt.EqAt.bool_int a b t
    | str b => obtain ⟨t, rfl⟩ := rx; exact SeqAt.EqAt.bool_str a b t
    | _ => exact absurd (show false = true from fx) Bool.false_ne_true
  | int a =>
    obtain ⟨t', rfl⟩ := ry
    cases x with
    | non => cases rx; exact SeqAt.EqAt.int_none a t'
    | bl b => cases rx; exact SeqAt.EqAt.int_bool a t' b
    | int b => obtain ⟨t, rfl⟩ := rx; exact SeqAt.EqAt.int_int a t' b t
    | str b => obtain ⟨t, rfl⟩ := rx; exact SeqAt.EqAt.int_str a t' b t
    | _ => exact absurd (show false = true from fx) Bool.false_ne_true
  | str a =>
    obtain ⟨t', rfl⟩ := ry
    cases x with
    | non => cases rx; exact SeqAt.EqAt.str_none a t'
    | bl b => cases rx; exact SeqAt.EqAt.str_bool a t' b
    | int b => obtain ⟨t, rfl⟩ := rx; exact SeqAt.EqAt.str_int a t' b t
    | str b => obtain ⟨t, rfl⟩ := rx; exact SeqAt.EqAt.str_str a t' b t
    | _ => exact absurd (show false = true from fx) Bool.false_ne_true
  | _ => exact absurd (show false = true from fy) Bool.false_ne_true
noncomputable def eqU (x : V) (u : Value) : Bool := match u with
  | .none => eqV .non x
  | .bool b => eqV (.bl b) x
  | .int i _ => eqV (.int i) x
  | .str z _ => eqV (.str z) x
  | _ => false
theorem eqU_of {x y : V} {u : Value} (r : RelV y u) (f : flatV y = true) : eqU x u = eqV y x := by
  cases y with
  | non => cases r; rfl
  | bl b => cases r; rfl
  | int i => obtain ⟨t, rfl⟩ := r; rfl
  | str z => obtain ⟨t, rfl⟩ := r; rfl
  | _ => exact absurd (show false = true from f) Bool.false_ne_true
theorem any_eqU {x : V} : ∀ {xs : List V} {us : List Value}, Vals xs us → xs.all flatV = true → us.any (eqU x) = xs.any fun y => eqV y x
  | _, _, .nil, _ => rfl
  | y :: xs, u :: us, .cons r t, f => by
    rw [List.all_cons, Bool.and_eq_true] at f
    rw [List.any_cons, List.any_cons, eqU_of r f.1, any_eqU t f.2]
theorem mem_eqAt {A : Around} {s : Shared} {x : V} {v : Value} (rx : RelV x v) (fx : flatV x = true) : ∀ {xs : List V} {us : List Value}, Vals xs us → xs.all flatV = true → ∀ u ∈ us, SeqAt.EqAt A s u v (eqU x u)
  | _, _, .nil, _ => fun u hu => by cases hu
  | y :: xs, u :: us, .cons r t, f => fun u' hu => by
    rw [List.all_cons, Bool.and_eq_true] at f
    rcases List.mem_cons.mp hu with rfl | hu
    · rw [eqU_of r f.1]; exact eqAt_V r rx f.1 fx
    · exact mem_eqAt rx fx t f.2 u' hu
noncomputable def inV (x : V) (xs : List V) : Bool := xs.any fun y => eqV y x
noncomputable def rIn (K : PySem.W.Frag) (neg : Bool) : R2 := fun x y H Q => ∃ p xs, y = .ref p ∧ (SqL K H p xs ∨ SqT K H p xs) ∧ flatV x = true ∧ xs.all flatV = true ∧ Q (.bl (if neg then !inV x xs else inV x xs)) H
theorem op_in_seq : OpR X (compareOp .In) (rIn X.K false) := by
  intro pins s σ H x y v u Q I rx ry h
  obtain ⟨p, xs, rfl, hq, fx, fs, q⟩ := h
  cases ry
  rcases hq with hq | hq
  · obtain ⟨its, r, pl, hz⟩ := I.list hq
    refine SeqAt.in_listAt (eqU x) pl.isList (fun w hw => mem_eqAt rx fx r fs w (by simpa using hw)) ⟨.bl _, H, I, rfl, ?_⟩
    rw [show its.toArray.any (eqU x) = its.any (eqU x) by simp, any_eqU r fs]
    exact q
  · obtain ⟨its, r, pl, hz⟩ := I.tuple hq
    refine SeqAt.in_tupleAt (eqU x) pl (fun w hw => mem_eqAt rx fx r fs w (by simpa using hw)) ⟨.bl _, H, I, rfl, ?_⟩
    rw [show its.toArray.any (eqU x) = its.any (eqU x) by simp, any_eqU r fs]
    exact q
theorem call_len_str : CallR X (.builtin "len") (fun xs H Q => ∃ z, xs = [.str z] ∧ z.length ≤ sizeLine ∧ Q (.int z.length) H) := by
  intro pins s σ H xs us Q I r h
  obtain ⟨z, rfl, hz, q⟩ := h
  obtain ⟨u, rfl, t, rfl⟩ := vals1 r
  have hn := line63
  exact len_str (by (first | lia | omega)) ⟨.int z.length, H, I.tok _, ⟨_, rfl⟩, q⟩
theorem call_list_of : CallR X (.type "list") (fun xs H Q => ∃ p ys, xs = [.ref p] ∧ (SqL X.K H p ys ∨ SqT X.K H p ys) ∧ ∀ l, H l = none → Q (.ref l) (upd H l (.lst ys))) := by
  intro pins s σ H xs us Q I r h
  obtain ⟨p, ys, rfl, hq, q⟩ := h
  obtain ⟨u, rfl, rx⟩ := vals1 r
  cases rx
  have fin : ∀ (its : List Value), Vals ys its → ys.length ≤ sizeLine → ∀ (h' : Heap) (c' : Nat), (∀ b o', s.heap.get? b = some o' → h'.get? b = some o') →
      h'.get? s.heap.objs.size = some { cls := .type "list", dict := none, data := .seq its.toArray c', slots := #[] } → EP X pins σ Q (.ref s.heap.objs.size) { s with heap := h' } := fun its r' hz h' c' kp e =>
    ⟨.ref s.heap.objs.size, _, I.laid (t' := s.toks) kp (Nat.le_refl _) (show ObjOk X.prog X.w _ h' _ (.lst ys) from ⟨hz, its, c', r', e⟩), rfl, q _ (I.hok.fresh (Nat.le_refl _))⟩
  rcases hq with hq | hq
  · obtain ⟨its, r', pl, hz⟩ := I.list hq
    have hlen := r'.length
    obtain ⟨o, ho, hc, n, hd⟩ := pl.isList
    exact call_list_seq p (.inl rfl) ho hc hd (fun h' c' kp e => fin its r' hz h' c' kp e) (by simp only [List.size_toArray] <;> (first | lia | omega))
  · obtain ⟨its, r', pl, hz⟩ := I.tuple hq
    have hlen := r'.length
    obtain ⟨o, ho, hc, n, hd⟩ := pl
    exact call_list_seq p (.inr rfl) ho hc hd (fun h' c' kp e => fin its r' hz h' c' kp e) (by simp only [List.size_toArray] <;> (first | lia | omega))
noncomputable def tyV (K : PySem.W.Frag) (T : String) (x : V) (H : Hp) : Prop := match x with
  | .str _ => T = "str"
  | .int _ => T = "int"
  | .ref p => (T = "list" ∧ ∃ xs, SqL K H p xs) ∨ (T = "tuple" ∧ ∃ o, K.lookup p = some o ∧ o.cls = .type "tuple" ∧ o.dict = none) ∨
      (T = "dict" ∧ ((∃ kvs, H p = some (.dK kvs)) ∨ ∃ kvs, H p = some (.dT kvs))) ∨ (T = "set" ∧ ∃ S n, H p = some (.set S n))
  | _ => False
theorem tyV_is {pins : List (Addr × Obj)} {σ : St} {H : Hp} {s : Shared} {T : String} {x : V} {v : Value} (I : Inv X pins σ H s) (r : RelV x v) (ty : tyV X.K T x H) :
    s.TypeIs v T ∧ ∀ a, v = .ref a → ∃ ob, s.heap.get? a = some ob ∧ ob.dict = none := by
  cases x with
  | str z =>
    obtain ⟨t, rfl⟩ := r
    cases (show T = "str" from ty)
    exact ⟨typeIs_str s z t, fun _ e => nomatch e⟩
  | int i =>
    obtain ⟨t, rfl⟩ := r
    cases (show T = "int" from ty)
    exact ⟨typeIs_int s i t, fun _ e => nomatch e⟩
  | ref p =>
    cases r
    rcases ty with ⟨rfl, xs, hq⟩ | ⟨rfl, o, hk, hc, hd⟩ | ⟨rfl, hk⟩ | ⟨rfl, S, n, hk⟩
    · obtain ⟨its, _, pl, _⟩ := I.list hq
      refine ⟨pl.isList.typeIs, fun a e => ?_⟩
      cases e
      obtain ⟨o, n, e, c, hd, _⟩ := pl
      exact ⟨o, e, hd⟩
    · refine ⟨⟨o, I.kIn p o hk, hc⟩, fun a e => ?_⟩
      cases e
      exact ⟨o, I.kIn _ o hk, hd⟩
    · have z : ∃ o, s.heap.get? p = some o ∧ o.ExactDict := by
        rcases hk with ⟨kvs, hk⟩ | ⟨kvs, hk⟩
        · obtain ⟨_, _, _, _, o, _, _, e, ex, _⟩ := I.hok p _ hk
          exact ⟨o, e, ex⟩
        · obtain ⟨_, _, _, _, o, _, _, e, ex, _⟩ := I.hok p _ hk
          exact ⟨o, e, ex⟩
      obtain ⟨o, e, ex⟩ := z
      refine ⟨⟨o, e, ex.1⟩, fun a e2 => ?_⟩
      cases e2
      exact ⟨o, e, ex.2.1⟩
    · obtain ⟨o, _, _, _, e, ex, _⟩ := I.hok p _ hk
      refine ⟨⟨o, e, ex.1⟩, fun a e2 => ?_⟩
      cases e2
      exact ⟨o, e, ex.2.1⟩
  | _ => exact False.elim ty
noncomputable def tBM (K : PySem.W.Frag) (T : String) (r : V → List V → Hp → VK → Prop) (to : TE) (t : TA) : TE := fun σ H Q => to σ H fun x H1 => tyV K T x H1 ∧ t σ H1 fun xs H2 => r x xs H2 Q
variable {o e : Expr} {es : List Expr} {to : TE} {t : TA} {name : Str} {apos cpos : Pos} {T id : String} {r : V → List V → Hp → VK → Prop}
theorem pe_bm (pa : PlainAttrs T) (slot : Slot T name id) (hty : typeOf (.builtin id) = pure (.type "method_descriptor")) (hm : MtR X id r) (ho : PE X o to) (ha : PA X (e :: es) t)
    (hbase : attributeBase o name X.env (eval o X.env) = eval o X.env := by rfl)
    (hfew : ((backTo cpos (starEach (e :: es) X.env)).all (fun x => !x.1) && (backToKw cpos (keywordEach [] X.env)).all (fun x => x.1.isSome)
      && decide ((e :: es).length + ([] : List Keyword).length + (if ([] : List Keyword).isEmpty then 0 else 1) < 30)) = true := by rfl)
    (hline : (apos.endLine == cpos.line) = true := by rfl) (hs : starEach (e :: es) X.env = (false, eval e X.env) :: starEach es X.env := by rfl) (hplain : (backTo cpos (starEach es X.env)).any (·.1) = false := by rfl) :
    PE X (.Call (.Attribute o name apos) (e :: es) [] cpos) (tBM X.K T r to t) := by
  intro pins s σ H Q I h
  refine wpAny_Call_method_late hbase hfew hline rfl (thn (ho pins s σ H _ I h) fun v s1 zz0 => ?_)
  obtain ⟨x, H1, I1, r1, ty, q1⟩ := zz0
  obtain ⟨h1, h2⟩ := tyV_is I1 r1 ty
  refine ⟨T, id, pa, slot, hty, h1, h2, ?_⟩
  have hA := ha cpos pins s1 σ H1 _ I1 q1
  rw [hs] at hA ⊢
  refine Calls.callWith_builtin (by show (false || (backTo cpos (starEach es X.env)).any (·.1)) = false; rw [hplain] <;> rfl) (Calls.evalArgs_plain ?_)
  exact thn hA fun us s2 ⟨vs, H2, I2, r2, q2⟩ => hm pins s2 σ H2 x vs v us Q I2 r1 r2 q2
end
end L2
namespace L2
open PySem PySem.Spec PyProof.Rows
noncomputable def MtM (X : Cx) (id : String) (r : V → List V → Hp → VK → Prop) : Prop :=
  ∀ (pins : List (Addr × Obj)) (s : Shared) (σ : St) (H : Hp) (x : V) (xs : List V) (v : Value) (us : List Value) (Q : VK), Inv X pins σ H s → RelV x v → Vals xs us → r x xs H Q →
    wpAny (model X.prog X.w) X.A (call (.builtin id) (v :: us)) (EP X pins σ Q) X.xe s
theorem Vals.one : ∀ {x : V} {us : List Value}, Vals [x] us → ∃ u, us = [u] ∧ RelV x u
  | _, _, .cons r .nil => ⟨_, rfl, r⟩
theorem Vals.reverse {xs : List V} {us : List Value} (h : Vals xs us) : Vals xs.reverse us.reverse := by
  induction h with
  | nil => exact .nil
  | cons r t ih => rw [List.reverse_cons, List.reverse_cons]; exact Vals.append ih (.cons r .nil)
section
variable {X : Cx} {pins : List (Addr × Obj)} {σ : St} {H : Hp} {s : Shared} {l b : Addr} {xs ys zs : List V}
theorem Inv.lset {its its' : List Value} {n : Nat} {f : Array Value → Array Value} {t' : Nat} (I : Inv X pins σ H s) (hH : H l = some (.lst xs))
    (e : s.heap.get? l = some { cls := .type "list", data := .seq its.toArray n }) (hf : f its.toArray = its'.toArray) (hv : Vals ys its') (hz : ys.length ≤ sizeLine) :
    Inv X pins σ (upd H l (.lst ys)) { s with heap := s.heap.update l (Obj.mapSeq f), toks := t' } := by
  have q := PySem.IsL.update e f
  rw [hf] at q
  refine I.write (x := l) (e := l) (by rw [hH]; exact trivial) (.inl rfl) (fun b' u hb hu => (Heap.get?_update_other s.heap (Obj.mapSeq f) (Ne.symm hb)).trans hu) ⟨_, q⟩ ?_
  exact ⟨hz, its', _, hv, q⟩
theorem Inv.lnew {its : List Value} {t' : Nat} (I : Inv X pins σ H s) (hv : Vals ys its) (hz : ys.length ≤ sizeLine) :
    Inv X pins σ (upd H s.heap.objs.size (.lst ys)) { s with heap := s.heap.push { cls := .type "list", data := .seq its.toArray }, toks := t' } :=
  I.laid (fun _ _ q => Heap.get?_push_of_some _ q) (Nat.le_refl _) ⟨hz, its, 0, hv, Heap.get?_push_size _ rfl⟩
theorem Inv.fresh (I : Inv X pins σ H s) : H s.heap.objs.size = none := I.hok.fresh (Nat.le_refl _)
theorem Inv.lstM (I : Inv X pins σ H s) (hH : H l = some (.lst xs)) : xs.length ≤ sizeLine ∧ ∃ (its : List Value) (n : Nat), Vals xs its ∧ xs.length = its.length ∧ s.heap.get? l = some { cls := .type "list", data := .seq its.toArray n } := by
  obtain ⟨z, its, n, r, e⟩ := I.hok l _ hH
  exact ⟨z, its, n, r, r.length, e⟩
end
section
variable {X : Cx}
noncomputable def rAppend : V → List V → Hp → VK → Prop := fun x vs H Q => ∃ l xs y, x = .ref l ∧ vs = [y] ∧ H l = some (.lst xs) ∧ xs.length < sizeLine ∧ Q .non (upd H l (.lst (xs ++ [y])))
theorem mt_append : MtM X "list.append" rAppend := by
  intro pins s σ H x vs v us Q I rx rv h
  obtain ⟨l, xs, y, rfl, rfl, hH, hz, q⟩ := h
  cases rx
  obtain ⟨u, rfl, ru⟩ := rv.one
  obtain ⟨z, its, n, r, hl, e⟩ := I.lstM hH
  refine call_meets F.slot_list_append ⟨_, e, rfl⟩ F.entry_list_append (F.args_list_append_2 _ _) (PySem.list_append l its.toArray n u (by rw [List.size_toArray]; (first | lia | omega))) ⟨e, ?_⟩
  refine ⟨.non, _, I.lset (its' := its ++ [u]) hH e (by simp) (r.append (.cons ru .nil)) ?_, rfl, q⟩
  rw [List.length_append, List.length_singleton]
  (first | lia | omega)
noncomputable def rCat : R2 := fun x y H Q => ∃ l b xs zs, x = .ref l ∧ y = .ref b ∧ H l = some (.lst xs) ∧ H b = some (.lst zs) ∧ xs.length + zs.length ≤ sizeLine ∧ ∀ p, H p = none → Q (.ref p) (upd H p (.lst (xs ++ zs)))
theorem op_cat : OpR X (binaryOp .Add) rCat := by
  intro pins s σ H x y v u Q I rx ry h
  obtain ⟨l, b, xs, zs, rfl, rfl, hH, hB, hz, q⟩ := h
  cases rx
  cases ry
  obtain ⟨z, its, n, r, hl, e⟩ := I.lstM hH
  obtain ⟨z2, its2, n2, r2, hl2, e2⟩ := I.lstM hB
  refine PySem.P.add_list e e2 ?_ (by rw [List.size_toArray, List.size_toArray]; (first | lia | omega))
  have ea : its.toArray ++ its2.toArray = (its ++ its2).toArray := by simp
  rw [ea]
  exact ⟨.ref _, _, I.lnew (t' := s.toks) (r.append r2) (by rw [List.length_append]; (first | lia | omega)), rfl, q _ I.fresh⟩
theorem len_rep {α : Type} (xs : List α) (k : Nat) : (List.replicate k xs).flatten.length = k * xs.length := by
  induction k with
  | zero => simp
  | succ k ih => rw [List.replicate_succ, List.flatten_cons, List.length_append, ih, Nat.succ_mul, Nat.add_comm]
end
section
variable {prog : Program} {w : World} {A : Around} {E : Value → Shared → Prop} {s : Shared}
set_option maxRecDepth 100000 in
end
section
variable {X : Cx}
end
end L2
namespace Att
open PySem PySem.W PySem.Calls PyProof.Rows
theorem ints_of_wellAll {P : Params} {h : Heap} : ∀ (ns : List Int) (vs : List Value), WellAll P h vs (ns.map WData.int) → IntsAre vs ns := by
  intro ns
  induction ns with
  | nil =>
    intro vs w
    rw [List.map_nil] at w
    cases w
    exact .nil
  | cons n ns ih =>
    intro vs w
    rw [List.map_cons] at w
    cases w with
    | cons a b =>
      cases a
      exact .cons _ _ (ih _ b)
theorem script_of {l : OpenLaw} {n : Nat} (hn : l.most = some n) {P : Params} {h : Heap} {args : List WData} {vals : List Value}
    (hpre : l.row.toRowW.claim.pre args = true) (hwl : WellAll P h vals args) :
    ∃ a vs ns, vals = [Value.ref a] ∧ args = [WData.list (ns.map WData.int)] ∧ h.get? a = some { cls := .type "list", data := .seq vs.toArray } ∧ IntsAre vs ns ∧ ns.length ≤ n := by
  have hsh : WShape.hasAll [] args [.list .int] = true := (pre_splitW hpre).1
  have hc : l.pre.holds [] { args := args } = true := (pre_splitW hpre).2
  obtain ⟨d, r, rfl, h1, h2⟩ := hasAllW_cons hsh
  obtain rfl := hasAllW_nil h2
  obtain ⟨xs, rfl, h3⟩ := hasW_list h1
  obtain ⟨ns, rfl⟩ := items_int h3
  have hlen : ns.length ≤ n := by
    unfold OpenLaw.pre at hc
    have h4 : (WTm.not (.lt (.lit (.int (n : Int))) (.len (.arg 0)))).holds [] { args := [.list (ns.map .int)] } = true := by
      have h4 := (holds_andW hc).1
      rw [hn] at h4
      exact h4
    have h5 := condW_of h4 (w_not (w_lt w_lit (w_len_list (w_arg rfl))))
    rw [List.length_map] at h5
    refine Nat.le_of_not_lt fun q => ?_
    have q' : (n : Int) < ((ns.length : Nat) : Int) := by (first | lia | omega)
    first
      | (rw [decide_eq_true q'] at h5; exact absurd h5 (by decide))
      | (simp at h5; (first | lia | omega))
  cases hwl with
  | cons w1 w2 =>
    cases w2
    cases w1 with
    | list ho hall => exact ⟨_, _, ns, rfl, rfl, ho, ints_of_wellAll ns _ hall, hlen⟩
theorem post_true (l : OpenLaw) (args : List WData) : l.row.toRowW.claim.post args (.bool true) args = true :=
  postW_of (r := l.row.toRowW) (X := (true == true))
    (show WShape.has [] (.bool true) .bool = true by first | rfl | decide | simp [WShape.has, WShape.arms, WShape.armsAll])
    (show (WTm.eq .res (.lit (.bool true))).value [] { args := args, res := some (.bool true), after := args } = some (.bool (true == true)) from w_eq_bool (w_res rfl) w_lit) rfl
theorem attach_call {l : OpenLaw} {n : Nat} {q : Program} {loose : List Str} {XP : (Str → Option Value) → Heap → Prop} {YP : World → Heap → Prop} {d : DefRec}
    (hn : l.most = some n) (hdf : d.params.defaults = [])
    (call : ∀ (w : World) (s₀ s₁ : Shared) (mg mb : Str → Option Value) (fa : Addr) (o : Obj) (pm cd doc : Value) (a : Addr) (vs : List Value) (ns : List Int),
      Ground q loose [] XP w s₀ mg mb s₁.heap → YP w s₁.heap →
      s₁.heap.get? fa = some o → o.data = .func (docDef d.name d.params d.body d.scope pm cd doc) → s₁.heap.CodeRec cd d.name → mg d.name = some (.ref fa) →
      s₁.heap.get? a = some { cls := .type "list", data := .seq vs.toArray } → IntsAre vs ns → ns.length ≤ n → s₁.gens = #[] →
      codeAny (model l.prog w) callerA (.call (.ref fa) ⟨[.ref a], []⟩) (fun r s' => r = .ok (.ret (.bool true)) ∧ OldK s₁.heap s'.heap ∧ s'.os = s₁.os ∧ AllBare s'.gens) s₁) :
    WalkO q loose XP YP l.row.toRowW d [] (fun f vs => PySem.call f vs) := by
  intro w s₀ s₁ mg mb G Y fa o pm cd doc dV kV ho hd hcd hD hmg hg args vals as hpre hlay hrd hwl hlo
  obtain rfl : dV = .none := Dflts.none hD hdf
  obtain rfl : kV = .none := Dflts.noKw hD
  obtain ⟨a, vs, ns, rfl, rfl, hobj, hints, hlen⟩ := script_of hn hpre hwl
  refine enter_call (codeAny_mono (call w s₀ s₁ mg mb fa o pm cd doc a vs ns G Y ho (fd_plain hd) hcd hmg hobj hints hlen hg) fun r s' hq => ?_)
  obtain ⟨rfl, h2, h3, h4⟩ := hq
  exact ⟨.inl ⟨.bool true, .bool true, [], rfl, fun _ => rfl, .bool true, post_true l _, fun _ => ⟨List.Pairwise.nil, fun _ hm => (nomatch hm)⟩⟩, h2, h3, h4⟩
section
variable {prog : Program} {w : World} {A : Around} {E : Value → Shared → Prop} {s : Shared} {K : Frag}
end
end Att
namespace L2
open PySem PySem.Spec PyProof.Rows
theorem vals_ints : ∀ {vs : List Value} {ns : List Int}, IntsAre vs ns → Vals (ns.map V.int) vs
  | _, _, .nil => .nil
  | _, _, .cons n t h => .cons ⟨t, rfl⟩ (vals_ints h)
noncomputable def Only (H : Hp) : Prop := ∀ b, H b = none ∨ ∃ o xs, H b = some (.frz o (.lst xs))
theorem law_call {P : Program} {w : World} {K : PySem.W.Frag} {mg mb : Str → Option Value} {CX : CXT} {k : Nat} {fa a : Addr} {fd : FuncData} {x : Str} {sp : Sp} {s₁ : Shared} {vs : List Value} {ns : List Int}
    (KX : K.In s₁.heap) (hns : s₁.heap.Ns mainGlobals mg) (hb : s₁.heap.Ns builtinsNs mb) (hbb : ∀ x : Str, x ≠ "__name__" → mb x = bootBuiltins x) (hlim : s₁.heap.NoLimit) (hg : s₁.gens = #[])
    (ha : s₁.heap.get? a = some { cls := .type "list", data := .seq vs.toArray }) (hi : IntsAre vs ns) (hl : ns.length ≤ sizeLine) (hr : Room k callerA)
    (F : ∀ base : Heap, K.In base → base.Ns mainGlobals mg → FnOk P w K mg base CX k fa fd [x] sp) (hbind : ∀ (s : Shared) (u : Value), BindsTo s fd ⟨[u], []⟩ [(x, u)])
    (hsp : ∀ H : Hp, Only H → SqL K H a (ns.map V.int) → sp [.ref a] H (fun v _ => v = .bl true) fun _ _ _ => False)
    (hCX : ∀ H e s', CX [] H s₁ (fun _ _ _ => False) e s' → False) :
    codeAny (model P w) callerA (.call (.ref fa) ⟨[.ref a], []⟩) (fun r s' => r = .ok (.ret (.bool true)) ∧ OldK s₁.heap s'.heap ∧ s'.os = s₁.os ∧ AllBare s'.gens) s₁ := by
  have rv := vals_ints hi
  have lenV := hi.length
  -- from an abstract heap in which nothing but the script may be tracked
  have core : ∀ H : Hp, Only H → SqL K H a (ns.map V.int) → HOk P w H s₁.heap → (∀ b, H b ≠ none → b = a) → (H a ≠ none → K.lookup a = none) →
      codeAny (model P w) callerA (.call (.ref fa) ⟨[.ref a], []⟩) (fun r s' => r = .ok (.ret (.bool true)) ∧ OldK s₁.heap s'.heap ∧ s'.os = s₁.os ∧ AllBare s'.gens) s₁ := by
    intro H hO hS hok hA hK
    have base_of : ∀ {b : Addr} {o : Obj}, s₁.heap.get? b = some o → H b = none → (hidT s₁.heap H).get? b = some o := fun e n => hidT_get e n
    have noA : ∀ {b : Addr} {o : Obj} {es : Array DictEntry} {ep : Nat}, s₁.heap.get? b = some o → o.data = .dict es ep → H b = none := fun {b o es ep} e d => by
      cases q : H b with
      | none => rfl
      | some u =>
        have e' : b = a := hA b (by rw [q]; simp)
        subst e'
        rw [ha] at e; cases e
        have d' : Data.seq vs.toArray _ = Data.dict es ep := d
        cases d'
    have nsK : ∀ {b : Addr} {m : Str → Option Value}, s₁.heap.Ns b m → (hidT s₁.heap H).Ns b m := fun {b m} ⟨o, es, ep, e, d, r⟩ => ⟨o, es, ep, base_of e (noA e d), d, r⟩
    have hKb : K.In (hidT s₁.heap H) := fun b o e => base_of (KX b o e) (by
      cases q : H b with
      | none => rfl
      | some u =>
        have e' : b = a := hA b (by rw [q]; simp)
        subst e'
        rw [hK (by rw [q]; simp)] at e; cases e)
    have hM : Mod K mg (hidT s₁.heap H) := ⟨hKb, nsK hns, ⟨mb, nsK hb, hbb⟩, let ⟨mc, h1, h2⟩ := hlim; ⟨mc, nsK h1, h2⟩⟩
    have e0 : Env0 P w K mg (hidT s₁.heap H) callerA [] s₁ H := ⟨rfl, hM, fun b o e => of_hidT e, Nat.le_of_eq (hidT_size _ _), trivial, fun b hb => absurd (show b ∈ ([] : List Addr) from hb) (by simp), hok, .of_eq hg⟩
    refine codeAny_mono ((F _ hKb (nsK hns)).run callerA [] s₁ H ⟨[.ref a], []⟩ [.ref a] [.ref a] _ _ hr e0 (hbind s₁ (.ref a)) (.cons rfl .nil) (hsp H hO hS)) fun r s' h => ?_
    cases r with
    | error e => exact (hCX H e s' h).elim
    | ok fl =>
      cases fl with
      | next => exact False.elim h
      | brk => exact False.elim h
      | cont => exact False.elim h
      | ret u =>
        obtain ⟨v, H', os, bare, un, hok', r', q⟩ := h
        have q' : v = .bl true := q
        subst q'
        obtain rfl : u = Value.bool true := r'
        refine ⟨rfl, OldK.of_keep fun b o e => ?_, os, bare⟩
        cases q : H b with
        | none => exact un.keep b o e q (by intro z; exact absurd (show b ∈ ([] : List Addr) from z) (by simp)) (by simp)
        | some u =>
          rcases hO b with z | ⟨ob, xs, z⟩
          · rw [q] at z; cases z
          · have z2 := un.frzs b ob _ z
            obtain ⟨e1, _⟩ := hok b _ z
            obtain ⟨e2, _⟩ := hok' b _ z2
            rw [e] at e1; cases e1
            exact e2
  cases hk : K.lookup a with
  | some o =>
    -- the script is one of the module's own objects
    have e := KX a o hk
    rw [ha] at e
    cases e
    refine core (fun _ => none) (fun _ => .inl rfl) (.inr ⟨_, vs.toArray, _, hk, rfl, rfl, rfl, by rw [List.size_toArray, lenV]; exact hl, by simpa using rv⟩) (fun b u z => by have z' : (none : Option HO) = some u := z; cases z') (fun b z => absurd rfl z) fun z => absurd rfl z
  | none =>
    refine core (fun b => if b = a then some (.frz { cls := .type "list", data := .seq vs.toArray } (.lst (ns.map V.int))) else none) (fun b => ?_) (.inl (.inr ⟨{ cls := .type "list", data := .seq vs.toArray }, if_pos rfl⟩)) (fun b u z => ?_) (fun b z => ?_) fun _ => hk
    · by_cases hb : b = a
      · exact .inr ⟨_, _, if_pos hb⟩
      · exact .inl (if_neg hb)
    · by_cases hb : b = a
      · have z' := (if_pos hb).symm.trans z
        cases z'
        subst hb
        exact ⟨ha, by rw [List.length_map]; exact hl, vs, _, rv, ha⟩
      · have z' := (if_neg hb).symm.trans z
        cases z'
    · by_cases hb : b = a
      · exact hb
      · exact absurd (if_neg hb) z
end L2
namespace L2
open PySem PySem.Spec PyProof.Rows
theorem walk_of {l : PySem.W.OpenLaw} {n k : Nat} {q : Program} {loose : List Str} {XP : (Str → Option Value) → Heap → Prop} {YP : World → Heap → Prop} {d : DefRec} {K : Params → PySem.W.Frag} {CX : World → CXT} {sp : World → Sp} {x : Str}
    (hn : l.most = some n) (hn2 : n ≤ sizeLine) (hdf : d.params.defaults = []) (hr : Room k callerA)
    (hY : ∀ (w : World) (h : Heap), YP w h → (K w.params).In h)
    (F : ∀ (w : World) (mg : Str → Option Value) (fa : Addr) (h : Heap), (K w.params).In h → h.Ns mainGlobals mg → mg d.name = some (.ref fa) →
      ∃ fd : FuncData, (∀ (s : Shared) (u : Value), BindsTo s fd ⟨[u], []⟩ [(x, u)]) ∧
        ∀ base : Heap, (K w.params).In base → base.Ns mainGlobals mg → FnOk l.prog w (K w.params) mg base (CX w) k fa fd [x] (sp w))
    (hsp : ∀ (w : World) (H : Hp) (a : Addr) (ns : List Int), ns.length ≤ n → Only H → SqL (K w.params) H a (ns.map V.int) → sp w [.ref a] H (fun v _ => v = .bl true) fun _ _ _ => False)
    (hCX : ∀ (w : World) (H : Hp) (s : Shared) (e : Value) (s' : Shared), CX w [] H s (fun _ _ _ => False) e s' → False) :
    PySem.W.WalkO q loose XP YP l.row.toRowW d [] (fun f vs => PySem.call f vs) := by
  refine Att.attach_call hn hdf fun w s₀ s₁ mg mb fa o pm cd doc a vs ns G Y ho hd hcd hmg hobj hints hlen hg => ?_
  have KX := hY w _ Y
  obtain ⟨fd, hb, hF⟩ := F w mg fa _ KX G.T.g hmg
  exact law_call KX G.T.g G.T.b G.T.builtins G.T.nolimit hg hobj hints (Nat.le_trans hlen hn2) hr hF hb (fun H hO hS => hsp w H a ns hlen hO hS) fun H e s' => hCX w H s₁ e s'
end L2
namespace L2
open PySem PySem.Spec PyProof.Rows
noncomputable def inClass (s : Stmt) (j : Nat) : Stmt := match s with
  | .ClassDef _ _ _ body _ _ _ _ _ _ _ => body.getD j (.Pass ⟨0, 0, 0, 0⟩)
  | _ => .Pass ⟨0, 0, 0, 0⟩
noncomputable def defArgs (s : Stmt) : Arguments := match s with
  | .FunctionDef _ a _ _ _ _ _ _ _ _ => a
  | _ => { posonlyargs := [], args := [], vararg := none, kwonlyargs := [], kw_defaults := [], kwarg := none, defaults := [] }
noncomputable def defBody (s : Stmt) : List Stmt := match s with
  | .FunctionDef _ _ b _ _ _ _ _ _ _ => b
  | _ => []
noncomputable def defScope (s : Stmt) : Scope := match s with
  | .FunctionDef _ _ _ _ _ _ sc _ _ _ => sc
  | _ => { kind := .function, names := [], isGenerator := false, isCoroutine := false }
noncomputable abbrev CX0 : CXT := fun _ _ _ _ _ _ => False
noncomputable abbrev E0 : XK := fun _ _ _ => False
theorem pass0 {X : Cx} : Passes CX0 X E0 := fun _ _ _ _ _ _ _ h => h.elim
structure Fun (K : PySem.W.Frag) (x qual : Str) (st : Stmt) (f : Addr) (fd : FuncData) : Prop where
  ex : ∃ (oc : Value) (od : Option Addr) (kV doc pm : Value) (an : Option Addr) (cdv ct : Value) (osl : Array (Option Value)),
    fd = PySem.W.fnOf x qual (defArgs st) (defBody st) (defScope st) .none kV doc pm an cdv ct ∧ K.lookup f = some ⟨oc, od, .func fd, osl⟩ ∧ PySem.W.codeIn K cdv qual = true
  kp : PySem.W.keepIn K (.ref f) = true
section
variable {P : Program} {w : World} {K : PySem.W.Frag} {mg : Str → Option Value} {base : Heap}
theorem Fun.ok {x qual : Str} {st : Stmt} {f : Addr} {fd : FuncData} {N ps : List Str} {k : Nat} {sp : Sp} (F : Fun K x qual st f fd) (S : FnScope N ps (defScope st)) (len : ∀ vs H Q E, sp vs H Q E → vs.length = ps.length)
    (hbody : ∀ (cdv : Value) (A : Around) (outer : List Env) (s : Shared) (H : Hp) (vs : List V) (Q : VK) (E : XK), Room k (A.deeper (envOfC qual (defScope st) s.heap.objs.size f cdv)) → sp vs H Q E →
      ∃ t, PSs (cxOf CX0 P w K mg base N qual (defScope st) f cdv A outer s H E).nox (defBody st) t ∧ t { nx := fun _ H' => Q .non H', rt := Q } (start N vs) H) : FnOk P w K mg base CX0 (k + 1) f fd ps sp := by
  obtain ⟨oc, od, kV, doc, pm, an, cdv, ct, osl, rfl, lk, hcd⟩ := F.ex
  refine fn_of lk hcd S len fun A outer s H vs Q E hr hsp => ?_
  obtain ⟨t, h, q⟩ := hbody cdv A outer s H vs Q E hr hsp
  exact ⟨t, h.nox, q⟩
theorem Fun.binds {x qual : Str} {st : Stmt} {f : Addr} {fd : FuncData} {ps : List Str} (F : Fun K x qual st f fd)
    (h : ∀ (kV doc pm : Value) (an : Option Addr) (cdv ct : Value) (us : List Value), us.length = ps.length → bindArgs (PySem.W.fnOf x qual (defArgs st) (defBody st) (defScope st) .none kV doc pm an cdv ct) ⟨us, []⟩ = pure (ps.zip us)) : Binds K fd ps [] := by
  obtain ⟨oc, od, kV, doc, pm, an, cdv, ct, osl, rfl, lk, hcd⟩ := F.ex
  exact .all (h kV doc pm an cdv ct)
theorem fun_mk {x qual : Str} {st : Stmt} {f : Addr} {oc : Value} {od an : Option Addr} {osl : Array (Option Value)} {kV doc pm cdv ct : Value} (l : K.lookup f = some ⟨oc, od, .func (PySem.W.fnOf x qual (defArgs st) (defBody st) (defScope st) .none kV doc pm an cdv ct), osl⟩)
    (c : PySem.W.codeIn K cdv qual = true) (k : PySem.W.keepIn K (.ref f) = true) : Fun K x qual st f (PySem.W.fnOf x qual (defArgs st) (defBody st) (defScope st) .none kV doc pm an cdv ct) := ⟨⟨oc, od, kV, doc, pm, an, cdv, ct, osl, rfl, l, c⟩, k⟩
end
section
variable {X : Cx}
theorem pv (i : Nat) {x : Str} {pos : Pos} (hN : X.N[i]? = some x := by rfl) (hv : Vis X.env.scope x := by first | exact Or.inl rfl | exact Or.inr (Or.inl rfl) | exact Or.inr (Or.inr rfl)) (hd : (x == ("__debug__" : Str)) = false := by decide)
    (hcd : (x == ("__classdict__" : Str)) = false := by decide) : PE X (.Name x pos) (tVar i) := pe_var hN hv hd hcd
end
theorem iteF {A B : Prop} (h : B) : if false = true then A else B := by
  rw [if_neg Bool.false_ne_true]
  exact h
theorem iteT {A B : Prop} (h : A) : if true = true then A else B := by
  rw [if_pos rfl]
  exact h
theorem ite2 {c A B : Prop} [Decidable c] (h1 : c → A) (h2 : ¬ c → B) : if c then A else B := by
  by_cases h : c
  · rw [if_pos h]
    exact h1 h
  · rw [if_neg h]
    exact h2 h
theorem iteNS {c A B : Prop} [Decidable c] (hc : c) (h : B) : if (!decide c) = true then A else B := by
  rw [decide_eq_true hc]
  exact iteF h
noncomputable def Same (H H' : Hp) : Prop := ∀ b o, H b = some o → H' b = some o
theorem Same.refl (H : Hp) : Same H H := fun _ _ h => h
theorem Same.trans {H H1 H2 : Hp} (a : Same H H1) (b : Same H1 H2) : Same H H2 := fun c o h => b c o (a c o h)
theorem Same.free {H H' : Hp} (e : Same H H') {l : Addr} (h : H' l = Option.none) : H l = Option.none := by
  cases q : H l with
  | none => rfl
  | some o =>
    rw [e l o q] at h
    cases h
theorem Same.seq {K : PySem.W.Frag} {H H' : Hp} {a : Addr} {xs : List V} (e : Same H H') (h : SqL K H a xs) : SqL K H' a xs := by
  rcases h with (h | ⟨o, h⟩) | h
  · exact .inl (.inl (e _ _ h))
  · exact .inl (.inr ⟨o, e _ _ h⟩)
  · exact .inr h
end L2
namespace L2
open PySem PySem.Spec PyProof.Rows
section
variable {κ : Type} [DecidableEq κ]
end
section
variable {P : Program} {w : World} {H : Hp} {h : Heap} {a : Addr}
end
section
variable {X : Cx} {pins : List (Addr × Obj)} {σ : St} {H : Hp} {s : Shared} {a : Addr} {y v : V} {u r : Value} {o : Option V} {A : Around} {E : Value → Shared → Prop}
end
section
variable {X : Cx} {pins : List (Addr × Obj)} {σ : St} {H : Hp} {s : Shared} {a : Addr} {kvs : List (Key × V)} {k : Key} {u : Value} {A : Around} {E : Value → Shared → Prop}
end
section
variable {X : Cx} {o i e value : Expr} {pos pos' tpos : Pos} {td ty tv : TE}
end
section
variable {X : Cx} {pos : Pos}
end
section
variable {X : Cx} {pins : List (Addr × Obj)} {σ : St} {H : Hp} {s : Shared} {a : Addr} {y d : V} {u r : Value} {o : Option V} {A : Around} {E : Value → Shared → Prop}
end
section
variable {X : Cx} {o e f : Expr} {apos cpos : Pos} {td ty tx : TE}
end
section
variable {X : Cx} {pins : List (Addr × Obj)} {σ : St} {H : Hp} {s : Shared} {a : Addr} {kvs : List (Key × V)} {A : Around} {E : Value → Shared → Prop}
end
section
variable {X : Cx} {pins : List (Addr × Obj)} {σ : St} {H : Hp} {s : Shared} {a : Addr} {y : V} {u : Value} {A : Around} {E : Value → Shared → Prop}
end
end L2
/-! A COMPREHENSION over the layer: [e for t in i], [e for t in i if c], as a value and as a name's new value. -/
namespace L2
open PySem PySem.Spec PyProof.Rows
/-! ### the closure of the block -/
theorem forIn_yield_gen {α β : Type} {f : α → β → Sem (ForInStep β)} (g : β → α → β) : ∀ (l : List α) (b : β), (∀ x ∈ l, ∀ b, f x b = pure (.yield (g b x))) → forIn l b f = pure (l.foldl g b) := by
  intro l
  induction l with
  | nil => intro b _; rfl
  | cons x l ih =>
    intro b h
    rw [List.forIn_cons, h x List.mem_cons_self, pure_bind]
    exact ih _ fun y hy => h y (List.mem_cons_of_mem _ hy)
noncomputable def closStep (env : Env) (cs : List (Str × Addr)) (p : Str × NameKind) : List (Str × Addr) := if p.2 == .free then (p.1, (env.cells.lookup p.1).getD 0) :: cs else cs
noncomputable def clos (env : Env) (names : List (Str × NameKind)) : List (Str × Addr) := names.foldl (closStep env) []
theorem closureFor_clos {scope : Scope} {env : Env} (h : ∀ p ∈ scope.names, p.2 = .free → ∃ c, env.cells.lookup p.1 = some c) : closureFor scope env = pure (clos env scope.names) := by
  simp only [closureFor]
  rw [forIn_yield_gen (closStep env) scope.names [] (fun x hx b => by
    obtain ⟨n, k⟩ := x
    cases e : (k == NameKind.free) with
    | false => simp only [closStep, e, Bool.false_eq_true, if_false]
    | true =>
      have ek : k = .free := by simpa using e
      obtain ⟨c, hc⟩ := h _ hx ek
      simp only [] at hc
      simp only [closStep, e, if_true, cellOf, hc, Option.getD_some, pure_bind])]
  rfl
theorem clos_pairs {env : Env} : ∀ (names : List (Str × NameKind)) (cs : List (Str × Addr)), (∀ p ∈ names, p.2 = .free → ∃ c, env.cells.lookup p.1 = some c) → (∀ q ∈ cs, env.cells.lookup q.1 = some q.2) →
    ∀ q ∈ names.foldl (closStep env) cs, env.cells.lookup q.1 = some q.2
  | [], _, _, hc => hc
  | (n, k) :: r, cs, h, hc => by
    refine clos_pairs r _ (fun p hp => h p (List.mem_cons_of_mem _ hp)) fun q hq => ?_
    unfold closStep at hq
    split at hq
    · rename_i e
      rcases List.mem_cons.mp hq with rfl | hq
      · obtain ⟨c, e'⟩ := h (n, k) List.mem_cons_self (by simpa using e)
        simp only [] at e'
        simp only [e', Option.getD_some]
      · exact hc q hq
    · exact hc q hq
theorem clos_keep {env : Env} : ∀ (names : List (Str × NameKind)) (cs : List (Str × Addr)) (q : Str × Addr), q ∈ cs → q ∈ names.foldl (closStep env) cs
  | [], _, _, h => h
  | (n, k) :: r, cs, q, h => by
    refine clos_keep r _ q ?_
    unfold closStep
    split
    · exact List.mem_cons_of_mem _ h
    · exact h
theorem clos_mem {env : Env} : ∀ (names : List (Str × NameKind)) (cs : List (Str × Addr)) (x : Str), (x, NameKind.free) ∈ names → ∃ a, (x, a) ∈ names.foldl (closStep env) cs
  | [], _, _, h => by simp at h
  | (n, k) :: r, cs, x, h => by
    rcases List.mem_cons.mp h with e | h
    · cases e
      exact ⟨_, clos_keep r _ _ (by unfold closStep; rw [if_pos (by simp)]; exact List.mem_cons_self)⟩
    · exact clos_mem r _ x h
theorem lookup_of_mem {α : Type} {x : Str} {a : α} : ∀ {l : List (Str × α)}, (x, a) ∈ l → ∃ b, l.lookup x = some b
  | [], h => by simp at h
  | (n, b) :: r, h => by
    by_cases e : x = n
    · subst e; exact ⟨b, by simp [List.lookup_cons]⟩
    · rcases List.mem_cons.mp h with z | z
      · cases z; exact absurd rfl e
      · obtain ⟨c, hc⟩ := lookup_of_mem z
        have e' : (x == n) = false := by simpa using e
        exact ⟨c, by simp only [List.lookup_cons, e']; exact hc⟩
theorem clos_lookup {env : Env} {names : List (Str × NameKind)} (h : ∀ p ∈ names, p.2 = .free → ∃ c, env.cells.lookup p.1 = some c) {x : Str} {c : Addr} (e : (clos env names).lookup x = some c) : env.cells.lookup x = some c :=
  clos_pairs names [] h (fun _ hq => absurd hq (by simp)) (x, c) (PySem.mem_of_lookup e)
theorem clos_free {env : Env} {names : List (Str × NameKind)} (h : ∀ p ∈ names, p.2 = .free → ∃ c, env.cells.lookup p.1 = some c) {x : Str} (hx : (x, NameKind.free) ∈ names) : ∃ c, (clos env names).lookup x = some c ∧ env.cells.lookup x = some c := by
  obtain ⟨a, ha⟩ := clos_mem (env := env) names [] x hx
  obtain ⟨c, hc⟩ := lookup_of_mem ha
  exact ⟨c, hc, clos_lookup h hc⟩
/-- the names' kinds in the block -/
theorem relabel_lookup {env : Env} : ∀ {names : List (Str × NameKind)} {x : Str},
    (names.map fun (n, k) => if (k == NameKind.free && env.scope.kind == .function && env.kindOf n == some .cell) then (n, NameKind.cell) else (n, k)).lookup x = names.lookup x ∨
      (names.lookup x = some .free ∧ (names.map fun (n, k) => if (k == NameKind.free && env.scope.kind == .function && env.kindOf n == some .cell) then (n, NameKind.cell) else (n, k)).lookup x = some .cell)
  | [], _ => .inl rfl
  | (n, k) :: r, x => by
    have ih := @relabel_lookup env r x
    show List.lookup x ((if (k == NameKind.free && env.scope.kind == .function && env.kindOf n == some .cell) = true then (n, NameKind.cell) else (n, k)) :: _) = _ ∨ (_ ∧ List.lookup x ((if (k == NameKind.free && env.scope.kind == .function && env.kindOf n == some .cell) = true then (n, NameKind.cell) else (n, k)) :: _) = _)
    cases hx : x == n with
    | true =>
      by_cases hc : (k == NameKind.free && env.scope.kind == .function && env.kindOf n == some .cell) = true
      · have hk : k = .free := by simp only [Bool.and_eq_true] at hc; simpa using hc.1.1
        rw [if_pos hc]
        simp only [List.lookup_cons, hx]
        exact .inr ⟨by rw [hk], by first | rfl | trivial⟩
      · rw [if_neg hc]
        simp only [List.lookup_cons, hx]
        first | exact .inl rfl | exact .inl trivial
    | false =>
      by_cases hc : (k == NameKind.free && env.scope.kind == .function && env.kindOf n == some .cell) = true
      · rw [if_pos hc]; simp only [List.lookup_cons, hx]; exact ih
      · rw [if_neg hc]; simp only [List.lookup_cons, hx]; exact ih
/-! ### the block's context -/
/-- what a comprehension's scope must be: own: its own names, cap: the slots of the body's names that it reads -/
structure LcSc (N : List Str) (sc : Scope) (own : List Str) (cap : List Nat) (scope : Scope) : Prop where
  kind : scope.kind = .function
  nocell : ∀ y ∈ scope.names, y.2 ≠ .cell
  loc : ∀ y ∈ scope.names, y.2 = .local → scope.names.lookup y.1 = some .local
  fr : ∀ y ∈ scope.names, y.2 = .free → sc.names.lookup y.1 = some .cell ∨ sc.names.lookup y.1 = some .free
  cap : ∀ i ∈ cap, i < N.length ∧ scope.names.lookup (N.getD i Str.empty) = some .free
noncomputable def lcN (N own : List Str) (cap : List Nat) : List Str := own ++ cap.map fun i => N.getD i Str.empty
noncomputable def lcSt (own : List Str) (cap : List Nat) (σ : St) : St := List.replicate own.length none ++ cap.map fun i => σ.getD i none
noncomputable abbrev cxLc (X : Cx) (N' : List Str) (scope : Scope) (cl : List (Str × Addr)) (C : Addr) (s : Shared) (H : Hp) (fp : List Addr) : Cx where
  prog := X.prog
  w := X.w
  K := X.K
  mg := X.mg
  base := X.base
  A := X.A
  N := N'
  s₀ := s
  H₀ := H
  env := compEnvC scope cl C X.env
  outer := X.stack
  stack := X.stack
  ex := fp
  fn := fun _ => false
  calm := X.calm
  pn := []
  xe := fun _ _ => False
section
variable {X : Cx} {pins : List (Addr × Obj)} {σ : St} {H : Hp} {s : Shared} {N own : List Str} {cap : List Nat} {sc scope : Scope} {fp : List Addr}
theorem LcSc.cells (L : LcSc N sc own cap scope) (hsc : X.env.scope = sc) (ok : X.Ok) : ∀ p ∈ scope.names, p.2 = .free → ∃ c, X.env.cells.lookup p.1 = some c := fun p hp e => by
  refine ok.has p.1 ?_
  show X.env.scope.names.lookup p.1 = _ ∨ X.env.scope.names.lookup p.1 = _
  rw [hsc]
  exact L.fr p hp e
theorem lc_start (L : LcSc N sc own cap scope) (hN : X.N = N) (hsc : X.env.scope = sc) (I : Inv X pins σ H s) (hf : ∀ b ∈ fp, FpOk X pins H b) (hlt : ∀ b ∈ fp, b < s.heap.objs.size)
    {h4 : Heap} {tk : Nat} (hns : h4.Ns s.heap.objs.size fun _ => none) (hk : ∀ b o, s.heap.get? b = some o → h4.get? b = some o) :
    Inv (cxLc X (lcN N own cap) scope (clos X.env scope.names) s.heap.objs.size s H fp) [] (lcSt own cap σ) H { s with heap := h4, toks := tk } := by
  have hcs := L.cells hsc I.ok
  have kinds : ∀ x, ((relabel scope X.env).names.lookup x = some .cell ∨ (relabel scope X.env).names.lookup x = some .free) → scope.names.lookup x = some .free := fun x hx => by
    rcases @relabel_lookup X.env scope.names x with e | ⟨e, _⟩
    · have hx' : scope.names.lookup x = some .cell ∨ scope.names.lookup x = some .free := by rw [← e]; exact hx
      rcases hx' with z | z
      · exact absurd rfl (L.nocell _ (PySem.mem_of_lookup z))
      · exact z
    · exact e
  refine ⟨⟨I.ok.mod, L.kind, I.ok.glob, I.ok.blt, Nat.le_refl _, fun x y c h1 h2 => I.ok.inj x y c (clos_lookup hcs h1) (clos_lookup hcs h2), fun x hx => ?_, fun x c h _ => absurd h (by simp), I.ok.hd, I.ok.frames, .inl rfl, fun b hb => ⟨Nat.ne_of_lt (hlt b hb), fun x c e => (hf b hb).2.2.2.2.1 x c (clos_lookup hcs e)⟩,
    I.bs, Nat.le_trans I.ok.bsz I.sz, fun b o e hb => ?_, fun b hb z => ?_, I.stack, I.stkFree⟩,
    rfl, I.bare, Un.kept hk, ⟨_, hns, fun i x v h1 h2 h3 => ?_⟩, fun x c e => ?_, I.hok.fresh (Nat.le_refl _), fun x c e => I.freeC x c (clos_lookup hcs e), fun p hp => absurd (show p ∈ ([] : List (Addr × Obj)) from hp) (by simp), I.hok.kept hk, ?_⟩
  · obtain ⟨c, e, _⟩ := clos_free hcs (PySem.mem_of_lookup (kinds x hx))
    exact ⟨c, e⟩
  · rcases (hf b hb).2.2.2.1 with z | z
    · exact I.ok.noex b o e z
    · exact absurd (Nat.lt_of_lt_of_le (Heap.lt_size (I.ok.bs b o e).1) z) (Nat.lt_irrefl _)
  · rcases List.mem_cons.mp (I.stkSub b z) with e | e
    · exact (hf b hb).2.1 e
    · exact (hf b hb).2.2.1 e
  · -- a captured name's value stands in its cell
    have hi : own.length ≤ i := by
      by_cases hi : own.length ≤ i
      · exact hi
      · have h2' : (List.replicate own.length none ++ cap.map fun i => σ.getD i none)[i]? = some (some v) := h2
        rw [List.getElem?_append_left (by simp only [List.length_replicate]; (first | lia | omega)), List.getElem?_replicate] at h2'
        split at h2' <;> cases h2'
    have h2' : (List.replicate own.length none ++ cap.map fun i => σ.getD i none)[i]? = some (some v) := h2
    rw [List.getElem?_append_right (by simp only [List.length_replicate]; (first | lia | omega)), List.length_replicate, List.getElem?_map] at h2'
    have h1' : (own ++ cap.map fun i => N.getD i Str.empty)[i]? = some x := h1
    rw [List.getElem?_append_right hi, List.getElem?_map] at h1'
    cases ec : cap[i - own.length]? with
    | none => rw [ec] at h1'; cases h1'
    | some k =>
      rw [ec] at h1' h2'
      have ex : N.getD k Str.empty = x := Option.some.inj h1'
      have ev : σ.getD k none = some v := Option.some.inj h2'
      obtain ⟨hkl, hfr⟩ := L.cap k (List.mem_of_getElem? ec)
      rw [ex] at hfr
      have hNk : X.N[k]? = some x := by
        rw [hN, List.getElem?_eq_getElem hkl]
        rw [List.getD_eq_getElem?_getD, List.getElem?_eq_getElem hkl] at ex
        exact congrArg some ex
      have hσk : σ[k]? = some (some v) := by
        rw [List.getD_eq_getElem?_getD] at ev
        cases e : σ[k]? with
        | none => rw [e] at ev; cases ev
        | some z => rw [e] at ev; exact congrArg some ev
      have hmem := PySem.mem_of_lookup hfr
      have hkd : X.env.scope.names.lookup x = some .cell ∨ X.env.scope.names.lookup x = some .free := by rw [hsc]; exact L.fr _ hmem rfl
      obtain ⟨m, _, hl⟩ := I.loc
      obtain ⟨u, ru, lk⟩ := hl k x v hNk hσk (.inr hkd)
      obtain ⟨c, e1, e2⟩ := clos_free hcs hmem
      rcases lk with ⟨z, _⟩ | ⟨_, c', e3, z⟩
      · have z' : X.env.scope.names.lookup x = some .local := z
        rcases hkd with q | q <;> (rw [q] at z'; cases z')
      · rw [e2] at e3; cases e3
        refine ⟨u, ru, .inr ⟨?_, c, e1, ?_⟩⟩
        · show (relabel scope X.env).names.lookup x = _ ∨ (relabel scope X.env).names.lookup x = _
          rcases @relabel_lookup X.env scope.names x with q | ⟨_, q⟩
          · exact .inr (q.trans hfr)
          · exact .inl q
        · obtain ⟨o, ho, hd⟩ := z
          exact ⟨o, hk _ _ ho, hd⟩
  · obtain ⟨v, o, ho, hd⟩ := I.cell x c (clos_lookup hcs e)
    exact ⟨v, o, hk _ _ ho, hd⟩
  · show (List.replicate own.length none ++ cap.map fun i => σ.getD i none).length = (own ++ cap.map fun i => N.getD i Str.empty).length
    simp only [List.length_append, List.length_replicate, List.length_map]
/-- back in the body -/
theorem lc_back {N' : List Str} {cl : List (Str × Addr)} {C : Addr} {σ' : St} {H' : Hp} {s' : Shared} {pins' : List (Addr × Obj)} (I : Inv X pins σ H s) (hf : ∀ b ∈ fp, FpOk X pins H b) (J : Inv (cxLc X N' scope cl C s H fp) pins' σ' H' s') : Inv X pins σ H' s' :=
  I.call' (ch := fp) J.os J.base J.hok J.bare fun b hb => ⟨(hf b hb).2.2.2.1, (hf b hb).2.1, (hf b hb).2.2.2.2.1, (hf b hb).2.2.2.2.2⟩
end
/-! ### the block's tests -/
noncomputable def PIf (X : Cx) (ifs : List Expr) (tc : TT) : Prop :=
  ∀ (pins : List (Addr × Obj)) (s : Shared) (σ : St) (H : Hp) (Q : Bool → Hp → Prop), Inv X pins σ H s → tc σ H Q →
    wpAny (model X.prog X.w) X.A (forIn ifs true fun c r => if r = true then do let ok ← isTrue c X.env (eval c X.env); pure (ForInStep.yield ok) else pure (ForInStep.yield r)) (TP X pins σ Q) X.xe s
noncomputable def tYes : TT := fun _ H Q => Q true H
theorem pif_nil {X : Cx} : PIf X [] tYes := fun _ _ _ H _ I h => wpAny_tests_nil ⟨H, I, h⟩
/-! ### the loop -/
section
variable {prog : Program} {w : World} {A : Around} {R : Result → Shared → Prop} {s : Shared}
theorem compLoop_gen {elt target iter : Expr} {ifs : List Expr} {scope : Scope} {pos : Pos} {it acc : Value} {env : Env} (I : Nat → Shared → Prop)
    (turn : ∀ n s, I n s → wpAny (model prog w) A (pyNext it) (fun r s₁ => match r with
      | none => R (.ok .next) s₁
      | some v => wpAny (model prog w) A (letOwnedTupleGo target it v) (fun _ s₁' => wpAny (model prog w) A (assign target env v) (fun _ s₂ =>
          wpAny (model prog w) A (forIn ifs true fun c r => if r = true then do let ok ← isTrue c env (eval c env); pure (ForInStep.yield ok) else pure (ForInStep.yield r)) (fun ok s₃ =>
            if ok = true then wpAny (model prog w) A (eval elt env) (fun x s₄ =>
              wpAny (model prog w) A (call (.builtin "list.append") [acc, x]) (fun _ s₅ => ∃ m, m < n ∧ I m s₅) (fun _ _ => False) s₄) (fun _ _ => False) s₃
            else ∃ m, m < n ∧ I m s₃) (fun _ _ => False) s₂) (fun _ _ => False) s₁') (fun _ _ => False) s₁) (fun _ _ => False) s)
    (n : Nat) (h : I n s) :
    codeAny (model prog w) A (.compLoop (.ListComp elt [⟨target, iter, ifs, 0⟩] scope pos) 0 it acc env) R s := by
  refine codeAny_loop rfl I (fun n s hI => ?_) n h
  show wpAny _ A ((compTurn (.ListComp elt [⟨target, iter, ifs, 0⟩] scope pos) 0 it acc env).onRaise (fun x => do noteFrame x env; theTreesLotGoes x)) _ _ s
  refine wpAny_noted ?_
  rw [compTurn_list]
  refine wpAny_bind (wpAny_standAt (wpAny_bind (wpAny_mono (turn n s hI) (fun r s₁ h₁ => ?_) fun _ _ z => False.elim z)))
  cases r with
  | none => exact wpAny_pure h₁
  | some v =>
    refine wpAny_bind (wpAny_mono h₁ (fun _ s₁' h₁' => ?_) fun _ _ z => False.elim z)
    refine wpAny_bind (wpAny_mono h₁' (fun _ s₂ h₂ => wpAny_bind (wpAny_mono h₂ (fun ok s₃ h₃ => ?_) fun _ _ z => False.elim z)) fun _ _ z => False.elim z)
    cases ok with
    | false => exact wpAny_pure ⟨rfl, h₃⟩
    | true =>
      exact wpAny_bind (wpAny_bind (wpAny_mono h₃ (fun x s₄ h₄ => wpAny_bind (wpAny_mono h₄ (fun _ s₅ h₅ => wpAny_pure (wpAny_pure ⟨rfl, h₅⟩)) fun _ _ z => False.elim z)) fun _ _ z => False.elim z))
end
/-- the target stores into the block's own names alone -/
noncomputable def LcExt (own : List Str) (cap : List Nat) (σ σ2 : St) : Prop := ∀ i, own.length ≤ i → σ2[i]? = (lcSt own cap σ)[i]?
theorem lcExt_set {own : List Str} {cap : List Nat} {σ : St} {j : Nat} {v : Option V} (h : j < own.length) : LcExt own cap σ ((lcSt own cap σ).set j v) := fun i hi => List.getElem?_set_ne (by (first | lia | omega))
/-- the reading of the block: W by the turn, a measure, the items so far -/
noncomputable def tLcB (own : List Str) (cap : List Nat) (g : TG) (tc : TT) (te : TE) (J : It) (σ : St) (H1 : Hp) (Q : VK) : Prop :=
  ∀ D, H1 D = none → ∃ W : Nat → Nat → List V → Hp → Prop, (∃ m, W 0 m [] (upd H1 D (.lst []))) ∧ ∀ i m ys H, W i m ys H →
    (J.stop i H ∧ Q (.ref D) H) ∨ (J.go i H ∧ ∀ x H', J.yld i H x H' → g x (lcSt own cap σ) H' fun σ2 H2 => LcExt own cap σ σ2 ∧ tc σ2 H2 fun b H3 =>
      if b = true then te σ2 H3 fun y H4 => H4 D = some (.lst ys) ∧ ys.length < sizeLine ∧ ∃ m', m' < m ∧ W (i + 1) m' (ys ++ [y]) (upd H4 D (.lst (ys ++ [y]))) else ∃ m', m' < m ∧ W (i + 1) m' ys H3)
section
variable {X : Cx} {N own : List Str} {cap : List Nat} {sc scope : Scope} {elt tg iter : Expr} {ifs : List Expr} {pos : Pos} {g : TG} {tc : TT} {te : TE}
theorem lc_block (L : LcSc N sc own cap scope) (hN : X.N = N) (hsc : X.env.scope = sc) (hc : X.calm = true)
    (hg : ∀ cl C s H fp, PG (cxLc X (lcN N own cap) scope cl C s H fp) tg g) (hi : ∀ cl C s H fp, PIf (cxLc X (lcN N own cap) scope cl C s H fp) ifs tc) (he : ∀ cl C s H fp, PE (cxLc X (lcN N own cap) scope cl C s H fp) elt te)
    {pins : List (Addr × Obj)} {σ : St} {H : Hp} {s : Shared} {it : Addr} {fp : List Addr} {tn : Nat → Heap → Prop} {J : It} {Q : VK} {E : Value → Shared → Prop} {RR : Value → Addr → Result → Shared → Prop}
    (I : Inv X pins σ H s) (T : Turn X.prog X.w X.K tg J fp it tn) (st : tn 0 s.heap) (hf : ∀ b ∈ fp, FpOk X pins H b) (q : tLcB own cap g tc te J σ H Q)
    (fin : ∀ D C H' s' m, Inv X pins σ H' s' → FpOk X pins H' C → s'.heap.Ns C m → Q (.ref D) H' → RR (.ref D) C (.ok .next) s') :
    wpAny (model X.prog X.w) X.A (newList []) (fun acc s₃ => wpAny (model X.prog X.w) X.A (newFunctionEnv scope X.env.globals (clos X.env scope.names) [] X.env.qual none .none (some X.env)) (fun cenv s₄ =>
      codeAny (model X.prog X.w) X.A (.compStart (.ListComp elt [⟨tg, iter, ifs, 0⟩] scope pos) 0 (.ref it) acc { cenv with scope := relabel scope X.env }) (RR acc cenv.locals) s₄) E s₃) E s := by
  refine wpAny_newObj_type (wpAny_newFunctionEnv L.nocell (by intro y hy; simp at hy) (fun h₁ hns₁ hsb₁ => ?_) L.kind)
  dsimp only at hns₁ hsb₁ ⊢
  have hD : H s.heap.objs.size = none := I.hok.fresh (Nat.le_refl _)
  obtain ⟨W, ⟨m0, w0⟩, turn⟩ := q _ hD
  have I3 : Inv X pins σ (upd H s.heap.objs.size (.lst [])) { s with heap := s.heap.push { cls := .type "list", data := .seq ([] : List Value).toArray }, toks := s.toks } := I.lnew (its := []) .nil (Nat.zero_le _)
  have ltb : ∀ b ∈ fp, b < s.heap.objs.size := fun b hb => by obtain ⟨o, e, _⟩ := T.obj _ _ st b hb; exact Heap.lt_size e
  have hf3 : ∀ b ∈ fp, FpOk X pins (upd H s.heap.objs.size (.lst [])) b := fun b hb => ⟨by rw [upd_ne (Nat.ne_of_lt (ltb b hb))]; exact (hf b hb).1, (hf b hb).2⟩
  generalize hH2 : s.heap.push { cls := .type "list", dict := none, data := .seq ([] : List Value).toArray } = h2 at hns₁ hsb₁ I3 ⊢
  have hz : h2.objs.size = s.heap.objs.size + 1 := by rw [← hH2, Heap.size_push]
  have kp2 : ∀ b o, h2.get? b = some o → h₁.get? b = some o := fun b o e => hsb₁.extBut b o (Nat.ne_of_lt (Heap.lt_size e)) (Heap.get?_push_of_some _ e)
  have kp1 : ∀ b o, s.heap.get? b = some o → h2.get? b = some o := fun b o e => by rw [← hH2]; exact Heap.get?_push_of_some _ e
  have I4 : Inv (cxLc X (lcN N own cap) scope (clos X.env scope.names) h2.objs.size { s with heap := h2, toks := s.toks } (upd H s.heap.objs.size (.lst [])) fp) [] (lcSt own cap σ) (upd H s.heap.objs.size (.lst [])) { s with heap := h₁, toks := s.toks + ([] : List (Str × Value)).length } :=
    lc_start L hN hsc I3 hf3 (fun b hb => by show b < h2.objs.size; rw [hz]; exact Nat.lt_succ_of_lt (ltb b hb)) hns₁ kp2
  have st4 : tn 0 h₁ := T.keep _ _ _ st fun b _ o e => kp2 b o (kp1 b o e)
  have loop : ∀ s₃ : Shared, s₃ = { s with heap := h₁, toks := s.toks + ([] : List (Str × Value)).length } →
      codeAny (model X.prog X.w) X.A (.compLoop (.ListComp elt [⟨tg, iter, ifs, 0⟩] scope pos) 0 (.ref it) (.ref s.heap.objs.size) (compEnvC scope (clos X.env scope.names) h2.objs.size X.env))
        (RR (.ref s.heap.objs.size) h2.objs.size) s₃ := by
    rintro s₃ rfl
    generalize hX' : cxLc X (lcN N own cap) scope (clos X.env scope.names) h2.objs.size { s with heap := h2, toks := s.toks } (upd H s.heap.objs.size (.lst [])) fp = X' at I4
    have eP : X'.prog = X.prog := by rw [← hX']
    have eA : X'.A = X.A := by rw [← hX']
    have stat : ∀ {H' : Hp} {pl : List (Addr × Obj)} {σ' : St} {s' : Shared}, Inv X' pl σ' H' s' → (∀ b ∈ fp, H' b = none) → pl = [] → ∀ b ∈ fp, FpOk X' pl H' b := fun {H' pl σ' s'} I' hn hp b hb => by
      subst hp
      have hex : b ∈ X'.ex := by rw [← hX']; exact hb
      refine ⟨hn b hb, (I'.ok.exf b hex).1, I'.ok.exfs b hex, .inl hex, (I'.ok.exf b hex).2, fun p hp => ?_⟩
      have hp' : p ∈ X'.pn ++ [] := hp
      rw [← hX'] at hp'
      exact absurd (show p ∈ ([] : List (Addr × Obj)) from hp') (by simp)
    subst hX'
    refine compLoop_gen (fun n s' => ∃ i ys H', Inv (cxLc X (lcN N own cap) scope (clos X.env scope.names) h2.objs.size { s with heap := h2, toks := s.toks } (upd H s.heap.objs.size (.lst [])) fp) [] (lcSt own cap σ) H' s' ∧ tn i s'.heap ∧ (∀ b ∈ fp, H' b = none) ∧ W i n ys H') ?_ m0
      ⟨0, [], _, I4, st4, fun b hb => (hf3 b hb).1, w0⟩
    rintro n s3 ⟨i, ys, H3, I3', st3, fr3, w3⟩
    rcases turn i n ys H3 w3 with ⟨stop, qn⟩ | ⟨go, step⟩
    · refine thn (T.done (cxLc X (lcN N own cap) scope (clos X.env scope.names) h2.objs.size { s with heap := h2, toks := s.toks } (upd H s.heap.objs.size (.lst [])) fp) rfl rfl rfl hc i [] s3 _ H3 (fun _ _ => False) I3' (stat I3' fr3 rfl) st3 stop) fun r s4 zz0 => ?_
      obtain ⟨hr, I4'⟩ := zz0
      subst hr
      obtain ⟨m', hm', _⟩ := I4'.loc
      exact fin _ _ H3 s4 m' (lc_back I3 hf3 I4') (I3.fpOk (Nat.le_refl _) I4'.free) hm' qn
    · refine thn (T.item (cxLc X (lcN N own cap) scope (clos X.env scope.names) h2.objs.size { s with heap := h2, toks := s.toks } (upd H s.heap.objs.size (.lst [])) fp) rfl rfl rfl hc i [] s3 _ H3 (fun _ _ => False) I3' (stat I3' fr3 rfl) st3 go) fun r s4 zz0 => ?_
      obtain ⟨u, hr, h4⟩ := zz0
      subst hr
      refine thn h4 fun _ s5 zz0 => ?_
      obtain ⟨x, H5, I5, r5, y5, st5, fr5⟩ := zz0
      have I5' := I5.pinned (stat I5 fr5 rfl) (T.obj _ _ st5)
      have pk : ∀ {σ7 : St} {H7 : Hp} {s7 : Shared}, Inv (cxLc X (lcN N own cap) scope (clos X.env scope.names) h2.objs.size { s with heap := h2, toks := s.toks } (upd H s.heap.objs.size (.lst [])) fp) ([] ++ pinsAt fp s5.heap) σ7 H7 s7 → tn (i + 1) s7.heap ∧ ∀ b ∈ fp, H7 b = none := fun {σ7 H7 s7} I7 =>
        ⟨T.keep _ _ _ st5 fun b hb o e => (I7.pin (b, o) (List.mem_append_right _ (List.mem_append_right _ (mem_pinsAt hb e)))).1, fun b hb => by
          obtain ⟨o, e, d⟩ := T.obj _ _ st5 b hb
          exact (I7.pin (b, o) (List.mem_append_right _ (List.mem_append_right _ (mem_pinsAt hb e)))).2.1⟩
      have wk : ∀ {σ7 : St} {H7 : Hp} {s7 : Shared}, LcExt own cap σ σ7 → Inv (cxLc X (lcN N own cap) scope (clos X.env scope.names) h2.objs.size { s with heap := h2, toks := s.toks } (upd H s.heap.objs.size (.lst [])) fp) ([] ++ pinsAt fp s5.heap) σ7 H7 s7 →
          Inv (cxLc X (lcN N own cap) scope (clos X.env scope.names) h2.objs.size { s with heap := h2, toks := s.toks } (upd H s.heap.objs.size (.lst [])) fp) [] (lcSt own cap σ) H7 s7 := fun {σ7 H7 s7} ext I7 =>
        Inv.weak I7.unpinned (by rw [I7.len, I5.len]) fun j v e => by
          have hj : own.length ≤ j := by
            by_cases hj : own.length ≤ j
            · exact hj
            · have e' : (List.replicate own.length none ++ cap.map fun i => σ.getD i none)[j]? = some (some v) := e
              rw [List.getElem?_append_left (by simp only [List.length_replicate]; (first | lia | omega)), List.getElem?_replicate] at e'
              split at e' <;> cases e'
          rw [ext j hj]
          exact e
      refine thn (hg _ _ _ _ _ _ s5 _ H5 x u _ I5' r5 (step x H5 y5)) fun _ s6 zz0 => ?_
      obtain ⟨σ6, H6, I6, ext, q6⟩ := zz0
      refine thn (hi _ _ _ _ _ _ s6 σ6 H6 _ I6 q6) fun ok s7 zz0 => ?_
      obtain ⟨H7, I7, q7⟩ := zz0
      cases ok with
      | false =>
        rw [if_neg Bool.false_ne_true] at q7 ⊢
        obtain ⟨m', hm, w7⟩ := q7
        exact ⟨m', hm, i + 1, ys, H7, wk ext I7, (pk I7).1, (pk I7).2, w7⟩
      | true =>
        rw [if_pos rfl] at q7 ⊢
        refine thn (he _ _ _ _ _ _ s7 σ6 H7 _ I7 q7) fun y s8 zz0 => ?_
        obtain ⟨yv, H8, I8, r8, hl8, hz8, m', hm, w8⟩ := zz0
        refine thn (mt_append _ s8 σ6 H8 (.ref s.heap.objs.size) [yv] _ [y] (fun v H' => v = .non ∧ H' = upd H8 s.heap.objs.size (.lst (ys ++ [yv]))) I8 rfl (.cons r8 .nil) ⟨_, ys, yv, rfl, rfl, hl8, hz8, rfl, rfl⟩) fun _ s9 zz0 => ?_
        obtain ⟨v9, H9, I9, _, _, e9⟩ := zz0
        subst e9
        exact ⟨m', hm, i + 1, ys ++ [yv], _, wk ext I9, (pk I9).1, (pk I9).2, w8⟩
  exact codeAny_compStart_list (loop _ rfl) (T.self X.A 0 _ _ _ st4 (loop _ rfl))
/-- the whole -/
noncomputable def tLc (own : List Str) (cap : List Nat) (wi : TI) (g : TG) (tc : TT) (te : TE) : TE := fun σ H Q => wi σ H fun J H1 => tLcB own cap g tc te J σ H1 Q
theorem pe_lc {wi : TI} (L : LcSc N sc own cap scope) (hp : PI X tg iter wi)
    (hg : ∀ cl C s H fp, PG (cxLc X (lcN N own cap) scope cl C s H fp) tg g) (hi : ∀ cl C s H fp, PIf (cxLc X (lcN N own cap) scope cl C s H fp) ifs tc) (he : ∀ cl C s H fp, PE (cxLc X (lcN N own cap) scope cl C s H fp) elt te)
    (hN : X.N = N := by rfl) (hsc : X.env.scope = sc := by rfl) (hc : X.calm = true := by rfl) (hs : ∀ x, foldedSetIterable iter X.env x = pure x := by intro _; rfl) :
    PE X (.ListComp elt [⟨tg, iter, ifs, 0⟩] scope pos) (tLc own cap wi g tc te) := by
  intro pins s σ H Q I h
  rw [eval_ListComp]
  refine wpAny_comprehension_free (use := none) rfl hs (closureFor_clos (L.cells hsc I.ok)) L.kind L.loc (thn (hp pins s σ H _ I h) fun v s1 h1 => thn h1 fun itv s2 h2 => ?_)
  obtain ⟨it, fp, tn, J, H2, e, I2, T, st2, f2, q2⟩ := h2
  subst e
  refine lc_block (RR := fun acc C => compPost (model X.prog X.w) X.A X.xe none (EP X pins σ Q) acc C) L hN hsc hc hg hi he I2 T st2 f2 q2 ?_
  intro D C H' s' m J' fC hm q
  refine ⟨m, hm, fun h' sb => ⟨.ref D, H', ?_, rfl, q⟩⟩
  exact J'.turned (t' := s'.toks) (it := C) (fun b o hb e => (sb.2 b hb).trans e) fC.1 fC.2.1 fC.2.2.2.1 fC.2.2.2.2.1 fC.2.2.2.2.2
end
end L2
/-! TEXTS over the layer: by their codes. -/
namespace L2
open PySem PySem.Spec PyProof.Rows
/-- the text of these codes -/
noncomputable def tx (l : List Nat) : Str := ⟨l.toArray⟩
theorem tx_toList (l : List Nat) : (tx l).cps.toList = l := rfl
theorem tx_len (l : List Nat) : (tx l).length = l.length := by simp [tx, Str.length]
theorem tx_inj {a b : List Nat} (h : tx a = tx b) : a = b := by
  have := congrArg (fun x : Str => x.cps.toList) h
  simpa [tx] using this
theorem tx_app (a b : List Nat) : tx a ++ tx b = tx (a ++ b) := by
  show (⟨(tx a).cps ++ (tx b).cps⟩ : Str) = _
  simp [tx]
theorem dec_tx {a b : List Nat} : decide (V.str (tx a) = V.str (tx b)) = decide (a = b) := by
  refine decide_eq_decide.mpr ⟨fun h => tx_inj (by injection h), fun h => by rw [h]⟩
/-- l[lo:hi] -/
noncomputable def cutL (l : List Nat) (lo hi : Option Int) : List Nat := (l.drop (HT.sIx l.length 0 lo)).take (HT.sIx l.length l.length hi - HT.sIx l.length 0 lo)
theorem cutL_length (l : List Nat) (lo hi : Option Int) : (cutL l lo hi).length ≤ l.length := by
  unfold cutL
  rw [List.length_take, List.length_drop]
  (first | lia | omega)
theorem cutL_to (l : List Nat) (k : Nat) : cutL l none (some (k : Int)) = l.take k := by
  unfold cutL
  rw [HT.sIx_none, HT.sIx_nat, List.drop_zero, Nat.sub_zero]
  by_cases h : k ≤ l.length
  · rw [Nat.min_eq_left h]
  · rw [Nat.min_eq_right (by (first | lia | omega)), List.take_length, List.take_of_length_le (by (first | lia | omega))]
theorem cutL_from (l : List Nat) (k : Nat) : cutL l (some (k : Int)) none = l.drop k := by
  unfold cutL
  rw [HT.sIx_none, HT.sIx_nat]
  by_cases h : k ≤ l.length
  · rw [Nat.min_eq_left h, List.take_of_length_le (by rw [List.length_drop]; (first | lia | omega))]
  · rw [Nat.min_eq_right (by (first | lia | omega)), Nat.sub_self, List.take_zero, List.drop_of_length_le (by (first | lia | omega))]
theorem strSliceIndices_one (lo hi : Option Int) (n : Nat) : Builtin.Str.strSliceIndices lo hi 1 n = (List.range (HT.sIx n n hi - HT.sIx n 0 lo)).map (HT.sIx n 0 lo + ·) := by
  rw [← sliceRange_one]
  unfold Builtin.Str.strSliceIndices
  simp only [show (1 : Int) > 0 by decide, if_true]
  congr 1
  · cases lo with
    | none => rfl
    | some i =>
      show max 0 (min (if i < 0 then i + (n : Int) else i) (n : Int)) = (((if i < 0 then (i + (n : Int)).toNat else min i.toNat n) : Nat) : Int)
      by_cases h : i < 0
      · simp only [if_pos h]; (first | lia | omega)
      · simp only [if_neg h]; (first | lia | omega)
  · cases hi with
    | none => rfl
    | some i =>
      show max 0 (min (if i < 0 then i + (n : Int) else i) (n : Int)) = (((if i < 0 then (i + (n : Int)).toNat else min i.toNat n) : Nat) : Int)
      by_cases h : i < 0
      · simp only [if_pos h]; (first | lia | omega)
      · simp only [if_neg h]; (first | lia | omega)
theorem picked_cut (l : List Nat) (lo hi : Option Int) : (Builtin.Str.strSliceIndices lo hi 1 (tx l).length).filterMap ((tx l).cps[·]?) = cutL l lo hi := by
  rw [strSliceIndices_one, tx_len, pick_run, tx_toList]
  rfl
noncomputable def rSlS : V → Option Int → Option Int → Hp → VK → Prop := fun x lo hi H Q => ∃ l, x = .str (tx l) ∧ l.length ≤ sizeLine ∧ Q (.str (tx (cutL l lo hi))) H
section
variable {X : Cx}
theorem isPart_of {v : Value} {o : Option Int} (p : IsPart v o) : ∃ q : Option (Int × Tok), v = partValue q ∧ q.map (·.1) = o := by
  cases p with
  | none => exact ⟨none, rfl, rfl⟩
  | int i t => exact ⟨some (i, t), rfl, rfl⟩
theorem sl_str : SlR X rSlS := by
  intro pins s σ H x v vl vu lo hi sl Q I rx hs pl pu h
  obtain ⟨l, rfl, hz, q⟩ := h
  obtain ⟨t, rfl⟩ := rx
  obtain ⟨ql, rfl, el⟩ := isPart_of pl
  obtain ⟨qu, rfl, eu⟩ := isPart_of pu
  refine ⟨"str", _, slot_str_getitem.lookup, typeIs_str s (tx l) t, ?_⟩
  obtain ⟨o, ho, hc, hd⟩ := hs
  refine wpAny_getItem_str_slice (l := ql) (u := qu) (st := none) ⟨o, ho, hc, hd⟩ rfl ?_
  have pk : slicePicked (tx l) ql qu none = Builtin.Str.strSliceIndices lo hi 1 (tx l).length := by
    unfold slicePicked
    rw [el, eu]
    rfl
  unfold sliceMade
  rw [pk]
  have pc := picked_cut l lo hi
  split
  · rename_i hw
    have hw2 : (Builtin.Str.strSliceIndices lo hi 1 (tx l).length).length = (tx l).length := by
      simp only [Bool.and_eq_true] at hw
      simpa using hw.2
    have e : cutL l lo hi = l := by
      rw [strSliceIndices_one, List.length_map, List.length_range, tx_len] at hw2
      have h1 := HT.sIx_le l.length 0 (Nat.zero_le _) lo
      have h2 := HT.sIx_le l.length l.length (Nat.le_refl _) hi
      unfold cutL
      have e1 : HT.sIx l.length 0 lo = 0 ∨ l.length = 0 := by (first | lia | omega)
      rcases e1 with e1 | e1
      · rw [e1, List.drop_zero, List.take_of_length_le (by (first | lia | omega))]
      · have : l = [] := List.length_eq_zero_iff.mp e1
        subst this
        simp
    exact ⟨.str (tx l), H, I, ⟨t, rfl⟩, by rw [e] at q; exact q⟩
  · rw [pc]
    refine ⟨?_, ?_⟩
    · show (tx (cutL l lo hi)).length ≤ sizeLine
      rw [tx_len]
      exact Nat.le_trans (cutL_length l lo hi) hz
    · exact ⟨.str (tx (cutL l lo hi)), H, I.tok _, ⟨_, rfl⟩, q⟩
/-- + -/
theorem op_add_tx : OpR X (binaryOp .Add) (fun x y H Q => ∃ a b, x = .str (tx a) ∧ y = .str (tx b) ∧ a.length + b.length ≤ sizeLine ∧ Q (.str (tx (a ++ b))) H) := by
  intro pins s σ H x y v u Q I rx ry h
  obtain ⟨a, b, rfl, rfl, hz, q⟩ := h
  exact op_add_str pins s σ H _ _ v u Q I rx ry ⟨_, _, rfl, rfl, by rw [tx_len, tx_len]; exact hz, by rw [tx_app]; exact q⟩
/-- text * n -/
noncomputable def repL (n : Int) (l : List Nat) : List Nat := (List.replicate n.toNat l).flatten
theorem foldl_repA (c : Array Nat) : ∀ (k : Nat) (acc : Array Nat), List.foldl (fun x1 x2 => x1 ++ x2) acc (List.replicate k c) = (acc.toList ++ (List.replicate k c.toList).flatten).toArray
  | 0, acc => by simp
  | k + 1, acc => by
    rw [List.replicate_succ, List.foldl_cons, foldl_repA c k (acc ++ c), List.replicate_succ, List.flatten_cons]
    simp
theorem op_mul_tx : OpR X (binaryOp .Mult) (fun x y H Q => ∃ l n, x = .str (tx l) ∧ y = .int n ∧ -(2 ^ 62) < n ∧ n < 2 ^ 62 ∧ l.length * n.toNat ≤ sizeLine ∧ Q (.str (tx (repL n l))) H) := by
  intro pins s σ H x y v u Q I rx ry h
  obtain ⟨l, n, rfl, rfl, h1, h2, hz, q⟩ := h
  obtain ⟨t, rfl⟩ := rx
  obtain ⟨t', rfl⟩ := ry
  have hs : sizeLine = 16777216 := sizeLine_eq
  refine PySem.P.mul_str ?_ ?_ ?_ ?_
  · rw [decide_eq_false (by (first | lia | omega)), decide_eq_false (by (first | lia | omega))]; rfl
  · intro hn _ hgt
    rw [tx_len] at hgt
    have hp : 0 < n := by (first | lia | omega)
    have : (l.length : Int) * n ≤ 16777216 := by
      have e : ((l.length * n.toNat : Nat) : Int) = (l.length : Int) * n := by
        rw [Int.natCast_mul, Int.toNat_of_nonneg (by (first | lia | omega))]
      rw [← e]
      (first | lia | omega)
    have h3 : (2 ^ 63 - 1) / n < (l.length : Int) := hgt
    have h4 : (2 ^ 63 - 1 : Int) < (l.length : Int) * n := Int.lt_mul_of_ediv_lt hp h3
    (first | lia | omega)
  · intro _ _
    rw [tx_len]
    unfold Builtin.Str.tooLong
    exact decide_eq_false (by (first | lia | omega))
  · by_cases hn : n < 1
    · rw [if_pos hn]
      have e : repL n l = [] := by
        unfold repL
        rw [Int.toNat_of_nonpos (by (first | lia | omega))]
        rfl
      rw [e] at q
      exact ⟨by decide, .str (tx []), H, I.tok _, ⟨_, rfl⟩, q⟩
    · rw [if_neg hn]
      split
      · rename_i hw
        have e : repL n l = l := by
          unfold repL
          rw [Bool.or_eq_true] at hw
          rcases hw with hw | hw
          · have : n = 1 := by simpa using hw
            subst this
            simp
          · rw [tx_len] at hw
            have : l = [] := List.length_eq_zero_iff.mp (by simpa using hw)
            subst this
            simp
        rw [e] at q
        exact ⟨.str (tx l), H, I, ⟨_, rfl⟩, q⟩
      · have e : (⟨(List.replicate n.toNat (tx l).cps).foldl (· ++ ·) #[]⟩ : Str) = tx (repL n l) := by
          rw [foldl_repA, tx_toList]
          simp [tx, repL]
        rw [e]
        refine ⟨?_, .str (tx (repL n l)), H, I.tok _, ⟨_, rfl⟩, q⟩
        rw [tx_len]
        unfold repL
        rw [len_rep, Nat.mul_comm]
        exact hz
/-- len(text) -/
theorem call_len_tx : CallR X (.builtin "len") (fun xs H Q => ∃ l, xs = [.str (tx l)] ∧ l.length ≤ sizeLine ∧ Q (.int l.length) H) := by
  intro pins s σ H xs us Q I r h
  obtain ⟨l, rfl, hz, q⟩ := h
  exact call_len_str pins s σ H _ us Q I r ⟨_, rfl, by rw [tx_len]; exact hz, by rw [tx_len]; exact q⟩
/-- text[i] -/
noncomputable def rIxX : R2 := fun x y H Q => ∃ l k c, x = .str (tx l) ∧ y = .int ((k : Nat) : Int) ∧ l.length ≤ sizeLine ∧ l[k]? = some c ∧ Q (.str (tx [c])) H
theorem ix_tx : IxR X rIxX := by
  intro value slice pins s σ H x y v u Q I rx ry h hs
  obtain ⟨l, k, c, rfl, rfl, hz, hc, q⟩ := h
  exact ix_str value slice pins s σ H _ _ v u Q I rx ry ⟨tx l, _, c, rfl, rfl, by rw [tx_len]; exact hz, atI_nat (by rw [tx_toList]; exact hc), q⟩ hs
end
end L2
/-! WALKS: a text's signs, enumerate of a list, range by steps. CALLS: sum, all, isinstance, list(reversed(..)); == of lists of ints. -/
namespace L2
open PySem PySem.Spec PyProof.Rows
/-! ### a text's signs -/
noncomputable def Itc (l : List Nat) : It := ⟨fun i _ => i < l.length, fun i H x H' => H' = H ∧ ∃ c, l[i]? = some c ∧ x = .str (tx [c]), fun i _ => l.length ≤ i⟩
theorem strIter_cases (x : Str) : strIterType x = "str_ascii_iterator" ∨ strIterType x = "str_iterator" := by
  unfold strIterType
  split
  · exact .inl rfl
  · exact .inr rfl
theorem turn_str {P : Program} {w : World} {K : PySem.W.Frag} {tg : Expr} (it : Addr) (l : List Nat) (t : Tok) (ty : String) (hty : ty = "str_ascii_iterator" ∨ ty = "str_iterator") : Turn P w K tg (Itc l) [it] it (fun i h => h.IsStrIter it ty (tx l) t i) where
  mem := by simp
  obj := fun i h st b hb => by
    have e : b = it := by simpa using hb
    subst e
    obtain ⟨o, e, c, d⟩ := st
    exact ⟨o, e, fun v z => by rw [d] at z; cases z⟩
  keep := fun i h h' st k => by
    obtain ⟨o, e, r⟩ := st
    exact ⟨o, k it (by simp) o e, r⟩
  item := by
    intro X hP hw hK hc i pins s σ H E I hf st hg
    subst hP hw hK
    obtain ⟨f0, f1, f2, f3, f4, f5⟩ := hf it (by simp)
    have hgl : i < l.length := hg
    have hx : (tx l).cps[i]? = some l[i] := by simp [tx, hgl]
    have fin : ∀ h' : Heap, h'.IsStrIter it ty (tx l) t (i + 1) → Heap.SameBut it s.heap h' → ∃ u, some (Value.str ⟨#[l[i]]⟩ s.toks) = some u ∧
        wpAny (model X.prog X.w) X.A (letOwnedTupleGo tg (.ref it) u) (fun _ s2 => ∃ x H', Inv X pins σ H' s2 ∧ RelV x u ∧ (Itc l).yld i H x H' ∧ s2.heap.IsStrIter it ty (tx l) t (i + 1) ∧ ∀ b ∈ [it], H' b = none) E { s with heap := h', toks := s.toks + 1 } := fun h' st' sb => by
      have I1 : Inv X pins σ H { s with heap := h', toks := s.toks + 1 } := I.turned (fun b o hb e => (sb.2 b hb).trans e) f0 f1 f3 f4 f5
      obtain ⟨o, e, c, d⟩ := id st'
      have nn : ["enumerate", "zip", "dict_itemiterator", "dict_reverseitemiterator", "odict_iterator", "itertools.zip_longest", "itertools.pairwise"].contains ty = false := by
        rcases hty with rfl | rfl <;> decide
      exact ⟨_, rfl, go_of (s := { s with heap := h', toks := s.toks + 1 }) e c d nn ⟨.str (tx [l[i]]), H, I1, ⟨s.toks, rfl⟩, ⟨rfl, l[i], by simp [hgl], rfl⟩, st', fun b hb => (hf b hb).1⟩⟩
    rcases hty with rfl | rfl
    · exact wpAny_pyNext_ascii_item st hx fin
    · exact wpAny_pyNext_wide_item st hx fin
  done := by
    intro X hP hw hK hc i pins s σ H E I hf st hg
    subst hP hw hK
    obtain ⟨f0, f1, f2, f3, f4, f5⟩ := hf it (by simp)
    have hgl : l.length ≤ i := hg
    have hx : (tx l).cps[i]? = none := by simp [tx, hgl]
    rcases hty with rfl | rfl
    · exact wpAny_pyNext_ascii_end (I.ok.hd hc) st hx fun h' eb => ⟨rfl, I.turned (t' := s.toks) (fun b o hb e => eb b o hb e) f0 f1 f3 f4 f5⟩
    · exact wpAny_pyNext_wide_end (I.ok.hd hc) st hx fun h' eb => ⟨rfl, I.turned (t' := s.toks) (fun b o hb e => eb b o hb e) f0 f1 f3 f4 f5⟩
  self := fun A i s Q E st h => by
    rcases hty with rfl | rfl
    · exact wpAny_pyIter_striter_ascii st h
    · exact wpAny_pyIter_striter_wide st h
section
variable {X : Cx} {tg : Expr}
noncomputable def iStr (te : TE) : TI := fun σ H R => te σ H fun x H1 => ∃ l, x = .str (tx l) ∧ R (Itc l) H1
theorem pi_str {e : Expr} {te : TE} (he : PE X e te) : PI X tg e (iStr te) := by
  intro pins s σ H R I h
  refine thn (he pins s σ H _ I h) fun v s1 zz0 => ?_
  obtain ⟨x, H1, I1, r1, q1⟩ := zz0
  obtain ⟨l, rfl, q⟩ := q1
  obtain ⟨t, rfl⟩ := r1
  refine wpAny_pyIter_strU ?_
  refine ⟨s1.heap.objs.size, [s1.heap.objs.size], _, _, H1, rfl, I1.kept (t' := s1.toks) fun b o e => Heap.get?_push_of_some _ e, turn_str _ l t (strIterType (tx l)) (strIter_cases _), ⟨_, Heap.get?_push_size _ rfl, rfl, rfl⟩, fun b hb => ?_, q⟩
  have e : b = s1.heap.objs.size := by simpa using hb
  subst e
  exact I1.fpOk (Nat.le_refl _) (I1.hok.fresh (Nat.le_refl _))
end
/-- over a text's signs -/
theorem for_str {l : List Nat} {g : TG} {tb : TS} {D : Ends} {σ : St} {H : Hp} (Pv : Nat → St → Hp → Prop) (h0 : Pv 0 σ H)
    (hs : ∀ i c σ H, l[i]? = some c → Pv i σ H → g (.str (tx [c])) σ H fun σ2 H2 => tb { D with nx := Pv (i + 1), ct := Pv (i + 1), bk := D.nx } σ2 H2) (hd : ∀ σ H, Pv l.length σ H → D.nx σ H) :
    ∃ W : Nat → Nat → St → Hp → Prop, (∃ m, W 0 m σ H) ∧ ∀ i m σ H, W i m σ H →
      ((Itc l).stop i H ∧ D.nx σ H) ∨ ((Itc l).go i H ∧ ∃ N : St → Hp → Prop, (∀ σ' H', N σ' H' → ∃ m', m' < m ∧ W (i + 1) m' σ' H') ∧ ∀ x H', (Itc l).yld i H x H' → g x σ H' fun σ2 H2 => tb { D with nx := N, ct := N, bk := D.nx } σ2 H2) := by
  refine ⟨fun i m σ H => m = l.length - i ∧ i ≤ l.length ∧ Pv i σ H, ⟨l.length, by simp, Nat.zero_le _, h0⟩, ?_⟩
  rintro i m σ H ⟨rfl, hi, p⟩
  by_cases hlt : i < l.length
  · refine .inr ⟨hlt, Pv (i + 1), fun σ' H' p' => ⟨l.length - (i + 1), by (first | lia | omega), rfl, hlt, p'⟩, fun x H' y => ?_⟩
    obtain ⟨e, c, hc, ex⟩ := y
    subst e ex
    exact hs i c σ _ hc p
  · have e : i = l.length := by (first | lia | omega)
    subst e
    exact .inl ⟨Nat.le_refl _, hd σ H p⟩
/-! ### records that turn, and a new object -/
section
variable {X : Cx} {pins : List (Addr × Obj)} {σ : St} {H : Hp} {s : Shared} {h' : Heap} {ch : List Addr}
theorem Inv.turnedLaid {t' : Nat} {o : HO} {a : Addr} (I : Inv X pins σ H s) (ha : s.heap.objs.size ≤ a) (k : ∀ b ob, b ∉ ch → s.heap.get? b = some ob → h'.get? b = some ob) (hf : ∀ b ∈ ch, FpOk X pins H b)
    (new : ObjOk X.prog X.w (upd H a o) h' a o) : Inv X pins σ (upd H a o) { s with heap := h', toks := t' } := by
  have hn : H a = none := I.hok.fresh ha
  have nlt : ∀ {b : Addr} {ob : Obj}, s.heap.get? b = some ob → b ≠ a := fun e => Nat.ne_of_lt (Nat.lt_of_lt_of_le (Heap.lt_size e) ha)
  have nch : ∀ b u, H b = some u → b ∉ ch := fun b u e z => by rw [(hf b z).1] at e; cases e
  refine I.step (g' := s.gens) (d' := s.drawn) (ch := ch) (fun b hb => ⟨(hf b hb).2.2.2.1, (hf b hb).2.1, (hf b hb).2.2.2.2.1, (hf b hb).2.2.2.2.2⟩) (fun b ob _ _ hc e _ => k b ob hc e) (fun b ob _ _ hc e _ => ⟨ob.slots, k b ob hc e⟩)
    (fun b ob hc e n => by rw [upd_ne (nlt e)]; exact n) (fun b ob hc e => ⟨ob, k b ob hc e⟩) (fun b xs e => by rw [upd_ne (ne_of_none e hn)]; exact e) (fun b ob u e => by rw [upd_ne (ne_of_none e hn)]; exact e)
    (fun b ps e => ⟨#[], by rw [upd_ne (ne_of_none e hn), e]; simp⟩) (fun m hm => ?_) (fun b u e => ?_) I.bare
  · obtain ⟨ob, es, ep, ho, r⟩ := hm
    exact ⟨ob, es, ep, k _ ob (fun z => (hf _ z).2.1 rfl) ho, r⟩
  · by_cases hb : b = a
    · subst hb; rw [upd_same] at e; cases e; exact new
    · rw [upd_ne hb] at e
      refine (I.hok b u e).stay (fun c v hc q => k c v ?_ q) (fun c q => by rw [upd_ne (ne_of_none q hn)]; exact q) fun c xs q => by rw [upd_ne (ne_of_none q hn)]; exact q
      rcases hc with z | z
      · rw [z]; exact nch b u e
      · exact nch c _ z
end
/-! ### enumerate of a list, taken apart at once -/
section
variable {X : Cx}
end
/-! ### range by steps -/
section
variable {X : Cx} {tg : Expr}
end
/-! ### sum, all, isinstance, == of lists of ints -/
section
variable {X : Cx}
theorem call_sum (hc : X.calm = true) : CallR X (.builtin "sum") (fun xs H Q => ∃ (p : Addr) (ns : List Int), xs = [.ref p] ∧ SqL X.K H p (ns.map V.int) ∧ Q (.int ns.sum) H) := by
  intro pins s σ H xs us Q I r h
  obtain ⟨p, ns, rfl, hq, q⟩ := h
  obtain ⟨u, rfl, ru⟩ := vals1 r
  cases ru
  obtain ⟨its, rv, pl, hz⟩ := I.list hq
  have hi : IntsAre its ns := intsAre_of rv
  obtain ⟨xs, hx⟩ := hi.allInts.items
  have hl' : s.heap.IsList p (intItems xs) := hx ▸ pl.isList
  refine sum_intListG (I.ok.hd hc) hl' fun h' tk t' hk => ?_
  have e1 : ns = xs.toList.map (·.1) := by
    rw [← nums_intItems, ← hx]
    exact (show numsOf its.toArray.toList = ns from hi.numsOf).symm
  have e2 : preSum (numAt xs) xs.size = ns.sum := by
    rw [preSum_eq, List.take_of_length_le (by simp), e1]
  rw [e2]
  exact ⟨.int ns.sum, H, I.kept hk, ⟨_, rfl⟩, q⟩
theorem call_all (hc : X.calm = true) : CallR X (.builtin "all") (fun xs H Q => ∃ (p : Addr) (bs : List Bool), xs = [.ref p] ∧ SqL X.K H p (bs.map V.bl) ∧ Q (.bl (bs.all id)) H) := by
  intro pins s σ H xs us Q I r h
  obtain ⟨p, bs, rfl, hq, q⟩ := h
  obtain ⟨u, rfl, ru⟩ := vals1 r
  cases ru
  obtain ⟨its, rv, pl, hz⟩ := I.list hq
  have hl := pl.isList
  have hlt : p < s.heap.objs.size := by obtain ⟨_, e, _⟩ := hl; exact Heap.lt_size e
  have hlen : its.length = bs.length := by have := rv.length; rw [List.length_map] at this; exact this.symm
  have hget : ∀ i v, its[i]? = some v → ∃ b, bs[i]? = some b ∧ v = Value.bool b := fun i v hv => by
    have hi : i < bs.length := by rw [← hlen]; exact (List.getElem?_eq_some_iff.mp hv).1
    obtain ⟨u', hu', ru'⟩ := rv.get (i := i) (x := V.bl bs[i]) (by simp [hi])
    rw [hv] at hu'; cases hu'
    cases ru'
    exact ⟨bs[i], List.getElem?_eq_getElem hi, rfl⟩
  refine call_all_walk (wpAny_pyIter_list hl ?_)
  refine ⟨s.heap.objs.size, [s.heap.objs.size, p], [s.heap.objs.size], its.toArray.size, _, _, fun i => (bs[i]?).getD true, rfl, Walks.list (A := X.A.in1) (I.ok.hd hc) _ p (Nat.ne_of_lt hlt) its.toArray,
    ⟨⟨_, Heap.get?_push_size _ rfl, rfl, rfl⟩, hl.push _⟩, fun i v s' Q' E' hP hQ => ?_, fun h' tk hk => ?_⟩
  · obtain ⟨b, e, rfl⟩ := hget i v (by have z : its.toArray[i]? = some v := hP; simpa using z)
    have eb : (bs[i]?).getD true = b := by rw [e]; rfl
    have hQ' : Q' ((bs[i]?).getD true) s' := hQ
    rw [eb] at hQ'
    exact wpAny_truthy_bool hQ'
  · have e : ((List.range its.toArray.size).all fun i => (bs[i]?).getD true) = bs.all id := by
      rw [List.size_toArray, hlen]; exact PyProof.Rows.LSm.range_all bs
    rw [e]
    exact ⟨.bl (bs.all id), H, I.kept (PyProof.Rows.LSm.kept_iter hk), rfl, q⟩
noncomputable def rIsi (K : PySem.W.Frag) : List V → Hp → VK → Prop := fun xs H Q => ∃ x t n b, xs = [x, .ty n] ∧ TyOf K H x t ∧ PySem.W.kitOne K t (.type n) = some b ∧ Q (.bl b) H
theorem call_isinst : CallR X (.builtin "isinstance") (rIsi X.K) := by
  intro pins s σ H xs us Q I r h
  obtain ⟨x, t, n, b, rfl, ty, e, q⟩ := h
  obtain ⟨u, u', rfl, rx, rn⟩ := vals2 r
  obtain rfl : u' = Value.type n := rn
  exact isinst_ok I rx ty e fun tk => ⟨.bl b, H, I.tok _, rfl, q⟩
noncomputable def rEqL (K : PySem.W.Frag) : R2 := fun x y H Q => ∃ (a b : Addr) (ns ms : List Int), x = .ref a ∧ y = .ref b ∧ SqL K H a (ns.map V.int) ∧ SqL K H b (ms.map V.int) ∧ Q (.bl (decide (ns = ms))) H
theorem op_eqL (hu : X.A.units + 64 < cLine) : OpR X (compareOp .Eq) (rEqL X.K) := by
  intro pins s σ H x y v u Q I rx ry h
  obtain ⟨a, b, ns, ms, rfl, rfl, ha, hb, q⟩ := h
  cases rx
  cases ry
  obtain ⟨is1, r1, p1, _⟩ := I.list ha
  obtain ⟨is2, r2, p2, _⟩ := I.list hb
  exact PySem.W.eq_intsK p1.isList (intsAre_of r1) p2.isList (intsAre_of r2) hu ⟨.bl _, H, I, rfl, q⟩
end
end L2
/-! SHORT WORDS: comprehensions whose turns keep the heap, texts written out. -/
namespace L2
open PySem PySem.Spec PyProof.Rows
theorem Same.upd {H H' : Hp} {a : Addr} {o : HO} (e : Same H H') (h : H a = none) : Same H (upd H' a o) := fun b u q => by
  rw [upd_ne (ne_of_none q h)]
  exact e b u q
/-- a text written out -/
theorem pe_tx {X : Cx} {x : Str} {j : Nat} {pos : Pos} {l : List Nat} (h : x = tx l := by decide +kernel) : PE X (.Constant (.str x) j pos) (tC (.str (tx l))) := by
  subst h
  exact pe_str
theorem filter_map_succ (sel : Nat → Bool) (val : Nat → V) (i : Nat) : ((List.range (i + 1)).filter sel).map val = ((List.range i).filter sel).map val ++ (if sel i = true then [val i] else []) := by
  rw [List.range_succ, List.filter_append, List.map_append]
  congr 1
  cases h : sel i <;> simp [h]
/-- a comprehension of n turns: at turn i the test is sel i, the item val i; what was tracked stays as it is -/
theorem lcb {own : List Str} {cap : List Nat} {g : TG} {tc : TT} {te : TE} {J : It} {σ : St} {H1 : Hp} {Q : VK} (n : Nat) (sel : Nat → Bool) (val : Nat → V) (hn : n ≤ sizeLine)
    (hgo : ∀ i H, i < n → Same H1 H → J.go i H) (hstop : ∀ H, Same H1 H → J.stop n H)
    (step : ∀ i H (K1 : VK) (K2 : Hp → Prop), i < n → Same H1 H → (sel i = true → ∀ H4, Same H H4 → K1 (val i) H4) → (sel i = false → ∀ H4, Same H H4 → K2 H4) → ∀ x H', J.yld i H x H' →
      g x (lcSt own cap σ) H' fun σ2 H2 => LcExt own cap σ σ2 ∧ tc σ2 H2 fun b H3 => if b = true then te σ2 H3 K1 else K2 H3)
    (fin : ∀ D H', H1 D = none → Same H1 H' → H' D = some (.lst (((List.range n).filter sel).map val)) → Q (.ref D) H') : tLcB own cap g tc te J σ H1 Q := by
  intro D hD
  refine ⟨fun i m ys H => m = n - i ∧ i ≤ n ∧ ys = ((List.range i).filter sel).map val ∧ Same H1 H ∧ H D = some (.lst ys), ⟨n, by simp, Nat.zero_le _, rfl, (Same.refl H1).upd hD, upd_same⟩, ?_⟩
  rintro i m ys H ⟨rfl, hi, rfl, hs, hd⟩
  by_cases hlt : i < n
  · refine .inr ⟨hgo i H hlt hs, fun x H' y => ?_⟩
    have hlen : (((List.range i).filter sel).map val).length < sizeLine := by
      rw [List.length_map]
      have h1 := List.length_filter_le sel (List.range i)
      rw [List.length_range] at h1
      (first | lia | omega)
    refine step i H _ _ hlt hs (fun hsel H4 s4 => ?_) (fun hsel H4 s4 => ?_) x H' y
    · refine ⟨s4 _ _ hd, hlen, n - (i + 1), by (first | lia | omega), rfl, hlt, ?_, fun b o e => ?_, upd_same⟩
      · rw [filter_map_succ, if_pos hsel]
      · rw [upd_ne (ne_of_none e hD)]
        exact s4 _ _ (hs _ _ e)
    · refine ⟨n - (i + 1), by (first | lia | omega), rfl, hlt, ?_, hs.trans s4, s4 _ _ hd⟩
      rw [filter_map_succ, if_neg (by rw [hsel]; exact Bool.false_ne_true), List.append_nil]
  · have e : i = n := by (first | lia | omega)
    subst e
    exact .inl ⟨hstop H hs, fin D H hD hs hd⟩
/-- .. without a test -/
theorem lcb1 {own : List Str} {cap : List Nat} {g : TG} {te : TE} {J : It} {σ : St} {H1 : Hp} {Q : VK} (n : Nat) (val : Nat → V) (hn : n ≤ sizeLine)
    (hgo : ∀ i H, i < n → Same H1 H → J.go i H) (hstop : ∀ H, Same H1 H → J.stop n H)
    (step : ∀ i H (K1 : VK), i < n → Same H1 H → (∀ H4, Same H H4 → K1 (val i) H4) → ∀ x H', J.yld i H x H' → g x (lcSt own cap σ) H' fun σ2 H2 => LcExt own cap σ σ2 ∧ te σ2 H2 K1)
    (fin : ∀ D H', H1 D = none → Same H1 H' → H' D = some (.lst ((List.range n).map val)) → Q (.ref D) H') : tLcB own cap g tYes te J σ H1 Q := by
  refine lcb n (fun _ => true) val hn hgo hstop (fun i H K1 K2 hi hs k1 k2 x H' y => ?_) (fun D H' hD hs hd => fin D H' hD hs (by rw [hd, List.filter_eq_self.mpr (fun _ _ => rfl)]))
  have e : (fun (σ2 : St) (H2 : Hp) => LcExt own cap σ σ2 ∧ tYes σ2 H2 fun b H3 => if b = true then te σ2 H3 K1 else K2 H3) = fun σ2 H2 => LcExt own cap σ σ2 ∧ te σ2 H2 K1 := by
    funext σ2 H2
    show (LcExt own cap σ σ2 ∧ if true = true then te σ2 H2 K1 else K2 H2) = _
    rw [if_pos rfl]
  rw [e]
  exact step i H K1 hi hs (k1 rfl) x H' y
theorem range_map_getD {α β : Type} (f : α → β) (d : α) (l : List α) : (List.range l.length).map (fun i => f (l.getD i d)) = l.map f := by
  apply List.ext_getElem?
  intro i
  by_cases h : i < l.length
  · simp [h]
  · simp [h]
end L2
/-! ### list(reversed(xs)) -/
namespace PySem
theorem F.nolen_lri : typeLookup (.type "list_reverseiterator") "__len__" = pure none := by rw [typeLookup_type, builtinLookup_eq_fast]; kernel_rfl
theorem F.hint_lri : typeLookup (.type "list_reverseiterator") "__length_hint__" = pure (some (.builtin "list_reverseiterator.__length_hint__")) := by rw [typeLookup_type, builtinLookup_eq_fast]; kernel_rfl
section
variable {prog : Program} {w : World} {A : Around} {s : Shared} {R : Result → Shared → Prop}
variable {I : Addr} {fp wr : List Addr} {G : Array GenState → Array GenState → Prop} {n : Nat} {P : Nat → Value → Prop} {St : Nat → Shared → Prop}
theorem wpAny_extend_rev (W : WalksS prog w A.in1 I fp wr G n P St) (hT : ∀ i s, St i s → s.TypeIs (.ref I) "list_reverseiterator") (S : Addr) (res : Value) (c₀ : Nat) (hst : St 0 s) (hSf : S ∉ fp) (hI : I ∈ fp)
    (hS : s.heap.get? S = some { cls := .type "list", data := .seq #[] c₀ })
    (hR : ∀ s' acc' c', Moved (S :: wr) G s s' → s'.heap.get? S = some { cls := .type "list", dict := none, data := .seq acc' c', slots := #[] } → ItemsOf P acc' n → R (.ok (.ret res)) s') (hn : n ≤ sizeLine) :
    wpAny (model prog w) A.in1 (Builtin.List.listExtendWith (.ref S) (.ref I) res)
      (fun fin s' => match fin with | .done f => R (.ok f) s' | .again c' => c'.quiet = true ∧ codeAny (model prog w) A c' R s') (fun e s' => R (.error e) s') s := by
  have hSI : S ≠ I := fun e => hSf (e ▸ hI)
  unfold Builtin.List.listExtendWith
  refine wpAny_bind (wpAny_typeOf (hT 0 _ hst) ?_)
  have h1 : Builtin.List.listSameRef (.ref S) (.ref I) = false := by simp [Builtin.List.listSameRef, hSI]
  rw [if_neg (by rw [h1]; decide)]
  refine wpAny_bind (W.self 0 _ _ _ hst ?_)
  refine wpAny_bind (wpAny_holding ?_)
  unfold Builtin.List.listLengthHint
  refine wpAny_bind (wpAny_specialOf (hT 0 _ hst) F.nolen_lri ?_)
  show wpAny _ A.in1 (specialOf (Value.ref I) (Str.ofString "__length_hint__") >>= _) _ _ _
  refine wpAny_bind (wpAny_specialOf (hT 0 _ hst) F.hint_lri ?_)
  (generalize hid : ("list_reverseiterator.__length_hint__" : String) = id0; (fail_if_success (clear hid id0)); wp_delta; rw [show splitId id0 = some ("list_reverseiterator", "__length_hint__") from by subst hid; decide +kernel]; subst hid)
  refine wpAny_bind (wpAny_isInstance (b := true) (hT 0 _ hst) (by rw [isSubtype_type]; kernel_rfl) ?_)
  refine wpAny_pure ?_
  rw [if_neg (by decide)]
  exact wpAny_pure ⟨plainId_quiet F.plain_extend_loop _, codeAny_extend_loopS W hn _ hSf _ n 0 _ _ _ rfl (Nat.zero_le _) hst hS (ItemsOf.nil P) fun s' acc' c' hm hS' hacc => hR s' acc' c' hm hS' hacc⟩
theorem wpAny_list_init_rev (W : WalksS prog w A.in1 I fp wr G n P St) (hT : ∀ i s, St i s → s.TypeIs (.ref I) "list_reverseiterator") (S : Addr) (hst : St 0 s) (hSf : S ∉ fp) (hI : I ∈ fp)
    (hS : s.heap.get? S = some { cls := .type "list", data := .seq #[] })
    (hR : ∀ s' acc' c', Moved (S :: wr) G s s' → s'.heap.get? S = some { cls := .type "list", dict := none, data := .seq acc' c', slots := #[] } → ItemsOf P acc' n → R (.ok (.ret .none)) s') (hn : n ≤ sizeLine) :
    wpAny (model prog w) A.in1 (Builtin.«list.__init__» ⟨[.ref S, .ref I], []⟩)
      (fun fin s' => match fin with | .done f => R (.ok f) s' | .again c' => c'.quiet = true ∧ codeAny (model prog w) A c' R s') (fun e s' => R (.error e) s') s := by
  show wpAny _ A.in1 (do let old ← Builtin.List.listItems (.ref S); Builtin.List.listUpdate (.ref S) (fun _ => #[]); letGo old.toList.reverse; Builtin.List.listExtendWith (.ref S) (.ref I) .none) _ _ s
  refine wpAny_bind ?_
  unfold Builtin.List.listItems
  refine wpAny_bind (wpAny_seqItems hS rfl (wpAny_pure ?_))
  show wpAny _ A.in1 (updateSeq S (fun _ => #[]) >>= fun _ => letGo (#[] : Array Value).toList.reverse >>= fun _ => Builtin.List.listExtendWith (.ref S) (.ref I) .none) _ _ s
  refine wpAny_bind (wpAny_updateSeq hS rfl ?_)
  have hS₂ := Heap.get?_update_self (Obj.mapSeq (fun _ => (#[] : Array Value))) hS rfl
  have oth : ∀ b o, b ≠ S → s.heap.get? b = some o → (s.heap.update S (Obj.mapSeq (fun _ => (#[] : Array Value)))).get? b = some o :=
    fun b o hb e => (Heap.get?_update_other _ _ (Ne.symm hb)).trans e
  refine wpAny_bind (wpAny_letGo ?_)
  refine wpAny_extend_rev W hT S .none _ (W.frame 0 s _ s.toks hst (Nat.le_refl _) fun b hb o e => oth b o (fun h => hSf (h ▸ hb)) e) hSf hI hS₂ (fun s' acc' c' hm hS' hacc => ?_) hn
  exact hR s' acc' c' (Moved.trans W.gtrans ((Moved.refl W.grefl).then_heap (Nat.le_refl _) fun b o hb e => oth b o (fun h => hb (h ▸ List.mem_cons_self)) e) hm) hS' hacc
end
section
variable {prog : Program} {w : World} {A : Around} {E : Value → Shared → Prop} {s : Shared}
theorem call_list_rev {Q : Value → Shared → Prop} {I l : Addr} {items : Array Value} (hh : A.handled = none) (hit : s.heap.IsRevIter I l ((items.size : Int) - 1)) (hl : s.heap.IsList l items) (hne : l ≠ I) (hn : items.size ≤ sizeLine)
    (hQ : ∀ h' tk acc' c', (∀ b o, b ≠ I → s.heap.get? b = some o → h'.get? b = some o) → h'.get? s.heap.objs.size = some { cls := .type "list", dict := none, data := .seq acc' c', slots := #[] } → acc'.toList = items.toList.reverse →
      Q (.ref s.heap.objs.size) { s with heap := h', toks := tk }) :
    wpAny (model prog w) A (call (.type "list") [.ref I]) Q E s := by
  refine callType_codes (Q₁ := fun obj s₁ => obj = .ref s.heap.objs.size ∧ s₁ = { s with heap := s.heap.push { cls := .type "list", data := .seq #[] } }) F.called_list (F.typeCall_list_1 _) F.entry_list_init
    (code_list_new _ ⟨rfl, rfl⟩) fun obj s₁ h₁ => ?_
  obtain ⟨rfl, rfl⟩ := h₁
  have hS : (s.heap.push { cls := .type "list", data := .seq #[] }).get? s.heap.objs.size = some { cls := .type "list", data := .seq #[] } := Heap.get?_push_size _ rfl
  have W := (Walks.listRev (prog := prog) (w := w) (A := A.in1.in1) hh I l hne items).toS
  obtain ⟨oi, hoi, _⟩ := id hit
  obtain ⟨ol, hol, _⟩ := id hl
  refine ⟨⟨_, hS, rfl⟩, F.args_list_init_2 _ _, wpAny_list_init_rev (A := A.in1) W (fun i s st => st.2.1.typeIs) _ ⟨Nat.zero_le _, ?_, hl.push _⟩ (fun z => ?_) (by simp) hS (fun s' acc' c' hm hS' hacc => ?_) hn⟩
  · have e : (items.size : Int) - 1 - ((0 : Nat) : Int) = (items.size : Int) - 1 := by (first | lia | omega)
    rw [e]
    exact hit.at fun o eo => Heap.get?_push_of_some _ eo
  · rcases List.mem_cons.mp z with z | z
    · exact Nat.lt_irrefl _ (z ▸ Heap.lt_size hoi)
    · have z' : s.heap.objs.size = l := by simpa using z
      exact Nat.lt_irrefl _ (z' ▸ Heap.lt_size hol)
  · refine ⟨rfl, ?_⟩
    rw [Moved.eq_with hm]
    refine hQ s'.heap s'.toks acc' c' (fun b o hb e => hm.heap b o (fun hmem => ?_) (Heap.get?_push_of_some _ e)) hS' ?_
    · rcases List.mem_cons.mp hmem with z | z
      · exact Nat.lt_irrefl _ (z ▸ Heap.lt_size e)
      · exact hb (by simpa using z)
    · apply List.ext_getElem?
      intro j
      by_cases hj : j < items.size
      · have hja : j < acc'.size := by rw [hacc.1]; exact hj
        have := hacc.2 j acc'[j] (by simp [hja])
        rw [List.getElem?_reverse (by simpa using hj)]
        simp only [Array.getElem?_toList, Array.length_toList]
        rw [this]
        simp [hja]
      · rw [List.getElem?_eq_none (by simp [hacc.1]; (first | lia | omega)), List.getElem?_eq_none (by simp; (first | lia | omega))]
end
end PySem
namespace L2
open PySem PySem.Spec PyProof.Rows
section
variable {X : Cx}
noncomputable def tListRev (K : PySem.W.Frag) (te : TA) : TE := fun σ H Q => te σ H fun vs H1 => ∃ a xs, vs = [.ref a] ∧ SqL K H1 a xs ∧ ∀ l, H1 l = none → Q (.ref l) (upd H1 l (.lst xs.reverse))
theorem pe_listrev {e : Expr} {te : TA} {p1 p2 pos1 pos2 : Pos} (hc : X.calm = true) (hg1 : Gl X "list") (hm1 : X.mg "list" = none) (hg2 : Gl X "reversed") (hm2 : X.mg "reversed" = none) (ha : PA X [e] te)
    (hs : starEach [e] X.env = [(false, eval e X.env)] := by rfl) (hs2 : starEach [Expr.Call (.Name "reversed" p2) [e] [] pos2] X.env = [(false, eval (.Call (.Name "reversed" p2) [e] [] pos2) X.env)] := by rfl) :
    PE X (.Call (.Name "list" p1) [.Call (.Name "reversed" p2) [e] [] pos2] [] pos1) (tListRev X.K te) := by
  intro pins s σ H Q I h
  refine wpAny_Call_Name_kw (ld_blt I hg1 hm1 (by decide +kernel : bootBuiltins "list" = some (.type "list")) ?_)
  refine PyProof.Rows.callWith_type1 ?_ hs2 rfl
  rw [hs2]
  show wpAny _ _ (spliced ((false, eval (.Call (.Name "reversed" p2) [e] [] pos2) X.env) :: [])) _ _ s
  refine Calls.spliced_cons ?_
  refine wpAny_Call_Name_kw (ld_blt I hg2 hm2 (by decide +kernel : bootBuiltins "reversed" = some (.type "reversed")) ?_)
  refine PyProof.Rows.callWith_type1 (thn (ha pos2 pins s σ H _ I h) fun us s1 zz0 => ?_) hs rfl
  obtain ⟨vs, H1, I1, r1, q1⟩ := zz0
  obtain ⟨a, xs, rfl, hq, q⟩ := q1
  obtain ⟨u, rfl, ru⟩ := vals1 r1
  cases ru
  obtain ⟨its, rv, pl, hz⟩ := I1.list hq
  have hl := pl.isList
  have hlt : a < s1.heap.objs.size := by obtain ⟨_, e, _⟩ := hl; exact Heap.lt_size e
  refine call_reversed_list hl ?_
  refine Calls.spliced_nil ?_
  have I2 : Inv X pins σ H1 { s1 with heap := s1.heap.push (revObj a ((its.toArray.size : Int) - 1)) } := I1.kept (t' := s1.toks) fun b o e => Heap.get?_push_of_some _ e
  have hlen := rv.length
  refine call_list_rev (I := s1.heap.objs.size) (l := a) (items := its.toArray) (I.ok.hd hc) ⟨_, Heap.get?_push_size _ rfl, rfl, rfl⟩ (hl.push _) (Nat.ne_of_lt hlt) (by rw [List.size_toArray]; (first | lia | omega)) fun h' tk acc' c' hk hS hrev => ?_
  have hfresh : H1 (s1.heap.push (revObj a ((its.toArray.size : Int) - 1))).objs.size = none := I2.hok.fresh (Nat.le_refl _)
  refine ⟨.ref (s1.heap.push (revObj a ((its.toArray.size : Int) - 1))).objs.size, _, I2.turnedLaid (ch := [s1.heap.objs.size]) (Nat.le_refl _) (fun b ob hb eo => hk b ob (fun z => hb (by simp [z])) eo) (fun b hb => ?_) ?_, rfl, q _ hfresh⟩
  · have e : b = s1.heap.objs.size := by simpa using hb
    subst e
    exact I1.fpOk (Nat.le_refl _) (I1.hok.fresh (Nat.le_refl _))
  · refine ⟨by rw [List.length_reverse]; exact hz, its.reverse, c', rv.reverse, ?_⟩
    have e : acc' = its.reverse.toArray := by
      apply Array.ext'
      rw [hrev]
    rw [← e]
    exact hS
end
end L2
namespace FW
/-- the most first letters of w, at most k, that stand at the end of t -/
noncomputable def lngFrom (w t : List Nat) : Nat → Nat
  | 0 => 0
  | k + 1 => if (w.take (k + 1)) <:+ t then k + 1 else lngFrom w t k
noncomputable def lng (w t : List Nat) : Nat := lngFrom w t w.length
noncomputable def bord (w : List Nat) (k : Nat) : Nat := lng w ((w.take k).drop 1)
theorem lngFrom_le (w t : List Nat) : ∀ k, lngFrom w t k ≤ k
  | 0 => Nat.le_refl _
  | k + 1 => by
    unfold lngFrom
    split
    · exact Nat.le_refl _
    · exact Nat.le_succ_of_le (lngFrom_le w t k)
theorem lngFrom_suf (w t : List Nat) : ∀ k, w.take (lngFrom w t k) <:+ t
  | 0 => by simp [lngFrom]
  | k + 1 => by
    unfold lngFrom
    split
    · assumption
    · exact lngFrom_suf w t k
theorem lngFrom_max (w t : List Nat) : ∀ k j, j ≤ k → w.take j <:+ t → j ≤ lngFrom w t k
  | 0, j, h, _ => h
  | k + 1, j, h, hs => by
    unfold lngFrom
    split
    · exact h
    · rename_i hn
      by_cases e : j = k + 1
      · subst e; exact absurd hs hn
      · exact lngFrom_max w t k j (by (first | lia | omega)) hs
theorem lng_le (w t : List Nat) : lng w t ≤ w.length := lngFrom_le _ _ _
theorem lng_suf (w t : List Nat) : w.take (lng w t) <:+ t := lngFrom_suf _ _ _
theorem lng_max {w t : List Nat} {j : Nat} (h : j ≤ w.length) (hs : w.take j <:+ t) : j ≤ lng w t := lngFrom_max _ _ _ _ h hs
theorem lng_le_t (w t : List Nat) : lng w t ≤ t.length := by
  have h := (lng_suf w t).length_le
  rw [List.length_take] at h
  have := lng_le w t
  (first | lia | omega)
/-- it is the one -/
theorem lng_eq {w t : List Nat} {k : Nat} (h : k ≤ w.length) (hs : w.take k <:+ t) (hm : ∀ j, j ≤ w.length → w.take j <:+ t → j ≤ k) : lng w t = k :=
  Nat.le_antisymm (hm _ (lng_le w t) (lng_suf w t)) (lng_max h hs)
theorem lng_nil (w : List Nat) : lng w [] = 0 := by have := lng_le_t w []; simpa using this
theorem suf_snoc {u t : List Nat} {a c : Nat} : u ++ [a] <:+ t ++ [c] ↔ u <:+ t ∧ a = c := by
  constructor
  · rintro ⟨s, h⟩
    rw [← List.append_assoc] at h
    have h1 := List.append_inj' h rfl
    refine ⟨⟨s, h1.1⟩, ?_⟩
    have := h1.2
    simpa using this
  · rintro ⟨⟨s, h⟩, e⟩
    subst e
    exact ⟨s, by rw [← List.append_assoc, h]⟩
theorem take_succ_suf {w t : List Nat} {k c : Nat} (hk : k < w.length) : w.take (k + 1) <:+ t ++ [c] ↔ w.take k <:+ t ∧ w[k]? = some c := by
  have e : w.take (k + 1) = w.take k ++ [w[k]] := by rw [List.take_succ_eq_append_getElem hk]
  rw [e, suf_snoc, List.getElem?_eq_getElem hk]
  simp
theorem suf_of_le {a b t : List Nat} (ha : a <:+ t) (hb : b <:+ t) (h : a.length ≤ b.length) : a <:+ b := List.suffix_of_suffix_length_le ha hb h
theorem len_take {w : List Nat} {k : Nat} (h : k ≤ w.length) : (w.take k).length = k := by rw [List.length_take]; (first | lia | omega)
/-- a proper beginning that stands at the end of a beginning -/
theorem suf_drop {w : List Nat} {j k : Nat} (hk : k ≤ w.length) (hj : j < k) : w.take j <:+ w.take k ↔ w.take j <:+ (w.take k).drop 1 := by
  have lk := len_take hk
  have lj : (w.take j).length = j := len_take (by (first | lia | omega))
  have hd : (w.take k).drop 1 <:+ w.take k := List.drop_suffix _ _
  constructor
  · intro h
    exact suf_of_le h hd (by rw [List.length_drop]; (first | lia | omega))
  · intro h
    exact h.trans hd
theorem bord_lt {w : List Nat} {k : Nat} (hk : k ≤ w.length) (h0 : 0 < k) : bord w k < k := by
  have := lng_le_t w ((w.take k).drop 1)
  rw [List.length_drop, len_take hk] at this
  unfold bord
  (first | lia | omega)
theorem bord_suf {w : List Nat} {k : Nat} (hk : k ≤ w.length) (h0 : 0 < k) : w.take (bord w k) <:+ w.take k :=
  (suf_drop hk (bord_lt hk h0)).mpr (lng_suf _ _)
theorem bord_max {w : List Nat} {j k : Nat} (hk : k ≤ w.length) (hj : j < k) (h : w.take j <:+ w.take k) : j ≤ bord w k :=
  lng_max (by (first | lia | omega)) ((suf_drop hk hj).mp h)
theorem bord_zero (w : List Nat) : bord w 0 = 0 := by simp [bord, lng_nil]
theorem bord_one (w : List Nat) : bord w 1 = 0 := by
  cases w with
  | nil => simp [bord, lng_nil]
  | cons a r => simp [bord, lng_nil]
/-- one letter more: what stood there before is enough to know -/
theorem lng_snoc {w t : List Nat} {c : Nat} : lng w (w.take (lng w t) ++ [c]) = lng w (t ++ [c]) := by
  have hr := lng_le w t
  have key : ∀ j, j ≤ w.length → (w.take j <:+ w.take (lng w t) ++ [c] ↔ w.take j <:+ t ++ [c]) := by
    intro j hj
    cases j with
    | zero => simp
    | succ k =>
      rw [take_succ_suf (by (first | lia | omega)), take_succ_suf (by (first | lia | omega))]
      constructor
      · rintro ⟨h1, h2⟩
        exact ⟨h1.trans (lng_suf w t), h2⟩
      · rintro ⟨h1, h2⟩
        have hk : k ≤ lng w t := lng_max (by (first | lia | omega)) h1
        exact ⟨suf_of_le h1 (lng_suf w t) (by rw [len_take (by (first | lia | omega)), len_take hr]; exact hk), h2⟩
  refine Nat.le_antisymm ?_ ?_
  · exact lng_max (lng_le _ _) ((key _ (lng_le _ _)).mp (lng_suf _ _))
  · exact lng_max (lng_le _ _) ((key _ (lng_le _ _)).mpr (lng_suf _ _))
/-- between two turns of step's while: r stands there, and no beginning that goes on by c is longer -/
structure Going (w t : List Nat) (c r : Nat) : Prop where
  le : r ≤ w.length
  suf : w.take r <:+ t
  mx : ∀ k, k < w.length → w.take k <:+ t → w[k]? = some c → k ≤ r
theorem Going.start {w : List Nat} {c r : Nat} (h : r ≤ w.length) : Going w (w.take r) c r :=
  ⟨h, List.suffix_refl _, fun k hk hs _ => by
    have := hs.length_le
    rw [len_take (by (first | lia | omega)), len_take h] at this
    exact this⟩
theorem Going.turn {w t : List Nat} {c r : Nat} (g : Going w t c r) (h0 : 0 < r) (hn : r = w.length ∨ w[r]? ≠ some c) : Going w t c (bord w r) := by
  have lt := bord_lt g.le h0
  refine ⟨by have := g.le; (first | lia | omega), (bord_suf g.le h0).trans g.suf, fun k hk hs hc => ?_⟩
  have hk' := g.mx k hk hs hc
  have ne : k ≠ r := by
    rintro rfl
    rcases hn with hn | hn
    · (first | lia | omega)
    · exact hn hc
  have hlt : k < r := by (first | lia | omega)
  exact bord_max g.le hlt (suf_of_le hs g.suf (by rw [len_take (by (first | lia | omega)), len_take g.le]; (first | lia | omega)))
theorem Going.yes {w t : List Nat} {c r : Nat} (g : Going w t c r) (hr : r < w.length) (hc : w[r]? = some c) : lng w (t ++ [c]) = r + 1 := by
  refine lng_eq (by (first | lia | omega)) ((take_succ_suf hr).mpr ⟨g.suf, hc⟩) fun j hj hs => ?_
  cases j with
  | zero => (first | lia | omega)
  | succ k =>
    obtain ⟨h1, h2⟩ := (take_succ_suf (by (first | lia | omega))).mp hs
    have := g.mx k (by (first | lia | omega)) h1 h2
    (first | lia | omega)
theorem Going.no {w t : List Nat} {c : Nat} (g : Going w t c 0) (hc : w[0]? ≠ some c) : lng w (t ++ [c]) = 0 := by
  refine lng_eq (Nat.zero_le _) (by simp) fun j hj hs => ?_
  cases j with
  | zero => (first | lia | omega)
  | succ k =>
    obtain ⟨h1, h2⟩ := (take_succ_suf (by (first | lia | omega))).mp hs
    have := g.mx k (by (first | lia | omega)) h1 h2
    have e : k = 0 := by (first | lia | omega)
    subst e
    exact absurd h2 hc
/-- the tables -/
noncomputable def shTab (w : List Nat) (n : Nat) : List Nat := (List.range n).map (bord w)
noncomputable def reTab (w t : List Nat) (n : Nat) : List Nat := (List.range n).map fun i => lng w (t.take i)
theorem range_map_succ {α : Type} (f : Nat → α) (n : Nat) : (List.range (n + 1)).map f = (List.range n).map f ++ [f n] := by
  rw [List.range_succ, List.map_append]; rfl
theorem shTab_succ (w : List Nat) (n : Nat) : shTab w (n + 1) = shTab w n ++ [bord w n] := range_map_succ _ _
theorem reTab_succ (w t : List Nat) (n : Nat) : reTab w t (n + 1) = reTab w t n ++ [lng w (t.take n)] := range_map_succ _ _
theorem shTab_two (w : List Nat) : shTab w 2 = [0, 0] := by simp [shTab, List.range_succ, bord_zero, bord_one]
theorem shTab_get {w : List Nat} {n k : Nat} (h : k < n) : (shTab w n)[k]? = some (bord w k) := by simp [shTab, h]
theorem reTab_get {w t : List Nat} {n k : Nat} (h : k < n) : (reTab w t n)[k]? = some (lng w (t.take k)) := by simp [reTab, h]
/-- the next of the table of the beginnings -/
theorem bord_next {w : List Nat} {i c : Nat} (hi : i + 1 < w.length) (hc : w[i + 1]? = some c) : lng w (w.take (bord w (i + 1)) ++ [c]) = bord w (i + 2) := by
  unfold bord
  rw [lng_snoc]
  congr 1
  have e : w.take (i + 2) = w.take (i + 1) ++ [c] := by
    rw [List.take_succ_eq_append_getElem hi]
    rw [List.getElem?_eq_getElem hi] at hc
    rw [Option.some.inj hc]
  rw [e, List.drop_append_of_le_length (by rw [len_take (by (first | lia | omega))]; (first | lia | omega))]
theorem lng_next {w t : List Nat} {i c : Nat} (hc : t[i]? = some c) : lng w (w.take (lng w (t.take i)) ++ [c]) = lng w (t.take (i + 1)) := by
  rw [lng_snoc]
  congr 1
  obtain ⟨hi, e⟩ := List.getElem?_eq_some_iff.mp hc
  rw [List.take_succ_eq_append_getElem hi, e]
/-! overlaps -/
noncomputable def ovl (w : List Nat) : List Nat := (List.range' 1 w.length).filter fun m => decide (w.take m <:+ w)
noncomputable def ovlFrom (w : List Nat) (c : Nat) : List Nat := (List.range' (c + 1) (w.length - c)).filter fun m => decide (w.take m <:+ w)
theorem ovlFrom_top (w : List Nat) : ovlFrom w w.length = [] := by simp [ovlFrom]
theorem ovlFrom_zero (w : List Nat) : ovlFrom w 0 = ovl w := by simp [ovlFrom, ovl]
theorem ovlFrom_skip {w : List Nat} {c d : Nat} (hc : c ≤ w.length) (hd : d < c) (hs : w.take c <:+ w) (hn : ∀ j, d < j → j < c → ¬ w.take j <:+ w) : ovlFrom w d = c :: ovlFrom w c := by
  unfold ovlFrom
  have e : List.range' (d + 1) (w.length - d) = List.range' (d + 1) (c - d - 1) ++ (c :: List.range' (c + 1) (w.length - c)) := by
    have h1 : c :: List.range' (c + 1) (w.length - c) = List.range' (d + 1 + (c - d - 1)) (w.length - c + 1) := by
      have : d + 1 + (c - d - 1) = c := by (first | lia | omega)
      rw [this, List.range'_succ]
    rw [h1, List.range'_append_1]
    congr 1
    (first | lia | omega)
  rw [e, List.filter_append, List.filter_cons, if_pos (by simpa using hs)]
  have z : (List.range' (d + 1) (c - d - 1)).filter (fun m => decide (w.take m <:+ w)) = [] := by
    rw [List.filter_eq_nil_iff]
    intro a ha
    have := List.mem_range'_1.mp ha
    simpa using hn a (by (first | lia | omega)) (by (first | lia | omega))
  rw [z]; rfl
theorem ovlFrom_turn {w : List Nat} {c : Nat} (hc : c ≤ w.length) (h0 : 0 < c) (hs : w.take c <:+ w) : ovlFrom w (bord w c) = c :: ovlFrom w c :=
  ovlFrom_skip hc (bord_lt hc h0) hs fun j h1 h2 hj => by
    have := bord_max hc h2 (suf_of_le hj hs (by rw [len_take (by (first | lia | omega)), len_take hc]; (first | lia | omega)))
    (first | lia | omega)
theorem ovl_len (w : List Nat) : (ovl w).length ≤ w.length := by
  have := List.length_filter_le (fun m => decide (w.take m <:+ w)) (List.range' 1 w.length)
  simpa [ovl] using this
theorem ovlFrom_len (w : List Nat) (c : Nat) : (ovlFrom w c).length ≤ w.length := by
  have := List.length_filter_le (fun m => decide (w.take m <:+ w)) (List.range' (c + 1) (w.length - c))
  rw [List.length_range'] at this
  unfold ovlFrom
  (first | lia | omega)
/-! ends -/
end FW
/-! Overlap numbers: phi q w s is the sum of q^k over the counts k of first letters of w that stand at the end of s. -/
namespace FW
/-- sums over lists of numbers -/
noncomputable def sumN (l : List Nat) (f : Nat → Nat) : Nat := (l.map f).sum
theorem sumN_cons (a : Nat) (l : List Nat) (f : Nat → Nat) : sumN (a :: l) f = f a + sumN l f := by simp [sumN]
theorem sumN_congr {l : List Nat} {f g : Nat → Nat} (h : ∀ x ∈ l, f x = g x) : sumN l f = sumN l g := by
  induction l with
  | nil => rfl
  | cons a l ih => rw [sumN_cons, sumN_cons, h a List.mem_cons_self, ih fun x hx => h x (List.mem_cons_of_mem _ hx)]
theorem sumN_add (l : List Nat) (f g : Nat → Nat) : sumN l (fun x => f x + g x) = sumN l f + sumN l g := by
  induction l with
  | nil => rfl
  | cons a l ih => rw [sumN_cons, sumN_cons, sumN_cons, ih]; (first | lia | omega)
theorem sumN_zero (l : List Nat) : sumN l (fun _ => 0) = 0 := by
  induction l with
  | nil => rfl
  | cons a l ih => rw [sumN_cons, ih]
/-- one of the letters -/
theorem sumN_one {l : List Nat} (hn : l.Nodup) {a : Nat} (ha : a ∈ l) (c : Nat) : sumN l (fun x => if a = x then c else 0) = c := by
  induction l with
  | nil => cases ha
  | cons b l ih =>
    rw [sumN_cons]
    have hb := List.nodup_cons.mp hn
    by_cases e : a = b
    · rw [if_pos e]
      have z : sumN l (fun x => if a = x then c else 0) = 0 := by
        refine (sumN_congr (g := fun _ => 0) fun x hx => if_neg ?_).trans (sumN_zero l)
        intro q
        exact hb.1 (by rw [← e, q]; exact hx)
      rw [z]; rfl
    · rw [if_neg e, ih hb.2 (by rcases List.mem_cons.mp ha with z | z; exact absurd z e; exact z)]
      (first | lia | omega)
/-- the overlap number -/
noncomputable def phi (q : Nat) (w s : List Nat) : Nat := sumN (List.range w.length) fun k => if w.take (k + 1) <:+ s then q ^ (k + 1) else 0
end FW
/-! Waiting for a word, two words, the likelier word: by the overlap numbers. -/
namespace FW
/-! ### waiting -/
noncomputable def waitZ (q : Nat) (w : List Nat) (k : Nat) : Int := (phi q w w : Int) - (phi q w (w.take k) : Int)
/-! ### two words -/
/-! ### the likelier word -/
section
variable {x : Nat} {b : List Nat} {n : Nat}
end
end FW
/-! Rows of throws: how many have a word nowhere, how many at their end for the first time. -/
namespace FW
/-- all rows of m throws, in the law's order -/
noncomputable def rows (L : List Nat) : Nat → List (List Nat)
  | 0 => [[]]
  | m + 1 => (rows L m).flatMap fun r => L.map fun c => r ++ [c]
/-- w stands somewhere in r -/
noncomputable def has (w r : List Nat) : Bool := decide (w <:+: r)
/-- w stands at the end of r and nowhere ahead -/
noncomputable def fst' (w r : List Nat) : Bool := decide (w <:+ r) && !has w r.dropLast
noncomputable def cntW (L w : List Nat) (m : Nat) : Nat := (rows L m).countP fun r => !has w r
noncomputable def cntF (L w : List Nat) (m : Nat) : Nat := (rows L m).countP (fst' w)
theorem countP_flatMap {α β : Type} (p : β → Bool) (f : α → List β) (l : List α) : (l.flatMap f).countP p = (l.map fun a => (f a).countP p).sum := by
  induction l with
  | nil => rfl
  | cons a l ih => rw [List.flatMap_cons, List.countP_append, ih, List.map_cons, List.sum_cons]
theorem sum_if {α : Type} (p : α → Bool) (c : Nat) (l : List α) : (l.map fun a => if p a then c else 0).sum = c * l.countP p := by
  induction l with
  | nil => rfl
  | cons a l ih =>
    rw [List.map_cons, List.sum_cons, ih, List.countP_cons]
    cases p a
    · simp
    · simp [Nat.mul_add, Nat.add_comm]
theorem sum_map_add {α : Type} (f g : α → Nat) (l : List α) : (l.map fun a => f a + g a).sum = (l.map f).sum + (l.map g).sum := by
  induction l with
  | nil => rfl
  | cons a l ih => rw [List.map_cons, List.map_cons, List.map_cons, List.sum_cons, List.sum_cons, List.sum_cons, ih]; (first | lia | omega)
theorem sum_congr {α : Type} {f g : α → Nat} {l : List α} (h : ∀ a ∈ l, f a = g a) : (l.map f).sum = (l.map g).sum := by
  rw [List.map_congr_left h]
theorem countP_const {α : Type} {p : α → Bool} {l : List α} {b : Bool} (h : ∀ a ∈ l, p a = b) : l.countP p = if b then l.length else 0 := by
  cases b with
  | true => rw [if_pos rfl]; exact List.countP_eq_length.mpr h
  | false => rw [if_neg (by decide)]; exact List.countP_eq_zero.mpr fun a ha => by rw [h a ha]; decide
theorem count_one {l : List Nat} (hn : l.Nodup) {a : Nat} (ha : a ∈ l) : l.count a = 1 := by
  induction l with
  | nil => cases ha
  | cons b l ih =>
    obtain ⟨h1, h2⟩ := List.nodup_cons.mp hn
    rw [List.count_cons]
    by_cases e : b = a
    · subst e
      rw [List.count_eq_zero_of_not_mem h1]; simp
    · rw [ih h2 (by rcases List.mem_cons.mp ha with z | z; exact absurd z.symm e; exact z)]
      simp [e]
theorem infix_snoc {w r : List Nat} {c : Nat} : w <:+: r ++ [c] ↔ w <:+: r ∨ w <:+ r ++ [c] := by
  constructor
  · rintro ⟨s, t, h⟩
    rcases List.eq_nil_or_concat t with e | ⟨t', d, e⟩
    · subst e
      right
      exact ⟨s, by rw [List.append_nil] at h; exact h⟩
    · subst e
      left
      rw [List.concat_eq_append, ← List.append_assoc] at h
      exact ⟨s, t', (List.append_inj' h rfl).1⟩
  · rintro (h | h)
    · exact h.trans (List.prefix_append r [c]).isInfix
    · exact h.isInfix
theorem has_snoc (w r : List Nat) (c : Nat) : has w (r ++ [c]) = (has w r || decide (w <:+ r ++ [c])) := by
  unfold has
  rw [Bool.eq_iff_iff, Bool.or_eq_true, decide_eq_true_iff, decide_eq_true_iff, decide_eq_true_iff]
  exact infix_snoc
theorem fst_snoc (w r : List Nat) (c : Nat) : fst' w (r ++ [c]) = (decide (w <:+ r ++ [c]) && !has w r) := by
  unfold fst'
  rw [List.dropLast_concat]
/-- [6]: by one throw more -/
theorem cnt_step (L w : List Nat) (m : Nat) : L.length * cntW L w m = cntW L w (m + 1) + cntF L w (m + 1) := by
  unfold cntW cntF
  show _ = ((rows L m).flatMap fun r => L.map fun c => r ++ [c]).countP _ + ((rows L m).flatMap fun r => L.map fun c => r ++ [c]).countP _
  rw [countP_flatMap, countP_flatMap, ← sum_map_add, ← sum_if]
  refine sum_congr fun r _ => ?_
  rw [List.countP_map, List.countP_map]
  cases h : has w r with
  | true =>
    rw [if_neg (by decide), countP_const (b := false), countP_const (b := false)]
    · rfl
    · intro c _; show fst' w (r ++ [c]) = false; rw [fst_snoc, h]; simp
    · intro c _; show (!has w (r ++ [c])) = false; rw [has_snoc, h]; rfl
  | false =>
    rw [if_pos (by decide)]
    have e : ∀ c, ((fun r => !has w r) ∘ fun c => r ++ [c]) c = !(fst' w ∘ fun c => r ++ [c]) c := fun c => by
      show (!has w (r ++ [c])) = !fst' w (r ++ [c])
      rw [has_snoc, fst_snoc, h]; simp
    have e2 : List.countP ((fun r => !has w r) ∘ fun c => r ++ [c]) L = List.countP (fun c => !(fst' w ∘ fun c => r ++ [c]) c) L := by
      congr 1; funext c; exact e c
    rw [e2, Nat.add_comm, List.length_eq_countP_add_countP (fst' w ∘ fun c => r ++ [c])]
    congr 2
    funext c
    cases (fst' w ∘ fun c => r ++ [c]) c <;> rfl
/-- the rows of m + j throws: a row of m, a row of j behind it -/
theorem rows_add (L : List Nat) (m : Nat) : ∀ j, rows L (m + j) = (rows L m).flatMap fun r => (rows L j).map fun u => r ++ u
  | 0 => by
    show rows L m = (rows L m).flatMap fun r => [r ++ []]
    have e : (fun r : List Nat => [r ++ []]) = fun r => [r] := by funext r; rw [List.append_nil]
    rw [e]
    simp
  | j + 1 => by
    show (rows L (m + j)).flatMap _ = (rows L m).flatMap fun r => ((rows L j).flatMap _).map _
    rw [rows_add L m j, List.flatMap_assoc]
    congr 1
    funext r
    rw [List.flatMap_map, List.map_flatMap]
    congr 1
    funext u
    rw [List.map_map]
    congr 1
    funext c
    show r ++ u ++ [c] = r ++ (u ++ [c])
    rw [List.append_assoc]
theorem rows_len (L : List Nat) : ∀ m, ∀ r ∈ rows L m, r.length = m ∧ ∀ c ∈ r, c ∈ L
  | 0, r, h => by
    have : r = [] := by simpa [rows] using h
    subst this
    exact ⟨rfl, fun c hc => nomatch hc⟩
  | m + 1, r, h => by
    obtain ⟨r', h1, h2⟩ := List.mem_flatMap.mp h
    obtain ⟨c, h3, e⟩ := List.mem_map.mp h2
    obtain ⟨i1, i2⟩ := rows_len L m r' h1
    subst e
    refine ⟨by rw [List.length_append, i1]; rfl, fun d hd => ?_⟩
    rcases List.mem_append.mp hd with z | z
    · exact i2 d z
    · have : d = c := by simpa using z
      subst this; exact h3
/-- each row once -/
theorem rows_count {L : List Nat} (hL : L.Nodup) : ∀ (m : Nat) (t : List Nat), t.length = m → (∀ c ∈ t, c ∈ L) → (rows L m).count t = 1
  | 0, t, h, _ => by
    have : t = [] := List.length_eq_zero_iff.mp h
    subst this
    rfl
  | m + 1, t, h, hc => by
    have hne : t ≠ [] := by rintro rfl; cases h
    have et : t = t.dropLast ++ [t.getLast hne] := (List.dropLast_concat_getLast hne).symm
    generalize hd : t.dropLast = r at et
    generalize hl : t.getLast hne = c at et
    subst et
    have hr : r.length = m := by rw [List.length_append] at h; simpa using h
    have ih := rows_count hL m r hr fun d hd => hc d (List.mem_append_left _ hd)
    have hcL : c ∈ L := hc c (by simp)
    show List.countP (· == r ++ [c]) ((rows L m).flatMap fun r => L.map fun c => r ++ [c]) = 1
    rw [countP_flatMap]
    have e : ∀ r' ∈ rows L m, (List.map (fun c => r' ++ [c]) L).countP (· == r ++ [c]) = if (r' == r) then 1 else 0 := fun r' _ => by
      rw [List.countP_map]
      by_cases er : r' = r
      · subst er
        rw [if_pos (by simp)]
        have : (((· == r' ++ [c]) ∘ fun c => r' ++ [c]) : Nat → Bool) = (· == c) := by
          funext d
          simp
        rw [this]
        exact count_one hL hcL
      · rw [if_neg (by simpa using er)]
        refine List.countP_eq_zero.mpr fun d _ => ?_
        simp only [Function.comp, beq_iff_eq]
        intro z
        exact er (List.append_inj' z rfl).1
    rw [sum_congr e, sum_if]
    show 1 * (rows L m).count r = 1
    rw [ih]
theorem countP_only {α : Type} [BEq α] [LawfulBEq α] {p : α → Bool} {l : List α} {a : α} (h1 : l.count a = 1) (h : ∀ b ∈ l, p b = true → b = a) : l.countP p = if p a then 1 else 0 := by
  cases hp : p a with
  | true =>
    rw [if_pos rfl, ← h1]
    unfold List.count
    refine List.countP_congr fun b hb => ⟨fun q => by simpa using h b hb q, fun q => ?_⟩
    have : b = a := by simpa using q
    rw [this]; exact hp
  | false =>
    rw [if_neg (by decide)]
    refine List.countP_eq_zero.mpr fun b hb q => ?_
    rw [h b hb q, hp] at q
    cases q
/-- the rows with the word first at their end, of m + j throws, j an overlap -/
theorem cntF_ovl {L w : List Nat} (hL : L.Nodup) (hw : ∀ c ∈ w, c ∈ L) {j m : Nat} (hj : j ≤ w.length) (ho : w.take j <:+ w) :
    cntF L w (m + j) = (rows L m).countP fun r => fst' w (r ++ w.take j) := by
  unfold cntF
  rw [rows_add, countP_flatMap]
  have e : ∀ r ∈ rows L m, ((rows L j).map fun u => r ++ u).countP (fst' w) = if fst' w (r ++ w.take j) then 1 else 0 := fun r _ => by
    rw [List.countP_map]
    refine countP_only (a := w.take j) (rows_count hL j _ (len_take hj) fun c hc => hw c (List.mem_of_mem_take hc)) fun u hu q => ?_
    have q' : fst' w (r ++ u) = true := q
    unfold fst' at q'
    rw [Bool.and_eq_true, decide_eq_true_iff] at q'
    have h1 : w.take j <:+ r ++ u := ho.trans q'.1
    have h2 : u <:+ r ++ u := List.suffix_append r u
    have hl : u.length = j := (rows_len L j u hu).1
    exact ((suf_of_le h2 h1 (by rw [len_take hj]; (first | lia | omega))).eq_of_length (by rw [len_take hj]; (first | lia | omega)))
  rw [sum_congr e, sum_if, Nat.one_mul]
/-- a row without the word: with the word put behind it comes first at one of the overlaps -/
theorem first_ovl {w r : List Nat} (hne : w ≠ []) (hr : has w r = false) : ((ovl w).countP fun j => fst' w (r ++ w.take j)) = 1 := by
  -- the first count j at which w has come
  have ex : ∃ j, j ≤ w.length ∧ has w (r ++ w.take j) = true := ⟨w.length, Nat.le_refl _, by unfold has; rw [List.take_length]; exact decide_eq_true (List.suffix_append r w).isInfix⟩
  have mono : ∀ i j, i ≤ j → has w (r ++ w.take i) = true → has w (r ++ w.take j) = true := fun i j hij h => by
    unfold has at h ⊢
    refine decide_eq_true ((of_decide_eq_true h).trans (List.IsPrefix.isInfix ?_))
    exact (List.prefix_append_right_inj r).mpr (List.take_prefix_take_left hij)
  obtain ⟨j, hj1, hj2, hj3⟩ : ∃ j, j ≤ w.length ∧ has w (r ++ w.take j) = true ∧ ∀ i, i < j → has w (r ++ w.take i) = false := by
    have key : ∀ n, (∃ j, j ≤ n ∧ j ≤ w.length ∧ has w (r ++ w.take j) = true) → ∃ j, j ≤ w.length ∧ has w (r ++ w.take j) = true ∧ ∀ i, i < j → has w (r ++ w.take i) = false := by
      intro n
      induction n with
      | zero =>
        rintro ⟨j, h0, h1, h2⟩
        have : j = 0 := by (first | lia | omega)
        subst this
        exact ⟨0, h1, h2, fun i hi => absurd hi (by (first | lia | omega))⟩
      | succ n ih =>
        rintro ⟨j, h0, h1, h2⟩
        by_cases hn : ∃ i, i < j ∧ has w (r ++ w.take i) = true
        · obtain ⟨i, hi, hh⟩ := hn
          exact ih ⟨i, by (first | lia | omega), by (first | lia | omega), hh⟩
        · refine ⟨j, h1, h2, fun i hi => ?_⟩
          cases e : has w (r ++ w.take i) with
          | false => rfl
          | true => exact absurd ⟨i, hi, e⟩ hn
    obtain ⟨j, h1, h2⟩ := ex
    exact key j ⟨j, Nat.le_refl _, h1, h2⟩
  have hj0 : 0 < j := by
    rcases Nat.eq_zero_or_pos j with e | e
    · subst e; rw [List.take_zero, List.append_nil, hr] at hj2; cases hj2
    · exact e
  have dl : ∀ k, 0 < k → k ≤ w.length → (r ++ w.take k).dropLast = r ++ w.take (k - 1) := fun k h0 hk => by
    have ne : w.take k ≠ [] := fun z => by
      have := congrArg List.length z
      rw [len_take hk] at this
      simp at this; (first | lia | omega)
    rw [List.dropLast_append_of_ne_nil ne, List.dropLast_eq_take, len_take hk, List.take_take, Nat.min_eq_left (by (first | lia | omega))]
  have snoc : ∀ k, 0 < k → k ≤ w.length → ∃ c, r ++ w.take k = (r ++ w.take (k - 1)) ++ [c] := fun k h0 hk => by
    refine ⟨w[k - 1], ?_⟩
    rw [List.append_assoc]
    congr 1
    have := List.take_succ_eq_append_getElem (l := w) (i := k - 1) (by (first | lia | omega))
    rw [show k - 1 + 1 = k by (first | lia | omega)] at this
    exact this
  have hend : w <:+ r ++ w.take j := by
    obtain ⟨c, e⟩ := snoc j hj0 hj1
    have h := hj2
    rw [e, has_snoc, hj3 (j - 1) (by (first | lia | omega)), Bool.false_or] at h
    rw [e]
    exact of_decide_eq_true h
  have hov : w.take j <:+ w := suf_of_le (List.suffix_append r (w.take j)) hend (by rw [len_take hj1]; exact hj1)
  have hf : ∀ k, 0 < k → k ≤ w.length → (fst' w (r ++ w.take k) = true ↔ k = j) := fun k h0 hk => by
    unfold fst'
    rw [dl k h0 hk, Bool.and_eq_true, decide_eq_true_iff, Bool.not_eq_true']
    constructor
    · rintro ⟨h1, h2⟩
      have h3 : has w (r ++ w.take k) = true := by unfold has; exact decide_eq_true h1.isInfix
      by_cases hlt : k < j
      · rw [hj3 k hlt] at h3; cases h3
      · by_cases hgt : j < k
        · rw [mono j (k - 1) (by (first | lia | omega)) hj2] at h2; cases h2
        · (first | lia | omega)
    · rintro rfl
      exact ⟨hend, hj3 (k - 1) (by (first | lia | omega))⟩
  have mem : j ∈ ovl w := by
    unfold ovl
    refine List.mem_filter.mpr ⟨List.mem_range'_1.mpr ⟨by (first | lia | omega), by (first | lia | omega)⟩, ?_⟩
    exact decide_eq_true hov
  have nd : (ovl w).Nodup := by
    unfold ovl
    exact List.Nodup.sublist List.filter_sublist (List.nodup_range' (step := 1))
  have bnd : ∀ k ∈ ovl w, 0 < k ∧ k ≤ w.length := fun k hk => by
    have := List.mem_range'_1.mp (List.mem_filter.mp hk).1
    (first | lia | omega)
  rw [countP_only (a := j) (count_one nd mem) fun k hk q => (hf k (bnd k hk).1 (bnd k hk).2).mp q]
  rw [if_pos ((hf j hj0 hj1).mpr rfl)]
theorem sum_swap {α β : Type} (f : α → β → Nat) (l : List α) (k : List β) : (l.map fun a => (k.map (f a)).sum).sum = (k.map fun b => (l.map fun a => f a b).sum).sum := by
  induction l with
  | nil =>
    induction k with
    | nil => rfl
    | cons b k ih => rw [List.map_cons, List.sum_cons, ← ih]; rfl
  | cons a l ih =>
    rw [List.map_cons, List.sum_cons, ih, ← sum_map_add]
    refine sum_congr fun b _ => ?_
    rw [List.map_cons, List.sum_cons]
/-- [6]: a row without the word with the word put behind -/
theorem cnt_ovl {L w : List Nat} (hL : L.Nodup) (hw : ∀ c ∈ w, c ∈ L) (hne : w ≠ []) (m : Nat) : ((ovl w).map fun j => cntF L w (m + j)).sum = cntW L w m := by
  have e1 : ((ovl w).map fun j => cntF L w (m + j)).sum = ((ovl w).map fun j => ((rows L m).map fun r => if fst' w (r ++ w.take j) then 1 else 0).sum).sum := by
    refine sum_congr fun j hj => ?_
    have h1 := List.mem_range'_1.mp (List.mem_filter.mp hj).1
    have h2 := (List.mem_filter.mp hj).2
    rw [cntF_ovl hL hw (by (first | lia | omega)) (of_decide_eq_true h2), sum_if, Nat.one_mul]
  rw [e1, sum_swap (fun j r => if fst' w (r ++ w.take j) then 1 else 0)]
  have e2 : ∀ r ∈ rows L m, ((ovl w).map fun j => if fst' w (r ++ w.take j) then 1 else 0).sum = if !has w r then 1 else 0 := fun r _ => by
    rw [sum_if, Nat.one_mul]
    cases h : has w r with
    | false => rw [first_ovl hne h]; rfl
    | true =>
      rw [if_neg (by decide)]
      refine List.countP_eq_zero.mpr fun j hj q => ?_
      have hb := List.mem_range'_1.mp (List.mem_filter.mp hj).1
      unfold fst' at q
      rw [Bool.and_eq_true, Bool.not_eq_true'] at q
      have : has w (r ++ w.take j).dropLast = true := by
        have ne : w.take j ≠ [] := fun z => by
          have := congrArg List.length z
          rw [len_take (by (first | lia | omega))] at this
          simp at this; (first | lia | omega)
        rw [List.dropLast_append_of_ne_nil ne]
        unfold has at h ⊢
        exact decide_eq_true ((of_decide_eq_true h).trans (List.prefix_append r _).isInfix)
      rw [q.2] at this; cases this
  rw [sum_congr e2, sum_if, Nat.one_mul]
  rfl
end FW
namespace FW
/-! ### [6]: the counts as they are found one by one -/
theorem cntF_small {L w : List Nat} {m : Nat} (h : m < w.length) : cntF L w m = 0 := by
  unfold cntF
  refine List.countP_eq_zero.mpr fun r hr => ?_
  have e := (rows_len L m r hr).1
  unfold fst'
  rw [Bool.and_eq_true]
  intro z
  have := (of_decide_eq_true z.1 : w <:+ r).length_le
  (first | lia | omega)
theorem cntW_zero {L w : List Nat} (h : w ≠ []) : cntW L w 0 = 1 := by
  unfold cntW
  show List.countP _ [[]] = 1
  have : has w [] = false := by
    unfold has
    refine decide_eq_false fun z => h ?_
    exact List.infix_nil.mp z
  simp [this]
theorem ovl_eq {w : List Nat} {n : Nat} (e : w.length = n + 1) : ovl w = ((List.range' 1 n).filter fun m => decide (w.take m <:+ w)) ++ [w.length] := by
  unfold ovl
  rw [e, List.range'_concat, List.filter_append]
  congr 1
  rw [show 1 + 1 * n = w.length by (first | lia | omega), e]
  rw [List.filter_cons, if_pos (decide_eq_true (by rw [← e, List.take_length]; exact List.suffix_refl _))]
  rfl
theorem ovl_snoc {w : List Nat} (h : w ≠ []) : ovl w = (ovl w).dropLast ++ [w.length] := by
  obtain ⟨n, e⟩ : ∃ n, w.length = n + 1 := ⟨w.length - 1, by have := List.length_pos_iff.mpr h; (first | lia | omega)⟩
  rw [ovl_eq e, List.dropLast_concat]
theorem ovl_lt {w : List Nat} {o : Nat} (h : w ≠ []) (ho : o ∈ (ovl w).dropLast) : 1 ≤ o ∧ o < w.length := by
  obtain ⟨n, e⟩ : ∃ n, w.length = n + 1 := ⟨w.length - 1, by have := List.length_pos_iff.mpr h; (first | lia | omega)⟩
  rw [ovl_eq e, List.dropLast_concat] at ho
  have := List.mem_range'_1.mp (List.mem_filter.mp ho).1
  (first | lia | omega)
theorem cntF_rec {L w : List Nat} (hL : L.Nodup) (hw : ∀ c ∈ w, c ∈ L) (hne : w ≠ []) (a : Nat) : (((ovl w).dropLast).map fun o => cntF L w (a + o)).sum + cntF L w (a + w.length) = cntW L w a := by
  rw [← cnt_ovl hL hw hne a]
  conv => rhs; rw [ovl_snoc hne]
  rw [List.map_append, List.sum_append]
  simp
theorem cnt_ab : ∀ m, cntW [97, 98] [97, 98] m = m + 1 ∧ cntF [97, 98] [97, 98] (m + 1) = m := by
  have st := cnt_step [97, 98] [97, 98]
  have rc := fun a => cntF_rec (L := [97, 98]) (w := [97, 98]) (by decide) (by decide) (by decide) a
  have e : (ovl [97, 98]).dropLast = [] := by decide
  rw [e] at rc
  intro m
  induction m with
  | zero => exact ⟨cntW_zero (by decide), cntF_small (by decide)⟩
  | succ m ih =>
    have s := st m
    have r := rc m
    simp only [List.map_nil, List.sum_nil, List.length_cons, List.length_nil, Nat.zero_add] at r s
    refine ⟨by (first | lia | omega), ?_⟩
    show cntF [97, 98] [97, 98] (m + (1 + 1)) = _
    (first | lia | omega)
end FW
namespace FW
/-! ### what a beginning leads to, by its shorter beginning; what is held -/
theorem phi_nil (q : Nat) (w : List Nat) : phi q w [] = 0 := by
  unfold phi
  refine (sumN_congr fun k hk => if_neg fun z => ?_).trans (sumN_zero _)
  have := z.length_le
  rw [List.length_take, List.length_nil] at this
  have := List.mem_range.mp hk
  (first | lia | omega)
theorem phi_bord {q : Nat} {w : List Nat} {k : Nat} (hk : k ≤ w.length) (h0 : 0 < k) : phi q w (w.take k) = q ^ k + phi q w (w.take (bord w k)) := by
  unfold phi
  have h : sumN (List.range w.length) (fun j => if w.take (j + 1) <:+ w.take k then q ^ (j + 1) else 0) = sumN (List.range w.length) (fun j => (if k - 1 = j then q ^ k else 0) + if w.take (j + 1) <:+ w.take (bord w k) then q ^ (j + 1) else 0) := by
    refine sumN_congr fun j hj => ?_
    have hj' : j < w.length := List.mem_range.mp hj
    have hb := bord_lt hk h0
    by_cases e1 : k - 1 = j
    · have ek : j + 1 = k := by (first | lia | omega)
      rw [if_pos e1, ek, if_pos (List.suffix_refl _), if_neg fun z => by
        have := z.length_le
        rw [len_take hk, len_take (by (first | lia | omega))] at this
        (first | lia | omega)]
      rfl
    · rw [if_neg e1, Nat.zero_add]
      by_cases hs : w.take (j + 1) <:+ w.take k
      · have hle := hs.length_le
        rw [len_take (by (first | lia | omega)), len_take hk] at hle
        have hjb := bord_max hk (by (first | lia | omega)) hs
        rw [if_pos hs, if_pos (suf_of_le hs (bord_suf hk h0) (by rw [len_take (by (first | lia | omega)), len_take (by (first | lia | omega))]; exact hjb))]
      · rw [if_neg hs, if_neg fun z => hs (z.trans (bord_suf hk h0))]
  rw [h, sumN_add, sumN_one List.nodup_range (List.mem_range.mpr (by (first | lia | omega)))]
end FW
/-! How large the numbers are. -/
namespace FW
open PySem
end FW
/-! zip of two lists, taken apart at once. -/
namespace L2
open PySem PySem.Spec PyProof.Rows
section
variable {X : Cx} {pins : List (Addr × Obj)} {σ : St} {H : Hp} {s : Shared} {h' : Heap} {ch : List Addr}
end
section
variable {X : Cx}
end
end L2
/-! a in b of texts, find, is True, slices by steps. -/
namespace L2
open PySem PySem.Spec PyProof.Rows PySem.StrLaws
theorem at_iff (a b : List Nat) (i : Nat) : At (tx b) (tx a) (tx b).length i ↔ i + a.length ≤ b.length ∧ (b.drop i).take a.length = a := by
  unfold At
  rw [subAt_eq, tx_len, tx_len]
  show _ ∧ (((b.drop i).take a.length == a) = true) ↔ _
  rw [beq_iff_eq]
theorem infix_at (a b : List Nat) : a <:+: b ↔ ∃ i, i + a.length ≤ b.length ∧ (b.drop i).take a.length = a := by
  constructor
  · rintro ⟨u, v, rfl⟩
    refine ⟨u.length, by simp, ?_⟩
    rw [List.append_assoc, List.drop_left, List.take_left]
  · rintro ⟨i, hi, e⟩
    refine ⟨b.take i, (b.drop i).drop a.length, ?_⟩
    have h1 : a ++ (b.drop i).drop a.length = b.drop i := by
      have := List.take_append_drop a.length (b.drop i)
      rw [e] at this
      exact this
    rw [List.append_assoc, h1, List.take_append_drop]
theorem in_inf (a b : List Nat) : (!(Builtin.Str.occurrences (tx b) (tx a) 0 (tx b).length 1).isEmpty) = decide (a <:+: b) := by
  rw [Bool.eq_iff_iff, found_iff, decide_eq_true_eq, infix_at]
  exact ⟨fun zz => by obtain ⟨i, h⟩ := zz; exact ⟨i, (at_iff a b i).mp h⟩, fun zz => by obtain ⟨i, h⟩ := zz; exact ⟨i, (at_iff a b i).mpr h⟩⟩
section
variable {X : Cx}
theorem op_in_tx : OpR X (compareOp .In) (fun x y H Q => ∃ a b, x = .str (tx a) ∧ y = .str (tx b) ∧ Q (.bl (decide (a <:+: b))) H) := by
  intro pins s σ H x y v u Q I rx ry h
  obtain ⟨a, b, rfl, rfl, q⟩ := h
  exact op_in_str pins s σ H _ _ v u Q I rx ry ⟨_, _, rfl, rfl, by rw [in_inf]; exact q⟩
end
/-! ### by steps -/
section
variable {X : Cx}
end
end L2
/-! == and != of lists of bools; * of any two numbers. -/
namespace L2
open PySem PySem.Spec PyProof.Rows PySem.W PySem.SeqAt
theorem readsAll_bls {h : Heap} : ∀ {bs : List Bool} {us : List Value}, Vals (bs.map V.bl) us → ReadsAll h us (bs.map PyData.bool) []
  | [], _, r => by cases r; exact .nil
  | b :: bs, _, r => by
    cases r with
    | cons h1 r =>
      cases h1
      have := ReadsAll.cons (Reads.bool (h := h) b) (readsAll_bls (h := h) r)
      simpa using this
theorem reads_bls {h : Heap} {a : Addr} {us : List Value} {bs : List Bool} (hl : h.IsList a us.toArray) (r : Vals (bs.map V.bl) us) : Reads h (.ref a) (.list (bs.map PyData.bool)) [a] := by
  obtain ⟨o, ho, hc, n, hd⟩ := hl
  exact Reads.list ho hc hd (by simpa using readsAll_bls r)
theorem canLayAll0_bls : ∀ ns : List Bool, PyData.canLayAll0 (ns.map PyData.bool) = true
  | [] => by simp [PyData.canLayAll0]
  | n :: r => by simp [PyData.canLayAll0, PyData.canLay0, canLayAll0_bls r]
theorem depthAll_bls : ∀ ns : List Bool, PyData.depthAll (ns.map PyData.bool) ≤ 1
  | [] => by simp [PyData.depthAll]
  | n :: r => by
    have := depthAll_bls r
    simp only [List.map_cons, PyData.depthAll, PyData.depth]
    (first | lia | omega)
theorem shaped_bls (ns : List Bool) : shaped (.list (ns.map PyData.bool)) = true := by
  have h1 := depthAll_bls ns
  have h2 : PyData.depth (.list (ns.map PyData.bool)) ≤ 64 := by simp only [PyData.depth]; (first | lia | omega)
  show (PyData.canLay0 (.list (ns.map PyData.bool)) && decide (PyData.depth (.list (ns.map PyData.bool)) ≤ 64)) = true
  rw [Bool.and_eq_true]
  exact ⟨by simp only [PyData.canLay0]; exact canLayAll0_bls ns, decide_eq_true h2⟩
theorem noMix_bls : ∀ ns ms : List Bool, noMixAll (ns.map PyData.bool) (ms.map PyData.bool) = true
  | [], [] => by simp [noMixAll]
  | [], _ :: _ => by simp [noMixAll]
  | _ :: _, [] => by simp [noMixAll]
  | _ :: r, _ :: q => by simp [noMixAll, noMix, noMix_bls r q]
theorem same_bls : ∀ ns ms : List Bool, PySem.Spec.sameAll (ns.map PyData.bool) (ms.map PyData.bool) = decide (ns = ms)
  | [], [] => by simp [PySem.Spec.sameAll]
  | [], _ :: _ => by simp [PySem.Spec.sameAll]
  | _ :: _, [] => by simp [PySem.Spec.sameAll]
  | n :: r, k :: q => by
    simp only [List.map_cons, PySem.Spec.sameAll, PySem.Spec.same, same_bls r q]
    by_cases h : n = k <;> simp [h]
noncomputable def rNeB (K : PySem.W.Frag) : R2 := fun x y H Q => ∃ (a b : Addr) (ns ms : List Bool), x = .ref a ∧ y = .ref b ∧ SqL K H a (ns.map V.bl) ∧ SqL K H b (ms.map V.bl) ∧ Q (.bl (!decide (ns = ms))) H
section
variable {X : Cx}
theorem op_neB (hu : X.A.units + 64 < cLine) : OpR X (compareOp .NotEq) (rNeB X.K) := by
  intro pins s σ H x y v u Q I rx ry h
  obtain ⟨a, b, ns, ms, rfl, rfl, ha, hb, q⟩ := h
  cases rx
  cases ry
  obtain ⟨is1, r1, p1, _⟩ := I.list ha
  obtain ⟨is2, r2, p2, _⟩ := I.list hb
  exact ne_dataH_same (reads_bls p1.isList r1) (reads_bls p2.isList r2) (shaped_bls ns) (shaped_bls ms) hu (by simp only [noMix]; exact noMix_bls ns ms) (by simp only [PySem.Spec.same]; rw [same_bls]; exact ⟨.bl _, H, I, rfl, q⟩)
end
end L2
/-! WALKS: enumerate of a text; the statement for over enumerate. -/
namespace L2
open PySem PySem.Spec PyProof.Rows
section
variable {X : Cx}
end
end L2
namespace L2
open PySem PySem.Spec PyProof.Rows
section
variable {X : Cx}
end
end L2
/-! Stations of an exception's flight, with the exception's object kept whole: class, arguments, traceback, no context, no cause. -/
namespace L2
open PySem PySem.Spec
noncomputable abbrev excO (C t : Addr) (tb : Value) : Obj := { cls := .ref C, data := .fields #[.ref t, tb, .none, .none, .bool false, .none] }
/-- in flight above the frames l; fl: the frame that the newest entry names as the one it flies in -/
structure FlyX (B : Heap) (l : List Env) (e C : Addr) (fl : Value) (h : Heap) : Prop where
  stays : B.StaysIn h
  new : B.get? e = none
  funs : h.FunFrames B l
  tr : ∃ t T oT ts, h.get? e = some (excO C t (.ref T)) ∧ B.get? T = none ∧ T ≠ e ∧ h.get? T = some oT ∧ oT.data = .fields ts ∧ ts[3]? = some fl
section
variable {M : Model} {A : Around} {E : Value → Shared → Prop} {s : Shared} {B : Heap} {env : Env} {outer : List Env} {l : List Env} {L e C : Addr} {fl : Value}
theorem FlyX.notFrame {h : Heap} (x : FlyX B l e C fl h) : e ∉ l.filterMap (·.frame) := fun z => by
  obtain ⟨t, T, oT, ts, he, _⟩ := x.tr
  obtain ⟨_, o, ho, hd⟩ := x.funs.mem z
  rw [he] at ho; cases ho
  exact hd _ rfl
/-- one entry more in the traceback -/
theorem entryX {t : Addr} {tb head : Value} {had : Bool} {Q : Unit → Shared → Prop} (hfr : A.frames = some (env :: outer)) (hl : s.heap.FunFrames B (env :: outer)) (hf : env.frame = some L)
    (he : s.heap.get? e = some (excO C t tb)) (hB : B.StaysIn s.heap) (hn : B.get? e = none)
    (k : ∀ g, FlyX B (env :: outer) e C (rawInt L) g → s.heap.UpToSlots g → Q () { s with heap := g }) :
    wpAny M A (do let a ← frameOf env; let pl ← entryPlaceOf L had; let b ← EntryCells.newEntry head a .none (rawInt L) .none pl; setField (.ref e) 1 b) Q E s := by
  have nfr : e ∉ (env :: outer).filterMap (·.frame) := fun z => by
    obtain ⟨_, o, ho, hd⟩ := hl.mem z
    rw [he] at ho; cases ho
    exact hd _ rfl
  refine wpAny_bind (wpAny_frameOf_fun hfr hl hf fun g1 so => wpAny_bind (wpAny_entryPlaceOf fun pl hpl => ?_))
  unfold EntryCells.newEntry newFields
  have sz := hpl.sizeOk5 head (.ref L) .none (rawInt L) .none
  refine wpAny_bind (wpAny_newObj_type ?_ sz)
  generalize hT : ({ cls := .type "traceback", dict := none, data := .fields ([head, .ref L, .none, rawInt L, .none] ++ (if pl.isEmpty then List.replicate 6 Value.none else pl)).toArray } : Obj) = oT
  have e1 : g1.get? e = some (excO C t tb) := (so.2.1 e nfr).trans he
  have b1 : B.StaysIn g1 := fun b o q => (so.2.1 b fun z => by rw [(hl.mem z).1] at q; cases q).trans (hB b o q)
  have hfr0 : oT.isFreed = false := by rw [← hT]; rfl
  have e2 : (g1.push oT).get? e = some (excO C t tb) := Heap.get?_push_of_some oT e1
  refine wpAny_setField e2 rfl (by show 1 < 6; decide) (k _ ?_ ?_)
  · have ne1 : g1.objs.size ≠ e := Nat.ne_of_gt (Heap.lt_size e1)
    have kp : ∀ b o, b ≠ e → g1.get? b = some o → ((g1.push oT).update e (Obj.mapFields (·.setIfInBounds 1 (Value.ref g1.objs.size)))).get? b = some o := fun b o nb q => by
      rw [Heap.get?_update_other _ _ (Ne.symm nb)]
      exact Heap.get?_push_of_some oT q
    refine ⟨fun b o q => kp b o (fun z => by rw [z, hn] at q; cases q) (b1 b o q), hn, hl.of_keeps fun b o q hd => ?_, t, g1.objs.size, oT, _, ?_, b1.fresh, ne1, ?_, (by rw [← hT]), ?_⟩
    · obtain ⟨sl, q1⟩ := so.2.2 b o q
      exact ⟨_, kp b _ (fun z => by rw [z, he] at q; cases q; exact hd _ rfl) q1, rfl⟩
    · rw [Heap.get?_update_self _ e2 rfl]; rfl
    · rw [Heap.get?_update_other _ _ (Ne.symm ne1)]
      exact Heap.get?_push_size g1 hfr0
    · first
        | (simp; done)
        | (rcases hpl with rfl | ⟨_, _, _, _, _, _, _, rfl⟩ <;> simp)
  · intro b o q hd
    obtain ⟨sl, q1⟩ := so.2.2 b o q
    refine ⟨sl, ?_⟩
    rw [Heap.get?_update_other _ _ (fun z => by rw [← z, he] at q; cases q; exact hd _ rfl)]
    exact Heap.get?_push_of_some oT q1
/-- the newest entry's mark -/
theorem flightX {fl' : Option Addr} {Q : Unit → Shared → Prop} (x : FlyX B l e C fl s.heap) (k : ∀ g, FlyX B l e C (fl'.elim .none fun f => rawInt f) g → s.heap.UpToSlots g → Q () { s with heap := g }) : wpAny M A (setFlight (.ref e) fl') Q E s := by
  obtain ⟨t, T, oT, ts, he, hTB, hTe, hT, hd, h3⟩ := x.tr
  have z3 : 3 < ts.size := (Array.getElem?_eq_some_iff.mp h3).1
  unfold setFlight
  refine wpAny_bind (wpAny_field he rfl (i := 1) (x := .ref T) rfl ?_)
  rw [if_pos (show (Value.ref T != Value.none) = true by simp)]
  have oth : ∀ b, b ≠ T → (s.heap.update T (Obj.mapFields (·.setIfInBounds 3 (fl'.elim Value.none fun f => rawInt f)))).get? b = s.heap.get? b := fun b nb => Heap.get?_update_other _ _ (Ne.symm nb)
  have nrec : ∀ b o, s.heap.get? b = some o → (∀ vs, o.data ≠ .fields vs) → b ≠ T := fun b o q nd z => by
    rw [z, hT] at q; cases q; exact nd ts hd
  refine wpAny_setField hT hd z3 (k _ ⟨fun b o q => (oth b fun z => by rw [z, hTB] at q; cases q).trans (x.stays b o q), x.new, x.funs.of_keeps fun b o q nd => ⟨o, (oth b (nrec b o q nd)).trans q, rfl⟩, t, T, _, _, (oth e (Ne.symm hTe)).trans he, hTB, hTe,
    Heap.get?_update_self _ hT (Obj.isFreed_of_fields (Obj.data_mapFields hd _)), Obj.data_mapFields hd _, by simp [z3]⟩ fun b o q nd => ⟨o.slots, (oth b (nrec b o q nd)).trans q⟩)
/-- a frame looks at what comes -/
theorem noteX {Q : Unit → Shared → Prop} (hfr : A.frames = some (env :: outer)) (hf : env.frame = some L) (x : FlyX B (env :: outer) e C .none s.heap)
    (k : ∀ g, FlyX B (env :: outer) e C (rawInt L) g → s.heap.UpToSlots g → Q () { s with heap := g }) : wpAny M A (noteFrame (.ref e) env) Q E s := by
  obtain ⟨t, T, oT, ts, he, hTB, hTe, hT, hd, h3⟩ := x.tr
  have z3 : 3 < ts.size := (Array.getElem?_eq_some_iff.mp h3).1
  unfold noteFrame
  simp only [hf]
  refine wpAny_bind (wpAny_field he rfl (i := 1) (x := .ref T) rfl ?_)
  rw [if_pos (show (Value.ref T != Value.none) = true by simp)]
  refine wpAny_bind (wpAny_field hT hd h3 ?_)
  rw [if_neg (show ¬ ((Value.none == rawInt L) = true) by simp [rawInt])]
  have oth : ∀ b, b ≠ T → (s.heap.update T (Obj.mapFields (·.setIfInBounds 3 Value.none))).get? b = s.heap.get? b := fun b nb => Heap.get?_update_other _ _ (Ne.symm nb)
  have nrec : ∀ b o, s.heap.get? b = some o → (∀ vs, o.data ≠ .fields vs) → b ≠ T := fun b o q nd z => by
    rw [z, hT] at q; cases q; exact nd ts hd
  refine wpAny_bind (wpAny_setField hT hd z3 ?_)
  refine entryX hfr (x.funs.of_keeps fun b o q nd => ⟨o, (oth b (nrec b o q nd)).trans q, rfl⟩) hf ((oth e (Ne.symm hTe)).trans he) (fun b o q => (oth b fun z => by rw [z, hTB] at q; cases q).trans (x.stays b o q)) x.new fun g fx up => k g fx fun b o q nd => ?_
  exact up b o ((oth b (nrec b o q nd)).trans q) nd
theorem FlyX.out {h : Heap} (x : FlyX B (env :: outer) e C fl h) : FlyX B outer e C fl h := ⟨x.stays, x.new, x.funs.2.2, x.tr⟩
/-- it leaves a frame that it came to -/
theorem leaveX {Q : Unit → Shared → Prop} (hfr : A.frames = some (env :: outer)) (hf : env.frame = some L) (x : FlyX B (env :: outer) e C .none s.heap)
    (k : ∀ g, FlyX B outer e C .none g → s.heap.UpToSlots g → Q () { s with heap := g }) : wpAny M A (leaving env (.ref e)) Q E s := by
  unfold leaving
  refine wpAny_bind (noteX hfr hf x fun g fx up => ?_)
  exact flightX (s := { s with heap := g }) fx fun g2 fx2 up2 => k g2 fx2.out (up.trans up2)
/-- it leaves the frame in which it was raised -/
theorem leaveX_new {h : Heap} {args : List Value} {Q : Unit → Shared → Prop} (hfr : A.frames = some (env :: outer)) (hf : env.frame = some L) (hB : B.StaysIn h) (hl : h.FunFrames B (env :: outer)) (hx : Heap.MadeExcOf h s.heap e (.ref C) args)
    (k : ∀ g, FlyX B outer e C .none g → h.UpToSlots g → Q () { s with heap := g }) : wpAny M A (leaving env (.ref e)) Q E s := by
  obtain ⟨t, he, _, _⟩ := hx.there
  have hn : B.get? e = none := by
    cases q : B.get? e with
    | none => rfl
    | some o => have := hB e o q; rw [hx.new] at this; cases this
  unfold leaving noteFrame
  simp only [hf]
  refine wpAny_bind (wpAny_bind (wpAny_field he rfl (i := 1) (x := .none) rfl ?_))
  rw [if_neg (by decide)]
  refine entryX hfr (hl.of_keeps fun b o q _ => ⟨o, hx.keeps b o q, rfl⟩) hf he (fun b o q => hx.keeps b o (hB b o q)) hn fun g fx up => ?_
  exact flightX (s := { s with heap := g }) fx fun g2 fx2 up2 => k g2 fx2.out ((Heap.UpToSlots.of_keeps hx.keeps).trans (up.trans up2))
end
end L2
/-! EXCEPTIONS over the layer: own error classes raised in a def, passing through defs, caught by name in a def that goes on. -/
namespace L2
open PySem PySem.Spec PyProof.Rows
/-! ### what is tracked is there -/
theorem ObjOk.there {P : Program} {w : World} {H : Hp} {h : Heap} {a : Addr} {o : HO} (x : ObjOk P w H h a o) : ∃ ob, h.get? a = some ob := by
  cases o with
  | lst xs => obtain ⟨_, _, _, _, e⟩ := x; exact ⟨_, e⟩
  | tup xs => obtain ⟨_, _, _, o, e, _⟩ := x; exact ⟨_, e⟩
  | dK kvs => obtain ⟨_, _, _, _, o, _, _, e, _⟩ := x; exact ⟨_, e⟩
  | dT kvs => obtain ⟨_, _, _, _, o, _, _, e, _⟩ := x; exact ⟨_, e⟩
  | set S n => obtain ⟨o, _, _, _, e, _⟩ := x; exact ⟨_, e⟩
  | ins C dx fs => obtain ⟨_, _, _, e, _⟩ := x; exact ⟨_, e⟩
  | own y => exact x
  | xd fs => obtain ⟨_, ⟨_, _, _, e, _⟩, _⟩ := x; exact ⟨_, e⟩
  | rng lo hi => obtain ⟨_, _, _, e⟩ := x; exact ⟨_, e⟩
  | frz ob u => obtain ⟨e, _⟩ := x; exact ⟨_, e⟩
  | tbl ps => exact ⟨_, x⟩
  | met f y => exact ⟨_, x⟩
  | ext φ => obtain ⟨_, e, _⟩ := x; exact e
/-! ### an exception in flight behind a call: B is the heap as it stood where it was raised, without the frames -/
structure Flew (P : Program) (w : World) (base : Heap) (outer : List Env) (H : Hp) (s : Shared) (ea C : Addr) (H' : Hp) (B : Heap) (s' : Shared) : Prop where
  os : s'.os = s.os
  bare : AllBare s'.gens
  fly : FlyX B outer ea C .none s'.heap
  base : base.StaysIn B
  un : Un (frs outer) [] H H' s.heap s'.heap
  hok : HOk P w H' s'.heap
  trk : ∀ b u o, H' b = some u → s'.heap.get? b = some o → B.get? b = some o
  old : ∀ b o, s.heap.get? b = some o → H b = none → b ∉ frs outer → B.get? b = some o
  oldt : ∀ b o, s.heap.get? b = some o → b ∉ frs outer → ∃ o', B.get? b = some o'
noncomputable def CX1 (P : Program) (w : World) (base : Heap) : CXT := fun outer H s E e s' =>
  ∃ (ea C : Addr) (H' : Hp) (B : Heap), e = .ref ea ∧ Flew P w base outer H s ea C H' B s' ∧ E (.ref C) none H'
section
variable {X : Cx} {pins : List (Addr × Obj)} {σ : St} {H H' : Hp} {s s' : Shared} {B : Heap} {ea C : Addr} {h'' : Heap}
theorem mem_nil {b : Addr} : b ∉ ([] : List Addr) := by simp
/-- behind one more station of the flight -/
theorem Flew.un_on {P : Program} {w : World} {base : Heap} {outer : List Env} (F : Flew P w base outer H s ea C H' B s') (st : B.StaysIn h'') (up : s'.heap.UpToSlots h'') (ff : s'.heap.FunFrames B outer) : Un (frs outer) [] H H' s.heap h'' where
  keep := fun b o q n hb _ => st b o (F.old b o q n hb)
  slot := fun b o q n hb _ => by
    obtain ⟨sl, e⟩ := F.un.slot b o q n hb mem_nil
    obtain ⟨_, o', ho', hd⟩ := ff.mem hb
    rw [e] at ho'; cases ho'
    obtain ⟨sl', e'⟩ := up b _ e hd
    exact ⟨sl', e'⟩
  free := F.un.free
  there := fun b o q _ => by
    by_cases hb : b ∈ frs outer
    · obtain ⟨_, o', ho', hd⟩ := ff.mem hb
      obtain ⟨sl', e'⟩ := up b _ ho' hd
      exact ⟨_, e'⟩
    · obtain ⟨o', e'⟩ := F.oldt b o q hb
      exact ⟨o', st b o' e'⟩
  tups := F.un.tups
  frzs := F.un.frzs
  tbls := F.un.tbls
theorem Flew.hok_on {P : Program} {w : World} {base : Heap} {outer : List Env} (F : Flew P w base outer H s ea C H' B s') (st : B.StaysIn h'') : HOk P w H' h'' := fun a o e =>
  (F.hok a o e).stay (fun b u hb q => st b u (by
    rcases hb with z | z
    · subst z; exact F.trk b o u e q
    · exact F.trk b _ u z q)) (fun _ q => q) fun _ _ q => q
/-- the frames of a body that runs -/
structure Runs (X : Cx) : Prop where
  st : X.stack = X.env :: X.outer
  fr : X.env.frame = some X.env.locals
  ex : X.ex = []
theorem Runs.not (R : Runs X) (I : Inv X pins σ H s) {b : Addr} {o : Obj} (e : X.s₀.heap.get? b = some o) (hb : b ∉ X.fs) : b ∉ frs X.stack := fun z => by
  rcases List.mem_cons.mp (I.stkSub b z) with q | q
  · exact absurd (Nat.lt_of_lt_of_le (Heap.lt_size e) I.ok.above) (by rw [q]; exact Nat.lt_irrefl _)
  · exact hb q
theorem Runs.nex (R : Runs X) {b : Addr} : b ∉ X.ex := by rw [R.ex]; exact mem_nil
/-- raised in this body: it leaves -/
theorem raise_leaves (R : Runs X) (I : Inv X pins σ H s) {e : Addr} {args : List Value} {E : XK} {Er : Value → Shared → Prop} (hx : Heap.MadeExcOf s.heap h'' e (.ref C) args) (hE : E (.ref C) none H) :
    wpAny (model X.prog X.w) X.A (leaving X.env (.ref e)) (fun _ s2 => CX1 X.prog X.w X.base X.outer X.H₀ X.s₀ E (.ref e) s2) Er { s with heap := h'' } := by
  have hin : ∀ env ∈ X.stack, ∀ b, env.frame = some b → b ∈ frs X.stack := fun env he b hb => List.mem_filterMap.mpr ⟨env, he, hb⟩
  have keepB : ∀ b o, s.heap.get? b = some o → b ∉ frs X.stack → (PySem.W.hideAll s.heap (frs X.stack)).get? b = some o := fun b o q n => PySem.W.hideAll_get _ q n
  have ff : s.heap.FunFrames (PySem.W.hideAll s.heap (frs X.stack)) X.stack := PySem.W.funFrames_hide I.stack hin
  refine leaveX_new (B := PySem.W.hideAll s.heap (frs X.stack)) (env := X.env) (outer := X.outer) (L := X.env.locals) (s := { s with heap := h'' }) (by rw [← R.st]; exact I.ok.frames) R.fr (fun b o q => PySem.W.of_hideAll _ q) (by rw [← R.st]; exact ff) hx fun h3 fl up' => ?_
  have stay : (PySem.W.hideAll s.heap (frs X.stack)).StaysIn h3 := fl.stays
  have trkd : ∀ b u, H b = some u → b ∉ frs X.stack := fun b u q z => by rw [I.stkFree b z] at q; cases q
  refine ⟨e, C, H, _, rfl, ⟨I.os, I.bare, fl, fun b o q => keepB b o (I.bk b o q) fun z => ?_, ⟨fun b o q n hb _ => ?_, fun b o q n hb _ => ?_, fun b o q n _ => I.base.free b o q n R.nex, fun b o q _ => ?_, I.base.tups, I.base.frzs, I.base.tbls⟩, fun a o q => ?_, fun b u o q q' => ?_, fun b o q n hb => ?_, fun b o q hb => ?_⟩, hE⟩
  · rw [(I.stack.mem z).1] at q; cases q
  · exact stay b o (keepB b o (I.base.keep b o q n hb R.nex) (R.not I q hb))
  · obtain ⟨sl, q1⟩ := I.base.slot b o q n hb R.nex
    obtain ⟨_, o', ho', hd⟩ := I.funs.mem hb
    rw [q1] at ho'; cases ho'
    obtain ⟨sl', q2⟩ := up' b _ q1 hd
    exact ⟨sl', q2⟩
  · obtain ⟨o', q1⟩ := I.base.there b o q R.nex
    by_cases hb : b ∈ frs X.stack
    · obtain ⟨_, o2, ho2, hd⟩ := I.stack.mem hb
      obtain ⟨sl', q2⟩ := up' b _ ho2 hd
      exact ⟨_, q2⟩
    · exact ⟨o', stay b o' (keepB b o' q1 hb)⟩
  · refine (I.hok a o q).stay (fun b u hb q' => stay b u (keepB b u q' ?_)) (fun _ z => z) fun _ _ z => z
    rcases hb with z | z
    · subst z; exact trkd b o q
    · exact trkd b _ z
  · obtain ⟨ob, q1⟩ := (I.hok b u q).there
    have q2 := keepB b ob q1 (trkd b u q)
    have q3 := stay b ob q2
    have q4 : h3.get? b = some o := q'
    rw [q3] at q4; cases q4
    exact q2
  · exact keepB b o (I.base.keep b o q n hb R.nex) (R.not I q hb)
  · obtain ⟨o', q1⟩ := I.base.there b o q R.nex
    exact ⟨o', keepB b o' q1 (R.not I q hb)⟩
/-- raised in a callee: it leaves this body too -/
theorem fly_leaves (R : Runs X) (I : Inv X pins σ H s) {e : Value} {E : XK} {Er : Value → Shared → Prop} (h : CX1 X.prog X.w X.base X.stack H s E e s') :
    wpAny (model X.prog X.w) X.A (leaving X.env e) (fun _ s2 => CX1 X.prog X.w X.base X.outer X.H₀ X.s₀ E e s2) Er s' := by
  obtain ⟨ea, C, H', B, rfl, F, hE⟩ := h
  have fl' := F.fly
  rw [R.st] at fl'
  refine leaveX (by rw [← R.st]; exact I.ok.frames) R.fr fl' fun h3 fl3 up => ?_
  have u := F.un_on fl3.stays up F.fly.funs
  have hk := F.hok_on (h'' := h3) fl3.stays
  refine ⟨ea, C, H', B, rfl, ⟨F.os.trans I.os, F.bare, fl3, F.base, ⟨fun b o q n hb _ => ?_, fun b o q n hb _ => ?_, fun b o q n _ => ?_, fun b o q _ => ?_, fun b xs q => u.tups b xs (I.base.tups b xs q), fun b o xs q => u.frzs b o xs (I.base.frzs b o xs q), fun b ps q => ?_⟩, hk, fun b x o q q' => ?_, fun b o q n hb => ?_, fun b o q hb => ?_⟩, hE⟩
  · exact u.keep b o (I.base.keep b o q n hb R.nex) (I.base.free b o q n R.nex) (R.not I q hb) mem_nil
  · obtain ⟨sl, q1⟩ := I.base.slot b o q n hb R.nex
    obtain ⟨sl', q2⟩ := u.slot b _ q1 (I.base.free b o q n R.nex) (by rw [R.st]; unfold frs; rw [List.filterMap_cons, R.fr]; exact List.mem_cons_of_mem _ hb) mem_nil
    exact ⟨sl', q2⟩
  · obtain ⟨o', q1⟩ := I.base.there b o q R.nex
    exact u.free b o' q1 (I.base.free b o q n R.nex) mem_nil
  · obtain ⟨o', q1⟩ := I.base.there b o q R.nex
    exact u.there b o' q1 mem_nil
  · obtain ⟨m1, q1⟩ := I.base.tbls b ps q
    obtain ⟨m2, q2⟩ := u.tbls b _ q1
    exact ⟨m1 ++ m2, by rw [q2, Array.append_assoc]⟩
  · obtain ⟨ob, q1⟩ := (F.hok b x q).there
    have q2 := F.trk b x ob q q1
    have q3 := fl3.stays b ob q2
    have q4 : h3.get? b = some o := q'
    rw [q3] at q4; cases q4
    exact q2
  · exact F.old b o (I.base.keep b o q n hb R.nex) (I.base.free b o q n R.nex) (R.not I q hb)
  · obtain ⟨o', q1⟩ := I.base.there b o q R.nex
    exact F.oldt b o' q1 (R.not I q hb)
end
/-! ### the context of a def that may raise -/
noncomputable abbrev cx1 (P : Program) (w : World) (K : PySem.W.Frag) (mg : Str → Option Value) (base : Heap) (N : List Str) (qual : Str) (scope : Scope) (f : Addr) (cd : Value) (A : Around) (outer : List Env) (s : Shared) (H : Hp) (E : XK) : Cx :=
  cxOf (CX1 P w base) P w K mg base N qual scope f cd A outer s H E
section
variable {P : Program} {w : World} {K : PySem.W.Frag} {mg : Str → Option Value} {base : Heap} {N : List Str} {qual : Str} {scope : Scope} {f : Addr} {cd : Value} {A : Around} {outer : List Env} {s : Shared} {H : Hp} {E : XK}
theorem runs1 {CX : CXT} : Runs (cxOf CX P w K mg base N qual scope f cd A outer s H E) := ⟨rfl, rfl, rfl⟩
theorem pass1 : Passes (CX1 P w base) (cx1 P w K mg base N qual scope f cd A outer s H E) E := fun _ _ _ _ _ _ I h => fly_leaves (X := cx1 P w K mg base N qual scope f cd A outer s H E) runs1 I h
end
/-- THE RULE for a def that may raise -/
theorem Fun.ok1 {P : Program} {w : World} {K : PySem.W.Frag} {mg : Str → Option Value} {base : Heap} {x qual : Str} {st : Stmt} {f : Addr} {fd : FuncData} {N ps : List Str} {k : Nat} {sp : Sp} (F : Fun K x qual st f fd) (S : FnScope N ps (defScope st)) (len : ∀ vs H Q E, sp vs H Q E → vs.length = ps.length)
    (hbody : ∀ (cdv : Value) (A : Around) (outer : List Env) (s : Shared) (H : Hp) (vs : List V) (Q : VK) (E : XK), Room k (A.deeper (envOfC qual (defScope st) s.heap.objs.size f cdv)) → sp vs H Q E →
      ∃ t, PSs (cx1 P w K mg base N qual (defScope st) f cdv A outer s H E) (defBody st) t ∧ t { nx := fun _ H' => Q .non H', rt := Q } (start N vs) H) : FnOk P w K mg base (CX1 P w base) (k + 1) f fd ps sp := by
  obtain ⟨oc, od, kV, doc, pm, an, cdv, ct, osl, rfl, lk, hcd⟩ := F.ex
  exact fn_of lk hcd S len fun A outer s H vs Q E hr hsp => hbody cdv A outer s H vs Q E hr hsp
/-! ### raise -/
/-- an own error class under ValueError, by its address -/
structure ExcCl (K : PySem.W.Frag) (mg : Str → Option Value) (x : Str) (C : Addr) : Prop where
  mg : mg x = some (.ref C)
  ok : PySem.W.excIn K C [.type "ValueError", .type "Exception", .type "BaseException", .type "object"] "ValueError.__new__" = true
theorem excObj {K : PySem.W.Frag} {h₀ : Heap} {C : Addr} {bmB : List Value} {newId : String} (X : K.In h₀) (q : PySem.W.excIn K C bmB newId = true) :
    ∃ (tl : List Value) (N : Addr) (nm qn : Str) (bs : List Value) (hdct : Bool) (sn : List Str) (sub : List Value) (ab : Bool) (col : Option Bool) (dd : Option Addr) (k0 k1 k2 k3 k5 : Option Value) (mN : Str → Option Value),
      h₀.get? C = some (excClassObj nm qn C N bs tl hdct sn sub ab col dd k0 k1 k2 k3 k5 newId) ∧ h₀.Ns N mN ∧ mN "__init__" = none ∧ OwnTail h₀ bmB tl := by
  unfold PySem.W.excIn at q
  split at q
  · rename_i dct rec slots at0
    split at q
    · rename_i D rest s0 s1 s2 s3 nid s5 em es
      rw [Bool.and_eq_true, Bool.and_eq_true, Bool.and_eq_true, Bool.and_eq_true, Bool.and_eq_true] at q
      obtain ⟨⟨⟨⟨⟨q1, q2⟩, q3⟩, q4⟩, q5⟩, q6⟩ := q
      have w1 : D = C := by simpa using q1
      have w2 : nid = newId := by simpa using q2
      subst w1 w2
      cases rec with
      | mk x1 x2 x3 x4 x5 x6 x7 x8 x9 x10 x11 =>
        dsimp only at em q3 q5 q6
        have w3 : x11 = false := by simpa using q3
        subst em w3
        have w4 : slots = #[s0, s1, s2, s3, some (.builtin nid), s5] := by
          cases slots with
          | mk l => simp only at es; rw [es]
        subst w4
        exact ⟨rest, x4, x1, x5, x2, x6, x7, x8, x9, x10, dct, s0, s1, s2, s3, s5, _, X _ _ at0, .of_isNs (PySem.W.isNs_of_in X q5), PySem.W.nsMap_none_of_in X q5 (by simpa using q6), PySem.W.tail_of_in X q4⟩
    · cases q
  · cases q
/-- raise C(e, ..) -/
noncomputable def tRaise (t : TA) (C : Addr) (E : XK) : TS := fun _ σ H => t σ H fun vs H1 => vs.length ≤ sizeLine ∧ E (.ref C) none H1
section
variable {X : Cx} {x : Str} {C : Addr} {np cpos pos : Pos} {e : Expr} {es : List Expr} {t : TA} {E : XK}
theorem ps_raise (R : Runs X) (hc : X.calm = true) (hxe : ∀ e s', wpAny (model X.prog X.w) X.A (leaving X.env e) (fun _ s2 => CX1 X.prog X.w X.base X.outer X.H₀ X.s₀ E e s2) (fun e' s2 => CX1 X.prog X.w X.base X.outer X.H₀ X.s₀ E e' s2) s' → X.xe e s')
    (hC : ExcCl X.K X.mg x C) (hg : Gl X x) (ha : PA X (e :: es) t) (hdb : (x == ("__debug__" : Str)) = false := by decide)
    (he : starEach (e :: es) X.env = (false, eval e X.env) :: starEach es X.env := by rfl) (hpl : (backTo cpos (starEach es X.env)).any (·.1) = false := by rfl) :
    PS X (.Raise (some (.Call (.Name x np) (e :: es) [] cpos)) none pos) (tRaise t C E) := by
  intro pins s σ H D I h
  obtain ⟨tl, N, nm, qn, bs, hdct, sn, sub, ab, col, dd, k0, k1, k2, k3, k5, mN, hO, hN, hni, T⟩ := excObj I.ok.mod.kin hC.ok
  refine wpAny_Raise_call_subT (C := C) (nm := nm) (q := qn) (N := N) (bs := bs) (bm := tl) (hdct := hdct) (sn := sn) (sub := sub) (ab := ab) (col := col) (dd := dd) (k0 := k0) (k1 := k1) (k2 := k2) (k3 := k3) (k5 := k5)
    PySem.F.excBase_ValueError (mN := mN) (T.hasType PySem.F.excBase_ValueError.hasBase) (I.ok.hd hc) (by rw [he]; show (false || (backTo cpos (starEach es X.env)).any (·.1)) = false; rw [hpl]; rfl) hni (ld_glob I hg hC.mg ⟨rfl, ?_⟩ hdb)
  have h2 := ha cpos pins s σ H _ I h
  rw [he] at h2 ⊢
  refine Calls.evalArgs_plain (wpAny_mono h2 (fun vs s₂ h₂ => ?_) fun _ _ y => y)
  obtain ⟨xs, H1, I1, r, hl, hE⟩ := h₂
  refine ⟨rfl, by rw [← r.length]; exact hl, I1.bk _ _ hO, hN.keeps I1.bk, T.keeps I1.bk, fun h' ea hm => hxe _ _ (raise_leaves R I1 hm hE)⟩
end
section
variable {P : Program} {w : World} {K : PySem.W.Frag} {mg : Str → Option Value} {base : Heap} {N : List Str} {qual : Str} {scope : Scope} {f : Addr} {cd : Value} {A : Around} {outer : List Env} {s : Shared} {H : Hp} {E : XK}
  {x : Str} {C : Addr} {np cpos pos : Pos} {e : Expr} {es : List Expr} {t : TA}
theorem ps_raise1 (hC : ExcCl K mg x C) (hg : Gl (cx1 P w K mg base N qual scope f cd A outer s H E) x) (ha : PA (cx1 P w K mg base N qual scope f cd A outer s H E) (e :: es) t) (hdb : (x == ("__debug__" : Str)) = false := by decide)
    (he : starEach (e :: es) (cx1 P w K mg base N qual scope f cd A outer s H E).env = (false, eval e (cx1 P w K mg base N qual scope f cd A outer s H E).env) :: starEach es (cx1 P w K mg base N qual scope f cd A outer s H E).env := by rfl)
    (hpl : (backTo cpos (starEach es (cx1 P w K mg base N qual scope f cd A outer s H E).env)).any (·.1) = false := by rfl) :
    PS (cx1 P w K mg base N qual scope f cd A outer s H E) (.Raise (some (.Call (.Name x np) (e :: es) [] cpos)) none pos) (tRaise t C E) :=
  ps_raise (X := cx1 P w K mg base N qual scope f cd A outer s H E) runs1 rfl (fun _ _ h => h) hC hg ha hdb he hpl
end
end L2
/-! try .. except T as n: over the layer; isinstance of what was caught. -/
namespace L2
open PySem PySem.Spec PyProof.Rows
/-- of what class a caught exception is -/
noncomputable def IsExc (oe : Obj) (C : Addr) : Prop := ∃ t tb, oe = excO C t tb
/-- the context of a try's body: pn its pins, xe what is wanted of an exception; the context of a handler's suite -/
noncomputable abbrev Cx.inTry (X : Cx) (pn : List (Addr × Obj)) (xe : Value → Shared → Prop) : Cx := { X with pn := pn, xe := xe }
noncomputable abbrev Cx.inSuite (X : Cx) (ea : Addr) (oe : Obj) (pn : List (Addr × Obj)) : Cx := { X with A := X.A.mark (some (.ref ea)), calm := false, pn := (ea, oe) :: pn, xe := fun _ _ => False }
/-- nothing is known of the names -/
noncomputable def blank (n : Nat) : St := List.replicate n none
theorem blank_get {n i : Nat} {v : V} : (blank n)[i]? ≠ some (some v) := fun z => by
  unfold blank at z
  rw [List.getElem?_replicate] at z
  split at z <;> cases z
noncomputable def hEnds (n : Nat) (D : Ends) : Ends := { nx := fun _ H => D.nx (blank n) H, rt := D.rt, bk := fun _ H => D.bk (blank n) H, ct := fun _ H => D.ct (blank n) H }
noncomputable def tTry (K : PySem.W.Frag) (T : Addr) (i n : Nat) (tb : XK → TS) (ts : Addr → Addr → TS) : TS := fun D σ H =>
  tb (fun cls _ H1 => ∃ C, cls = .ref C ∧ PySem.W.exmOne K (.ref C) (.ref T) = some true ∧ ∀ ea, ts ea C (hEnds n D) ((blank n).set i (some (.ref ea))) H1) D σ H
section
variable {X : Cx} {pins : List (Addr × Obj)} {σ : St} {H H' : Hp} {s s' : Shared} {E : Value → Shared → Prop}
theorem Inv.inTry (I : Inv X pins σ H s) (xe : Value → Shared → Prop) : Inv (X.inTry (X.pn ++ pins) xe) [] σ H s :=
  ⟨⟨I.ok.mod, I.ok.kind, I.ok.glob, I.ok.blt, I.ok.above, I.ok.inj, I.ok.has, I.ok.cab, I.ok.hd, I.ok.frames, I.ok.stk, I.ok.exf, I.ok.bs, I.ok.bsz, I.ok.noex, I.ok.exfs, I.ok.funs, I.ok.frf⟩, I.os, I.bare, I.base, I.loc, I.cell, I.free, I.freeC, fun p hp => I.pin p (by rw [List.append_nil] at hp; exact hp), I.hok, I.len⟩
theorem Inv.outTry {pn : List (Addr × Obj)} {xe : Value → Shared → Prop} {ps : List (Addr × Obj)} (I : Inv (X.inTry pn xe) ps σ H s) (h : ∀ p ∈ X.pn ++ pins, p ∈ pn) : Inv X pins σ H s :=
  ⟨⟨I.ok.mod, I.ok.kind, I.ok.glob, I.ok.blt, I.ok.above, I.ok.inj, I.ok.has, I.ok.cab, I.ok.hd, I.ok.frames, I.ok.stk, I.ok.exf, I.ok.bs, I.ok.bsz, I.ok.noex, I.ok.exfs, I.ok.funs, I.ok.frf⟩, I.os, I.bare, I.base, I.loc, I.cell, I.free, I.freeC, fun p hp => I.pin p (List.mem_append_left _ (h p hp)), I.hok, I.len⟩
theorem Inv.inSuite (I : Inv X pins σ H s) {ea : Addr} {oe : Obj} (h1 : s.heap.get? ea = some oe) (h2 : H ea = none) (h3 : ea ≠ X.env.locals) (h4 : ea ∉ X.fs) (h5 : ∀ v, oe.data ≠ .cell v) : Inv (X.inSuite ea oe (X.pn ++ pins)) [] σ H s :=
  ⟨⟨I.ok.mod, I.ok.kind, I.ok.glob, I.ok.blt, I.ok.above, I.ok.inj, I.ok.has, I.ok.cab, fun z => (by cases z), I.ok.frames, I.ok.stk, I.ok.exf, I.ok.bs, I.ok.bsz, I.ok.noex, I.ok.exfs, I.ok.funs, I.ok.frf⟩, I.os, I.bare, I.base, I.loc, I.cell, I.free, I.freeC, fun p hp => by
    rw [List.append_nil] at hp
    rcases List.mem_cons.mp hp with z | z
    · subst z; exact ⟨h1, h2, h3, h4, h5⟩
    · exact I.pin p z, I.hok, I.len⟩
theorem Inv.outSuite {ea : Addr} {oe : Obj} {pn ps : List (Addr × Obj)} (hd : X.calm = true → X.A.handled = none) (I : Inv (X.inSuite ea oe pn) ps σ H s) (h : ∀ p ∈ X.pn ++ pins, p ∈ pn) : Inv X pins σ H s :=
  ⟨⟨I.ok.mod, I.ok.kind, I.ok.glob, I.ok.blt, I.ok.above, I.ok.inj, I.ok.has, I.ok.cab, hd, I.ok.frames, I.ok.stk, I.ok.exf, I.ok.bs, I.ok.bsz, I.ok.noex, I.ok.exfs, I.ok.funs, I.ok.frf⟩, I.os, I.bare, I.base, I.loc, I.cell, I.free, I.freeC, fun p hp => I.pin p (List.mem_append_left _ (List.mem_cons_of_mem _ (h p hp))), I.hok, I.len⟩
/-- a name of the frame is gone: what is known of the names is forgotten -/
theorem Inv.forget (I : Inv X pins σ H s) {h' : Heap} {m' : Str → Option Value} {tk : Nat} (hn : h'.Ns X.env.locals m') (hs : Heap.SameBut X.env.locals s.heap h') : Inv X pins (blank X.N.length) H { s with heap := h', toks := tk } := by
  have nl : ∀ b o, X.s₀.heap.get? b = some o → b ≠ X.env.locals := fun b o e => Nat.ne_of_lt (Nat.lt_of_lt_of_le (Heap.lt_size e) I.ok.above)
  refine ⟨I.ok, I.os, I.bare, ⟨fun b o e n hb hx => ?_, fun b o e n hb hx => ?_, I.base.free, fun b o e hx => ?_, I.base.tups, I.base.frzs, I.base.tbls⟩, ⟨m', hn, fun i x v _ e _ => absurd e blank_get⟩, fun x c e => ?_, I.free, I.freeC, fun p hp => ?_, fun a o e => ?_, by unfold blank; rw [List.length_replicate]⟩
  · exact (hs.2 b (nl b o e)).trans (I.base.keep b o e n hb hx)
  · obtain ⟨sl, e1⟩ := I.base.slot b o e n hb hx
    exact ⟨sl, (hs.2 b (nl b o e)).trans e1⟩
  · obtain ⟨o', e1⟩ := I.base.there b o e hx
    exact ⟨o', (hs.2 b (nl b o e)).trans e1⟩
  · obtain ⟨v, z⟩ := I.cell x c e
    exact ⟨v, z.sameBut hs (I.cne x c e)⟩
  · obtain ⟨e, n, ne, nf, d⟩ := I.pin p hp
    exact ⟨(hs.2 p.1 ne).trans e, n, ne, nf, d⟩
  · refine (I.hok a o e).stay (fun b u hb q => (hs.2 b ?_).trans q) (fun _ q => q) fun _ _ q => q
    rintro rfl
    have f := I.free
    rcases hb with z | z
    · rw [← z, f] at e; cases e
    · rw [f] at z; cases z
end
section
variable {X : Cx} {x n : Str} {T : Addr} {np hpos pos : Pos} {body : List Stmt} {b₀ : Stmt} {suite : List Stmt} {tb : XK → TS} {ts : Addr → Addr → TS} {i : Nat}
theorem ps_try (R : Runs X) (hc : X.calm = true) (hN : X.N.Nodup) (hi : X.N[i]? = some n) (hn : X.env.scope.names.lookup n = some .local) (hg : Gl X x) (hm : X.mg x = some (.ref T)) (hdb : (x == ("__debug__" : Str)) = false)
    (hb : ∀ (E : XK) (pn : List (Addr × Obj)) (xe : Value → Shared → Prop), Passes (CX1 X.prog X.w X.base) (X.inTry pn xe) E → PSs (X.inTry pn xe) body (tb E))
    (hs : ∀ (ea C : Addr) (oe : Obj) (pn : List (Addr × Obj)), IsExc oe C → PSs (X.inSuite ea oe pn) (b₀ :: suite) (ts ea C)) :
    PS X (.Try body [.ExceptHandler (some (.Name x np)) (some n) (b₀ :: suite) hpos] [] [] pos) (tTry X.K T i X.N.length tb ts) := by
  intro pins s σ H D I h
  -- what the handler is wanted to do
  let E : XK := fun cls _ H1 => ∃ C, cls = .ref C ∧ PySem.W.exmOne X.K (.ref C) (.ref T) = some true ∧ ∀ ea, ts ea C (hEnds X.N.length D) ((blank X.N.length).set i (some (.ref ea))) H1
  let xe : Value → Shared → Prop := fun e s' => ∃ ps σ1 H1 s1, Inv X (pins ++ ps) σ1 H1 s1 ∧ CX1 X.prog X.w X.base X.stack H1 s1 E e s'
  have hP : Passes (CX1 X.prog X.w X.base) (X.inTry (X.pn ++ pins) xe) E := fun ps σ1 H1 s1 e s' I1 hx =>
    ⟨[], σ1, H1, s1, I1.outTry fun p hp => by rw [List.append_nil] at hp; exact hp, hx⟩
  have hcls : (X.env.scope.kind == .class || (X.env.scope.kind == .module && X.env.locals != X.env.globals)) = false := by rw [I.ok.kind]; rfl
  refine wpAny_Try_except (wpAny_mono (hb E (X.pn ++ pins) xe hP [] s σ H D (I.inTry xe) h) (fun f s1 q => ?_) fun e s1 q => ?_)
  · -- no exception
    cases f with
    | next => obtain ⟨σ', H', I', q⟩ := q; exact wpAny_execs_nil ⟨σ', H', I'.outTry fun p hp => hp, q⟩
    | brk => obtain ⟨σ', H', I', q⟩ := q; exact ⟨σ', H', I'.outTry fun p hp => hp, q⟩
    | cont => obtain ⟨σ', H', I', q⟩ := q; exact ⟨σ', H', I'.outTry fun p hp => hp, q⟩
    | ret u => obtain ⟨v, σ', H', I', r, q⟩ := q; exact ⟨v, σ', H', I'.outTry fun p hp => hp, r, q⟩
  · obtain ⟨ps, σ1, H1, s0, I0, ea, C, H2, B, rfl, F, C', eC, hx, hq⟩ := q
    cases eC
    have fl' := F.fly
    rw [R.st] at fl'
    refine noteX (by rw [← R.st]; exact I.ok.frames) R.fr fl' fun h4 held4 up4 => ?_
    refine flightX (s := { s1 with heap := h4 }) (fl' := none) held4 fun h5 fl5 up5 => ?_
    -- the body goes on behind the flight
    have go : ∀ h6, FlyX B (X.env :: X.outer) ea C .none h6 → s1.heap.UpToSlots h6 → Inv X pins (blank X.N.length) H2 { s1 with heap := h6 } := fun h6 f6 up6 => by
      have u := F.un_on f6.stays up6 F.fly.funs
      have J : Inv X (pins ++ ps) σ1 H2 { s1 with heap := h6 } := I0.call' (ch := []) F.os u (F.hok_on f6.stays) F.bare fun b z => absurd z mem_nil
      have J2 : Inv X pins σ1 H2 { s1 with heap := h6 } := J.pins_of fun p hp => J.pin p (List.mem_append_right _ (List.mem_append_left _ hp))
      exact J2.weak (by unfold blank; rw [List.length_replicate, J2.len]) fun j v z => absurd z blank_get
    have nfr : ∀ h6, FlyX B (X.env :: X.outer) ea C .none h6 → ∃ oe, h6.get? ea = some oe ∧ IsExc oe C ∧ H2 ea = none ∧ ea ≠ X.env.locals ∧ ea ∉ X.fs ∧ ∀ v, oe.data ≠ .cell v := fun h6 f6 => by
      obtain ⟨t, T, _, _, he, _⟩ := f6.tr
      have nf := f6.notFrame
      refine ⟨_, he, ⟨t, _, rfl⟩, ?_, fun z => nf ?_, fun z => nf ?_, fun v z => by cases z⟩
      · cases q : H2 ea with
        | none => rfl
        | some u =>
          obtain ⟨ob, q1⟩ := (F.hok ea u q).there
          have fe := f6.new
          rw [F.trk ea u ob q q1] at fe; cases fe
      · rw [z, List.filterMap_cons, R.fr]; exact List.mem_cons_self
      · rw [List.filterMap_cons, R.fr]; exact List.mem_cons_of_mem _ z
    obtain ⟨oe5, ho5, n5, n1, n2, n3, n4⟩ := nfr h5 fl5
    have J5 := (go h5 fl5 (up4.trans up5)).inSuite ho5 n1 n2 n3 n4
    refine wpAny_handleBy_cons (codeAny_handlers_test ?_) (by intro z; cases z)
    refine ld_glob (X := X.inSuite ea oe5 (X.pn ++ pins)) J5 hg hm ?_ hdb
    have LT : PySem.W.Looks (model X.prog X.w) h5 (typeOf (.ref ea)) (.ref C) := by
      obtain ⟨t, tb, rfl⟩ := n5
      exact (PySem.W.Looks.ld ho5).andThen .now
    refine (PySem.W.exm_one (h := h5) J5.kIn LT hx).here ?_
    refine codeAny_handlers_suite_as ?_
    refine flightX (s := { s1 with heap := h5 }) (fl' := none) fl5 fun h6 fl6 up6 => ?_
    obtain ⟨oe6, ho6, m5, m1, m2, m3, m4⟩ := nfr h6 fl6
    have J6 := (go h6 fl6 ((up4.trans up5).trans up6)).inSuite ho6 m1 m2 m3 m4
    refine store_ok (X := X.inSuite ea oe6 (X.pn ++ pins)) (v := .ref ea) J6 hN hi (.inl hn) rfl (fun s7 J7 => ?_) (.inr hn)
    refine wpAny_mono (hs ea C oe6 (X.pn ++ pins) m5 [] s7 _ H2 (hEnds X.N.length D) J7 (hq ea)) (fun f s8 q8 => ?_) fun _ _ z => False.elim z
    -- the name goes
    have gone : ∀ {σ8 : St} {H8 : Hp} {Q : Unit → Shared → Prop}, Inv (X.inSuite ea oe6 (X.pn ++ pins)) [] σ8 H8 s8 → (∀ s9, Inv X pins (blank X.N.length) H8 s9 → Q () s9) →
        wpAny (model X.prog X.w) X.A (do bindName X.env n .none; unbindBehindTheSuite X.env n hpos) Q X.xe s8 := fun {σ8 H8 Q} J8 k => by
      have J9 : Inv X pins σ8 H8 s8 := J8.outSuite I.ok.hd fun p hp => hp
      obtain ⟨m, hns, _⟩ := id J9.loc
      exact wpAny_nameGoes hn hns hcls fun h' m' hn' hs' => k _ (J9.forget hn' hs')
    cases f with
    | next => obtain ⟨σ', H', I', q⟩ := q8; exact gone I' fun s9 J9 => ⟨_, H', J9, q⟩
    | brk => obtain ⟨σ', H', I', q⟩ := q8; exact gone I' fun s9 J9 => ⟨_, H', J9, q⟩
    | cont => obtain ⟨σ', H', I', q⟩ := q8; exact gone I' fun s9 J9 => ⟨_, H', J9, q⟩
    | ret u => obtain ⟨v, σ', H', I', r, q⟩ := q8; exact gone I' fun s9 J9 => ⟨v, _, H', J9, r, q⟩
end
end L2
/-! isinstance with own classes -/
namespace L2
open PySem PySem.Spec PyProof.Rows
/-- a class as a value -/
noncomputable def clV : V → Option Value
  | .ty n => some (.type n)
  | .ref a => some (.ref a)
  | _ => none
theorem clV_rel {y : V} {u c : Value} (r : RelV y u) (h : clV y = some c) : u = c := by
  cases y <;> simp only [clV, Option.some.injEq, reduceCtorEq] at h
  · cases h; exact r
  · cases h; exact r
section
variable {X : Cx}
end
end L2
/-! isinstance of what was caught; any(..) in a handler's suite. -/
namespace L2
open PySem PySem.Spec PyProof.Rows
/-! ### of what was caught -/
/-- what is known of an error class, as isinstance asks it -/
structure ExcK (K : PySem.W.Frag) (C : Addr) : Prop where
  ga : PySem.W.findIn K (.ref C) "__getattribute__" = some (some (.builtin "BaseException.__getattribute__"))
  hk : PySem.W.findIn K (.ref C) "__getattr__" = some none
  base : PySem.W.subIn K (.ref C) (.type "BaseException") = some true
  cls : (PySem.W.clsIn K C).isSome = true
  find : PySem.W.findIn K (.ref C) "__class__" = some (some (.builtin "object.__class__"))
  spec : PySem.W.specialIn K (.builtin "object.__class__") "__get__" = some (some (.builtin "getset_descriptor.__get__"))
  takes : PySem.W.takesIn K (.builtin "object.__class__") = some true
  mro : PySem.W.mroIn K C (.type "object") = some true
theorem excInst {h : Heap} {x C t : Addr} {tb : Value} (e : h.get? x = some (excO C t tb)) : PySem.W.InstAt h x (excO C t tb) C none := ⟨e, rfl, rfl, True.intro⟩
theorem findObj_none {K : PySem.W.Frag} {C : Addr} {a g : Value} {nm : Str} (hc : (PySem.W.clsIn K C).isSome = true) (ha : PySem.W.findIn K (.ref C) nm = some (some a)) (hg : PySem.W.specialIn K a "__get__" = some (some g)) (ht : PySem.W.takesIn K a = some true) :
    PySem.W.findObj K C none nm = some (.bind g a) := by
  obtain ⟨cd, e⟩ := Option.isSome_iff_exists.mp hc
  unfold PySem.W.findObj
  rw [e, Option.bind_some, ha, Option.bind_some]
  simp [hg, ht]
/-- o.__class__ where the getter is the exceptions' own -/
theorem class_exc {prog : Program} {w : World} {A : Around} {E : Value → Shared → Prop} {s : Shared} {K : PySem.W.Frag} {x C : Addr} {ox : Obj} {Q : Option Value → Shared → Prop} (X : K.In s.heap) (I : PySem.W.InstAt s.heap x ox C none) (Z : ExcK K C)
    (q : Q (some (.ref C)) { s with toks := s.toks + 1 }) : wpAny (model prog w) A (getAttr? (.ref x) "__class__") Q E s := by
  obtain ⟨hh, g, d, t, os⟩ := s
  have L0 := I.type (M := model prog w)
  have L1 := PySem.W.looks_findIn (M := model prog w) X Z.ga
  have L2 := PySem.W.looks_findIn (M := model prog w) X Z.hk
  have L3 := PySem.W.looks_subIn (M := model prog w) X Z.base
  have L4 := PySem.W.looks_find (M := model prog w) X I (findObj_none Z.cls Z.find Z.spec Z.takes)
  have FB := F.excAttr_ValueError
  have hx2 : (Value.builtin "BaseException.__getattribute__" == Value.builtin "object.__getattribute__") = false := by decide +kernel
  unfold getAttr? getAttrBy? getAttrBy
  refine wpAny_bind (wpAny_mkText (wpAny_bind (wpAny_attempt (wpAny_holding (wpAny_bind (L0.at (wpAny_bind (L1.at ?_))))))))
  show wpAny _ _ (if (onTheHeap (.ref C) && Value.builtin "BaseException.__getattribute__" == Value.builtin "object.__getattribute__") = true then _ else _) _ _ _
  rw [hx2, Bool.and_false, if_neg Bool.false_ne_true]
  unfold getAttrByItsOwn hookBefore
  rw [if_pos (by rfl)]
  refine wpAny_bind (L2.at (wpAny_bind (wpAny_attempt (wpAny_holding ?_))))
  unfold callGetattribute boundAndCalled
  rw [if_neg (by simp), FB.ga.bind]
  refine wpAny_bind (wpAny_pure ?_)
  refine wpAny_call (codeAny_call_builtin FB.ga.plain F.entry_bexc_ga ?_)
  have hk : builtinKind "BaseException.__getattribute__" = some .slot := by decide +kernel
  have hsplit : splitId "BaseException.__getattribute__" = some ("BaseException", "__getattribute__") := by decide +kernel
  have ha := F.args_bexc_ga (.ref x) (.str "__class__" t)
  have LI : PySem.W.Looks (model prog w) hh (isInstance (.ref x) (.type "BaseException")) true := L0.andThen L3
  simp only [checkBuiltinCall, hk, hsplit]
  refine wpAny_bind (m := isInstance (.ref x) (.type "BaseException")) (LI.at ?_)
  rw [if_neg (by decide)]
  unfold argsOk at ha
  refine wpAny_of_eq (a := ()) ha ?_
  unfold Builtin.«object.__getattribute__»
  refine wpAny_bind (wpAny_pure (wpAny_bind (wpAny_pure (wpAny_bind (L0.at (wpAny_bind (L4.at ?_)))))))
  show wpAny _ _ (holding [.builtin "object.__class__"] (call (.builtin "getset_descriptor.__get__") [.builtin "object.__class__", .ref x, .ref C]) >>= ret) _ _ _
  refine wpAny_bind (wpAny_holding (wpAny_call (PySem.W.class_get (s := ⟨hh, g, d, t + 1, os⟩) X I Z.mro ?_)))
  exact wpAny_pure (PySem.W.handed_on rfl (wpAny_pure q))
theorem kitx_exc {K : PySem.W.Frag} {x C t : Addr} {tb : Value} (Z : ExcK K C) : PySem.W.KitX K (.ref x) (.ref C) (fun h => h.get? x = some (excO C t tb)) where
  ty := fun _ _ _ e => (excInst e).type
  it := fun _ _ X _ => by
    obtain ⟨cd, hcd⟩ := Option.isSome_iff_exists.mp Z.cls
    unfold PySem.W.clsIn at hcd
    split at hcd
    · rename_i ho
      intro A' Q' E' s' k q
      unfold isType loadHead
      exact wpAny_bind (wpAny_loadPart (k _ _ (X _ _ ho)) (wpAny_pure q))
    · cases hcd
  ne := fun h tp dd its n sl X htp => by
    obtain ⟨cd, hcd⟩ := Option.isSome_iff_exists.mp Z.cls
    have ne : C ≠ tp := by
      rintro rfl
      unfold PySem.W.clsIn at hcd
      split at hcd
      · rename_i at0
        cases (X _ _ at0).symm.trans htp
      · cases hcd
    exact beq_eq_false_iff_ne.mpr fun q => ne (Value.ref.inj q)
  ca := fun {_ _ _ _ _ s} X e q => class_exc X (excInst e) Z q
noncomputable def rIsiX (K : PySem.W.Frag) (ea C : Addr) : List V → Hp → VK → Prop := fun xs H Q => ∃ y c b, xs = [.ref ea, y] ∧ clV y = some c ∧ PySem.W.kitOne K (.ref C) c = some b ∧ Q (.bl b) H
section
variable {X : Cx} {ea C : Addr} {oe : Obj}
theorem call_isinstX (Z : ExcK X.K C) (hp : (ea, oe) ∈ X.pn) (ho : IsExc oe C) : CallR X (.builtin "isinstance") (rIsiX X.K ea C) := by
  intro pins s σ H xs us Q I r h
  obtain ⟨y, c, b, rfl, hc, e, q⟩ := h
  obtain ⟨u, u', rfl, rx, ry⟩ := vals2 r
  obtain rfl := clV_rel ry hc
  cases (show u = Value.ref ea from rx)
  obtain ⟨t, tb, rfl⟩ := ho
  exact PySem.W.kia_one (kitx_exc Z) I.kIn (I.pin _ (List.mem_append_left _ hp)).1 e (fun z => nomatch z) fun tk => ⟨.bl b, H, I.tok _, rfl, q⟩
end
/-! ### a walk's end while an exception is handled -/
section
variable {prog : Program} {w : World} {A : Around} {E : Value → Shared → Prop} {s : Shared}
end
section
variable {X : Cx} {ea C : Addr} {oe : Obj}
end
end L2
/-! own classes and their instances, as isinstance asks of them -/
namespace L2
open PySem PySem.Spec PyProof.Rows
theorem kit_of {K : PySem.W.Frag} {C D : Addr} {b : Bool} (h1 : PySem.W.isClsIn K D = true) (h2 : PySem.W.typeIn K (.ref D) = some (.type "type")) (h3 : PySem.W.subIn K (.ref C) (.ref D) = some b) (h4 : b = true ∨ C ≠ D) : PySem.W.kitOne K (.ref C) (.ref D) = some b := by
  unfold PySem.W.kitOne
  by_cases e : (Value.ref C == Value.ref D) = true
  · rw [if_pos e]
    rcases h4 with rfl | h4
    · rfl
    · have := beq_iff_eq.mp e
      injection this with z
      exact absurd z h4
  · rw [if_neg e]
    show (if ((PySem.W.clsIn K D).isSome && PySem.W.typeIn K (.ref D) == some (.type "type")) = true then PySem.W.subIn K (.ref C) (.ref D) else none) = some b
    rw [if_pos (by rw [h2]; unfold PySem.W.isClsIn at h1; rw [h1]; rfl)]
    exact h3
end L2
namespace FW
open PySem L2
/-! ### the text by places -/
noncomputable def top (i : Nat) : Stmt := PySem.Challenge.pw_firstword_k07_refused.main.body.getD i (.Pass ⟨0, 0, 0, 0⟩)
noncomputable abbrev sWho : Stmt := top 13
noncomputable abbrev sThr : Stmt := top 14
noncomputable abbrev sIsW : Stmt := top 15
noncomputable abbrev sChS : Stmt := top 16
noncomputable abbrev sChW : Stmt := top 17
noncomputable abbrev sChT : Stmt := top 18
noncomputable abbrev sChM : Stmt := top 19
noncomputable abbrev sStep : Stmt := top 21
noncomputable abbrev sSh : Stmt := top 22
noncomputable abbrev sRe : Stmt := top 23
noncomputable abbrev sOv : Stmt := top 24
noncomputable abbrev sSt : Stmt := top 25
noncomputable abbrev sEn : Stmt := top 26
noncomputable abbrev sWaitI : Stmt := inClass (top 29) 0
noncomputable abbrev sWaitS : Stmt := inClass (top 29) 1
noncomputable abbrev sHeld : Stmt := top 36
noncomputable abbrev sWaits : Stmt := top 37
noncomputable abbrev sRaceF : Stmt := top 39
noncomputable abbrev sLik : Stmt := top 40
noncomputable abbrev sFirsts : Stmt := top 42
noncomputable abbrev sWithout : Stmt := top 43
noncomputable abbrev sCnt : Stmt := top 44
noncomputable abbrev sFae : Stmt := top 45
noncomputable abbrev sAskS : Stmt := top 47
noncomputable abbrev sAskW : Stmt := top 48
noncomputable abbrev sAskL : Stmt := top 49
noncomputable abbrev sAskO : Stmt := top 50
noncomputable abbrev sTold : Stmt := top 51
noncomputable abbrev sLaw : Stmt := top 52
end FW
namespace FW
open PySem L2
/-! ### what all the laws share -/
noncomputable def low (c : Nat) : Bool := decide (97 ≤ c) && decide (c ≤ 122)
noncomputable def Low (l : List Nat) : Prop := l.all low = true
noncomputable def alpha : List Nat := (List.range 26).map (97 + ·)
noncomputable def vi (n : Nat) : V := .int (n : Int)
/-- python's own names -/
structure Bl (mg : Str → Option Value) : Prop where
  isinstance : mg "isinstance" = none
  str : mg "str" = none
  int : mg "int" = none
  bool : mg "bool" = none
  list : mg "list" = none
  all : mg "all" = none
  any : mg "any" = none
  len : mg "len" = none
  sum : mg "sum" = none
  min : mg "min" = none
  max : mg "max" = none
  range : mg "range" = none
  enumerate : mg "enumerate" = none
  reversed : mg "reversed" = none
  zip : mg "zip" = none
  set : mg "set" = none
  sorted : mg "sorted" = none
  valueError : mg "ValueError" = none
  ord : mg "ord" = none
  dict : mg "dict" = none
theorem kit_str (K : PySem.W.Frag) : PySem.W.kitOne K (.type "str") (.type "str") = some true := by
  unfold PySem.W.kitOne
  rw [if_pos (by decide)]
theorem kit_int (K : PySem.W.Frag) : PySem.W.kitOne K (.type "int") (.type "int") = some true := by
  unfold PySem.W.kitOne
  rw [if_pos (by decide)]
theorem kit_int_bool (K : PySem.W.Frag) : PySem.W.kitOne K (.type "int") (.type "bool") = some false := by
  first | rfl | (unfold PySem.W.kitOne; rw [if_neg (by decide)]; rfl) | (unfold PySem.W.kitOne; rw [if_neg (by decide)]; with_unfolding_all rfl)
section
variable {P : Program} {w : World} {K : PySem.W.Frag} {mg : Str → Option Value} {base : Heap}
theorem sz {n : Nat} (h : n ≤ 10000) : n ≤ sizeLine := by rw [sizeLine_eq]; (first | lia | omega)
theorem sz' {n : Nat} (h : n ≤ 20000) : n < sizeLine := by rw [sizeLine_eq]; (first | lia | omega)
/-- a def of the text that is called by its name; CX: what may leave it -/
structure Gf (P : Program) (w : World) (K : PySem.W.Frag) (mg : Str → Option Value) (base : Heap) (k : Nat) (x : Str) (ps : List Str) (sp : Sp) (f : Addr) (fd : FuncData) : Prop where
  ok : FnOk P w K mg base CX0 k f fd ps sp
  mg : mg x = some (.ref f)
  kp : PySem.W.keepIn K (.ref f) = true
  bd : Binds K fd ps []
end
end FW
namespace FW
open PySem L2
/-! ### firstword.checks: throws and words -/
/-- a value that the text's top has written -/
noncomputable def Gv (mg : Str → Option Value) (x : Str) (v : V) : Prop := ∃ u, mg x = some u ∧ RelV v u
noncomputable def thB (q : Nat) (l : List Nat) : Bool := l.all fun c => decide (c ∈ alpha.take q)
noncomputable def spThr (K : PySem.W.Frag) : Sp := fun vs H Q _ => ∃ (q : Nat) (x : V), vs = [vi q, x] ∧ 2 ≤ q ∧ q ≤ 26 ∧
  ((∃ l, x = .str (tx l) ∧ l.length ≤ 10000 ∧ ∀ H', Same H H' → Q (.bl (thB q l)) H') ∨ (∃ t, TyOf K H x t ∧ PySem.W.kitOne K t (.type "str") = some false ∧ Q (.bl false) H))
noncomputable def spIsW (K : PySem.W.Frag) : Sp := fun vs H Q _ => ∃ (q : Nat) (x : V), vs = [vi q, x] ∧ 2 ≤ q ∧ q ≤ 26 ∧
  ((∃ l, x = .str (tx l) ∧ l.length ≤ 10000 ∧ ∀ H', Same H H' → Q (.bl (thB q l && decide (l ≠ []))) H') ∨ (∃ t, TyOf K H x t ∧ PySem.W.kitOne K t (.type "str") = some false ∧ Q (.bl false) H))
noncomputable def spChW : Sp := fun vs H Q _ => ∃ (q : Nat) (l : List Nat), vs = [vi q, .str (tx l)] ∧ 2 ≤ q ∧ q ≤ 26 ∧ l.length ≤ 10000 ∧ (∀ c ∈ l, c ∈ alpha.take q) ∧ l ≠ [] ∧ ∀ H', Same H H' → Q .non H'
theorem thB_of {q : Nat} {l : List Nat} (h : ∀ c ∈ l, c ∈ alpha.take q) : thB q l = true := List.all_eq_true.mpr fun c hc => decide_eq_true (h c hc)
theorem mem_alpha {q c : Nat} (h : c ∈ alpha.take q) (h26 : q ≤ 26) : 97 ≤ c ∧ c - 97 < q := by
  have e : alpha.take q = (List.range q).map (97 + ·) := by
    unfold alpha
    rw [← List.map_take, List.take_range, Nat.min_eq_left h26]
  rw [e] at h
  obtain ⟨i, hi, rfl⟩ := List.mem_map.mp h
  have := List.mem_range.mp hi
  (first | lia | omega)
theorem mem_inf {c : Nat} {l : List Nat} : [c] <:+: l ↔ c ∈ l := by
  constructor
  · rintro ⟨a, b, e⟩
    rw [← e]
    simp
  · intro h
    obtain ⟨a, b, e⟩ := List.append_of_mem h
    exact ⟨a, b, by rw [e]; simp⟩
section
variable {P : Program} {w : World} {K : PySem.W.Frag} {mg : Str → Option Value} {base : Heap}
theorem scThr : FnScope ["sides", "thing", "letters"] ["sides", "thing"] (defScope sThr) := ⟨rfl, rfl, rfl, by decide +kernel, rfl, by decide +kernel, by decide +kernel⟩
theorem ok_thr {f : Addr} {fd : FuncData} (F : Fun K "is_throws" "is_throws" sThr f fd) (B : Bl mg) (GL : Gv mg "LETTERS" (.str (tx alpha))) : FnOk P w K mg base CX0 1 f fd ["sides", "thing"] (spThr K) := by
  obtain ⟨u, hm, ru⟩ := GL
  refine F.ok scThr (fun vs H Q E h => ?_) (fun cdv A outer s H vs Q E hr h => ?_)
  · obtain ⟨q, x, rfl, _⟩ := h
    rfl
  · obtain ⟨q, x, rfl, h2, h26, k⟩ := h
    refine ⟨_, pss_cons (ps_set (i := 2) scThr.nd rfl (Or.inr rfl) (pe_slice sl_str (pe_glob rfl hm ru) po_none (po_some (pv 0))))
      (pss_one (ps_ret (pe_and (pe_callB call_isinst rfl B.isinstance (by decide +kernel) (pa_cons (pv 1) (pa_cons (pe_bltn (v := .ty "str") rfl B.str (by decide +kernel) rfl) pa_nil)))
      (pe_one (pe_callB (call_all rfl) rfl B.all (by decide +kernel) (pa_cons (pe_lc (N := ["sides", "thing", "letters"]) (sc := defScope sThr) (own := ["sign"]) (cap := [2]) ⟨rfl, by decide +kernel, by decide +kernel, by decide +kernel, by decide +kernel⟩ (pi_str (pv 1))
        (fun _ _ _ _ _ => pg_name (i := 0) (show (lcN ["sides", "thing", "letters"] ["sign"] [2]).Nodup by decide +kernel) rfl (Or.inl rfl) (.inr rfl)) (fun _ _ _ _ _ => pif_nil) (fun _ _ _ _ _ => pe_cmpR op_in_tx (pv 0) (pv 1) rfl)) pa_nil)))))), ?_⟩
    refine ⟨_, rfl, _, rfl, alpha, rfl, sz (by decide), ?_⟩
    rw [cutL_to]
    rcases k with ⟨l, rfl, hl, k⟩ | ⟨t, ty, kt, k⟩
    · refine ⟨_, rfl, _, _, _, _, rfl, .str _, kit_str K, true, rfl, iteT ?_⟩
      refine ⟨_, rfl, l, rfl, lcb1 l.length (fun i => .bl (decide (l.getD i 0 ∈ alpha.take q))) (sz hl) (fun i _ h _ => h) (fun _ _ => Nat.le_refl _) ?_ ?_⟩
      · rintro i H1 K1 hi hs k1 x _ ⟨rfl, c, hc, rfl⟩
        refine ⟨lcExt_set (by decide), ?_⟩
        have e : l.getD i 0 = c := by rw [List.getD_eq_getElem?_getD, hc]; rfl
        have k1' := k1 _ (Same.refl _)
        rw [e] at k1'
        refine ⟨_, rfl, _, rfl, [c], _, rfl, rfl, ?_⟩
        rw [show decide ([c] <:+: alpha.take q) = decide (c ∈ alpha.take q) from decide_eq_decide.mpr mem_inf]
        exact k1'
      · intro D H' hD hs hd
        refine ⟨D, l.map fun c => decide (c ∈ alpha.take q), rfl, SqL.of ?_, ?_⟩
        · rw [hd, List.map_map]
          congr 2
          exact range_map_getD (fun c => V.bl (decide (c ∈ alpha.take q))) 0 l
        · have e : (l.map fun c => decide (c ∈ alpha.take q)).all id = thB q l := by simp [List.all_map, thB]
          rw [e]
          exact k H' hs
    · exact ⟨_, rfl, _, _, _, _, rfl, ty, kt, false, rfl, iteF k⟩
theorem scIsW : FnScope ["sides", "thing"] ["sides", "thing"] (defScope sIsW) := ⟨rfl, rfl, rfl, by decide +kernel, rfl, by decide +kernel, by decide +kernel⟩
theorem ok_isw {f fL : Addr} {fd dL : FuncData} (F : Fun K "is_word" "is_word" sIsW f fd) (B : Bl mg) (GT : Gf P w K mg base 1 "is_throws" ["sides", "thing"] (spThr K) fL dL) : FnOk P w K mg base CX0 2 f fd ["sides", "thing"] (spIsW K) := by
  refine F.ok scIsW (fun vs H Q E h => ?_) (fun cdv A outer s H vs Q E hr h => ?_)
  · obtain ⟨q, x, rfl, _⟩ := h
    rfl
  · obtain ⟨q, x, rfl, h2, h26, k⟩ := h
    refine ⟨_, pss_one (ps_ret (pe_and (pe_call GT.ok hr rfl GT.mg GT.kp GT.bd .nil pass0 (pa_cons (pv 0) (pa_cons (pv 1) pa_nil)))
      (pe_one (pe_cmpR op_gt (pe_callB call_len_tx rfl B.len (by decide +kernel) (pa_cons (pv 1) pa_nil)) pe_int (nomark _))))), ?_⟩
    rcases k with ⟨l, rfl, hl, k⟩ | ⟨t, ty, kt, k⟩
    · refine ⟨_, rfl, _, rfl, q, _, rfl, h2, h26, .inl ⟨l, rfl, hl, fun H1 s1 => ⟨_, rfl, ?_⟩⟩⟩
      by_cases hb : thB q l = true
      · rw [hb]
        refine iteT ⟨_, rfl, l, rfl, sz hl, _, _, rfl, rfl, ?_⟩
        have k' := k H1 s1
        rw [hb, Bool.true_and] at k'
        dsimp only
        rw [show decide ((0 : Int) < ((l.length : Nat) : Int)) = decide (l ≠ []) from decide_eq_decide.mpr (by
          rw [← List.length_pos_iff]
          (first | lia | omega))]
        exact k'
      · have hb' : thB q l = false := by simpa using hb
        have k' := k H1 s1
        rw [hb', Bool.false_and] at k'
        rw [hb']
        exact iteF k'
    · exact ⟨_, rfl, _, rfl, q, x, rfl, h2, h26, .inr ⟨t, ty, kt, _, rfl, iteF k⟩⟩
theorem scChW : FnScope ["sides", "word"] ["sides", "word"] (defScope sChW) := ⟨rfl, rfl, rfl, by decide +kernel, rfl, by decide +kernel, by decide +kernel⟩
theorem ok_chw {f fL : Addr} {fd fdL : FuncData} (F : Fun K "check_word" "check_word" sChW f fd) (GW : Gf P w K mg base 2 "is_word" ["sides", "thing"] (spIsW K) fL fdL) : FnOk P w K mg base CX0 3 f fd ["sides", "word"] spChW := by
  refine F.ok scChW (fun vs H Q E h => ?_) (fun cdv A outer s H vs Q E hr h => ?_)
  · obtain ⟨q, l, rfl, _⟩ := h
    rfl
  · obtain ⟨q, l, rfl, h2, h26, hl, hof, hne, k⟩ := h
    refine ⟨_, pss_one (ps_if (pt_not (pt_val (pe_call GW.ok hr rfl GW.mg GW.kp GW.bd .nil pass0 (pa_cons (pv 0) (pa_cons (pv 1) pa_nil))))) pss_never pss_nil), ?_⟩
    refine ⟨_, rfl, _, rfl, q, _, rfl, h2, h26, .inl ⟨l, rfl, hl, fun H1 s1 => ⟨_, rfl, ?_⟩⟩⟩
    rw [thB_of hof, decide_eq_true hne]
    exact iteF (k H1 s1)
end
end FW
namespace FW
open PySem L2
/-! ### firstword.checks: whole numbers and sides -/
noncomputable def spWho (K : PySem.W.Frag) : Sp := fun vs H Q _ => ∃ (x : V) (t : Value) (b1 b2 : Bool), vs = [x] ∧ TyOf K H x t ∧ PySem.W.kitOne K t (.type "int") = some b1 ∧ PySem.W.kitOne K t (.type "bool") = some b2 ∧ Q (.bl (b1 && !b2)) H
noncomputable def spChS : Sp := fun vs H Q _ => ∃ (q : Nat), vs = [vi q] ∧ 2 ≤ q ∧ q ≤ 26 ∧ Q .non H
section
variable {P : Program} {w : World} {K : PySem.W.Frag} {mg : Str → Option Value} {base : Heap}
theorem scWho : FnScope ["thing"] ["thing"] (defScope sWho) := ⟨rfl, rfl, rfl, by decide +kernel, rfl, by decide +kernel, by decide +kernel⟩
theorem ok_who {f : Addr} {fd : FuncData} (F : Fun K "is_whole" "is_whole" sWho f fd) (B : Bl mg) : FnOk P w K mg base CX0 1 f fd ["thing"] (spWho K) := by
  refine F.ok scWho (fun vs H Q E h => ?_) (fun cdv A outer s H vs Q E hr h => ?_)
  · obtain ⟨x, t, b1, b2, rfl, _⟩ := h
    rfl
  · obtain ⟨x, t, b1, b2, rfl, ty, k1, k2, k⟩ := h
    refine ⟨_, pss_one (ps_ret (pe_and (pe_callB call_isinst rfl B.isinstance (by decide +kernel) (pa_cons (pv 0) (pa_cons (pe_bltn (v := .ty "int") rfl B.int (by decide +kernel) rfl) pa_nil)))
      (pe_one (pe_not (pe_callB call_isinst rfl B.isinstance (by decide +kernel) (pa_cons (pv 0) (pa_cons (pe_bltn (v := .ty "bool") rfl B.bool (by decide +kernel) rfl) pa_nil))))))), ?_⟩
    refine ⟨_, rfl, _, _, _, _, rfl, ty, k1, b1, rfl, ?_⟩
    cases b1 with
    | false => exact iteF k
    | true => exact iteT ⟨_, rfl, _, _, _, _, rfl, ty, k2, b2, rfl, k⟩
theorem scChS : FnScope ["sides"] ["sides"] (defScope sChS) := ⟨rfl, rfl, rfl, by decide +kernel, rfl, by decide +kernel, by decide +kernel⟩
theorem ok_chs {f fL : Addr} {fd fdL : FuncData} (F : Fun K "check_sides" "check_sides" sChS f fd) (GW : Gf P w K mg base 1 "is_whole" ["thing"] (spWho K) fL fdL) (G1 : Gv mg "LEAST_SIDES" (.int 2)) (G2 : Gv mg "MOST_SIDES" (.int 26)) : FnOk P w K mg base CX0 2 f fd ["sides"] spChS := by
  obtain ⟨u1, m1, r1⟩ := G1
  obtain ⟨u2, m2, r2⟩ := G2
  refine F.ok scChS (fun vs H Q E h => ?_) (fun cdv A outer s H vs Q E hr h => ?_)
  · obtain ⟨q, rfl, _⟩ := h
    rfl
  · obtain ⟨q, rfl, h2, h26, k⟩ := h
    refine ⟨_, pss_one (ps_if (PW.pt (pw_or (pt_not (pt_val (pe_call GW.ok hr rfl GW.mg GW.kp GW.bd .nil pass0 (pa_cons (pv 0) pa_nil))))
      (pw_or1 (pt_not (pt_chain op_le op_le (pe_glob rfl m1 r1) (pv 0) (pe_glob rfl m2 r2)))))) pss_never pss_nil), ?_⟩
    refine ⟨_, rfl, _, _, _, _, rfl, .int _, kit_int K, kit_int_bool K, _, rfl, iteF ?_⟩
    refine ⟨_, rfl, _, _, rfl, rfl, _, rfl, ?_⟩
    rw [decide_eq_true (by show (2 : Int) ≤ ((q : Nat) : Int); (first | lia | omega))]
    refine iteT ⟨_, _, rfl, rfl, _, rfl, ?_⟩
    rw [decide_eq_true (by show ((q : Nat) : Int) ≤ (26 : Int); (first | lia | omega))]
    exact iteF k
end
end FW
namespace FW
open PySem L2
/-! ### firstword.checks: throws -/
noncomputable def spChT : Sp := fun vs H Q _ => ∃ (q : Nat) (l : List Nat), vs = [vi q, .str (tx l)] ∧ 2 ≤ q ∧ q ≤ 26 ∧ l.length ≤ 10000 ∧ (∀ c ∈ l, c ∈ alpha.take q) ∧ ∀ H', Same H H' → Q .non H'
section
variable {P : Program} {w : World} {K : PySem.W.Frag} {mg : Str → Option Value} {base : Heap}
theorem scChT : FnScope ["sides", "throws"] ["sides", "throws"] (defScope sChT) := ⟨rfl, rfl, rfl, by decide +kernel, rfl, by decide +kernel, by decide +kernel⟩
theorem ok_cht {f fL : Addr} {fd fdL : FuncData} (F : Fun K "check_throws" "check_throws" sChT f fd) (GT : Gf P w K mg base 1 "is_throws" ["sides", "thing"] (spThr K) fL fdL) : FnOk P w K mg base CX0 2 f fd ["sides", "throws"] spChT := by
  refine F.ok scChT (fun vs H Q E h => ?_) (fun cdv A outer s H vs Q E hr h => ?_)
  · obtain ⟨q, l, rfl, _⟩ := h
    rfl
  · obtain ⟨q, l, rfl, h2, h26, hl, hof, k⟩ := h
    refine ⟨_, pss_one (ps_if (pt_not (pt_val (pe_call GT.ok hr rfl GT.mg GT.kp GT.bd .nil pass0 (pa_cons (pv 0) (pa_cons (pv 1) pa_nil))))) pss_never pss_nil), ?_⟩
    refine ⟨_, rfl, _, rfl, q, _, rfl, h2, h26, .inl ⟨l, rfl, hl, fun H1 s1 => ⟨_, rfl, ?_⟩⟩⟩
    rw [thB_of hof]
    exact iteF (k H1 s1)
end
end FW
namespace FW
open PySem L2
/-! ### firstword.checks: counts -/
noncomputable def spChM : Sp := fun vs H Q _ => ∃ (m : Nat), vs = [vi m] ∧ m ≤ 300 ∧ Q .non H
section
variable {P : Program} {w : World} {K : PySem.W.Frag} {mg : Str → Option Value} {base : Heap}
theorem scChM : FnScope ["many"] ["many"] (defScope sChM) := ⟨rfl, rfl, rfl, by decide +kernel, rfl, by decide +kernel, by decide +kernel⟩
theorem ok_chm {f fL : Addr} {fd fdL : FuncData} (F : Fun K "check_many" "check_many" sChM f fd) (GW : Gf P w K mg base 1 "is_whole" ["thing"] (spWho K) fL fdL) (G2 : Gv mg "MOST_MANY" (.int 300)) : FnOk P w K mg base CX0 2 f fd ["many"] spChM := by
  obtain ⟨u2, m2, r2⟩ := G2
  refine F.ok scChM (fun vs H Q E h => ?_) (fun cdv A outer s H vs Q E hr h => ?_)
  · obtain ⟨q, rfl, _⟩ := h
    rfl
  · obtain ⟨q, rfl, h300, k⟩ := h
    refine ⟨_, pss_one (ps_if (PW.pt (pw_or (pt_not (pt_val (pe_call GW.ok hr rfl GW.mg GW.kp GW.bd .nil pass0 (pa_cons (pv 0) pa_nil))))
      (pw_or1 (pt_not (pt_chain op_le op_le pe_int (pv 0) (pe_glob rfl m2 r2)))))) pss_never pss_nil), ?_⟩
    refine ⟨_, rfl, _, _, _, _, rfl, .int _, kit_int K, kit_int_bool K, _, rfl, iteF ?_⟩
    refine ⟨_, rfl, _, _, rfl, rfl, _, rfl, ?_⟩
    rw [decide_eq_true (by show (0 : Int) ≤ ((q : Nat) : Int); (first | lia | omega))]
    refine iteT ⟨_, _, rfl, rfl, _, rfl, ?_⟩
    rw [decide_eq_true (by show ((q : Nat) : Int) ≤ (300 : Int); (first | lia | omega))]
    exact iteF k
end
end FW
namespace FW
open PySem L2
/-! ### firstword.words: the step, and the shorter beginnings -/
noncomputable def spStep (K : PySem.W.Frag) : Sp := fun vs H Q _ => ∃ (w : List Nat) (p : Addr) (tab : List Nat) (r c : Nat), vs = [.str (tx w), .ref p, vi r, .str (tx [c])] ∧ SqL K H p (tab.map vi) ∧ w ≠ [] ∧ w.length ≤ 10000 ∧ r ≤ w.length ∧
  (∀ j, j ≤ r → tab[j]? = some (bord w j)) ∧ Q (vi (lng w (w.take r ++ [c]))) H
noncomputable def spSh : Sp := fun vs H Q _ => ∃ w, vs = [.str (tx w)] ∧ w ≠ [] ∧ w.length ≤ 10000 ∧ ∀ p H', H p = none → Same H H' → H' p = some (.lst ((shTab w (w.length + 1)).map vi)) → Q (.ref p) H'
section
variable {P : Program} {w : World} {K : PySem.W.Frag} {mg : Str → Option Value} {base : Heap}
theorem scStep : FnScope ["word", "shorter", "reached", "letter"] ["word", "shorter", "reached", "letter"] (defScope sStep) := ⟨rfl, rfl, rfl, by decide +kernel, rfl, by decide +kernel, by decide +kernel⟩
theorem ok_step {f : Addr} {fd : FuncData} (F : Fun K "step" "step" sStep f fd) (B : Bl mg) : FnOk P w K mg base CX0 1 f fd ["word", "shorter", "reached", "letter"] (spStep K) := by
  refine F.ok scStep (fun vs H Q E h => ?_) (fun cdv A outer s H vs Q E hr h => ?_)
  · obtain ⟨w, p, tab, r, c, rfl, _⟩ := h
    rfl
  · obtain ⟨w, p, tab, r, c, rfl, hS, hne, hw, hrw, htab, k⟩ := h
    refine ⟨_, pss_cons (ps_while PassesOwn.never (PW.pt (pw_and (pt_cmpR op_gt (pv 2) pe_int (nomark _))
        (pw_and1 (PW.pt (pw_or (pt_cmpR op_eq (pv 2) (pe_callB call_len_tx rfl B.len (by decide +kernel) (pa_cons (pv 0) pa_nil)) (nomark _))
          (pw_or1 (pt_cmpR op_ne (pe_ix ix_tx (pv 0) (pv 2) (fun _ _ => rfl)) (pv 3) (nomark _))))))))
        (pss_one (ps_set (i := 2) scStep.nd rfl (Or.inl rfl) (pe_ix ix_list (pv 1) (pv 2) (fun _ _ => rfl)))))
      (pss_cons (ps_if (pt_cmpR op_eq (pe_ix ix_tx (pv 0) (pv 2) (fun _ _ => rfl)) (pv 3) (nomark _)) (pss_one (ps_ret (pe_op op_add (pv 2) pe_int))) pss_nil)
      (pss_one (ps_ret pe_int))), ?_⟩
    refine ⟨fun m σ H2 => H2 = H ∧ σ = [some (.str (tx w)), some (.ref p), some (vi m), some (.str (tx [c]))] ∧ Going w (w.take r) c m ∧ m ≤ r, ⟨r, rfl, rfl, Going.start hrw, Nat.le_refl _⟩, ?_⟩
    rintro r' σ H2 ⟨rfl, rfl, g, hr'⟩
    refine ⟨_, rfl, _, _, rfl, rfl, _, rfl, ?_⟩
    by_cases h0 : r' = 0
    · subst h0
      rw [decide_eq_false (by show ¬ (0 : Int) < ((0 : Nat) : Int); (first | lia | omega))]
      refine iteF (iteF ?_)
      cases hw0 : w[0]? with
      | none =>
        have := List.getElem?_eq_none_iff.mp hw0
        exact absurd (List.length_eq_zero_iff.mp (by (first | lia | omega))) hne
      | some c0 =>
        refine ⟨_, rfl, _, rfl, w, 0, c0, rfl, rfl, sz hw, hw0, _, rfl, rfl, _, rfl, ?_⟩
        rw [dec_tx]
        by_cases hc : c0 = c
        · subst hc
          rw [decide_eq_true rfl]
          refine iteT ⟨_, rfl, _, _, rfl, rfl, ?_⟩
          rw [g.yes (by have := (List.getElem?_eq_some_iff.mp hw0).1; exact this) hw0] at k
          exact k
        · rw [decide_eq_false (by intro z; exact hc (by simpa using z))]
          refine iteF ?_
          rw [g.no (by rw [hw0]; intro z; exact hc (Option.some.inj z))] at k
          exact k
    · have hpos : 0 < r' := by (first | lia | omega)
      rw [decide_eq_true (by show (0 : Int) < ((r' : Nat) : Int); (first | lia | omega))]
      refine iteT ⟨_, rfl, _, rfl, w, rfl, sz hw, rfl, _, rfl, ?_⟩
      have body : ∀ (hn : r' = w.length ∨ w[r']? ≠ some c), ∃ N : St → Hp → Prop, (∀ σ' H', N σ' H' → ∃ m', m' < r' ∧ H' = H2 ∧ σ' = [some (.str (tx w)), some (.ref p), some (vi m'), some (.str (tx [c]))] ∧ Going w (w.take r) c m' ∧ m' ≤ r) ∧
          N [some (.str (tx w)), some (.ref p), some (vi (bord w r')), some (.str (tx [c]))] H2 := fun hn => by
        have lt := bord_lt g.le hpos
        exact ⟨fun σ' H' => H' = H2 ∧ σ' = [some (.str (tx w)), some (.ref p), some (vi (bord w r')), some (.str (tx [c]))], fun σ' H' ⟨e1, e2⟩ => ⟨bord w r', lt, e1, e2, g.turn hpos hn, by (first | lia | omega)⟩, rfl, rfl⟩
      have item : atI (tab.map vi) ((r' : Nat) : Int) = some (vi (bord w r')) := atI_nat (by rw [List.getElem?_map, htab r' hr']; rfl)
      by_cases hl : r' = w.length
      · rw [decide_eq_true (by rw [← hl]; rfl)]
        refine iteT (iteT ?_)
        obtain ⟨N, h1, h2⟩ := body (.inl hl)
        exact ⟨N, h1, _, rfl, _, rfl, p, _, _, _, rfl, rfl, hS, item, h2⟩
      · rw [decide_eq_false (by intro z; unfold vi at z; injection z with z; (first | lia | omega))]
        refine iteF ?_
        have hlt : r' < w.length := by have := g.le; (first | lia | omega)
        have hwr : w[r']? = some w[r'] := List.getElem?_eq_getElem hlt
        refine ⟨_, rfl, _, rfl, w, r', w[r'], rfl, rfl, sz hw, hwr, _, rfl, rfl, _, rfl, ?_⟩
        rw [dec_tx]
        by_cases hc : w[r'] = c
        · rw [hc, decide_eq_true rfl]
          refine iteF ?_
          rw [hc] at hwr
          refine ⟨_, rfl, _, rfl, w, r', c, rfl, rfl, sz hw, hwr, _, rfl, rfl, _, rfl, ?_⟩
          rw [dec_tx, decide_eq_true rfl]
          refine iteT ⟨_, rfl, _, _, rfl, rfl, ?_⟩
          rw [g.yes hlt hwr] at k
          exact k
        · rw [decide_eq_false (by intro z; exact hc (by simpa using z))]
          refine iteT ?_
          obtain ⟨N, h1, h2⟩ := body (.inr (by rw [hwr]; intro z; exact hc (Option.some.inj z)))
          exact ⟨N, h1, _, rfl, _, rfl, p, _, _, _, rfl, rfl, hS, item, h2⟩
theorem scSh : FnScope ["word", "shorter", "reached", "letter"] ["word"] (defScope sSh) := ⟨rfl, rfl, rfl, by decide +kernel, rfl, by decide +kernel, by decide +kernel⟩
theorem ok_sh {f fS : Addr} {fd fdS : FuncData} (F : Fun K "shorter_beginnings" "shorter_beginnings" sSh f fd) (GS : Gf P w K mg base 1 "step" ["word", "shorter", "reached", "letter"] (spStep K) fS fdS) : FnOk P w K mg base CX0 2 f fd ["word"] spSh := by
  refine F.ok scSh (fun vs H Q E h => ?_) (fun cdv A outer s H vs Q E hr h => ?_)
  · obtain ⟨w, rfl, _⟩ := h
    rfl
  · obtain ⟨w, rfl, hne, hw, k⟩ := h
    refine ⟨_, pss_cons (ps_set (i := 1) scSh.nd rfl (Or.inl rfl) (pe_lst (pa_cons pe_int (pa_cons pe_int pa_nil))))
      (pss_cons (ps_set (i := 2) scSh.nd rfl (Or.inl rfl) pe_int)
      (pss_cons (ps_for PassesOwn.never rfl (pi_str (pe_slice sl_str (pv 0) (po_some pe_int) po_none)) (pg_name (i := 3) scSh.nd rfl (Or.inl rfl))
        (pss_cons (ps_set (i := 2) scSh.nd rfl (Or.inl rfl) (pe_call GS.ok hr rfl GS.mg GS.kp GS.bd .nil pass0 (pa_cons (pv 0) (pa_cons (pv 1) (pa_cons (pv 2) (pa_cons (pv 3) pa_nil))))))
        (pss_one (ps_expr (pe_bm PySem.F.plainAttrs_list PySem.F.slot_list_append PySem.F.type_list_append mt_append (pv 1) (pa_cons (pv 2) pa_nil))))))
      (pss_one (ps_ret (pv 1))))), ?_⟩
    refine ⟨by show 2 ≤ sizeLine; decide, fun p hp => ?_⟩
    have hwl : 0 < w.length := by
      cases w with
      | nil => exact absurd rfl hne
      | cons a r => exact Nat.succ_pos _
    have ecut : cutL w (some 1) none = w.drop 1 := cutL_from w 1
    refine ⟨_, rfl, _, rfl, w, rfl, sz hw, w.drop 1, by rw [ecut], for_str (l := w.drop 1) (fun i σ H2 => ∃ v, σ = [some (.str (tx w)), some (.ref p), some (vi (bord w (i + 1))), v] ∧ Same H H2 ∧ H2 p = some (.lst ((shTab w (i + 2)).map vi)))
      ⟨none, by rw [bord_one]; rfl, (Same.refl H).upd hp, by rw [upd_same, shTab_two]; rfl⟩ ?_ ?_⟩
    · rintro i c σ H2 hc ⟨v, rfl, s2, h2⟩
      have hi : i + 1 < w.length := by
        have := (List.getElem?_eq_some_iff.mp hc).1
        rw [List.length_drop] at this
        (first | lia | omega)
      have hc' : w[i + 1]? = some c := by
        rw [List.getElem?_drop] at hc
        rw [Nat.add_comm]
        exact hc
      have hb : bord w (i + 1) ≤ i + 1 := Nat.le_of_lt (bord_lt (by (first | lia | omega)) (by (first | lia | omega)))
      refine ⟨_, rfl, _, rfl, _, rfl, _, rfl, w, p, shTab w (i + 2), bord w (i + 1), c, rfl, SqL.of h2, hne, hw, by (first | lia | omega), fun j hj => shTab_get (by (first | lia | omega)), ?_⟩
      refine ⟨_, rfl, .inl ⟨rfl, _, SqL.of h2⟩, _, rfl, p, _, _, rfl, rfl, h2, ?_, ?_⟩
      · rw [List.length_map]
        unfold shTab
        rw [List.length_map, List.length_range]
        exact sz' (by (first | lia | omega))
      · rw [bord_next hi hc']
        refine ⟨_, rfl, s2.upd hp, ?_⟩
        rw [upd_same, shTab_succ w (i + 2), List.map_append]
        rfl
    · rintro σ H2 ⟨v, rfl, s2, h2⟩
      have e : (w.drop 1).length + 2 = w.length + 1 := by rw [List.length_drop]; (first | lia | omega)
      rw [e] at h2
      exact ⟨_, rfl, k p H2 hp s2 h2⟩
end
end FW
namespace FW
open PySem L2
/-! ### firstword.words: what is reached -/
noncomputable def spRe : Sp := fun vs H Q _ => ∃ w t, vs = [.str (tx w), .str (tx t)] ∧ w ≠ [] ∧ w.length ≤ 10000 ∧ t.length ≤ 10000 ∧ ∀ p H', H p = none → Same H H' → H' p = some (.lst ((reTab w t (t.length + 1)).map vi)) → Q (.ref p) H'
section
variable {P : Program} {w : World} {K : PySem.W.Frag} {mg : Str → Option Value} {base : Heap}
theorem scRe : FnScope ["word", "throws", "shorter", "reached", "reached_so_far", "letter"] ["word", "throws"] (defScope sRe) := ⟨rfl, rfl, rfl, by decide +kernel, rfl, by decide +kernel, by decide +kernel⟩
theorem ok_re {f fS fH : Addr} {fd fdS fdH : FuncData} (F : Fun K "reached_by_count" "reached_by_count" sRe f fd) (GS : Gf P w K mg base 1 "step" ["word", "shorter", "reached", "letter"] (spStep K) fS fdS)
    (GH : Gf P w K mg base 2 "shorter_beginnings" ["word"] spSh fH fdH) : FnOk P w K mg base CX0 3 f fd ["word", "throws"] spRe := by
  refine F.ok scRe (fun vs H Q E h => ?_) (fun cdv A outer s H vs Q E hr h => ?_)
  · obtain ⟨w, t, rfl, _⟩ := h
    rfl
  · obtain ⟨w, t, rfl, hne, hw, ht, k⟩ := h
    refine ⟨_, pss_cons (ps_set (i := 2) scRe.nd rfl (Or.inl rfl) (pe_call GH.ok hr rfl GH.mg GH.kp GH.bd .nil pass0 (pa_cons (pv 0) pa_nil)))
      (pss_cons (ps_set (i := 3) scRe.nd rfl (Or.inl rfl) pe_int)
      (pss_cons (ps_set (i := 4) scRe.nd rfl (Or.inl rfl) (pe_lst (pa_cons (pv 3) pa_nil)))
      (pss_cons (ps_for PassesOwn.never rfl (pi_str (pv 1)) (pg_name (i := 5) scRe.nd rfl (Or.inl rfl))
        (pss_cons (ps_set (i := 3) scRe.nd rfl (Or.inl rfl) (pe_call GS.ok (hr.mono (by decide)) rfl GS.mg GS.kp GS.bd .nil pass0 (pa_cons (pv 0) (pa_cons (pv 2) (pa_cons (pv 3) (pa_cons (pv 5) pa_nil))))))
        (pss_one (ps_expr (pe_bm PySem.F.plainAttrs_list PySem.F.slot_list_append PySem.F.type_list_append mt_append (pv 4) (pa_cons (pv 3) pa_nil))))))
      (pss_one (ps_ret (pv 4)))))), ?_⟩
    refine ⟨_, rfl, w, rfl, hne, hw, fun p H1 hp s1 h1 => ?_⟩
    refine ⟨_, rfl, by show 1 ≤ sizeLine; decide, fun q hq => ?_⟩
    have npq : p ≠ q := ne_of_none h1 hq
    refine ⟨_, rfl, t, rfl, for_str (l := t) (fun i σ H2 => ∃ v, σ = [some (.str (tx w)), some (.str (tx t)), some (.ref p), some (vi (lng w (t.take i))), some (.ref q), v] ∧ Same H H2 ∧ H2 p = some (.lst ((shTab w (w.length + 1)).map vi)) ∧ H2 q = some (.lst ((reTab w t (i + 1)).map vi)))
      ⟨none, by rw [List.take_zero, lng_nil]; rfl, s1.upd (s1.free hq), by rw [upd_ne npq]; exact h1, by rw [upd_same]; simp [reTab, List.range_succ, lng_nil]; rfl⟩ ?_ ?_⟩
    · rintro i c σ H2 hc ⟨v, rfl, s2, h2, h3⟩
      have hi : i < t.length := (List.getElem?_eq_some_iff.mp hc).1
      have hle := lng_le w (t.take i)
      refine ⟨_, rfl, _, rfl, _, rfl, _, rfl, w, p, shTab w (w.length + 1), lng w (t.take i), c, rfl, SqL.of h2, hne, hw, hle, fun j hj => shTab_get (by (first | lia | omega)), ?_⟩
      refine ⟨_, rfl, .inl ⟨rfl, _, SqL.of h3⟩, _, rfl, q, _, _, rfl, rfl, h3, ?_, ?_⟩
      · rw [List.length_map]
        unfold reTab
        rw [List.length_map, List.length_range]
        exact sz' (by (first | lia | omega))
      · rw [lng_next hc]
        refine ⟨_, rfl, s2.upd (s1.free hq), by rw [upd_ne npq]; exact h2, ?_⟩
        rw [upd_same, reTab_succ w t (i + 1), List.map_append]
        rfl
    · rintro σ H2 ⟨v, rfl, s2, h2, h3⟩
      exact ⟨_, rfl, k q H2 (s1.free hq) s2 h3⟩
end
end FW
namespace FW
open PySem L2
/-! ### firstword.words: overlaps -/
noncomputable def spOv : Sp := fun vs H Q _ => ∃ w, vs = [.str (tx w)] ∧ w ≠ [] ∧ Low w ∧ w.length ≤ 10000 ∧ ∀ p H', H p = none → Same H H' → H' p = some (.lst ((ovl w).map vi)) → Q (.ref p) H'
theorem low_alpha {l : List Nat} (h : Low l) : ∀ c ∈ l, c ∈ alpha.take 26 := fun c hc => by
  have hl := List.all_eq_true.mp h c hc
  unfold low at hl
  rw [Bool.and_eq_true, decide_eq_true_eq, decide_eq_true_eq] at hl
  rw [List.take_of_length_le (by decide)]
  exact List.mem_map.mpr ⟨c - 97, List.mem_range.mpr (by (first | lia | omega)), by (first | lia | omega)⟩
section
variable {P : Program} {w : World} {K : PySem.W.Frag} {mg : Str → Option Value} {base : Heap}
theorem scOv : FnScope ["word", "shorter", "falling", "count"] ["word"] (defScope sOv) := ⟨rfl, rfl, rfl, by decide +kernel, rfl, by decide +kernel, by decide +kernel⟩
theorem ok_ov {f fW fH : Addr} {fd fdW fdH : FuncData} (F : Fun K "overlaps" "overlaps" sOv f fd) (B : Bl mg) (GW : Gf P w K mg base 3 "check_word" ["sides", "word"] spChW fW fdW) (GM : Gv mg "MOST_SIDES" (.int 26))
    (GH : Gf P w K mg base 2 "shorter_beginnings" ["word"] spSh fH fdH) : FnOk P w K mg base CX0 4 f fd ["word"] spOv := by
  obtain ⟨uM, mM, rM⟩ := GM
  refine F.ok scOv (fun vs H Q E h => ?_) (fun cdv A outer s H vs Q E hr h => ?_)
  · obtain ⟨w, rfl, _⟩ := h
    rfl
  · obtain ⟨w, rfl, hne, hlow, hw, k⟩ := h
    refine ⟨_, pss_cons (ps_expr (pe_call GW.ok hr rfl GW.mg GW.kp GW.bd .nil pass0 (pa_cons (pe_glob rfl mM rM) (pa_cons (pv 0) pa_nil))))
      (pss_cons (ps_set (i := 1) scOv.nd rfl (Or.inl rfl) (pe_call GH.ok (hr.mono (by decide)) rfl GH.mg GH.kp GH.bd .nil pass0 (pa_cons (pv 0) pa_nil)))
      (pss_cons (ps_set (i := 2) scOv.nd rfl (Or.inl rfl) (pe_lst pa_nil))
      (pss_cons (ps_set (i := 3) scOv.nd rfl (Or.inl rfl) (pe_callB call_len_tx rfl B.len (by decide +kernel) (pa_cons (pv 0) pa_nil)))
      (pss_cons (ps_while PassesOwn.never (pt_cmpR op_gt (pv 3) pe_int (nomark _))
        (pss_cons (ps_expr (pe_bm PySem.F.plainAttrs_list PySem.F.slot_list_append PySem.F.type_list_append mt_append (pv 2) (pa_cons (pv 3) pa_nil)))
        (pss_one (ps_set (i := 3) scOv.nd rfl (Or.inl rfl) (pe_ix ix_list (pv 1) (pv 3) (fun _ _ => rfl))))))
      (pss_one (ps_ret (pe_listrev rfl rfl B.list rfl B.reversed (pa_cons (pv 2) pa_nil)))))))), ?_⟩
    refine ⟨_, rfl, 26, w, rfl, by decide, by decide, hw, low_alpha hlow, hne, fun H1 s1 => ?_⟩
    refine ⟨_, rfl, w, rfl, hne, hw, fun p H2 hp s2 h2 => ?_⟩
    refine ⟨Nat.zero_le _, fun q hq => ?_⟩
    refine ⟨_, rfl, w, rfl, sz hw, ?_⟩
    have npq : p ≠ q := ne_of_none h2 hq
    have s02 : Same H H2 := s1.trans s2
    have q0 : H q = none := s02.free hq
    refine ⟨fun m σ H3 => σ = [some (.str (tx w)), some (.ref p), some (.ref q), some (vi m)] ∧ Same H H3 ∧ H3 p = some (.lst ((shTab w (w.length + 1)).map vi)) ∧ H3 q = some (.lst (((ovlFrom w m).reverse).map vi)) ∧ m ≤ w.length ∧ w.take m <:+ w,
      ⟨w.length, rfl, s02.upd q0, by rw [upd_ne npq]; exact h2, by rw [upd_same, ovlFrom_top]; rfl, Nat.le_refl _, by rw [List.take_length]; exact List.suffix_refl _⟩, ?_⟩
    rintro m σ H3 ⟨rfl, s3, h3, h4, hm, hs⟩
    refine ⟨_, rfl, _, _, rfl, rfl, _, rfl, ?_⟩
    by_cases h0 : m = 0
    · subst h0
      rw [decide_eq_false (by show ¬ (0 : Int) < ((0 : Nat) : Int); (first | lia | omega))]
      refine iteF ?_
      refine ⟨_, rfl, q, _, rfl, SqL.of h4, fun l hl => ?_⟩
      refine k l _ (s3.free hl) (s3.upd (s3.free hl)) ?_
      rw [upd_same, ovlFrom_zero, ← List.map_reverse, List.reverse_reverse]
    · have hpos : 0 < m := by (first | lia | omega)
      rw [decide_eq_true (by show (0 : Int) < ((m : Nat) : Int); (first | lia | omega))]
      refine iteT ?_
      have lt := bord_lt hm hpos
      refine ⟨fun σ' H' => σ' = [some (.str (tx w)), some (.ref p), some (.ref q), some (vi (bord w m))] ∧ Same H H' ∧ H' p = some (.lst ((shTab w (w.length + 1)).map vi)) ∧ H' q = some (.lst (((ovlFrom w (bord w m)).reverse).map vi)),
        fun σ' H' ⟨e1, e2, e3, e4⟩ => ⟨bord w m, lt, e1, e2, e3, e4, by (first | lia | omega), (bord_suf hm hpos).trans hs⟩, ?_⟩
      refine ⟨_, rfl, .inl ⟨rfl, _, SqL.of h4⟩, _, rfl, q, _, _, rfl, rfl, h4, ?_, ?_⟩
      · rw [List.length_map, List.length_reverse]
        have := ovlFrom_len w m
        exact sz' (by (first | lia | omega))
      · refine ⟨_, rfl, _, rfl, p, _, _, _, rfl, rfl, SqL.of (by rw [upd_ne npq]; exact h3), atI_nat (by rw [List.getElem?_map, shTab_get (by (first | lia | omega))]; rfl), ?_⟩
        refine ⟨rfl, s3.upd q0, by rw [upd_ne npq]; exact h3, ?_⟩
        rw [upd_same, ovlFrom_turn hm hpos hs, List.reverse_cons, List.map_append]
        rfl
end
end FW
namespace FW
open PySem L2
/-! ### firstword.words: stands, ends -/
noncomputable def spSt : Sp := fun vs H Q _ => ∃ w t, vs = [.str (tx w), .str (tx t)] ∧ w ≠ [] ∧ Low w ∧ Low t ∧ w.length ≤ 10000 ∧ t.length ≤ 10000 ∧ ∀ H', Same H H' → Q (vi (lng w t)) H'
section
variable {P : Program} {w : World} {K : PySem.W.Frag} {mg : Str → Option Value} {base : Heap}
theorem scSt : FnScope ["word", "throws"] ["word", "throws"] (defScope sSt) := ⟨rfl, rfl, rfl, by decide +kernel, rfl, by decide +kernel, by decide +kernel⟩
theorem ok_st {f fW fT fR : Addr} {fd fdW fdT fdR : FuncData} (F : Fun K "stands" "stands" sSt f fd) (B : Bl mg) (GW : Gf P w K mg base 3 "check_word" ["sides", "word"] spChW fW fdW) (GM : Gv mg "MOST_SIDES" (.int 26)) (GT : Gf P w K mg base 2 "check_throws" ["sides", "throws"] spChT fT fdT)
    (GR : Gf P w K mg base 3 "reached_by_count" ["word", "throws"] spRe fR fdR) : FnOk P w K mg base CX0 4 f fd ["word", "throws"] spSt := by
  obtain ⟨uM, mM, rM⟩ := GM
  refine F.ok scSt (fun vs H Q E h => ?_) (fun cdv A outer s H vs Q E hr h => ?_)
  · obtain ⟨w, t, rfl, _⟩ := h
    rfl
  · obtain ⟨w, t, rfl, hne, hlw, hlt, hw, ht, k⟩ := h
    refine ⟨_, pss_cons (ps_expr (pe_call GW.ok hr rfl GW.mg GW.kp GW.bd .nil pass0 (pa_cons (pe_glob rfl mM rM) (pa_cons (pv 0) pa_nil))))
      (pss_cons (ps_expr (pe_call GT.ok (hr.mono (by decide)) rfl GT.mg GT.kp GT.bd .nil pass0 (pa_cons (pe_glob rfl mM rM) (pa_cons (pv 1) pa_nil))))
      (pss_one (ps_ret (pe_ix ix_list (pe_call GR.ok hr rfl GR.mg GR.kp GR.bd .nil pass0 (pa_cons (pv 0) (pa_cons (pv 1) pa_nil))) (pe_callB call_len_tx rfl B.len (by decide +kernel) (pa_cons (pv 1) pa_nil)) (fun _ _ => rfl))))), ?_⟩
    refine ⟨_, rfl, 26, w, rfl, by decide, by decide, hw, low_alpha hlw, hne, fun H1 s1 => ?_⟩
    refine ⟨_, rfl, 26, t, rfl, by decide, by decide, ht, low_alpha hlt, fun H2 s2 => ?_⟩
    refine ⟨_, rfl, _, rfl, w, t, rfl, hne, hw, ht, fun p H3 hp s3 h3 => ?_⟩
    refine ⟨_, rfl, t, rfl, sz ht, p, _, _, _, rfl, rfl, SqL.of h3, atI_nat (by rw [List.getElem?_map, reTab_get (Nat.lt_succ_self _)]; rfl), ?_⟩
    rw [List.take_length]
    exact k H3 ((s1.trans s2).trans s3)
theorem scEn : FnScope ["word", "throws"] ["word", "throws"] (defScope sEn) := ⟨rfl, rfl, rfl, by decide +kernel, rfl, by decide +kernel, by decide +kernel⟩
end
end FW
namespace FW
open PySem L2
/-! ### firstword.answers: Wait is made -/
/-- what the text has of the class Wait -/
structure WaitC (K : PySem.W.Frag) (mg : Str → Option Value) (C fI fS : Addr) : Prop where
  mg : mg "Wait" = some (.ref C)
  cl : Cls K C
  make : Mk K C fI
  sh : Meth K C "shows" fS
  na : NoAttr K C "table"
noncomputable def spWaitI (K : PySem.W.Frag) (C : Addr) : Sp := fun vs H Q _ => ∃ (x dx p : Addr) (ys : List V), vs = [.ref x, .ref p] ∧ H x = some (.ins C dx []) ∧ SqL K H p ys ∧ ∀ l, H l = none → Q .non (upd (upd H l (.lst ys)) x (.ins C dx [("table", .ref l)]))
/-- an object of Wait at x -/
noncomputable def WaitAt (H : Hp) (C x : Addr) (ts : List Int) : Prop := ∃ dx l, H x = some (.ins C dx [("table", .ref l)]) ∧ H l = some (.lst (ts.map V.int))
section
variable {P : Program} {w : World} {K : PySem.W.Frag} {mg : Str → Option Value} {base : Heap}
theorem scWaitI : FnScope ["self", "table"] ["self", "table"] (defScope sWaitI) := ⟨rfl, rfl, rfl, by decide +kernel, rfl, by decide +kernel, by decide +kernel⟩
theorem ok_waitI {f C fS : Addr} {fd : FuncData} (F : Fun K "__init__" "Wait.__init__" sWaitI f fd) (B : Bl mg) (W : WaitC K mg C f fS) : FnOk P w K mg base CX0 1 f fd ["self", "table"] (spWaitI K C) := by
  refine F.ok scWaitI (fun vs H Q E h => ?_) (fun cdv A outer s H vs Q E hr h => ?_)
  · obtain ⟨x, dx, p, ys, rfl, _⟩ := h
    rfl
  · obtain ⟨x, dx, p, ys, rfl, hx, hS, k⟩ := h
    refine ⟨_, pss_one (ps_fld (pv 0) (pe_callTy call_list_of rfl B.list (by decide +kernel) (pa_cons (pv 1) pa_nil)) rfl), ?_⟩
    refine ⟨_, rfl, p, ys, rfl, .inl hS, fun l hl => ⟨_, rfl, x, C, dx, [], rfl, by rw [upd_ne (ne_of_none hx hl)]; exact hx, W.cl, W.na, by decide, k l hl⟩⟩
end
end FW
namespace FW
open PySem L2
/-! ### firstword.waiting: what is held, and waits -/
noncomputable def heldT (q : Nat) (w : List Nat) (n : Nat) : List Nat := (List.range n).map fun k => phi q w (w.take k)
theorem heldT_len (q : Nat) (w : List Nat) (n : Nat) : (heldT q w n).length = n := by simp [heldT]
theorem heldT_get {q : Nat} {w : List Nat} {n k : Nat} (h : k < n) : (heldT q w n)[k]? = some (phi q w (w.take k)) := by simp [heldT, h]
theorem heldT_succ (q : Nat) (w : List Nat) (n : Nat) : heldT q w (n + 1) = heldT q w n ++ [phi q w (w.take n)] := range_map_succ _ _
noncomputable def waitT (q : Nat) (w : List Nat) : List Int := (List.range (w.length + 1)).map (waitZ q w)
noncomputable def spHeld : Sp := fun vs H Q _ => ∃ (q : Nat) (w : List Nat), vs = [vi q, .str (tx w)] ∧ 2 ≤ q ∧ q ≤ 26 ∧ w ≠ [] ∧ w.length ≤ 9000 ∧ ∀ p H', H p = none → Same H H' → H' p = some (.lst ((heldT q w (w.length + 1)).map vi)) → Q (.ref p) H'
noncomputable def spWaits (C : Addr) : Sp := fun vs H Q _ => ∃ (q : Nat) (w : List Nat), vs = [vi q, .str (tx w)] ∧ 2 ≤ q ∧ q ≤ 26 ∧ w ≠ [] ∧ w.length ≤ 9000 ∧ (∀ c ∈ w, c ∈ alpha.take q) ∧ ∀ x H', H x = none → Same H H' → WaitAt H' C x (waitT q w) → Q (.ref x) H'
section
variable {P : Program} {w : World} {K : PySem.W.Frag} {mg : Str → Option Value} {base : Heap}
theorem scHeld : FnScope ["sides", "word", "shorter", "held", "power", "count"] ["sides", "word"] (defScope sHeld) := ⟨rfl, rfl, rfl, by decide +kernel, rfl, by decide +kernel, by decide +kernel⟩
theorem ok_held {f fH : Addr} {fd dH : FuncData} (F : Fun K "held_by_count" "held_by_count" sHeld f fd) (B : Bl mg) (GH : Gf P w K mg base 2 "shorter_beginnings" ["word"] spSh fH dH) : FnOk P w K mg base CX0 3 f fd ["sides", "word"] spHeld := by
  refine F.ok scHeld (fun vs H Q E h => ?_) (fun cdv A outer s H vs Q E hr h => ?_)
  · obtain ⟨q, w, rfl, _⟩ := h
    rfl
  · obtain ⟨q, w, rfl, h2, h26, hne, hw, k⟩ := h
    refine ⟨_, pss_cons (ps_set (i := 2) scHeld.nd rfl (Or.inl rfl) (pe_call GH.ok hr rfl GH.mg GH.kp GH.bd .nil pass0 (pa_cons (pv 1) pa_nil)))
      (pss_cons (ps_set (i := 3) scHeld.nd rfl (Or.inl rfl) (pe_lst (pa_cons pe_int pa_nil)))
      (pss_cons (ps_set (i := 4) scHeld.nd rfl (Or.inl rfl) pe_int)
      (pss_cons (ps_for PassesOwn.never rfl (pi_range2 rfl B.range (pa_cons pe_int (pa_cons (pe_op op_add (pe_callB call_len_tx rfl B.len (by decide +kernel) (pa_cons (pv 1) pa_nil)) pe_int) pa_nil))) (pg_name (i := 5) scHeld.nd rfl (Or.inl rfl))
        (pss_cons (ps_set (i := 4) scHeld.nd rfl (Or.inl rfl) (pe_op op_mul (pv 4) (pv 0)))
        (pss_one (ps_expr (pe_bm PySem.F.plainAttrs_list PySem.F.slot_list_append PySem.F.type_list_append mt_append (pv 3) (pa_cons (pe_op op_add (pv 4) (pe_ix ix_list (pv 3) (pe_ix ix_list (pv 2) (pv 5) (fun _ _ => rfl)) (fun _ _ => rfl))) pa_nil))))))
      (pss_one (ps_ret (pv 3)))))), ?_⟩
    refine ⟨_, rfl, w, rfl, hne, by (first | lia | omega), fun sh H1 hsh s1 h1 => ?_⟩
    refine ⟨by show 1 ≤ sizeLine; decide, fun p hp => ?_⟩
    have nsp : sh ≠ p := ne_of_none h1 hp
    refine ⟨_, rfl, w, rfl, sz (by (first | lia | omega)), _, _, rfl, rfl, _, _, rfl, ⟨by (first | lia | omega), by (first | lia | omega), by (first | lia | omega), by (first | lia | omega)⟩, ?_⟩
    rw [show ((w.length : Int) + 1 - 1).toNat = w.length by (first | lia | omega)]
    refine for_range (n := w.length) (fun i σ H2 => ∃ v5, σ = [some (vi q), some (.str (tx w)), some (.ref sh), some (.ref p), some (vi (q ^ i)), v5] ∧ Same H H2 ∧ H2 sh = some (.lst ((shTab w (w.length + 1)).map vi)) ∧ H2 p = some (.lst ((heldT q w (i + 1)).map vi)))
      ⟨none, rfl, s1.upd (s1.free hp), by rw [upd_ne nsp]; exact h1, ?_⟩ ?_ ?_
    · rw [upd_same, heldT_succ]
      show _ = some (HO.lst [vi (phi q w (w.take 0))])
      rw [List.take_zero, phi_nil]
      rfl
    · rintro i σ H2 hi ⟨v5, rfl, s2, h2s, h2p⟩
      have e5 : (1 : Int) + (i : Int) = ((i + 1 : Nat) : Int) := by (first | lia | omega)
      rw [e5]
      have hb := bord_lt (w := w) (k := i + 1) (by (first | lia | omega)) (by (first | lia | omega))
      refine ⟨_, rfl, _, rfl, _, _, rfl, rfl, .inr ⟨by (first | lia | omega), by (first | lia | omega)⟩, ?_⟩
      refine ⟨_, rfl, .inl ⟨rfl, _, SqL.of h2p⟩, _, rfl, _, rfl, _, rfl, _, rfl, sh, _, _, _, rfl, rfl, SqL.of h2s, atI_nat (by rw [List.getElem?_map, shTab_get (by (first | lia | omega))]; rfl), p, _, _, _, rfl, rfl, SqL.of h2p, atI_nat (by rw [List.getElem?_map, heldT_get (by (first | lia | omega))]; rfl), _, _, rfl, rfl, p, _, _, rfl, rfl, h2p, ?_, ?_⟩
      · rw [List.length_map, heldT_len]; exact sz' (by (first | lia | omega))
      · have ep : ((q ^ i : Nat) : Int) * (q : Int) = ((q ^ (i + 1) : Nat) : Int) := by rw [Nat.pow_succ, Int.natCast_mul]
        dsimp only
        refine ⟨_, by rw [ep]; rfl, s2.upd (s1.free hp), by rw [upd_ne nsp]; exact h2s, ?_⟩
        rw [upd_same, heldT_succ q w (i + 1), List.map_append]
        congr 3
        have eb := phi_bord (q := q) (w := w) (k := i + 1) (by (first | lia | omega)) (by (first | lia | omega))
        rw [ep, eb]
        show [V.int _] = [V.int _]
        congr 2
    · rintro σ H2 ⟨v5, rfl, s2, h2s, h2p⟩
      exact ⟨_, rfl, k p H2 (s1.free hp) s2 h2p⟩
theorem scWaits : FnScope ["sides", "word", "held"] ["sides", "word"] (defScope sWaits) := ⟨rfl, rfl, rfl, by decide +kernel, rfl, by decide +kernel, by decide +kernel⟩
theorem ok_waits {f C fI fS fh fc fw : Addr} {fd dI dh dc dw : FuncData} (F : Fun K "waits" "waits" sWaits f fd) (B : Bl mg) (W : WaitC K mg C fI fS) (FI : FnOk P w K mg base CX0 1 fI dI ["self", "table"] (spWaitI K C)) (bI : Binds K dI ["self", "table"] [])
    (GC : Gf P w K mg base 2 "check_sides" ["sides"] spChS fc dc) (GW : Gf P w K mg base 3 "check_word" ["sides", "word"] spChW fw dw) (GH : Gf P w K mg base 3 "held_by_count" ["sides", "word"] spHeld fh dh) : FnOk P w K mg base CX0 4 f fd ["sides", "word"] (spWaits C) := by
  refine F.ok scWaits (fun vs H Q E h => ?_) (fun cdv A outer s H vs Q E hr h => ?_)
  · obtain ⟨q, w, rfl, _⟩ := h
    rfl
  · obtain ⟨q, w, rfl, h2, h26, hne, hw, hof, k⟩ := h
    have hr2 := hr.mono (show 2 ≤ 3 by decide)
    refine ⟨_, pss_cons (ps_expr (pe_call GC.ok hr2 rfl GC.mg GC.kp GC.bd .nil pass0 (pa_cons (pv 0) pa_nil)))
      (pss_cons (ps_expr (pe_call GW.ok hr rfl GW.mg GW.kp GW.bd .nil pass0 (pa_cons (pv 0) (pa_cons (pv 1) pa_nil))))
      (pss_cons (ps_set (i := 2) scWaits.nd rfl (Or.inr rfl) (pe_call GH.ok hr rfl GH.mg GH.kp GH.bd .nil pass0 (pa_cons (pv 0) (pa_cons (pv 1) pa_nil))))
      (pss_one (ps_ret (pe_make W.make FI hr2 rfl W.mg bI .nil pass0 (pa_cons (pe_lc (N := ["sides", "word", "held"]) (sc := defScope sWaits) (own := ["now"]) (cap := [2, 1])
        (te := tOp (rI0 fun i j => .int (i - j)) (tOp (rIxL K) (tVar 1) (tCB (fun xs H Q => ∃ l, xs = [.str (tx l)] ∧ l.length ≤ sizeLine ∧ Q (.int l.length) H) (tCons (tVar 2) tNil))) (tVar 0))
        ⟨rfl, by decide +kernel, by decide +kernel, by decide +kernel, by decide +kernel⟩ (pi_list (pv 2))
        (fun _ _ _ _ _ => pg_name (i := 0) (show (lcN ["sides", "word", "held"] ["now"] [2, 1]).Nodup by decide +kernel) rfl (Or.inl rfl) (.inr rfl)) (fun _ _ _ _ _ => pif_nil)
        (fun _ _ _ _ _ => pe_op op_sub (pe_ix ix_list (pv 1) (pe_callB call_len_tx rfl B.len (by decide +kernel) (pa_cons (pv 2) pa_nil)) (fun _ _ => rfl)) (pv 0))) pa_nil)))))), ?_⟩
    refine ⟨_, rfl, q, rfl, h2, h26, ?_⟩
    refine ⟨_, rfl, _, rfl, q, w, rfl, h2, h26, by (first | lia | omega), hof, hne, fun H1 s1 => ?_⟩
    refine ⟨_, rfl, _, rfl, q, w, rfl, h2, h26, hne, hw, fun p H2 hp s2 h2p => ?_⟩
    have s02 : Same H H2 := s1.trans s2
    refine ⟨_, rfl, p, rfl, ⟨_, SqL.of h2p⟩, lcb1 (w.length + 1) (fun i => .int (waitZ q w i)) (sz (by (first | lia | omega))) (fun i H' hi hs => ⟨_, _, SqL.of (hs _ _ h2p), by rw [List.getElem?_map, heldT_get hi]; rfl⟩) (fun H' hs => ⟨_, SqL.of (hs _ _ h2p), by rw [List.length_map, heldT_len]; exact Nat.le_refl _⟩) ?_ ?_⟩
    · rintro i H3 K1 hi hs k1 x _ ⟨rfl, hy⟩
      have hy' := hy _ (SqL.of (hs _ _ h2p))
      rw [List.getElem?_map, heldT_get hi] at hy'
      have ex : x = vi (phi q w (w.take i)) := (Option.some.inj hy').symm
      subst ex
      refine ⟨lcExt_set (by decide), _, rfl, _, rfl, w, rfl, sz (by (first | lia | omega)), p, _, _, _, rfl, rfl, SqL.of (hs _ _ h2p), atI_nat (by rw [List.getElem?_map, heldT_get (by (first | lia | omega))]; rfl), _, rfl, _, _, rfl, rfl, ?_⟩
      have := k1 _ (Same.refl _)
      unfold waitZ at this
      rw [List.take_length]
      exact this
    · intro D H3 hD s3 hd x dx hx hdx hxd
      have s03 : Same H H3 := s02.trans s3
      have nDd : D ≠ dx := ne_of_none hd hdx
      have nDx : D ≠ x := ne_of_none hd hx
      refine ⟨x, dx, D, _, rfl, upd_same, SqL.of (by rw [upd_ne nDx, upd_ne nDd]; exact hd), fun l hl => ⟨rfl, ?_⟩⟩
      have s3' : Same H (upd (upd H3 dx (.own x)) x (.ins C dx [])) := (s03.upd (s03.free hdx)).upd (s03.free hx)
      have nlx : l ≠ x := by
        rintro rfl
        rw [upd_same] at hl
        cases hl
      refine k x _ (s03.free hx) ((s3'.upd (s3'.free hl)).upd (s03.free hx)) ⟨dx, l, upd_same, ?_⟩
      rw [upd_ne nlx, upd_same]
      unfold waitT
      rw [List.map_map]
      rfl
end
end FW
namespace FW
open PySem L2
/-! ### firstword.counting -/
noncomputable def fT (L w : List Nat) (n : Nat) : List Nat := (List.range n).map (cntF L w)
noncomputable def wT (L w : List Nat) (n : Nat) : List Nat := (List.range n).map (cntW L w)
theorem fT_len (L w : List Nat) (n : Nat) : (fT L w n).length = n := by simp [fT]
theorem wT_len (L w : List Nat) (n : Nat) : (wT L w n).length = n := by simp [wT]
theorem fT_get {L w : List Nat} {n k : Nat} (h : k < n) : (fT L w n)[k]? = some (cntF L w k) := by simp [fT, h]
theorem wT_get {L w : List Nat} {n k : Nat} (h : k < n) : (wT L w n)[k]? = some (cntW L w k) := by simp [wT, h]
theorem fT_succ (L w : List Nat) (n : Nat) : fT L w (n + 1) = fT L w n ++ [cntF L w n] := range_map_succ _ _
theorem wT_succ (L w : List Nat) (n : Nat) : wT L w (n + 1) = wT L w n ++ [cntW L w n] := range_map_succ _ _
theorem cutV_last {α : Type} (f : α → V) (l : List α) : cutV (l.map f) none (some (-1)) = l.dropLast.map f := by
  show ((l.map f).drop 0).take ((if (-1 : Int) < 0 then ((-1 : Int) + ((l.map f).length : Int)).toNat else min (-1 : Int).toNat (l.map f).length) - 0) = _
  rw [if_pos (by decide), List.drop_zero, Nat.sub_zero, List.length_map, List.map_dropLast, List.dropLast_eq_take, List.length_map]
  congr 1
  (first | lia | omega)
noncomputable def spFae (K : PySem.W.Frag) : Sp := fun vs H Q _ => ∃ (pa pn ps : Addr) (L w : List Nat) (m : Nat), vs = [.ref pa, .ref pn, vi w.length, .ref ps, vi m] ∧ L.Nodup ∧ (∀ c ∈ w, c ∈ L) ∧ w ≠ [] ∧ w.length ≤ 9000 ∧ SqL K H pa ((fT L w m).map vi) ∧ SqL K H pn ((wT L w m).map vi) ∧
  SqL K H ps ((ovl w).dropLast.map vi) ∧ ∀ H', Same H H' → Q (vi (cntF L w m)) H'
noncomputable def spCnt : Sp := fun vs H Q _ => ∃ (q : Nat) (w : List Nat) (m : Nat), vs = [vi q, .str (tx w), vi m] ∧ 2 ≤ q ∧ q ≤ 26 ∧ w ≠ [] ∧ w.length ≤ 9000 ∧ (∀ c ∈ w, c ∈ alpha.take q) ∧ m ≤ 300 ∧
  ∀ p H', H p = none → Same H H' → H' p = some (.tup [vi (cntF (alpha.take q) w m), vi (cntW (alpha.take q) w m)]) → Q (.ref p) H'
noncomputable def spOne (cn : List Nat → List Nat → Nat → Nat) : Sp := fun vs H Q _ => ∃ (q : Nat) (w : List Nat) (m : Nat), vs = [vi q, .str (tx w), vi m] ∧ 2 ≤ q ∧ q ≤ 26 ∧ w ≠ [] ∧ w.length ≤ 9000 ∧ (∀ c ∈ w, c ∈ alpha.take q) ∧ m ≤ 300 ∧
  ∀ H', Same H H' → Q (vi (cn (alpha.take q) w m)) H'
theorem alpha_nodup (q : Nat) : (alpha.take q).Nodup := (show alpha.Nodup by decide).sublist (List.take_sublist _ _)
theorem alpha_len {q : Nat} (h : q ≤ 26) : (alpha.take q).length = q := by rw [List.length_take]; exact Nat.min_eq_left h
section
variable {P : Program} {w : World} {K : PySem.W.Frag} {mg : Str → Option Value} {base : Heap}
noncomputable abbrev NFa : List Str := ["at_end", "nowhere", "length", "shared", "count", "ahead"]
theorem scFae : FnScope NFa ["at_end", "nowhere", "length", "shared", "count"] (defScope sFae) := ⟨rfl, rfl, rfl, by decide +kernel, rfl, by decide +kernel, by decide +kernel⟩
theorem ok_fae {f : Addr} {fd : FuncData} (F : Fun K "first_at_end" "first_at_end" sFae f fd) (B : Bl mg) : FnOk P w K mg base CX0 1 f fd ["at_end", "nowhere", "length", "shared", "count"] (spFae K) := by
  refine F.ok scFae (fun vs H Q E h => ?_) (fun cdv A outer s H vs Q E hr h => ?_)
  · obtain ⟨pa, pn, ps, L, w, m, rfl, _⟩ := h
    rfl
  · obtain ⟨pa, pn, ps, L, w, m, rfl, hL, hof, hne, hw, hA, hN, hP, k⟩ := h
    refine ⟨_, pss_cons (ps_set (i := 5) scFae.nd rfl (Or.inr rfl) (pe_op op_sub (pv 4) (pv 2)))
      (pss_cons (ps_if (pt_cmpR op_lt (pv 5) pe_int (nomark _)) (pss_one (ps_ret pe_int)) pss_nil)
      (pss_one (ps_ret (pe_op op_sub (pe_ix ix_list (pv 1) (pv 5) (fun _ _ => rfl)) (pe_callB (call_sum rfl) rfl B.sum (by decide +kernel) (pa_cons (pe_lc (N := NFa) (sc := defScope sFae) (own := ["overlap"]) (cap := [0, 5])
        (te := tOp (rIxL K) (tVar 1) (tOp (rI0 fun i j => .int (i + j)) (tVar 2) (tVar 0))) ⟨rfl, by decide +kernel, by decide +kernel, by decide +kernel, by decide +kernel⟩ (pi_list (pv 3))
        (fun _ _ _ _ _ => pg_name (i := 0) (show (lcN NFa ["overlap"] [0, 5]).Nodup by decide +kernel) rfl (Or.inl rfl) (.inr rfl)) (fun _ _ _ _ _ => pif_nil)
        (fun _ _ _ _ _ => pe_ix ix_list (pv 1) (pe_op op_add (pv 2) (pv 0)) (fun _ _ => rfl))) pa_nil)))))), ?_⟩
    refine ⟨_, rfl, _, rfl, _, _, rfl, rfl, ?_⟩
    refine ⟨_, rfl, _, _, rfl, rfl, _, rfl, ?_⟩
    by_cases hm : m < w.length
    · rw [decide_eq_true (by show ((m : Nat) : Int) - ((w.length : Nat) : Int) < 0; (first | lia | omega))]
      refine iteT ?_
      have := k H (Same.refl _)
      rw [cntF_small hm] at this
      exact this
    · rw [decide_eq_false (by show ¬ ((m : Nat) : Int) - ((w.length : Nat) : Int) < 0; (first | lia | omega))]
      obtain ⟨a, ea⟩ : ∃ a : Nat, m = a + w.length := ⟨m - w.length, by (first | lia | omega)⟩
      have e1 : ((m : Nat) : Int) - ((w.length : Nat) : Int) = (a : Int) := by (first | lia | omega)
      have hpos : 0 < w.length := List.length_pos_iff.mpr hne
      have olen : ((ovl w).dropLast).length ≤ 10000 := by
        have := ovl_len w
        rw [List.length_dropLast]
        (first | lia | omega)
      dsimp only
      rw [e1]
      refine iteF ⟨_, rfl, _, rfl, pn, _, _, _, rfl, rfl, hN, atI_nat (by rw [List.getElem?_map, wT_get (by (first | lia | omega))]; rfl), ?_⟩
      refine ⟨_, rfl, ps, rfl, ⟨_, hP⟩, lcb1 ((ovl w).dropLast).length (fun i => vi (cntF L w (a + ((ovl w).dropLast).getD i 0))) (sz olen) (fun i H' hi hs => ⟨_, _, hs.seq hP, by rw [List.getElem?_map, List.getElem?_eq_getElem hi]; rfl⟩) (fun H' hs => ⟨_, hs.seq hP, by rw [List.length_map]; exact Nat.le_refl _⟩) ?_ ?_⟩
      · rintro i H1 K1 hi hs k1 x _ ⟨rfl, hy⟩
        have hy' := hy _ (hs.seq hP)
        rw [List.getElem?_map, List.getElem?_eq_getElem hi] at hy'
        have ex : x = vi ((ovl w).dropLast)[i] := (Option.some.inj hy').symm
        subst ex
        have ho := ovl_lt hne (List.getElem_mem hi)
        have eg : ((ovl w).dropLast).getD i 0 = ((ovl w).dropLast)[i] := by rw [List.getD_eq_getElem?_getD, List.getElem?_eq_getElem hi]; rfl
        refine ⟨lcExt_set (by decide), _, rfl, _, rfl, _, rfl, _, _, rfl, rfl, pa, _, _, _, rfl, rfl, hs.seq hA, atI_nat (j := a + ((ovl w).dropLast)[i]) (by rw [List.getElem?_map, fT_get (by (first | lia | omega))]; rfl), ?_⟩
        have := k1 _ (Same.refl _)
        rw [eg] at this
        exact this
      · intro D H' hD hs hd
        refine ⟨D, ((ovl w).dropLast).map fun o => (cntF L w (a + o) : Int), rfl, SqL.of ?_, _, _, rfl, rfl, ?_⟩
        · rw [hd, List.map_map]
          congr 2
          exact range_map_getD (fun o => vi (cntF L w (a + o))) 0 _
        · have r := cntF_rec hL hof hne a
          rw [← ea] at r
          have es : (((ovl w).dropLast).map fun o => (cntF L w (a + o) : Int)).sum = (((((ovl w).dropLast).map fun o => cntF L w (a + o)).sum : Nat) : Int) := by
            generalize (ovl w).dropLast = l
            induction l with
            | nil => rfl
            | cons x l ih => rw [List.map_cons, List.sum_cons, ih, List.map_cons, List.sum_cons, Int.natCast_add]
          dsimp only
          rw [es, show ((cntW L w a : Nat) : Int) - (((((ovl w).dropLast).map fun o => cntF L w (a + o)).sum : Nat) : Int) = ((cntF L w m : Nat) : Int) by (first | lia | omega)]
          exact k H' hs
noncomputable abbrev NCn : List Str := ["sides", "word", "many", "shared", "at_end", "nowhere", "count", "rows"]
theorem scCnt : FnScope NCn ["sides", "word", "many"] (defScope sCnt) := ⟨rfl, rfl, rfl, by decide +kernel, rfl, by decide +kernel, by decide +kernel⟩
theorem ok_cnt {f fs fw fm fo fe : Addr} {fd ds dw dm dO de : FuncData} (F : Fun K "counted_rows" "counted_rows" sCnt f fd) (B : Bl mg) (GS : Gf P w K mg base 2 "check_sides" ["sides"] spChS fs ds) (GW : Gf P w K mg base 3 "check_word" ["sides", "word"] spChW fw dw)
    (GM : Gf P w K mg base 2 "check_many" ["many"] spChM fm dm) (GO : Gf P w K mg base 4 "overlaps" ["word"] spOv fo dO) (GE : Gf P w K mg base 1 "first_at_end" ["at_end", "nowhere", "length", "shared", "count"] (spFae K) fe de) : FnOk P w K mg base CX0 5 f fd ["sides", "word", "many"] spCnt := by
  refine F.ok scCnt (fun vs H Q E h => ?_) (fun cdv A outer s H vs Q E hr h => ?_)
  · obtain ⟨q, w, m, rfl, _⟩ := h
    rfl
  · obtain ⟨q, w, m, rfl, h2, h26, hne, hw, hof, hm, k⟩ := h
    have hr1 := hr.mono (show 1 ≤ 4 by decide)
    have hr2 := hr.mono (show 2 ≤ 4 by decide)
    have hr3 := hr.mono (show 3 ≤ 4 by decide)
    refine ⟨_, pss_cons (ps_expr (pe_call GS.ok hr2 rfl GS.mg GS.kp GS.bd .nil pass0 (pa_cons (pv 0) pa_nil)))
      (pss_cons (ps_expr (pe_call GW.ok hr3 rfl GW.mg GW.kp GW.bd .nil pass0 (pa_cons (pv 0) (pa_cons (pv 1) pa_nil))))
      (pss_cons (ps_expr (pe_call GM.ok hr2 rfl GM.mg GM.kp GM.bd .nil pass0 (pa_cons (pv 2) pa_nil)))
      (pss_cons (ps_set (i := 3) scCnt.nd rfl (Or.inl rfl) (pe_slice sl_list (pe_call GO.ok hr rfl GO.mg GO.kp GO.bd .nil pass0 (pa_cons (pv 1) pa_nil)) po_none (po_some (pe_un un_neg pe_int))))
      (pss_cons (ps_set (i := 4) scCnt.nd rfl (Or.inl rfl) (pe_lst pa_nil))
      (pss_cons (ps_set (i := 5) scCnt.nd rfl (Or.inl rfl) (pe_lst pa_nil))
      (pss_cons (ps_for PassesOwn.never rfl (pi_range1 rfl B.range (pa_cons (pe_op op_add (pv 2) pe_int) pa_nil)) (pg_name (i := 6) scCnt.nd rfl (Or.inl rfl))
        (pss_cons (ps_expr (pe_bm PySem.F.plainAttrs_list PySem.F.slot_list_append PySem.F.type_list_append mt_append (pv 4) (pa_cons (pe_call GE.ok hr1 rfl GE.mg GE.kp GE.bd .nil pass0 (pa_cons (pv 4) (pa_cons (pv 5) (pa_cons (pe_callB call_len_tx rfl B.len (by decide +kernel) (pa_cons (pv 1) pa_nil)) (pa_cons (pv 3) (pa_cons (pv 6) pa_nil)))))) pa_nil)))
        (pss_cons (ps_set (i := 7) scCnt.nd rfl (Or.inl rfl) (pe_ifExp (pt_cmpR op_gt (pv 6) pe_int (nomark _)) (pe_op op_mul (pv 0) (pe_ix ix_list (pv 5) (pe_op op_sub (pv 6) pe_int) (fun _ _ => rfl))) pe_int))
        (pss_one (ps_expr (pe_bm PySem.F.plainAttrs_list PySem.F.slot_list_append PySem.F.type_list_append mt_append (pv 5) (pa_cons (pe_op op_sub (pv 7) (pe_ix ix_list (pv 4) (pv 6) (fun _ _ => rfl))) pa_nil)))))))
      (pss_one (ps_ret (pe_tup (pa_cons (pe_ix ix_list (pv 4) (pv 2) (fun _ _ => rfl)) (pa_cons (pe_ix ix_list (pv 5) (pv 2) (fun _ _ => rfl)) pa_nil))))))))))), ?_⟩
    refine ⟨_, rfl, q, rfl, h2, h26, ?_⟩
    refine ⟨_, rfl, _, rfl, q, w, rfl, h2, h26, by (first | lia | omega), hof, hne, fun H1 s1 => ?_⟩
    refine ⟨_, rfl, m, rfl, hm, ?_⟩
    have hlow : Low w := List.all_eq_true.mpr fun c hc => by
      have ⟨h1, h2⟩ := mem_alpha (hof c hc) h26
      unfold low
      rw [decide_eq_true h1, decide_eq_true (by (first | lia | omega))]
      rfl
    refine ⟨_, rfl, w, rfl, hne, hlow, by (first | lia | omega), fun po H2 hpo s2 h2o => ?_⟩
    refine ⟨_, rfl, _, rfl, po, _, rfl, SqL.of h2o, fun ps hps => ?_⟩
    have ecut : cutV ((ovl w).map vi) none (some (-1)) = (ovl w).dropLast.map vi := cutV_last vi _
    rw [ecut]
    have s3 : Same H (upd H2 ps (.lst ((ovl w).dropLast.map vi))) := (s1.trans s2).upd ((s1.trans s2).free hps)
    have h3 : (upd H2 ps (.lst ((ovl w).dropLast.map vi))) ps = some (.lst ((ovl w).dropLast.map vi)) := upd_same
    generalize upd H2 ps (.lst ((ovl w).dropLast.map vi)) = H3 at s3 h3
    refine ⟨Nat.zero_le _, fun pa hpa => ⟨Nat.zero_le _, fun pn hpn => ?_⟩⟩
    have na : ps ≠ pa := ne_of_none h3 hpa
    have nan : pa ≠ pn := by
      rintro rfl
      rw [upd_same] at hpn
      cases hpn
    have hpn3 : H3 pn = none := by rw [upd_ne nan.symm] at hpn; exact hpn
    have nn : ps ≠ pn := ne_of_none h3 hpn3
    have Ha : H pa = none := s3.free hpa
    have Hn : H pn = none := s3.free hpn3
    refine ⟨_, rfl, _, _, rfl, rfl, _, rfl, by (first | lia | omega), by (first | lia | omega), ?_⟩
    rw [show ((m : Int) + 1).toNat = m + 1 by (first | lia | omega)]
    refine for_range (n := m + 1) (fun i σ H4 => ∃ v6 v7, σ = [some (vi q), some (.str (tx w)), some (vi m), some (.ref ps), some (.ref pa), some (.ref pn), v6, v7] ∧ Same H H4 ∧ H4 ps = some (.lst ((ovl w).dropLast.map vi)) ∧ H4 pa = some (.lst ((fT (alpha.take q) w i).map vi)) ∧ H4 pn = some (.lst ((wT (alpha.take q) w i).map vi)))
      ⟨none, none, rfl, (s3.upd Ha).upd Hn, by rw [upd_ne nn, upd_ne na]; exact h3, by rw [upd_ne nan, upd_same]; rfl, by rw [upd_same]; rfl⟩ ?_ ?_
    · rintro i σ H4 hi ⟨v6, v7, rfl, s4, h4s, h4a, h4n⟩
      have e6 : (0 : Int) + (i : Int) = (i : Int) := by (first | lia | omega)
      rw [e6]
      refine ⟨_, rfl, .inl ⟨rfl, _, SqL.of h4a⟩, _, rfl, _, rfl, _, rfl, w, rfl, sz (by (first | lia | omega)), _, rfl, _, rfl, pa, pn, ps, alpha.take q, w, i, rfl, alpha_nodup q, hof, hne, hw, SqL.of h4a, SqL.of h4n, SqL.of h4s, fun H5 s5 => ?_⟩
      have h5a := s5 _ _ h4a
      have h5n := s5 _ _ h4n
      have h5s := s5 _ _ h4s
      refine ⟨pa, _, _, rfl, rfl, h5a, by rw [List.length_map, fT_len]; exact sz' (by (first | lia | omega)), ?_⟩
      have e7 : (fT (alpha.take q) w i).map vi ++ [vi (cntF (alpha.take q) w i)] = (fT (alpha.take q) w (i + 1)).map vi := by rw [fT_succ, List.map_append]; rfl
      rw [e7]
      have s6 : Same H (upd H5 pa (.lst ((fT (alpha.take q) w (i + 1)).map vi))) := (s4.trans s5).upd Ha
      have h6a : (upd H5 pa (.lst ((fT (alpha.take q) w (i + 1)).map vi))) pa = some (.lst ((fT (alpha.take q) w (i + 1)).map vi)) := upd_same
      have h6n : (upd H5 pa (.lst ((fT (alpha.take q) w (i + 1)).map vi))) pn = some (.lst ((wT (alpha.take q) w i).map vi)) := by rw [upd_ne nan.symm]; exact h5n
      have h6s : (upd H5 pa (.lst ((fT (alpha.take q) w (i + 1)).map vi))) ps = some (.lst ((ovl w).dropLast.map vi)) := by rw [upd_ne na]; exact h5s
      generalize upd H5 pa (.lst ((fT (alpha.take q) w (i + 1)).map vi)) = H6 at s6 h6a h6n h6s
      have fin : ∀ x : Int, x - (cntF (alpha.take q) w i : Int) = (cntW (alpha.take q) w i : Int) → (wT (alpha.take q) w i).map vi ++ [V.int (x - (cntF (alpha.take q) w i : Int))] = (wT (alpha.take q) w (i + 1)).map vi := fun x e => by
        rw [e, wT_succ, List.map_append]
        rfl
      refine ⟨_, rfl, _, _, rfl, rfl, _, rfl, ?_⟩
      cases i with
      | zero =>
        rw [decide_eq_false (by show ¬ (0 : Int) < ((0 : Nat) : Int); (first | lia | omega))]
        refine iteF ⟨_, rfl, .inl ⟨rfl, _, SqL.of h6n⟩, _, rfl, _, rfl, _, rfl, pa, _, _, _, rfl, rfl, SqL.of h6a, atI_nat (by rw [List.getElem?_map, fT_get (by (first | lia | omega))]; rfl), _, _, rfl, rfl, pn, _, _, rfl, rfl, h6n, by rw [List.length_map, wT_len]; exact sz' (by (first | lia | omega)), ?_⟩
        have := fin 1 (by rw [cntF_small (List.length_pos_iff.mpr hne), cntW_zero hne]; rfl)
        refine ⟨_, _, rfl, s6.upd Hn, by rw [upd_ne nn]; exact h6s, by rw [upd_ne nan]; exact h6a, by rw [upd_same]; exact congrArg (fun z => some (HO.lst z)) this⟩
      | succ i =>
        rw [decide_eq_true (by show (0 : Int) < ((i + 1 : Nat) : Int); (first | lia | omega))]
        refine iteT ⟨_, rfl, _, rfl, _, rfl, _, _, rfl, rfl, pn, _, _, vi (cntW (alpha.take q) w i), rfl, rfl, SqL.of h6n, ?_, _, _, rfl, rfl, .inl ⟨by (first | lia | omega), by (first | lia | omega)⟩, ?_⟩
        · rw [show ((i + 1 : Nat) : Int) - 1 = (i : Int) by (first | lia | omega)]
          exact atI_nat (by rw [List.getElem?_map, wT_get (by (first | lia | omega))]; rfl)
        · refine ⟨_, rfl, .inl ⟨rfl, _, SqL.of h6n⟩, _, rfl, _, rfl, _, rfl, pa, _, _, _, rfl, rfl, SqL.of h6a, atI_nat (by rw [List.getElem?_map, fT_get (by (first | lia | omega))]; rfl), _, _, rfl, rfl, pn, _, _, rfl, rfl, h6n, by rw [List.length_map, wT_len]; exact sz' (by (first | lia | omega)), ?_⟩
          have st := cnt_step (alpha.take q) w i
          rw [alpha_len h26] at st
          have st' : (q : Int) * (cntW (alpha.take q) w i : Int) = ((cntW (alpha.take q) w (i + 1) + cntF (alpha.take q) w (i + 1) : Nat) : Int) := by rw [← st, Int.natCast_mul]
          have := fin ((q : Int) * (cntW (alpha.take q) w i : Int)) (by rw [st']; (first | lia | omega))
          refine ⟨_, _, rfl, s6.upd Hn, by rw [upd_ne nn]; exact h6s, by rw [upd_ne nan]; exact h6a, by rw [upd_same]; exact congrArg (fun z => some (HO.lst z)) this⟩
    · rintro σ H4 ⟨v6, v7, rfl, s4, h4s, h4a, h4n⟩
      refine ⟨_, rfl, _, rfl, pa, _, _, _, rfl, rfl, SqL.of h4a, atI_nat (by rw [List.getElem?_map, fT_get (by (first | lia | omega))]; rfl), _, rfl, _, rfl, pn, _, _, _, rfl, rfl, SqL.of h4n, atI_nat (by rw [List.getElem?_map, wT_get (by (first | lia | omega))]; rfl), by show 2 ≤ sizeLine; decide, fun p hp => ?_⟩
      exact k p _ (s4.free hp) (s4.upd (s4.free hp)) upd_same
theorem scFi : FnScope ["sides", "word", "many"] ["sides", "word", "many"] (defScope sFirsts) := ⟨rfl, rfl, rfl, by decide +kernel, rfl, by decide +kernel, by decide +kernel⟩
theorem scWo : FnScope ["sides", "word", "many"] ["sides", "word", "many"] (defScope sWithout) := ⟨rfl, rfl, rfl, by decide +kernel, rfl, by decide +kernel, by decide +kernel⟩
theorem ok_without {f fc : Addr} {fd dc : FuncData} (F : Fun K "without" "without" sWithout f fd) (GC : Gf P w K mg base 5 "counted_rows" ["sides", "word", "many"] spCnt fc dc) : FnOk P w K mg base CX0 6 f fd ["sides", "word", "many"] (spOne cntW) := by
  refine F.ok scWo (fun vs H Q E h => ?_) (fun cdv A outer s H vs Q E hr h => ?_)
  · obtain ⟨q, w, m, rfl, _⟩ := h
    rfl
  · obtain ⟨q, w, m, rfl, h2, h26, hne, hw, hof, hm, k⟩ := h
    refine ⟨_, pss_one (ps_ret (pe_ix ix_tup (pe_call GC.ok hr rfl GC.mg GC.kp GC.bd .nil pass0 (pa_cons (pv 0) (pa_cons (pv 1) (pa_cons (pv 2) pa_nil)))) pe_int (fun _ _ => rfl))), ?_⟩
    refine ⟨_, rfl, _, rfl, _, rfl, q, w, m, rfl, h2, h26, hne, hw, hof, hm, fun p H1 hp s1 h1 => ⟨p, _, _, _, rfl, rfl, SqT.of h1, atI_nat (j := 1) rfl, k H1 s1⟩⟩
end
end FW
namespace FW
open PySem L2
/-! ### what refuses -/
/-- a door that refuses with the class at C -/
noncomputable def spNo (C : Addr) (bad : List V → Hp → Prop) : Sp := fun vs H _ E => bad vs H ∧ ∀ H', Same H H' → E (.ref C) none H'
/-- a def of the text that may raise -/
structure Gx (P : Program) (w : World) (K : PySem.W.Frag) (mg : Str → Option Value) (base : Heap) (k : Nat) (x : Str) (ps : List Str) (sp : Sp) (f : Addr) (fd : FuncData) : Prop where
  ok : FnOk P w K mg base (CX1 P w base) k f fd ps sp
  mg : mg x = some (.ref f)
  kp : PySem.W.keepIn K (.ref f) = true
  bd : Binds K fd ps []
theorem Gx.imp {P : Program} {w : World} {K : PySem.W.Frag} {mg : Str → Option Value} {base : Heap} {j k : Nat} {x : Str} {ps : List Str} {C : Addr} {bad bad' : List V → Hp → Prop} {f : Addr} {fd : FuncData} (G : Gx P w K mg base j x ps (spNo C bad) f fd) (hk : j ≤ k)
    (h : ∀ vs H, bad' vs H → bad vs H) : Gx P w K mg base k x ps (spNo C bad') f fd := ⟨(G.ok.mono hk).imp fun vs H Q E z => ⟨h vs H z.1, z.2⟩, G.mg, G.kp, G.bd⟩
end FW
namespace FW
open PySem L2
/-! ### firstword.checks: refusals -/
/-- no sides -/
noncomputable def badS (v : V) (H : Hp) : Prop := v = .non ∨ (∃ n : Int, v = .int n ∧ (n < 2 ∨ 26 < n)) ∨ v = .bl true ∨ v = .str (tx [50]) ∨ ∃ p xs, v = .ref p ∧ H p = some (.lst xs)
/-- no word of so many sides -/
noncomputable def badWq (q : Nat) (v : V) (H : Hp) : Prop := v = .non ∨ (∃ n, v = .int n) ∨ (∃ l : List Nat, v = .str (tx l) ∧ l.length ≤ 10000 ∧ (l = [] ∨ thB q l = false)) ∨ ∃ p xs, v = .ref p ∧ H p = some (.lst xs)
noncomputable def badTq (q : Nat) (v : V) (H : Hp) : Prop := v = .non ∨ (∃ n, v = .int n) ∨ (∃ l : List Nat, v = .str (tx l) ∧ l.length ≤ 10000 ∧ thB q l = false) ∨ ∃ p xs, v = .ref p ∧ H p = some (.lst xs)
noncomputable def badM (v : V) (H : Hp) : Prop := v = .non ∨ (∃ n : Int, v = .int n ∧ (n < 0 ∨ 300 < n)) ∨ v = .bl true ∨ (∃ x, v = .str x) ∨ (∃ p xs, v = .ref p ∧ H p = some (.lst xs)) ∨ ∃ p xs, v = .ref p ∧ H p = some (.tup xs)
theorem kit_types (K : PySem.W.Frag) : (PySem.W.kitOne K (.type "NoneType") (.type "int") = some false ∧ PySem.W.kitOne K (.type "NoneType") (.type "bool") = some false ∧ PySem.W.kitOne K (.type "NoneType") (.type "str") = some false) ∧
    (PySem.W.kitOne K (.type "str") (.type "int") = some false ∧ PySem.W.kitOne K (.type "str") (.type "bool") = some false) ∧ (PySem.W.kitOne K (.type "list") (.type "int") = some false ∧ PySem.W.kitOne K (.type "list") (.type "bool") = some false ∧ PySem.W.kitOne K (.type "list") (.type "str") = some false) ∧
    (PySem.W.kitOne K (.type "tuple") (.type "int") = some false ∧ PySem.W.kitOne K (.type "tuple") (.type "bool") = some false) ∧ (PySem.W.kitOne K (.type "bool") (.type "int") = some true ∧ PySem.W.kitOne K (.type "bool") (.type "bool") = some true) ∧ PySem.W.kitOne K (.type "int") (.type "str") = some false := by
  refine ⟨⟨?_, ?_, ?_⟩, ⟨?_, ?_⟩, ⟨?_, ?_, ?_⟩, ⟨?_, ?_⟩, ⟨?_, ?_⟩, ?_⟩ <;> first | rfl | (unfold PySem.W.kitOne; rw [if_neg (by decide)]; rfl) | (unfold PySem.W.kitOne; rw [if_pos (by decide)]) | (unfold PySem.W.kitOne; rw [if_neg (by decide)]; with_unfolding_all rfl)
section
variable {P : Program} {w : World} {K : PySem.W.Frag} {mg : Str → Option Value} {base : Heap}
theorem no_chs {f fL C : Addr} {fd fdL : FuncData} (F : Fun K "check_sides" "check_sides" sChS f fd) (GW : Gf P w K mg base 1 "is_whole" ["thing"] (spWho K) fL fdL) (G1 : Gv mg "LEAST_SIDES" (.int 2)) (G2 : Gv mg "MOST_SIDES" (.int 26)) (X : ExcCl K mg "BadSides" C) :
    FnOk P w K mg base (CX1 P w base) 2 f fd ["sides"] (spNo C fun vs H => ∃ v, vs = [v] ∧ badS v H) := by
  obtain ⟨u1, m1, r1⟩ := G1
  obtain ⟨u2, m2, r2⟩ := G2
  obtain ⟨⟨n1, n2, _⟩, ⟨t1, t2⟩, ⟨l1, l2, _⟩, _, ⟨b1, b2⟩, _⟩ := kit_types K
  refine F.ok1 scChS (fun vs H Q E h => ?_) (fun cdv A outer s H vs Q E hr h => ?_)
  · obtain ⟨⟨v, rfl, _⟩, _⟩ := h
    rfl
  · obtain ⟨⟨v, rfl, hv⟩, k⟩ := h
    refine ⟨_, pss_one (ps_if (PW.pt (pw_or (pt_not (pt_val (pe_call GW.ok hr rfl GW.mg GW.kp GW.bd .nil pass0 (pa_cons (pv 0) pa_nil))))
      (pw_or1 (pt_not (pt_chain op_le op_le (pe_glob rfl m1 r1) (pv 0) (pe_glob rfl m2 r2)))))) (pss_one (ps_raise1 X rfl (pa_cons pe_str pa_nil))) pss_nil), ?_⟩
    have fin : ∀ x : Str, [V.str x].length ≤ sizeLine ∧ E (.ref C) none H := fun x => ⟨by show 1 ≤ sizeLine; decide, k H (Same.refl _)⟩
    rcases hv with rfl | ⟨n, rfl, hn⟩ | rfl | rfl | ⟨p, xs, rfl, hp⟩
    · exact ⟨_, rfl, _, _, _, _, rfl, .non, n1, n2, _, rfl, iteT (fin _)⟩
    · refine ⟨_, rfl, _, _, _, _, rfl, .int _, kit_int K, kit_int_bool K, _, rfl, iteF ?_⟩
      refine ⟨_, rfl, _, _, rfl, rfl, _, rfl, ?_⟩
      by_cases h2 : 2 ≤ n
      · rw [decide_eq_true h2]
        refine iteT ⟨_, _, rfl, rfl, _, rfl, ?_⟩
        rw [decide_eq_false (by (first | lia | omega))]
        exact iteT (fin _)
      · rw [decide_eq_false h2]
        exact iteF ⟨_, rfl, iteT (fin _)⟩
    · exact ⟨_, rfl, _, _, _, _, rfl, .bl _, b1, b2, _, rfl, iteT (fin _)⟩
    · exact ⟨_, rfl, _, _, _, _, rfl, .str _, t1, t2, _, rfl, iteT (fin _)⟩
    · exact ⟨_, rfl, _, _, _, _, rfl, .lst hp, l1, l2, _, rfl, iteT (fin _)⟩
theorem no_chw {f fL C : Addr} {fd fdL : FuncData} (F : Fun K "check_word" "check_word" sChW f fd) (GW : Gf P w K mg base 2 "is_word" ["sides", "thing"] (spIsW K) fL fdL) (X : ExcCl K mg "BadWord" C) :
    FnOk P w K mg base (CX1 P w base) 3 f fd ["sides", "word"] (spNo C fun vs H => ∃ (q : Nat) (v : V), vs = [vi q, v] ∧ 2 ≤ q ∧ q ≤ 26 ∧ badWq q v H) := by
  obtain ⟨⟨_, _, n3⟩, _, ⟨_, _, l3⟩, _, _, i3⟩ := kit_types K
  refine F.ok1 scChW (fun vs H Q E h => ?_) (fun cdv A outer s H vs Q E hr h => ?_)
  · obtain ⟨⟨q, v, rfl, _⟩, _⟩ := h
    rfl
  · obtain ⟨⟨q, v, rfl, h2, h26, hv⟩, k⟩ := h
    refine ⟨_, pss_one (ps_if (pt_not (pt_val (pe_call GW.ok hr rfl GW.mg GW.kp GW.bd .nil pass0 (pa_cons (pv 0) (pa_cons (pv 1) pa_nil))))) (pss_one (ps_raise1 X rfl (pa_cons pe_str pa_nil))) pss_nil), ?_⟩
    have fin : ∀ (x : Str) H', Same H H' → [V.str x].length ≤ sizeLine ∧ E (.ref C) none H' := fun x H' s' => ⟨by show 1 ≤ sizeLine; decide, k H' s'⟩
    rcases hv with rfl | ⟨n, rfl⟩ | ⟨l, rfl, hl, hb⟩ | ⟨p, xs, rfl, hp⟩
    · exact ⟨_, rfl, _, rfl, q, _, rfl, h2, h26, .inr ⟨_, .non, n3, _, rfl, iteT (fin _ _ (Same.refl _))⟩⟩
    · exact ⟨_, rfl, _, rfl, q, _, rfl, h2, h26, .inr ⟨_, .int _, i3, _, rfl, iteT (fin _ _ (Same.refl _))⟩⟩
    · refine ⟨_, rfl, _, rfl, q, _, rfl, h2, h26, .inl ⟨l, rfl, hl, fun H1 s1 => ⟨_, rfl, ?_⟩⟩⟩
      have e : (thB q l && decide (l ≠ [])) = false := by
        rcases hb with rfl | hb
        · simp
        · rw [hb]; rfl
      rw [e]
      exact iteT (fin _ H1 s1)
    · exact ⟨_, rfl, _, rfl, q, _, rfl, h2, h26, .inr ⟨_, .lst hp, l3, _, rfl, iteT (fin _ _ (Same.refl _))⟩⟩
theorem no_cht {f fL C : Addr} {fd fdL : FuncData} (F : Fun K "check_throws" "check_throws" sChT f fd) (GT : Gf P w K mg base 1 "is_throws" ["sides", "thing"] (spThr K) fL fdL) (X : ExcCl K mg "BadThrows" C) :
    FnOk P w K mg base (CX1 P w base) 2 f fd ["sides", "throws"] (spNo C fun vs H => ∃ (q : Nat) (v : V), vs = [vi q, v] ∧ 2 ≤ q ∧ q ≤ 26 ∧ badTq q v H) := by
  obtain ⟨⟨_, _, n3⟩, _, ⟨_, _, l3⟩, _, _, i3⟩ := kit_types K
  refine F.ok1 scChT (fun vs H Q E h => ?_) (fun cdv A outer s H vs Q E hr h => ?_)
  · obtain ⟨⟨q, v, rfl, _⟩, _⟩ := h
    rfl
  · obtain ⟨⟨q, v, rfl, h2, h26, hv⟩, k⟩ := h
    refine ⟨_, pss_one (ps_if (pt_not (pt_val (pe_call GT.ok hr rfl GT.mg GT.kp GT.bd .nil pass0 (pa_cons (pv 0) (pa_cons (pv 1) pa_nil))))) (pss_one (ps_raise1 X rfl (pa_cons pe_str pa_nil))) pss_nil), ?_⟩
    have fin : ∀ (x : Str) H', Same H H' → [V.str x].length ≤ sizeLine ∧ E (.ref C) none H' := fun x H' s' => ⟨by show 1 ≤ sizeLine; decide, k H' s'⟩
    rcases hv with rfl | ⟨n, rfl⟩ | ⟨l, rfl, hl, hb⟩ | ⟨p, xs, rfl, hp⟩
    · exact ⟨_, rfl, _, rfl, q, _, rfl, h2, h26, .inr ⟨_, .non, n3, _, rfl, iteT (fin _ _ (Same.refl _))⟩⟩
    · exact ⟨_, rfl, _, rfl, q, _, rfl, h2, h26, .inr ⟨_, .int _, i3, _, rfl, iteT (fin _ _ (Same.refl _))⟩⟩
    · refine ⟨_, rfl, _, rfl, q, _, rfl, h2, h26, .inl ⟨l, rfl, hl, fun H1 s1 => ⟨_, rfl, ?_⟩⟩⟩
      rw [hb]
      exact iteT (fin _ H1 s1)
    · exact ⟨_, rfl, _, rfl, q, _, rfl, h2, h26, .inr ⟨_, .lst hp, l3, _, rfl, iteT (fin _ _ (Same.refl _))⟩⟩
theorem no_chm {f fL C : Addr} {fd fdL : FuncData} (F : Fun K "check_many" "check_many" sChM f fd) (GW : Gf P w K mg base 1 "is_whole" ["thing"] (spWho K) fL fdL) (G2 : Gv mg "MOST_MANY" (.int 300)) (X : ExcCl K mg "BadMany" C) :
    FnOk P w K mg base (CX1 P w base) 2 f fd ["many"] (spNo C fun vs H => ∃ v, vs = [v] ∧ badM v H) := by
  obtain ⟨u2, m2, r2⟩ := G2
  obtain ⟨⟨n1, n2, _⟩, ⟨t1, t2⟩, ⟨l1, l2, _⟩, ⟨u1', u2'⟩, ⟨b1, b2⟩, _⟩ := kit_types K
  refine F.ok1 scChM (fun vs H Q E h => ?_) (fun cdv A outer s H vs Q E hr h => ?_)
  · obtain ⟨⟨v, rfl, _⟩, _⟩ := h
    rfl
  · obtain ⟨⟨v, rfl, hv⟩, k⟩ := h
    refine ⟨_, pss_one (ps_if (PW.pt (pw_or (pt_not (pt_val (pe_call GW.ok hr rfl GW.mg GW.kp GW.bd .nil pass0 (pa_cons (pv 0) pa_nil))))
      (pw_or1 (pt_not (pt_chain op_le op_le pe_int (pv 0) (pe_glob rfl m2 r2)))))) (pss_one (ps_raise1 X rfl (pa_cons pe_str pa_nil))) pss_nil), ?_⟩
    have fin : ∀ x : Str, [V.str x].length ≤ sizeLine ∧ E (.ref C) none H := fun x => ⟨by show 1 ≤ sizeLine; decide, k H (Same.refl _)⟩
    rcases hv with rfl | ⟨n, rfl, hn⟩ | rfl | ⟨x, rfl⟩ | ⟨p, xs, rfl, hp⟩ | ⟨p, xs, rfl, hp⟩
    · exact ⟨_, rfl, _, _, _, _, rfl, .non, n1, n2, _, rfl, iteT (fin _)⟩
    · refine ⟨_, rfl, _, _, _, _, rfl, .int _, kit_int K, kit_int_bool K, _, rfl, iteF ?_⟩
      refine ⟨_, rfl, _, _, rfl, rfl, _, rfl, ?_⟩
      by_cases h2 : 0 ≤ n
      · rw [decide_eq_true h2]
        refine iteT ⟨_, _, rfl, rfl, _, rfl, ?_⟩
        rw [decide_eq_false (by (first | lia | omega))]
        exact iteT (fin _)
      · rw [decide_eq_false h2]
        exact iteF ⟨_, rfl, iteT (fin _)⟩
    · exact ⟨_, rfl, _, _, _, _, rfl, .bl _, b1, b2, _, rfl, iteT (fin _)⟩
    · exact ⟨_, rfl, _, _, _, _, rfl, .str _, t1, t2, _, rfl, iteT (fin _)⟩
    · exact ⟨_, rfl, _, _, _, _, rfl, .lst hp, l1, l2, _, rfl, iteT (fin _)⟩
    · exact ⟨_, rfl, _, _, _, _, rfl, .tup hp, u1', u2', _, rfl, iteT (fin _)⟩
end
end FW
namespace FW
open PySem L2
/-! ### refusals at the doors -/
noncomputable def okW (q : Nat) (l : List Nat) : Prop := 2 ≤ q ∧ q ≤ 26 ∧ l.length ≤ 9000 ∧ (∀ c ∈ l, c ∈ alpha.take q) ∧ l ≠ []
noncomputable def bWord : List V → Hp → Prop := fun vs H => ∃ v, vs = [v] ∧ badWq 26 v H
noncomputable def bWordT : List V → Hp → Prop := fun vs H => ∃ v x, vs = [v, x] ∧ badWq 26 v H
noncomputable def bThrows : List V → Hp → Prop := fun vs H => ∃ l v, vs = [.str (tx l), v] ∧ okW 26 l ∧ badTq 26 v H
noncomputable def bSides2 : List V → Hp → Prop := fun vs H => ∃ v x, vs = [v, x] ∧ badS v H
noncomputable def bSides3 : List V → Hp → Prop := fun vs H => ∃ v x y, vs = [v, x, y] ∧ badS v H
noncomputable def bWord2 : List V → Hp → Prop := fun vs H => ∃ (q : Nat) (v : V), vs = [vi q, v] ∧ 2 ≤ q ∧ q ≤ 26 ∧ badWq q v H
noncomputable def bWord3 : List V → Hp → Prop := fun vs H => ∃ (q : Nat) (v x : V), vs = [vi q, v, x] ∧ 2 ≤ q ∧ q ≤ 26 ∧ badWq q v H
noncomputable def bOther : List V → Hp → Prop := fun vs H => ∃ (q : Nat) (l : List Nat) (v : V), vs = [vi q, .str (tx l), v] ∧ okW q l ∧ badWq q v H
noncomputable def bMany : List V → Hp → Prop := fun vs H => ∃ (q : Nat) (l : List Nat) (v : V), vs = [vi q, .str (tx l), v] ∧ okW q l ∧ badM v H
noncomputable def bWithin : List V → Hp → Prop := fun vs _ => ∃ (q : Nat) (a b : List Nat), vs = [vi q, .str (tx a), .str (tx b)] ∧ okW q a ∧ okW q b ∧ (a <:+: b ∨ b <:+: a)
noncomputable def bCoin : List V → Hp → Prop := fun vs H => ∃ v, vs = [v] ∧ badWq 2 v H
noncomputable def bShort : List V → Hp → Prop := fun vs _ => ∃ l, vs = [.str (tx l)] ∧ okW 2 l ∧ l.length < 3
noncomputable abbrev sbS : List V → Hp → Prop := fun vs H => ∃ v, vs = [v] ∧ badS v H
noncomputable abbrev sbW : List V → Hp → Prop := fun vs H => ∃ (q : Nat) (v : V), vs = [vi q, v] ∧ 2 ≤ q ∧ q ≤ 26 ∧ badWq q v H
noncomputable abbrev sbT : List V → Hp → Prop := fun vs H => ∃ (q : Nat) (v : V), vs = [vi q, v] ∧ 2 ≤ q ∧ q ≤ 26 ∧ badTq q v H
noncomputable abbrev sbM : List V → Hp → Prop := fun vs H => ∃ v, vs = [v] ∧ badM v H
section
variable {P : Program} {w : World} {K : PySem.W.Frag} {mg : Str → Option Value} {base : Heap} {f f1 f2 f3 C : Addr} {fd d1 d2 d3 : FuncData}
theorem no_ov (F : Fun K "overlaps" "overlaps" sOv f fd) (GM : Gv mg "MOST_SIDES" (.int 26)) (XW : Gx P w K mg base 3 "check_word" ["sides", "word"] (spNo C sbW) f1 d1) : FnOk P w K mg base (CX1 P w base) 4 f fd ["word"] (spNo C bWord) := by
  obtain ⟨uM, mM, rM⟩ := GM
  refine F.ok1 scOv (fun vs H Q E h => ?_) (fun cdv A outer s H vs Q E hr h => ?_)
  · obtain ⟨⟨v, rfl, _⟩, _⟩ := h
    rfl
  · obtain ⟨⟨v, rfl, hv⟩, k⟩ := h
    exact ⟨_, pss_cons (ps_expr (pe_call XW.ok hr rfl XW.mg XW.kp XW.bd .nil pass1 (pa_cons (pe_glob rfl mM rM) (pa_cons (pv 0) pa_nil)))) pss_never, _, rfl, ⟨26, v, rfl, by decide, by decide, hv⟩, k⟩
theorem no_stW (F : Fun K "stands" "stands" sSt f fd) (GM : Gv mg "MOST_SIDES" (.int 26)) (XW : Gx P w K mg base 3 "check_word" ["sides", "word"] (spNo C sbW) f1 d1) : FnOk P w K mg base (CX1 P w base) 4 f fd ["word", "throws"] (spNo C bWordT) := by
  obtain ⟨uM, mM, rM⟩ := GM
  refine F.ok1 scSt (fun vs H Q E h => ?_) (fun cdv A outer s H vs Q E hr h => ?_)
  · obtain ⟨⟨v, x, rfl, _⟩, _⟩ := h
    rfl
  · obtain ⟨⟨v, x, rfl, hv⟩, k⟩ := h
    exact ⟨_, pss_cons (ps_expr (pe_call XW.ok hr rfl XW.mg XW.kp XW.bd .nil pass1 (pa_cons (pe_glob rfl mM rM) (pa_cons (pv 0) pa_nil)))) pss_never, _, rfl, ⟨26, v, rfl, by decide, by decide, hv⟩, k⟩
theorem no_enW (F : Fun K "ends" "ends" sEn f fd) (GM : Gv mg "MOST_SIDES" (.int 26)) (XW : Gx P w K mg base 3 "check_word" ["sides", "word"] (spNo C sbW) f1 d1) : FnOk P w K mg base (CX1 P w base) 4 f fd ["word", "throws"] (spNo C bWordT) := by
  obtain ⟨uM, mM, rM⟩ := GM
  refine F.ok1 scEn (fun vs H Q E h => ?_) (fun cdv A outer s H vs Q E hr h => ?_)
  · obtain ⟨⟨v, x, rfl, _⟩, _⟩ := h
    rfl
  · obtain ⟨⟨v, x, rfl, hv⟩, k⟩ := h
    exact ⟨_, pss_cons (ps_expr (pe_call XW.ok hr rfl XW.mg XW.kp XW.bd .nil pass1 (pa_cons (pe_glob rfl mM rM) (pa_cons (pv 0) pa_nil)))) pss_never, _, rfl, ⟨26, v, rfl, by decide, by decide, hv⟩, k⟩
theorem no_stT (F : Fun K "stands" "stands" sSt f fd) (GM : Gv mg "MOST_SIDES" (.int 26)) (GW : Gf P w K mg base 3 "check_word" ["sides", "word"] spChW f1 d1) (XT : Gx P w K mg base 2 "check_throws" ["sides", "throws"] (spNo C sbT) f2 d2) : FnOk P w K mg base (CX1 P w base) 4 f fd ["word", "throws"] (spNo C bThrows) := by
  obtain ⟨uM, mM, rM⟩ := GM
  refine F.ok1 scSt (fun vs H Q E h => ?_) (fun cdv A outer s H vs Q E hr h => ?_)
  · obtain ⟨⟨l, v, rfl, _⟩, _⟩ := h
    rfl
  · obtain ⟨⟨l, v, rfl, ⟨_, _, hl, ho, hn⟩, hv⟩, k⟩ := h
    refine ⟨_, pss_cons (ps_expr (pe_call GW.ok hr rfl GW.mg GW.kp GW.bd .nil pass0 (pa_cons (pe_glob rfl mM rM) (pa_cons (pv 0) pa_nil)))) (pss_cons (ps_expr (pe_call XT.ok (hr.mono (by decide)) rfl XT.mg XT.kp XT.bd .nil pass1 (pa_cons (pe_glob rfl mM rM) (pa_cons (pv 1) pa_nil)))) pss_never), ?_⟩
    refine ⟨_, rfl, 26, l, rfl, by decide, by decide, by (first | lia | omega), ho, hn, fun H1 s1 => ?_⟩
    refine ⟨_, rfl, ⟨26, v, rfl, by decide, by decide, ?_⟩, fun H' s' => k H' (s1.trans s')⟩
    rcases hv with h | h | h | ⟨p, xs, h, hp⟩
    · exact .inl h
    · exact .inr (.inl h)
    · exact .inr (.inr (.inl h))
    · exact .inr (.inr (.inr ⟨p, xs, h, s1 _ _ hp⟩))
theorem no_enT (F : Fun K "ends" "ends" sEn f fd) (GM : Gv mg "MOST_SIDES" (.int 26)) (GW : Gf P w K mg base 3 "check_word" ["sides", "word"] spChW f1 d1) (XT : Gx P w K mg base 2 "check_throws" ["sides", "throws"] (spNo C sbT) f2 d2) : FnOk P w K mg base (CX1 P w base) 4 f fd ["word", "throws"] (spNo C bThrows) := by
  obtain ⟨uM, mM, rM⟩ := GM
  refine F.ok1 scEn (fun vs H Q E h => ?_) (fun cdv A outer s H vs Q E hr h => ?_)
  · obtain ⟨⟨l, v, rfl, _⟩, _⟩ := h
    rfl
  · obtain ⟨⟨l, v, rfl, ⟨_, _, hl, ho, hn⟩, hv⟩, k⟩ := h
    refine ⟨_, pss_cons (ps_expr (pe_call GW.ok hr rfl GW.mg GW.kp GW.bd .nil pass0 (pa_cons (pe_glob rfl mM rM) (pa_cons (pv 0) pa_nil)))) (pss_cons (ps_expr (pe_call XT.ok (hr.mono (by decide)) rfl XT.mg XT.kp XT.bd .nil pass1 (pa_cons (pe_glob rfl mM rM) (pa_cons (pv 1) pa_nil)))) pss_never), ?_⟩
    refine ⟨_, rfl, 26, l, rfl, by decide, by decide, by (first | lia | omega), ho, hn, fun H1 s1 => ?_⟩
    refine ⟨_, rfl, ⟨26, v, rfl, by decide, by decide, ?_⟩, fun H' s' => k H' (s1.trans s')⟩
    rcases hv with h | h | h | ⟨p, xs, h, hp⟩
    · exact .inl h
    · exact .inr (.inl h)
    · exact .inr (.inr (.inl h))
    · exact .inr (.inr (.inr ⟨p, xs, h, s1 _ _ hp⟩))
theorem badWq.same {q : Nat} {v : V} {H H' : Hp} (h : badWq q v H) (s : Same H H') : badWq q v H' := by
  rcases h with h | h | h | ⟨p, xs, h, hp⟩
  · exact .inl h
  · exact .inr (.inl h)
  · exact .inr (.inr (.inl h))
  · exact .inr (.inr (.inr ⟨p, xs, h, s _ _ hp⟩))
theorem badM.same {v : V} {H H' : Hp} (h : badM v H) (s : Same H H') : badM v H' := by
  rcases h with h | h | h | h | ⟨p, xs, h, hp⟩ | ⟨p, xs, h, hp⟩
  · exact .inl h
  · exact .inr (.inl h)
  · exact .inr (.inr (.inl h))
  · exact .inr (.inr (.inr (.inl h)))
  · exact .inr (.inr (.inr (.inr (.inl ⟨p, xs, h, s _ _ hp⟩))))
  · exact .inr (.inr (.inr (.inr (.inr ⟨p, xs, h, s _ _ hp⟩))))
theorem no_waitsS (F : Fun K "waits" "waits" sWaits f fd) (XS : Gx P w K mg base 2 "check_sides" ["sides"] (spNo C sbS) f1 d1) : FnOk P w K mg base (CX1 P w base) 4 f fd ["sides", "word"] (spNo C bSides2) := by
  refine F.ok1 scWaits (fun vs H Q E h => ?_) (fun cdv A outer s H vs Q E hr h => ?_)
  · obtain ⟨⟨v, x, rfl, _⟩, _⟩ := h
    rfl
  · obtain ⟨⟨v, x, rfl, hv⟩, k⟩ := h
    exact ⟨_, pss_cons (ps_expr (pe_call XS.ok (hr.mono (by decide)) rfl XS.mg XS.kp XS.bd .nil pass1 (pa_cons (pv 0) pa_nil))) pss_never, _, rfl, ⟨v, rfl, hv⟩, k⟩
theorem no_waitsW (F : Fun K "waits" "waits" sWaits f fd) (GS : Gf P w K mg base 2 "check_sides" ["sides"] spChS f1 d1) (XW : Gx P w K mg base 3 "check_word" ["sides", "word"] (spNo C sbW) f2 d2) : FnOk P w K mg base (CX1 P w base) 4 f fd ["sides", "word"] (spNo C bWord2) := by
  refine F.ok1 scWaits (fun vs H Q E h => ?_) (fun cdv A outer s H vs Q E hr h => ?_)
  · obtain ⟨⟨q, v, rfl, _⟩, _⟩ := h
    rfl
  · obtain ⟨⟨q, v, rfl, h2, h26, hv⟩, k⟩ := h
    exact ⟨_, pss_cons (ps_expr (pe_call GS.ok (hr.mono (by decide)) rfl GS.mg GS.kp GS.bd .nil pass0 (pa_cons (pv 0) pa_nil))) (pss_cons (ps_expr (pe_call XW.ok hr rfl XW.mg XW.kp XW.bd .nil pass1 (pa_cons (pv 0) (pa_cons (pv 1) pa_nil)))) pss_never),
      _, rfl, q, rfl, h2, h26, _, rfl, _, rfl, ⟨q, v, rfl, h2, h26, hv⟩, k⟩
theorem no_cntS (F : Fun K "counted_rows" "counted_rows" sCnt f fd) (XS : Gx P w K mg base 2 "check_sides" ["sides"] (spNo C sbS) f1 d1) : FnOk P w K mg base (CX1 P w base) 4 f fd ["sides", "word", "many"] (spNo C bSides3) := by
  refine F.ok1 scCnt (fun vs H Q E h => ?_) (fun cdv A outer s H vs Q E hr h => ?_)
  · obtain ⟨⟨v, x, y, rfl, _⟩, _⟩ := h
    rfl
  · obtain ⟨⟨v, x, y, rfl, hv⟩, k⟩ := h
    exact ⟨_, pss_cons (ps_expr (pe_call XS.ok (hr.mono (by decide)) rfl XS.mg XS.kp XS.bd .nil pass1 (pa_cons (pv 0) pa_nil))) pss_never, _, rfl, ⟨v, rfl, hv⟩, k⟩
theorem no_cntW (F : Fun K "counted_rows" "counted_rows" sCnt f fd) (GS : Gf P w K mg base 2 "check_sides" ["sides"] spChS f1 d1) (XW : Gx P w K mg base 3 "check_word" ["sides", "word"] (spNo C sbW) f2 d2) : FnOk P w K mg base (CX1 P w base) 4 f fd ["sides", "word", "many"] (spNo C bWord3) := by
  refine F.ok1 scCnt (fun vs H Q E h => ?_) (fun cdv A outer s H vs Q E hr h => ?_)
  · obtain ⟨⟨q, v, x, rfl, _⟩, _⟩ := h
    rfl
  · obtain ⟨⟨q, v, x, rfl, h2, h26, hv⟩, k⟩ := h
    exact ⟨_, pss_cons (ps_expr (pe_call GS.ok (hr.mono (by decide)) rfl GS.mg GS.kp GS.bd .nil pass0 (pa_cons (pv 0) pa_nil))) (pss_cons (ps_expr (pe_call XW.ok hr rfl XW.mg XW.kp XW.bd .nil pass1 (pa_cons (pv 0) (pa_cons (pv 1) pa_nil)))) pss_never),
      _, rfl, q, rfl, h2, h26, _, rfl, _, rfl, ⟨q, v, rfl, h2, h26, hv⟩, k⟩
theorem no_cntM (F : Fun K "counted_rows" "counted_rows" sCnt f fd) (GS : Gf P w K mg base 2 "check_sides" ["sides"] spChS f1 d1) (GW : Gf P w K mg base 3 "check_word" ["sides", "word"] spChW f2 d2) (XM : Gx P w K mg base 2 "check_many" ["many"] (spNo C sbM) f3 d3) : FnOk P w K mg base (CX1 P w base) 4 f fd ["sides", "word", "many"] (spNo C bMany) := by
  refine F.ok1 scCnt (fun vs H Q E h => ?_) (fun cdv A outer s H vs Q E hr h => ?_)
  · obtain ⟨⟨q, l, v, rfl, _⟩, _⟩ := h
    rfl
  · obtain ⟨⟨q, l, v, rfl, ⟨h2, h26, hl, ho, hn⟩, hv⟩, k⟩ := h
    refine ⟨_, pss_cons (ps_expr (pe_call GS.ok (hr.mono (by decide)) rfl GS.mg GS.kp GS.bd .nil pass0 (pa_cons (pv 0) pa_nil))) (pss_cons (ps_expr (pe_call GW.ok hr rfl GW.mg GW.kp GW.bd .nil pass0 (pa_cons (pv 0) (pa_cons (pv 1) pa_nil))))
      (pss_cons (ps_expr (pe_call XM.ok (hr.mono (by decide)) rfl XM.mg XM.kp XM.bd .nil pass1 (pa_cons (pv 2) pa_nil))) pss_never)), ?_⟩
    exact ⟨_, rfl, q, rfl, h2, h26, _, rfl, _, rfl, q, l, rfl, h2, h26, by (first | lia | omega), ho, hn, fun H1 s1 => ⟨_, rfl, ⟨v, rfl, hv.same s1⟩, fun H' s' => k H' (s1.trans s')⟩⟩
theorem no_firsts {bad : List V → Hp → Prop} (hb : ∀ vs H, bad vs H → ∃ x y z, vs = [x, y, z]) (F : Fun K "firsts" "firsts" sFirsts f fd) (XC : Gx P w K mg base 4 "counted_rows" ["sides", "word", "many"] (spNo C bad) f1 d1) : FnOk P w K mg base (CX1 P w base) 5 f fd ["sides", "word", "many"] (spNo C bad) := by
  refine F.ok1 scFi (fun vs H Q E h => ?_) (fun cdv A outer s H vs Q E hr h => ?_)
  · obtain ⟨x, y, z, rfl⟩ := hb _ _ h.1
    rfl
  · obtain ⟨x, y, z, rfl⟩ := hb _ _ h.1
    exact ⟨_, pss_one (ps_ret (pe_ix ix_tup (pe_call XC.ok hr rfl XC.mg XC.kp XC.bd .nil pass1 (pa_cons (pv 0) (pa_cons (pv 1) (pa_cons (pv 2) pa_nil)))) pe_int (fun _ _ => rfl))), _, rfl, _, rfl, _, rfl, h.1, h.2⟩
theorem no_without {bad : List V → Hp → Prop} (hb : ∀ vs H, bad vs H → ∃ x y z, vs = [x, y, z]) (F : Fun K "without" "without" sWithout f fd) (XC : Gx P w K mg base 4 "counted_rows" ["sides", "word", "many"] (spNo C bad) f1 d1) : FnOk P w K mg base (CX1 P w base) 5 f fd ["sides", "word", "many"] (spNo C bad) := by
  refine F.ok1 scWo (fun vs H Q E h => ?_) (fun cdv A outer s H vs Q E hr h => ?_)
  · obtain ⟨x, y, z, rfl⟩ := hb _ _ h.1
    rfl
  · obtain ⟨x, y, z, rfl⟩ := hb _ _ h.1
    exact ⟨_, pss_one (ps_ret (pe_ix ix_tup (pe_call XC.ok hr rfl XC.mg XC.kp XC.bd .nil pass1 (pa_cons (pv 0) (pa_cons (pv 1) (pa_cons (pv 2) pa_nil)))) pe_int (fun _ _ => rfl))), _, rfl, _, rfl, _, rfl, h.1, h.2⟩
end
end FW
namespace FW
open PySem L2
/-! ### refusals of race and likelier -/
section
variable {P : Program} {w : World} {K : PySem.W.Frag} {mg : Str → Option Value} {base : Heap} {f f1 f2 f3 C : Addr} {fd d1 d2 d3 : FuncData}
noncomputable abbrev NRf : List Str := ["sides", "one", "other", "margins", "throws", "count", "margin", "parts"]
theorem scRaceF : FnScope NRf ["sides", "one", "other"] (defScope sRaceF) := ⟨rfl, rfl, rfl, by decide +kernel, rfl, by decide +kernel, by decide +kernel⟩
theorem no_raceS (F : Fun K "race" "race" sRaceF f fd) (XS : Gx P w K mg base 2 "check_sides" ["sides"] (spNo C sbS) f1 d1) : FnOk P w K mg base (CX1 P w base) 4 f fd ["sides", "one", "other"] (spNo C bSides3) := by
  refine F.ok1 scRaceF (fun vs H Q E h => ?_) (fun cdv A outer s H vs Q E hr h => ?_)
  · obtain ⟨⟨v, x, y, rfl, _⟩, _⟩ := h
    rfl
  · obtain ⟨⟨v, x, y, rfl, hv⟩, k⟩ := h
    exact ⟨_, pss_cons (ps_expr (pe_call XS.ok (hr.mono (by decide)) rfl XS.mg XS.kp XS.bd .nil pass1 (pa_cons (pv 0) pa_nil))) pss_never, _, rfl, ⟨v, rfl, hv⟩, k⟩
theorem no_raceW (F : Fun K "race" "race" sRaceF f fd) (GS : Gf P w K mg base 2 "check_sides" ["sides"] spChS f1 d1) (XW : Gx P w K mg base 3 "check_word" ["sides", "word"] (spNo C sbW) f2 d2) : FnOk P w K mg base (CX1 P w base) 4 f fd ["sides", "one", "other"] (spNo C bWord3) := by
  refine F.ok1 scRaceF (fun vs H Q E h => ?_) (fun cdv A outer s H vs Q E hr h => ?_)
  · obtain ⟨⟨q, v, x, rfl, _⟩, _⟩ := h
    rfl
  · obtain ⟨⟨q, v, x, rfl, h2, h26, hv⟩, k⟩ := h
    exact ⟨_, pss_cons (ps_expr (pe_call GS.ok (hr.mono (by decide)) rfl GS.mg GS.kp GS.bd .nil pass0 (pa_cons (pv 0) pa_nil))) (pss_cons (ps_expr (pe_call XW.ok hr rfl XW.mg XW.kp XW.bd .nil pass1 (pa_cons (pv 0) (pa_cons (pv 1) pa_nil)))) pss_never),
      _, rfl, q, rfl, h2, h26, _, rfl, _, rfl, ⟨q, v, rfl, h2, h26, hv⟩, k⟩
theorem no_raceO (F : Fun K "race" "race" sRaceF f fd) (GS : Gf P w K mg base 2 "check_sides" ["sides"] spChS f1 d1) (GW : Gf P w K mg base 3 "check_word" ["sides", "word"] spChW f2 d2) (XW : Gx P w K mg base 3 "check_word" ["sides", "word"] (spNo C sbW) f3 d3) : FnOk P w K mg base (CX1 P w base) 4 f fd ["sides", "one", "other"] (spNo C bOther) := by
  refine F.ok1 scRaceF (fun vs H Q E h => ?_) (fun cdv A outer s H vs Q E hr h => ?_)
  · obtain ⟨⟨q, l, v, rfl, _⟩, _⟩ := h
    rfl
  · obtain ⟨⟨q, l, v, rfl, ⟨h2, h26, hl, ho, hn⟩, hv⟩, k⟩ := h
    refine ⟨_, pss_cons (ps_expr (pe_call GS.ok (hr.mono (by decide)) rfl GS.mg GS.kp GS.bd .nil pass0 (pa_cons (pv 0) pa_nil))) (pss_cons (ps_expr (pe_call GW.ok hr rfl GW.mg GW.kp GW.bd .nil pass0 (pa_cons (pv 0) (pa_cons (pv 1) pa_nil))))
      (pss_cons (ps_expr (pe_call XW.ok hr rfl XW.mg XW.kp XW.bd .nil pass1 (pa_cons (pv 0) (pa_cons (pv 2) pa_nil)))) pss_never)), ?_⟩
    exact ⟨_, rfl, q, rfl, h2, h26, _, rfl, _, rfl, q, l, rfl, h2, h26, by (first | lia | omega), ho, hn, fun H1 s1 => ⟨_, rfl, _, rfl, ⟨q, v, rfl, h2, h26, hv.same s1⟩, fun H' s' => k H' (s1.trans s')⟩⟩
theorem no_raceI (F : Fun K "race" "race" sRaceF f fd) (GS : Gf P w K mg base 2 "check_sides" ["sides"] spChS f1 d1) (GW : Gf P w K mg base 3 "check_word" ["sides", "word"] spChW f2 d2) (X : ExcCl K mg "Within" C) : FnOk P w K mg base (CX1 P w base) 4 f fd ["sides", "one", "other"] (spNo C bWithin) := by
  refine F.ok1 scRaceF (fun vs H Q E h => ?_) (fun cdv A outer s H vs Q E hr h => ?_)
  · obtain ⟨⟨q, a, b, rfl, _⟩, _⟩ := h
    rfl
  · obtain ⟨⟨q, a, b, rfl, ⟨h2, h26, al, ao, an⟩, ⟨_, _, bl, bo, bn⟩, hin⟩, k⟩ := h
    refine ⟨_, pss_cons (ps_expr (pe_call GS.ok (hr.mono (by decide)) rfl GS.mg GS.kp GS.bd .nil pass0 (pa_cons (pv 0) pa_nil))) (pss_cons (ps_expr (pe_call GW.ok hr rfl GW.mg GW.kp GW.bd .nil pass0 (pa_cons (pv 0) (pa_cons (pv 1) pa_nil))))
      (pss_cons (ps_expr (pe_call GW.ok hr rfl GW.mg GW.kp GW.bd .nil pass0 (pa_cons (pv 0) (pa_cons (pv 2) pa_nil))))
      (pss_cons (ps_if (PW.pt (pw_or (pt_cmpR op_in_tx (pv 1) (pv 2) rfl) (pw_or1 (pt_cmpR op_in_tx (pv 2) (pv 1) rfl)))) (pss_one (ps_raise1 X rfl (pa_cons pe_str pa_nil))) pss_nil) pss_never))), ?_⟩
    refine ⟨_, rfl, q, rfl, h2, h26, _, rfl, _, rfl, q, a, rfl, h2, h26, by (first | lia | omega), ao, an, fun H1 s1 => ⟨_, rfl, _, rfl, q, b, rfl, h2, h26, by (first | lia | omega), bo, bn, fun H2 s2 => ?_⟩⟩
    have fin : ∀ x : Str, [V.str x].length ≤ sizeLine ∧ E (.ref C) none H2 := fun x => ⟨by show 1 ≤ sizeLine; decide, k H2 (s1.trans s2)⟩
    refine ⟨_, rfl, _, rfl, a, b, rfl, rfl, _, rfl, ?_⟩
    by_cases hab : a <:+: b
    · rw [decide_eq_true hab]
      exact iteT (iteT (fin _))
    · rw [decide_eq_false hab]
      refine iteF ⟨_, rfl, _, rfl, b, a, rfl, rfl, _, rfl, ?_⟩
      rw [decide_eq_true (hin.resolve_left hab)]
      exact iteT (fin _)
theorem scLik : FnScope ["word", "first"] ["word"] (defScope sLik) := ⟨rfl, rfl, rfl, by decide +kernel, rfl, by decide +kernel, by decide +kernel⟩
theorem no_likW (F : Fun K "likelier" "likelier" sLik f fd) (GC : Gv mg "COIN_SIDES" (.int 2)) (XW : Gx P w K mg base 3 "check_word" ["sides", "word"] (spNo C sbW) f1 d1) : FnOk P w K mg base (CX1 P w base) 4 f fd ["word"] (spNo C bCoin) := by
  obtain ⟨uM, mM, rM⟩ := GC
  refine F.ok1 scLik (fun vs H Q E h => ?_) (fun cdv A outer s H vs Q E hr h => ?_)
  · obtain ⟨⟨v, rfl, _⟩, _⟩ := h
    rfl
  · obtain ⟨⟨v, rfl, hv⟩, k⟩ := h
    exact ⟨_, pss_cons (ps_expr (pe_call XW.ok hr rfl XW.mg XW.kp XW.bd .nil pass1 (pa_cons (pe_glob rfl mM rM) (pa_cons (pv 0) pa_nil)))) pss_never, _, rfl, ⟨2, v, rfl, by decide, by decide, hv⟩, k⟩
theorem no_likS (F : Fun K "likelier" "likelier" sLik f fd) (B : Bl mg) (GC : Gv mg "COIN_SIDES" (.int 2)) (GL : Gv mg "LEAST_LETTERS" (.int 3)) (GW : Gf P w K mg base 3 "check_word" ["sides", "word"] spChW f1 d1) (X : ExcCl K mg "BadWord" C) : FnOk P w K mg base (CX1 P w base) 4 f fd ["word"] (spNo C bShort) := by
  obtain ⟨uM, mM, rM⟩ := GC
  obtain ⟨uL, mL, rL⟩ := GL
  refine F.ok1 scLik (fun vs H Q E h => ?_) (fun cdv A outer s H vs Q E hr h => ?_)
  · obtain ⟨⟨l, rfl, _⟩, _⟩ := h
    rfl
  · obtain ⟨⟨l, rfl, ⟨h2, h26, hl, ho, hn⟩, h3⟩, k⟩ := h
    refine ⟨_, pss_cons (ps_expr (pe_call GW.ok hr rfl GW.mg GW.kp GW.bd .nil pass0 (pa_cons (pe_glob rfl mM rM) (pa_cons (pv 0) pa_nil))))
      (pss_cons (ps_if (pt_cmpR op_lt (pe_callB call_len_tx rfl B.len (by decide +kernel) (pa_cons (pv 0) pa_nil)) (pe_glob rfl mL rL) (nomark _)) (pss_one (ps_raise1 X rfl (pa_cons pe_str pa_nil))) pss_nil) pss_never), ?_⟩
    refine ⟨_, rfl, 2, l, rfl, by decide, by decide, by (first | lia | omega), ho, hn, fun H1 s1 => ⟨_, rfl, l, rfl, sz (by (first | lia | omega)), _, _, rfl, rfl, _, rfl, ?_⟩⟩
    rw [decide_eq_true (by show ((l.length : Nat) : Int) < 3; (first | lia | omega))]
    exact iteT ⟨by show 1 ≤ sizeLine; decide, k H1 s1⟩
end
end FW
namespace FW
open PySem L2
/-! ### the error classes, as the laws look at them -/
noncomputable def rIsiZ (K : PySem.W.Frag) (ea C : Addr) : List V → Hp → VK → Prop := fun xs H Q => ExcK K C ∧ rIsiX K ea C xs H Q
section
variable {X : Cx} {ea C : Addr} {oe : Obj}
theorem call_isinstZ (hp : (ea, oe) ∈ X.pn) (ho : IsExc oe C) : CallR X (.builtin "isinstance") (rIsiZ X.K ea C) := fun pins s σ H xs us Q I r h => call_isinstX h.1 hp ho pins s σ H xs us Q I r h.2
end
/-- the error classes, by their addresses: T ThrowError, then BadSides, BadWord, BadThrows, BadMany, Within -/
structure Errs (K : PySem.W.Frag) (mg : Str → Option Value) (T : Addr) (cs : List (Str × Addr)) : Prop where
  thr : mg "ThrowError" = some (.ref T)
  mg : ∀ x C, (x, C) ∈ cs → mg x = some (.ref C)
  exm : ∀ x C, (x, C) ∈ cs → PySem.W.exmOne K (.ref C) (.ref T) = some true
  k : ∀ x C, (x, C) ∈ cs → ExcK K C
  val : ∀ x C, (x, C) ∈ cs → PySem.W.kitOne K (.ref C) (.type "ValueError") = some true
  kit : ∀ x C y D, (x, C) ∈ cs → (y, D) ∈ cs → PySem.W.kitOne K (.ref C) (.ref D) = some (x == y)
theorem exm_of {K : PySem.W.Frag} {C D : Addr} {b : Bool} (h0 : PySem.W.subIn K (.ref D) (.type "BaseException") = some true) (h1 : PySem.W.isClsIn K D = true) (h2 : PySem.W.typeIn K (.ref D) = some (.type "type")) (h3 : PySem.W.subIn K (.ref C) (.ref D) = some b) : PySem.W.exmOne K (.ref C) (.ref D) = some b := by
  unfold PySem.W.exmOne
  rw [if_pos (by rw [h0]; rfl)]
  show (if ((PySem.W.clsIn K D).isSome && PySem.W.typeIn K (.ref D) == some (.type "type")) = true then PySem.W.subIn K (.ref C) (.ref D) else none) = some b
  rw [if_pos (by rw [h2]; unfold PySem.W.isClsIn at h1; rw [h1]; rfl)]
  exact h3
theorem kit_val {K : PySem.W.Frag} {C : Addr} (h : PySem.W.subIn K (.ref C) (.type "ValueError") = some true) : PySem.W.kitOne K (.ref C) (.type "ValueError") = some true := by
  unfold PySem.W.kitOne
  rw [if_neg (by intro z; have := beq_iff_eq.mp z; cases this)]
  show (if PySem.W.kitMeta "ValueError" = true then PySem.W.subIn K (.ref C) (.type "ValueError") else none) = some true
  rw [if_pos (by decide +kernel)]
  exact h
end FW
namespace FW
open PySem L2
theorem mem_n {P : Str → Addr → Prop} : ∀ x C, (x, C) ∈ ([] : List (Str × Addr)) → P x C := fun _ _ m => nomatch m
theorem mem_c {P : Str → Addr → Prop} {cs : List (Str × Addr)} {x₀ : Str} {C₀ : Addr} (h₀ : P x₀ C₀) (h : ∀ x C, (x, C) ∈ cs → P x C) : ∀ x C, (x, C) ∈ (x₀, C₀) :: cs → P x C := fun x C m => by
  rcases List.mem_cons.mp m with e | m
  · injection e with e1 e2
    rw [e1, e2]; exact h₀
  · exact h x C m
end FW
namespace FW
/-! ### the rests of a division, one by one -/
theorem res_of {P : Int → Prop} (n : Nat) (a : Int) (hn : (n : Int) ≠ 0) (h : ∀ k : Nat, k < n → P (k : Int)) : P (a % (n : Int)) := by
  obtain ⟨k, hk⟩ := Int.eq_ofNat_of_zero_le (Int.emod_nonneg a hn)
  rw [hk]
  refine h k ?_
  have := Int.emod_lt_of_pos a (show (0 : Int) < n by (first | lia | omega))
  (first | lia | omega)
theorem six_of {kd : Int} (h0 : 0 ≤ kd) (h6 : kd < 6) : kd = 0 ∨ kd = 1 ∨ kd = 2 ∨ kd = 3 ∨ kd = 4 ∨ kd = 5 := by
  obtain ⟨k, rfl⟩ := Int.eq_ofNat_of_zero_le h0
  exact (by decide : ∀ k : Nat, k < 6 → ((k : Int) = 0 ∨ (k : Int) = 1 ∨ (k : Int) = 2 ∨ (k : Int) = 3 ∨ (k : Int) = 4 ∨ (k : Int) = 5)) k (by (first | lia | omega))
end FW
namespace FW
open PySem L2
/-! ### asked otherwise than told -/
noncomputable def badS1 (n : Nat) : List V → Hp → Prop := fun vs H => ∃ v, vs = v :: List.replicate n .non ∧ badS v H
noncomputable def spAsk (C : Addr) : Sp := fun vs H _ E => ∃ (a b : Int), vs = [.int a, .int b] ∧ 0 ≤ a ∧ a < 100000 ∧ 0 ≤ b ∧ b < 1000 ∧ ∀ H', Same H H' → E (.ref C) none H'
section
variable {P : Program} {w : World} {K : PySem.W.Frag} {mg : Str → Option Value} {base : Heap}
noncomputable abbrev NAs : List Str := ["_law_which", "_law_more", "_law_bad", "_law_door"]
theorem scAskS : FnScope NAs ["_law_which", "_law_more"] (defScope sAskS) := ⟨rfl, rfl, rfl, by decide +kernel, rfl, by decide +kernel, by decide +kernel⟩
theorem ok_askS {k : Nat} {f f1 f2 f3 f4 C : Addr} {fd d1 d2 d3 d4 : FuncData} {p1 p2 p3 p4 : List Str} (F : Fun K "_law_sides_asked" "_law_sides_asked" sAskS f fd)
    (G1 : Gx P w K mg base k "waits" p1 (spNo C (badS1 1)) f1 d1) (G2 : Gx P w K mg base k "race" p2 (spNo C (badS1 2)) f2 d2) (G3 : Gx P w K mg base k "firsts" p3 (spNo C (badS1 2)) f3 d3) (G4 : Gx P w K mg base k "without" p4 (spNo C (badS1 2)) f4 d4) :
    FnOk P w K mg base (CX1 P w base) (k + 1) f fd ["_law_which", "_law_more"] (spAsk C) := by
  refine F.ok1 scAskS (fun vs H Q E h => ?_) (fun cdv A outer s H vs Q E hr h => ?_)
  · obtain ⟨a, b, rfl, _⟩ := h
    rfl
  · obtain ⟨a, b, rfl, ha, ha', hb, hb', k0⟩ := h
    have T1 : ∃ t, PSs (cx1 P w K mg base NAs "_law_sides_asked" (defScope sAskS) f cdv A outer s H E) ((defBody sAskS).drop 1) t ∧ ∀ (v : V) (H1 : Hp), badS v H1 → Same H H1 →
        t { nx := fun _ H' => Q .non H', rt := Q } [some (.int a), some (.int b), some v, none] H1 := by
      refine ⟨_, pss_cons (ps_set (i := 3) scAskS.nd rfl (Or.inl rfl) (pe_op op_mod (pe_op op_fdiv (pv 0) pe_int) pe_int))
        (pss_cons (ps_if (pt_cmpR op_lt (pv 3) pe_int (nomark _)) (pss_one (ps_ret (pe_ifExp (pt_cmpR op_eq (pv 3) pe_int (nomark _))
            (pe_call G1.ok hr rfl G1.mg G1.kp G1.bd .nil pass1 (pa_cons (pv 2) (pa_cons pe_non pa_nil)))
            (pe_call G2.ok hr rfl G2.mg G2.kp G2.bd .nil pass1 (pa_cons (pv 2) (pa_cons pe_non (pa_cons pe_non pa_nil))))))) pss_nil)
        (pss_one (ps_ret (pe_ifExp (pt_cmpR op_eq (pv 3) pe_int (nomark _))
            (pe_call G3.ok hr rfl G3.mg G3.kp G3.bd .nil pass1 (pa_cons (pv 2) (pa_cons pe_non (pa_cons pe_non pa_nil))))
            (pe_call G4.ok hr rfl G4.mg G4.kp G4.bd .nil pass1 (pa_cons (pv 2) (pa_cons pe_non (pa_cons pe_non pa_nil)))))))), ?_⟩
      intro v H1 hv s1
      have fin : ∀ H', Same H1 H' → E (.ref C) none H' := fun H' s' => k0 H' (s1.trans s')
      refine ⟨_, rfl, _, _, rfl, rfl, ⟨by decide, by decide⟩, _, _, rfl, rfl, (by show (0 : Int) < _; decide), _, rfl, _, _, rfl, rfl, _, rfl, ite2 (fun _ => ?_) fun _ => ?_⟩
      · exact ⟨_, rfl, rfl, _, rfl, ite2 (fun _ => ⟨_, rfl, ⟨v, rfl, hv⟩, fin⟩) fun _ => ⟨_, rfl, ⟨v, rfl, hv⟩, fin⟩⟩
      · exact ⟨_, rfl, rfl, _, rfl, ite2 (fun _ => ⟨_, rfl, ⟨v, rfl, hv⟩, fin⟩) fun _ => ⟨_, rfl, ⟨v, rfl, hv⟩, fin⟩⟩
    obtain ⟨t1, p1', r1⟩ := T1
    refine ⟨_, pss_cons (ps_set (i := 2) scAskS.nd rfl (Or.inl rfl) (pe_ix ix_list (pe_lst (pa_cons pe_non (pa_cons pe_int (pa_cons pe_int (pa_cons (pe_op op_add pe_int (pv 1)) (pa_cons (pe_op op_sub (pe_un un_neg pe_int) (pv 1)) (pa_cons pe_bl (pa_cons (pe_tx (l := [50])) (pa_cons (pe_lst (pa_cons pe_int pa_nil)) pa_nil)))))))))
        (pe_op op_mod (pv 0) pe_int) (fun _ _ => rfl))) p1', ?_⟩
    refine ⟨_, rfl, _, _, rfl, rfl, _, rfl, _, rfl, _, _, rfl, rfl, by show 1 ≤ sizeLine; decide, fun q1 hq1 => ⟨by show 8 ≤ sizeLine; decide, fun q2 hq2 => ⟨_, rfl, _, _, rfl, rfl, (by show (0 : Int) < _; decide), ?_⟩⟩⟩
    have s1 : ∀ o1 o2, Same H (upd (upd H q1 o1) q2 o2) := fun o1 o2 => ((Same.refl H).upd hq1).upd (((Same.refl H).upd (o := .lst [V.int 2]) hq1).free hq2)
    have n12 : q1 ≠ q2 := by
      intro z
      rw [← z, upd_same] at hq2
      cases hq2
    have h0 : 0 ≤ a % 8 := Int.emod_nonneg _ (by decide)
    have h1 : a % 8 < 8 := Int.emod_lt_of_pos _ (by decide)
    have c8 : a % 8 = ((0 : Nat) : Int) ∨ a % 8 = ((1 : Nat) : Int) ∨ a % 8 = ((2 : Nat) : Int) ∨ a % 8 = ((3 : Nat) : Int) ∨ a % 8 = ((4 : Nat) : Int) ∨ a % 8 = ((5 : Nat) : Int) ∨ a % 8 = ((6 : Nat) : Int) ∨ a % 8 = ((7 : Nat) : Int) := res_of (P := fun r => r = ((0 : Nat) : Int) ∨ r = ((1 : Nat) : Int) ∨ r = ((2 : Nat) : Int) ∨ r = ((3 : Nat) : Int) ∨ r = ((4 : Nat) : Int) ∨ r = ((5 : Nat) : Int) ∨ r = ((6 : Nat) : Int) ∨ r = ((7 : Nat) : Int)) 8 (a) (by decide) (by decide)
    dsimp only
    rcases c8 with e | e | e | e | e | e | e | e <;> rw [e]
    · exact ⟨q2, _, _, _, rfl, rfl, SqL.of upd_same, rfl, r1 _ _ (.inl rfl) (s1 _ _)⟩
    · exact ⟨q2, _, _, _, rfl, rfl, SqL.of upd_same, rfl, r1 _ _ (.inr (.inl ⟨_, rfl, by (first | lia | omega)⟩)) (s1 _ _)⟩
    · exact ⟨q2, _, _, _, rfl, rfl, SqL.of upd_same, rfl, r1 _ _ (.inr (.inl ⟨_, rfl, by (first | lia | omega)⟩)) (s1 _ _)⟩
    · exact ⟨q2, _, _, _, rfl, rfl, SqL.of upd_same, rfl, r1 _ _ (.inr (.inl ⟨_, rfl, by (first | lia | omega)⟩)) (s1 _ _)⟩
    · exact ⟨q2, _, _, _, rfl, rfl, SqL.of upd_same, rfl, r1 _ _ (.inr (.inl ⟨_, rfl, by (first | lia | omega)⟩)) (s1 _ _)⟩
    · exact ⟨q2, _, _, _, rfl, rfl, SqL.of upd_same, rfl, r1 _ _ (.inr (.inr (.inl rfl))) (s1 _ _)⟩
    · exact ⟨q2, _, _, _, rfl, rfl, SqL.of upd_same, rfl, r1 _ _ (.inr (.inr (.inr (.inl rfl)))) (s1 _ _)⟩
    · exact ⟨q2, _, _, _, rfl, rfl, SqL.of upd_same, rfl, r1 _ _ (.inr (.inr (.inr (.inr ⟨q1, _, rfl, by rw [upd_ne n12, upd_same]⟩)))) (s1 _ _)⟩
end
end FW
namespace FW
open PySem L2
/-- no word; a text with a sign that is no letter, or none at all -/
noncomputable def badW (v : V) (H : Hp) : Prop := v = .non ∨ v = .int 5 ∨ (∃ l : List Nat, v = .str (tx l) ∧ l.length ≤ 100 ∧ (l = [] ∨ l.all low = false)) ∨ ∃ p xs, v = .ref p ∧ H p = some (.lst xs)
noncomputable def badAt (bad : V → Hp → Prop) (pre post : List V) : List V → Hp → Prop := fun vs H => ∃ v, vs = pre ++ v :: post ∧ bad v H
noncomputable def valOf : Stmt → Expr
  | .Assign _ v _ => v
  | _ => .Constant .none 0 ⟨0, 0, 0, 0⟩
noncomputable def eltsOf : Expr → List Expr
  | .Subscript (.List es _) _ _ => es
  | _ => []
noncomputable def sliceOf : Expr → Expr
  | .Subscript _ i _ => i
  | _ => .Constant .none 0 ⟨0, 0, 0, 0⟩
theorem rep_bad {n : Int} (h : 1 ≤ n) : (repL n [97, 66]).all low = false := by
  unfold repL
  obtain ⟨m, rfl⟩ : ∃ m : Nat, n = ((m + 1 : Nat) : Int) := ⟨(n - 1).toNat, by (first | lia | omega)⟩
  rw [Int.toNat_natCast, List.replicate_succ, List.flatten_cons]
  rfl
theorem rep_len (n : Int) (l : List Nat) : (repL n l).length = n.toNat * l.length := by
  unfold repL
  exact len_rep l n.toNat
section
variable {P : Program} {w : World} {K : PySem.W.Frag} {mg : Str → Option Value} {base : Heap}
theorem scAskW : FnScope NAs ["_law_which", "_law_more"] (defScope sAskW) := ⟨rfl, rfl, rfl, by decide +kernel, rfl, by decide +kernel, by decide +kernel⟩
theorem askW_doors {k : Nat} {f f1 f2 f3 f4 f5 f6 f7 f8 C : Addr} {fd d1 d2 d3 d4 d5 d6 d7 d8 : FuncData} {p1 p2 p3 p4 p5 p6 p7 p8 : List Str} {cdv : Value} {A : Around} {outer : List Env} {s : Shared} {H : Hp} {Q : VK} {E : XK} {a b : Int} (hr : Room k (A.deeper (PyProof.Rows.envOfC "_law_word_asked" (defScope sAskW) s.heap.objs.size f cdv))) (k0 : ∀ H', Same H H' → E (.ref C) none H')
    (G1 : Gx P w K mg base k "overlaps" p1 (spNo C (badAt badW [] [])) f1 d1) (G2 : Gx P w K mg base k "stands" p2 (spNo C (badAt badW [] [.non])) f2 d2) (G3 : Gx P w K mg base k "ends" p3 (spNo C (badAt badW [] [.non])) f3 d3)
    (G4 : Gx P w K mg base k "waits" p4 (spNo C (badAt badW [.int 2] [])) f4 d4) (G5 : Gx P w K mg base k "race" p5 (spNo C (badAt badW [.int 2] [.str (tx [97])])) f5 d5) (G5' : Gx P w K mg base k "race" p5 (spNo C (badAt badW [.int 2, .str (tx [97])] [])) f5 d5)
    (G6 : Gx P w K mg base k "likelier" p6 (spNo C (badAt badW [] [])) f6 d6) (G7 : Gx P w K mg base k "firsts" p7 (spNo C (badAt badW [.int 2] [.non])) f7 d7) (G8 : Gx P w K mg base k "without" p8 (spNo C (badAt badW [.int 2] [.non])) f8 d8) :
    ∃ t, PSs (cx1 P w K mg base NAs "_law_word_asked" (defScope sAskW) f cdv A outer s H E) ((defBody sAskW).drop 1) t ∧ ∀ (v : V) (H1 : Hp), badW v H1 → Same H H1 →
        t { nx := fun _ H' => Q .non H', rt := Q } [some (.int a), some (.int b), some v, none] H1 := by
      refine ⟨_, pss_cons (ps_set (i := 3) scAskW.nd rfl (Or.inl rfl) (pe_op op_mod (pe_op op_fdiv (pv 0) pe_int) pe_int))
        (pss_cons (ps_if (pt_cmpR op_lt (pv 3) pe_int (nomark _)) (pss_one (ps_ret (pe_ifExp (pt_cmpR op_eq (pv 3) pe_int (nomark _))
            (pe_call G1.ok hr rfl G1.mg G1.kp G1.bd .nil pass1 (pa_cons (pv 2) pa_nil))
            (pe_ifExp (pt_cmpR op_eq (pv 3) pe_int (nomark _)) (pe_call G2.ok hr rfl G2.mg G2.kp G2.bd .nil pass1 (pa_cons (pv 2) (pa_cons pe_non pa_nil))) (pe_call G3.ok hr rfl G3.mg G3.kp G3.bd .nil pass1 (pa_cons (pv 2) (pa_cons pe_non pa_nil))))))) pss_nil)
        (pss_cons (ps_if (pt_cmpR op_lt (pv 3) pe_int (nomark _)) (pss_one (ps_ret (pe_ifExp (pt_cmpR op_eq (pv 3) pe_int (nomark _))
            (pe_call G4.ok hr rfl G4.mg G4.kp G4.bd .nil pass1 (pa_cons pe_int (pa_cons (pv 2) pa_nil)))
            (pe_ifExp (pt_cmpR op_eq (pv 3) pe_int (nomark _)) (pe_call G5.ok hr rfl G5.mg G5.kp G5.bd .nil pass1 (pa_cons pe_int (pa_cons (pv 2) (pa_cons (pe_tx (l := [97])) pa_nil)))) (pe_call G5'.ok hr rfl G5'.mg G5'.kp G5'.bd .nil pass1 (pa_cons pe_int (pa_cons (pe_tx (l := [97])) (pa_cons (pv 2) pa_nil)))))))) pss_nil)
        (pss_cons (ps_if (pt_cmpR op_eq (pv 3) pe_int (nomark _)) (pss_one (ps_ret (pe_call G6.ok hr rfl G6.mg G6.kp G6.bd .nil pass1 (pa_cons (pv 2) pa_nil)))) pss_nil)
        (pss_one (ps_ret (pe_ifExp (pt_cmpR op_eq (pv 3) pe_int (nomark _))
            (pe_call G7.ok hr rfl G7.mg G7.kp G7.bd .nil pass1 (pa_cons pe_int (pa_cons (pv 2) (pa_cons pe_non pa_nil))))
            (pe_call G8.ok hr rfl G8.mg G8.kp G8.bd .nil pass1 (pa_cons pe_int (pa_cons (pv 2) (pa_cons pe_non pa_nil)))))))))), ?_⟩
      intro v H1 hv s1
      have fin : ∀ H', Same H1 H' → E (.ref C) none H' := fun H' s' => k0 H' (s1.trans s')
      refine ⟨_, rfl, _, _, rfl, rfl, ⟨by decide, by decide⟩, _, _, rfl, rfl, (by show (0 : Int) < _; decide), _, rfl, _, _, rfl, rfl, _, rfl, ite2 (fun _ => ?_) fun _ => ?_⟩
      · exact ⟨_, rfl, rfl, _, rfl, ite2 (fun _ => ⟨_, rfl, ⟨v, rfl, hv⟩, fin⟩) fun _ => ⟨_, rfl, rfl, _, rfl, ite2 (fun _ => ⟨_, rfl, ⟨v, rfl, hv⟩, fin⟩) fun _ => ⟨_, rfl, ⟨v, rfl, hv⟩, fin⟩⟩⟩
      refine ⟨_, rfl, _, _, rfl, rfl, _, rfl, ite2 (fun _ => ?_) fun _ => ?_⟩
      · exact ⟨_, rfl, rfl, _, rfl, ite2 (fun _ => ⟨_, rfl, ⟨v, rfl, hv⟩, fin⟩) fun _ => ⟨_, rfl, rfl, _, rfl, ite2 (fun _ => ⟨_, rfl, ⟨v, rfl, hv⟩, fin⟩) fun _ => ⟨_, rfl, ⟨v, rfl, hv⟩, fin⟩⟩⟩
      refine ⟨_, rfl, rfl, _, rfl, ite2 (fun _ => ⟨_, rfl, ⟨v, rfl, hv⟩, fin⟩) fun _ => ?_⟩
      exact ⟨_, rfl, rfl, _, rfl, ite2 (fun _ => ⟨_, rfl, ⟨v, rfl, hv⟩, fin⟩) fun _ => ⟨_, rfl, ⟨v, rfl, hv⟩, fin⟩⟩
end
end FW
namespace FW
open PySem L2
/-! ### a word asked otherwise than told: the whole def -/
@[irreducible] noncomputable def stW : Stmt := (defBody sAskW).getD 0 (.Pass ⟨0, 0, 0, 0⟩)
@[irreducible] noncomputable def restW : List Stmt := (defBody sAskW).drop 1
@[irreducible] noncomputable def elsW : List Expr := eltsOf (valOf ((defBody sAskW).getD 0 (.Pass ⟨0, 0, 0, 0⟩)))
@[irreducible] noncomputable def ixW : Expr := sliceOf (valOf ((defBody sAskW).getD 0 (.Pass ⟨0, 0, 0, 0⟩)))
theorem bodyW_eq : defBody sAskW = stW :: restW := by unfold stW restW; rfl
theorem stW_eq : ∃ p p1 p2 p3, stW = .Assign [.Name "_law_bad" p] (.Subscript (.List elsW p1) ixW p2) p3 := ⟨_, _, _, _, by unfold stW elsW ixW; rfl⟩
section
variable {P : Program} {w : World} {K : PySem.W.Frag} {mg : Str → Option Value} {base : Heap}
theorem elsW_pa {f : Addr} {cdv : Value} {A : Around} {outer : List Env} {s : Shared} {H : Hp} {E : XK} : PA (cx1 P w K mg base NAs "_law_word_asked" (defScope sAskW) f cdv A outer s H E) elsW
    (tCons (tC .non) (tCons (tC (.int 5)) (tCons (tLst (tCons (tC (.str (tx [97]))) tNil)) (tCons (tC (.str (tx []))) (tCons (tC (.str (tx [65]))) (tCons (tC (.str (tx [97, 32, 98])))
      (tCons (tOp (fun x y H Q => ∃ l n, x = .str (tx l) ∧ y = .int n ∧ -(2 ^ 62) < n ∧ n < 2 ^ 62 ∧ l.length * n.toNat ≤ sizeLine ∧ Q (.str (tx (repL n l))) H) (tC (.str (tx [97, 66]))) (tOp (rI0 fun i j => .int (i + j)) (tC (.int 1)) (tOp (rI (fun _ j => 0 < j) fun i j => .int (i % j)) (tVar 1) (tC (.int 5)))))
      (tCons (tC (.str (tx [98, 10]))) (tCons (tC (.str (tx [97, 98, 96]))) (tCons (tC (.str (tx [97, 98, 123]))) tNil)))))))))) := by
  unfold elsW
  exact pa_cons pe_non (pa_cons pe_int (pa_cons (pe_lst (pa_cons pe_tx pa_nil)) (pa_cons pe_tx (pa_cons pe_tx (pa_cons pe_tx (pa_cons (pe_op op_mul_tx pe_tx (pe_op op_add pe_int (pe_op op_mod (pv 1) pe_int))) (pa_cons pe_tx (pa_cons pe_tx (pa_cons pe_tx pa_nil)))))))))
theorem ixW_pe {f : Addr} {cdv : Value} {A : Around} {outer : List Env} {s : Shared} {H : Hp} {E : XK} : PE (cx1 P w K mg base NAs "_law_word_asked" (defScope sAskW) f cdv A outer s H E) ixW (tOp (rI (fun _ j => 0 < j) fun i j => .int (i % j)) (tVar 0) (tC (.int 10))) := by
  unfold ixW
  exact pe_op op_mod (pv 0) pe_int
theorem ixW_plain : PlainIx ixW := by
  unfold ixW
  exact fun _ _ => rfl
end
end FW
namespace FW
open PySem L2
section
variable {P : Program} {w : World} {K : PySem.W.Frag} {mg : Str → Option Value} {base : Heap}
theorem ok_askW {k : Nat} {f f1 f2 f3 f4 f5 f6 f7 f8 C : Addr} {fd d1 d2 d3 d4 d5 d6 d7 d8 : FuncData} {p1 p2 p3 p4 p5 p6 p7 p8 : List Str} (F : Fun K "_law_word_asked" "_law_word_asked" sAskW f fd)
    (G1 : Gx P w K mg base k "overlaps" p1 (spNo C (badAt badW [] [])) f1 d1) (G2 : Gx P w K mg base k "stands" p2 (spNo C (badAt badW [] [.non])) f2 d2) (G3 : Gx P w K mg base k "ends" p3 (spNo C (badAt badW [] [.non])) f3 d3)
    (G4 : Gx P w K mg base k "waits" p4 (spNo C (badAt badW [.int 2] [])) f4 d4) (G5 : Gx P w K mg base k "race" p5 (spNo C (badAt badW [.int 2] [.str (tx [97])])) f5 d5) (G5' : Gx P w K mg base k "race" p5 (spNo C (badAt badW [.int 2, .str (tx [97])] [])) f5 d5)
    (G6 : Gx P w K mg base k "likelier" p6 (spNo C (badAt badW [] [])) f6 d6) (G7 : Gx P w K mg base k "firsts" p7 (spNo C (badAt badW [.int 2] [.non])) f7 d7) (G8 : Gx P w K mg base k "without" p8 (spNo C (badAt badW [.int 2] [.non])) f8 d8) :
    FnOk P w K mg base (CX1 P w base) (k + 1) f fd ["_law_which", "_law_more"] (spAsk C) := by
  refine F.ok1 scAskW (fun vs H Q E h => ?_) (fun cdv A outer s H vs Q E hr h => ?_)
  · obtain ⟨a, b, rfl, _⟩ := h
    rfl
  · obtain ⟨a, b, rfl, ha, ha', hb, hb', k0⟩ := h
    obtain ⟨t1, p1', r1⟩ := askW_doors (fd := fd) (Q := Q) (outer := outer) (a := a) (b := b) hr k0 G1 G2 G3 G4 G5 G5' G6 G7 G8
    obtain ⟨p, x1, x2, x3, est⟩ := stW_eq
    have pr : PSs (cx1 P w K mg base NAs "_law_word_asked" (defScope sAskW) f cdv A outer s H E) restW t1 := by
      unfold restW
      exact p1'
    rw [bodyW_eq, est]
    refine ⟨_, pss_cons (ps_set (i := 2) scAskW.nd rfl (Or.inl rfl) (pe_ix ix_list (pe_lst elsW_pa) ixW_pe ixW_plain)) pr, ?_⟩
    have b0 : 0 ≤ b % 5 := Int.emod_nonneg _ (by decide)
    have b1 : b % 5 < 5 := Int.emod_lt_of_pos _ (by decide)
    refine ⟨by show 1 ≤ sizeLine; decide, fun q1 hq1 => ⟨_, rfl, _, _, rfl, rfl, (by show (0 : Int) < _; decide), _, _, rfl, rfl, [97, 66], 1 + b % 5, rfl, rfl, by (first | lia | omega), by (first | lia | omega), ?_, by show 10 ≤ sizeLine; decide, fun q2 hq2 => ⟨_, rfl, _, _, rfl, rfl, (by show (0 : Int) < _; decide), ?_⟩⟩⟩
    · show 2 * (1 + b % 5).toNat ≤ sizeLine
      rw [sizeLine_eq]
      (first | lia | omega)
    have s1 : ∀ o1 o2, Same H (upd (upd H q1 o1) q2 o2) := fun o1 o2 => ((Same.refl H).upd hq1).upd (((Same.refl H).upd (o := .lst [V.str (tx [97])]) hq1).free hq2)
    have n12 : q1 ≠ q2 := by
      intro z
      rw [← z, upd_same] at hq2
      cases hq2
    have h0 : 0 ≤ a % 10 := Int.emod_nonneg _ (by decide)
    have h1 : a % 10 < 10 := Int.emod_lt_of_pos _ (by decide)
    have c10 : a % 10 = ((0 : Nat) : Int) ∨ a % 10 = ((1 : Nat) : Int) ∨ a % 10 = ((2 : Nat) : Int) ∨ a % 10 = ((3 : Nat) : Int) ∨ a % 10 = ((4 : Nat) : Int) ∨ a % 10 = ((5 : Nat) : Int) ∨ a % 10 = ((6 : Nat) : Int) ∨ a % 10 = ((7 : Nat) : Int) ∨ a % 10 = ((8 : Nat) : Int) ∨ a % 10 = ((9 : Nat) : Int) := res_of (P := fun r => r = ((0 : Nat) : Int) ∨ r = ((1 : Nat) : Int) ∨ r = ((2 : Nat) : Int) ∨ r = ((3 : Nat) : Int) ∨ r = ((4 : Nat) : Int) ∨ r = ((5 : Nat) : Int) ∨ r = ((6 : Nat) : Int) ∨ r = ((7 : Nat) : Int) ∨ r = ((8 : Nat) : Int) ∨ r = ((9 : Nat) : Int)) 10 (a) (by decide) (by decide)
    have tb : ∀ (l : List Nat), l.length ≤ 100 → (l = [] ∨ l.all low = false) → ∀ H', badW (.str (tx l)) H' := fun l hl hb H' => .inr (.inr (.inl ⟨l, rfl, hl, hb⟩))
    dsimp only
    rcases c10 with e | e | e | e | e | e | e | e | e | e <;> rw [e]
    · exact ⟨q2, _, _, _, rfl, rfl, SqL.of upd_same, rfl, r1 _ _ (.inl rfl) (s1 _ _)⟩
    · exact ⟨q2, _, _, _, rfl, rfl, SqL.of upd_same, rfl, r1 _ _ (.inr (.inl rfl)) (s1 _ _)⟩
    · exact ⟨q2, _, _, _, rfl, rfl, SqL.of upd_same, rfl, r1 _ _ (.inr (.inr (.inr ⟨q1, _, rfl, by rw [upd_ne n12, upd_same]⟩))) (s1 _ _)⟩
    · exact ⟨q2, _, _, _, rfl, rfl, SqL.of upd_same, rfl, r1 _ _ (tb _ (by decide) (.inl rfl) _) (s1 _ _)⟩
    · exact ⟨q2, _, _, _, rfl, rfl, SqL.of upd_same, rfl, r1 _ _ (tb _ (by decide) (.inr rfl) _) (s1 _ _)⟩
    · exact ⟨q2, _, _, _, rfl, rfl, SqL.of upd_same, rfl, r1 _ _ (tb _ (by decide) (.inr rfl) _) (s1 _ _)⟩
    · refine ⟨q2, _, _, _, rfl, rfl, SqL.of upd_same, rfl, r1 _ _ (tb _ ?_ (.inr (rep_bad (by (first | lia | omega)))) _) (s1 _ _)⟩
      rw [rep_len]
      show (1 + b % 5).toNat * 2 ≤ 100
      (first | lia | omega)
    · exact ⟨q2, _, _, _, rfl, rfl, SqL.of upd_same, rfl, r1 _ _ (tb _ (by decide) (.inr rfl) _) (s1 _ _)⟩
    · exact ⟨q2, _, _, _, rfl, rfl, SqL.of upd_same, rfl, r1 _ _ (tb _ (by decide) (.inr rfl) _) (s1 _ _)⟩
    · exact ⟨q2, _, _, _, rfl, rfl, SqL.of upd_same, rfl, r1 _ _ (tb _ (by decide) (.inr rfl) _) (s1 _ _)⟩
end
end FW
namespace FW
open PySem L2
/-! ### a letter beyond the sides; too short a word -/
theorem Gx.or {P : Program} {w : World} {K : PySem.W.Frag} {mg : Str → Option Value} {base : Heap} {k : Nat} {x : Str} {ps : List Str} {C : Addr} {b1 b2 : List V → Hp → Prop} {f : Addr} {fd : FuncData} (G : Gx P w K mg base k x ps (spNo C b1) f fd) (G' : Gx P w K mg base k x ps (spNo C b2) f fd) :
    Gx P w K mg base k x ps (spNo C fun vs H => b1 vs H ∨ b2 vs H) f fd :=
  ⟨⟨fun vs H Q E h => h.1.elim (fun z => G.ok.len vs H Q E ⟨z, h.2⟩) fun z => G'.ok.len vs H Q E ⟨z, h.2⟩,
    fun A outer s H args us vs Q E hr he hb hv hs => hs.1.elim (fun z => G.ok.run A outer s H args us vs Q E hr he hb hv ⟨z, hs.2⟩) fun z => G'.ok.run A outer s H args us vs Q E hr he hb hv ⟨z, hs.2⟩⟩, G.mg, G.kp, G.bd⟩
theorem thB_mid {q : Nat} {a b : List Nat} {c : Nat} (h : c ∉ alpha.take q) : thB q (a ++ c :: b) = false := by
  unfold thB
  rw [List.all_append, List.all_cons, decide_eq_false h]
  simp
theorem rep_le (n : Int) (l : List Nat) {m : Nat} (h : n.toNat ≤ m) : (repL n l).length ≤ m * l.length := by
  rw [rep_len]
  exact Nat.mul_le_mul_right _ h
section
variable {P : Program} {w : World} {K : PySem.W.Frag} {mg : Str → Option Value} {base : Heap}
theorem scAskL : FnScope ["_law_which", "_law_more"] ["_law_which", "_law_more"] (defScope sAskL) := ⟨rfl, rfl, rfl, by decide +kernel, rfl, by decide +kernel, by decide +kernel⟩
theorem ok_askL {k : Nat} {f f1 f2 f3 f4 C : Addr} {fd d1 d2 d3 d4 : FuncData} {p1 p2 p3 p4 : List Str} (F : Fun K "_law_letter_asked" "_law_letter_asked" sAskL f fd)
    (G1 : Gx P w K mg base k "waits" p1 (spNo C bWord2) f1 d1) (G2 : Gx P w K mg base k "race" p2 (spNo C bOther) f2 d2) (G3 : Gx P w K mg base k "without" p3 (spNo C bWord3) f3 d3) (G4 : Gx P w K mg base k "likelier" p4 (spNo C fun vs H => bCoin vs H ∨ bShort vs H) f4 d4) :
    FnOk P w K mg base (CX1 P w base) (k + 1) f fd ["_law_which", "_law_more"] (spAsk C) := by
  refine F.ok1 scAskL (fun vs H Q E h => ?_) (fun cdv A outer s H vs Q E hr h => ?_)
  · obtain ⟨a, b, rfl, _⟩ := h
    rfl
  · obtain ⟨a, b, rfl, ha, ha', hb, hb', k0⟩ := h
    refine ⟨_, pss_cons (ps_if (pt_cmpR op_eq (pe_op op_mod (pv 0) pe_int) pe_int (nomark _)) (pss_one (ps_ret (pe_call G1.ok hr rfl G1.mg G1.kp G1.bd .nil pass1 (pa_cons pe_int (pa_cons (pe_op op_add_tx (pe_op op_mul_tx (pe_tx (l := [97, 98])) (pe_op op_mod (pv 1) pe_int)) (pe_tx (l := [99]))) pa_nil))))) pss_nil)
      (pss_cons (ps_if (pt_cmpR op_eq (pe_op op_mod (pv 0) pe_int) pe_int (nomark _)) (pss_one (ps_ret (pe_call G2.ok hr rfl G2.mg G2.kp G2.bd .nil pass1 (pa_cons pe_int (pa_cons (pe_tx (l := [97, 98, 99])) (pa_cons (pe_op op_add_tx (pe_tx (l := [100])) (pe_op op_mul_tx (pe_tx (l := [97])) (pe_op op_mod (pv 1) pe_int))) pa_nil)))))) pss_nil)
      (pss_cons (ps_if (pt_cmpR op_eq (pe_op op_mod (pv 0) pe_int) pe_int (nomark _)) (pss_one (ps_ret (pe_call G3.ok hr rfl G3.mg G3.kp G3.bd .nil pass1 (pa_cons (pe_op op_add pe_int (pe_op op_mod (pv 1) pe_int)) (pa_cons (pe_tx (l := [97, 98, 122])) (pa_cons pe_int pa_nil)))))) pss_nil)
      (pss_one (ps_ret (pe_call G4.ok hr rfl G4.mg G4.kp G4.bd .nil pass1 (pa_cons (pe_ix ix_list (pe_lst (pa_cons (pe_tx (l := [97])) (pa_cons (pe_tx (l := [97, 98])) (pa_cons (pe_tx (l := [97, 97, 99])) (pa_cons (pe_tx (l := [98, 98])) pa_nil))))) (pe_op op_mod (pe_op op_fdiv (pv 0) pe_int) pe_int) (fun _ _ => rfl)) pa_nil)))))), ?_⟩
    have m0 : 0 ≤ b % 5 := Int.emod_nonneg _ (by decide)
    have m1 : b % 5 < 5 := Int.emod_lt_of_pos _ (by decide)
    have l1 := rep_le (b % 5) [97, 98] (m := 5) (by (first | lia | omega))
    have l2 := rep_le (b % 5) [97] (m := 5) (by (first | lia | omega))
    refine ⟨_, rfl, _, _, rfl, rfl, (by show (0 : Int) < _; decide), rfl, _, rfl, ite2 (fun _ => ?_) fun _ => ?_⟩
    · refine ⟨_, rfl, _, _, rfl, rfl, (by show (0 : Int) < _; decide), [97, 98], b % 5, rfl, rfl, by (first | lia | omega), by (first | lia | omega), ?_, _, [99], rfl, rfl, ?_, ⟨2, _, rfl, by decide, by decide, .inr (.inr (.inl ⟨_, rfl, ?_, .inr (thB_mid (by decide))⟩))⟩, k0⟩
      · show 2 * (b % 5).toNat ≤ sizeLine
        rw [sizeLine_eq]; (first | lia | omega)
      · show (repL (b % 5) [97, 98]).length + 1 ≤ sizeLine
        rw [sizeLine_eq]; simp only [List.length_cons, List.length_nil] at l1; (first | lia | omega)
      · rw [List.length_append]; simp only [List.length_cons, List.length_nil] at l1 ⊢; (first | lia | omega)
    refine ⟨_, rfl, _, _, rfl, rfl, (by show (0 : Int) < _; decide), rfl, _, rfl, ite2 (fun _ => ?_) fun _ => ?_⟩
    · refine ⟨_, rfl, _, _, rfl, rfl, (by show (0 : Int) < _; decide), [97], b % 5, rfl, rfl, by (first | lia | omega), by (first | lia | omega), ?_, [100], _, rfl, rfl, ?_, ⟨3, [97, 98, 99], _, rfl, ⟨by decide, by decide, by decide, by decide, by decide⟩, .inr (.inr (.inl ⟨_, rfl, ?_, .inr (thB_mid (a := []) (by decide))⟩))⟩, k0⟩
      · show 1 * (b % 5).toNat ≤ sizeLine
        rw [sizeLine_eq]; (first | lia | omega)
      · show 1 + (repL (b % 5) [97]).length ≤ sizeLine
        rw [sizeLine_eq]; simp only [List.length_cons, List.length_nil] at l2; (first | lia | omega)
      · rw [List.length_append]; simp only [List.length_cons, List.length_nil] at l2 ⊢; (first | lia | omega)
    refine ⟨_, rfl, _, _, rfl, rfl, (by show (0 : Int) < _; decide), rfl, _, rfl, ite2 (fun _ => ?_) fun _ => ?_⟩
    · have n0 : 0 ≤ b % 9 := Int.emod_nonneg _ (by decide)
      have n1 : b % 9 < 9 := Int.emod_lt_of_pos _ (by decide)
      obtain ⟨q, eq⟩ : ∃ q : Nat, 2 + b % 9 = (q : Int) := ⟨(2 + b % 9).toNat, by (first | lia | omega)⟩
      refine ⟨_, rfl, _, _, rfl, rfl, (by show (0 : Int) < _; decide), _, _, rfl, rfl, ⟨q, _, .int 5, ?_, by (first | lia | omega), by (first | lia | omega), .inr (.inr (.inl ⟨[97, 98, 122], rfl, by decide, .inr (thB_mid (a := [97, 98]) (b := []) fun z => ?_)⟩))⟩, k0⟩
      · dsimp only
        rw [eq]
        rfl
      · have := mem_alpha z (by (first | lia | omega))
        (first | lia | omega)
    refine ⟨by show 4 ≤ sizeLine; decide, fun z hz => ⟨_, rfl, _, _, rfl, rfl, ⟨by decide, by decide⟩, _, _, rfl, rfl, (by show (0 : Int) < _; decide), ?_⟩⟩
    have h0 : 0 ≤ a / 4 % 4 := Int.emod_nonneg _ (by decide)
    have h1 : a / 4 % 4 < 4 := Int.emod_lt_of_pos _ (by decide)
    have c4 : a / 4 % 4 = ((0 : Nat) : Int) ∨ a / 4 % 4 = ((1 : Nat) : Int) ∨ a / 4 % 4 = ((2 : Nat) : Int) ∨ a / 4 % 4 = ((3 : Nat) : Int) := res_of (P := fun r => r = ((0 : Nat) : Int) ∨ r = ((1 : Nat) : Int) ∨ r = ((2 : Nat) : Int) ∨ r = ((3 : Nat) : Int)) 4 (a / 4) (by decide) (by decide)
    have fin : ∀ H', Same (upd H z (.lst [V.str (tx [97]), V.str (tx [97, 98]), V.str (tx [97, 97, 99]), V.str (tx [98, 98])])) H' → E (.ref C) none H' := fun H' s' => k0 H' (((Same.refl H).upd hz).trans s')
    dsimp only
    rcases c4 with e | e | e | e <;> rw [e]
    · exact ⟨z, _, _, _, rfl, rfl, SqL.of upd_same, rfl, .inr ⟨[97], rfl, ⟨by decide, by decide, by decide, by decide, by decide⟩, by decide⟩, fin⟩
    · exact ⟨z, _, _, _, rfl, rfl, SqL.of upd_same, rfl, .inr ⟨[97, 98], rfl, ⟨by decide, by decide, by decide, by decide, by decide⟩, by decide⟩, fin⟩
    · exact ⟨z, _, _, _, rfl, rfl, SqL.of upd_same, rfl, .inl ⟨_, rfl, .inr (.inr (.inl ⟨[97, 97, 99], rfl, by decide, .inr (by decide)⟩))⟩, fin⟩
    · exact ⟨z, _, _, _, rfl, rfl, SqL.of upd_same, rfl, .inr ⟨[98, 98], rfl, ⟨by decide, by decide, by decide, by decide, by decide⟩, by decide⟩, fin⟩
end
end FW
namespace FW
open PySem L2
/-! ### throws, counts, words that stand in each other: asked otherwise than told -/
noncomputable def spAskO (cT cM cI : Addr) : Sp := fun vs H _ E => ∃ (kd a b : Int), vs = [.int kd, .int a, .int b] ∧ 0 ≤ a ∧ a < 100000 ∧ 0 ≤ b ∧ b < 1000 ∧
  ((kd = 2 ∧ ∀ H', Same H H' → E (.ref cT) none H') ∨ (kd = 3 ∧ ∀ H', Same H H' → E (.ref cM) none H') ∨ (kd = 4 ∧ ∀ H', Same H H' → E (.ref cI) none H'))
section
variable {P : Program} {w : World} {K : PySem.W.Frag} {mg : Str → Option Value} {base : Heap}
noncomputable abbrev NAo : List Str := ["_law_kind", "_law_which", "_law_more", "_law_bad", "_law_one", "_law_other"]
theorem scAskO : FnScope NAo ["_law_kind", "_law_which", "_law_more"] (defScope sAskO) := ⟨rfl, rfl, rfl, by decide +kernel, rfl, by decide +kernel, by decide +kernel⟩
noncomputable def thenOf : Stmt → List Stmt
  | .If _ b _ _ => b
  | _ => []
@[irreducible] noncomputable def ifT : Stmt := (defBody sAskO).getD 0 (.Pass ⟨0, 0, 0, 0⟩)
@[irreducible] noncomputable def ifM : Stmt := (defBody sAskO).getD 1 (.Pass ⟨0, 0, 0, 0⟩)
@[irreducible] noncomputable def blkT : List Stmt := thenOf ((defBody sAskO).getD 0 (.Pass ⟨0, 0, 0, 0⟩))
@[irreducible] noncomputable def blkM : List Stmt := thenOf ((defBody sAskO).getD 1 (.Pass ⟨0, 0, 0, 0⟩))
@[irreducible] noncomputable def restO : List Stmt := (defBody sAskO).drop 2
theorem bodyO_eq : defBody sAskO = ifT :: ifM :: restO := by unfold ifT ifM restO; rfl
theorem ifT_eq : ∃ p1 p2 p3 p4 j, ifT = .If (.Compare (.Name "_law_kind" p1) [.Eq] [.Constant (.int 2) j p2] p3) blkT [] p4 := ⟨_, _, _, _, _, by unfold ifT blkT; rfl⟩
theorem ifM_eq : ∃ p1 p2 p3 p4 j, ifM = .If (.Compare (.Name "_law_kind" p1) [.Eq] [.Constant (.int 3) j p2] p3) blkM [] p4 := ⟨_, _, _, _, _, by unfold ifM blkM; rfl⟩
@[irreducible] noncomputable def elsT : List Expr := eltsOf (valOf ((thenOf ((defBody sAskO).getD 0 (.Pass ⟨0, 0, 0, 0⟩))).getD 0 (.Pass ⟨0, 0, 0, 0⟩)))
@[irreducible] noncomputable def elsM : List Expr := eltsOf (valOf ((thenOf ((defBody sAskO).getD 1 (.Pass ⟨0, 0, 0, 0⟩))).getD 0 (.Pass ⟨0, 0, 0, 0⟩)))
@[irreducible] noncomputable def ixT : Expr := sliceOf (valOf ((thenOf ((defBody sAskO).getD 0 (.Pass ⟨0, 0, 0, 0⟩))).getD 0 (.Pass ⟨0, 0, 0, 0⟩)))
@[irreducible] noncomputable def ixM : Expr := sliceOf (valOf ((thenOf ((defBody sAskO).getD 1 (.Pass ⟨0, 0, 0, 0⟩))).getD 0 (.Pass ⟨0, 0, 0, 0⟩)))
@[irreducible] noncomputable def retT : Stmt := (thenOf ((defBody sAskO).getD 0 (.Pass ⟨0, 0, 0, 0⟩))).getD 1 (.Pass ⟨0, 0, 0, 0⟩)
@[irreducible] noncomputable def retM : Stmt := (thenOf ((defBody sAskO).getD 1 (.Pass ⟨0, 0, 0, 0⟩))).getD 1 (.Pass ⟨0, 0, 0, 0⟩)
theorem blkT_eq : ∃ p p1 p2 p3, blkT = [.Assign [.Name "_law_bad" p] (.Subscript (.List elsT p1) ixT p2) p3, retT] := ⟨_, _, _, _, by unfold blkT elsT ixT retT; rfl⟩
theorem blkM_eq : ∃ p p1 p2 p3, blkM = [.Assign [.Name "_law_bad" p] (.Subscript (.List elsM p1) ixM p2) p3, retM] := ⟨_, _, _, _, by unfold blkM elsM ixM retM; rfl⟩
theorem elsT_pa {f : Addr} {cdv : Value} {A : Around} {outer : List Env} {s : Shared} {H : Hp} {E : XK} : PA (cx1 P w K mg base NAo "_law_others_asked" (defScope sAskO) f cdv A outer s H E) elsT
    (tCons (tC .non) (tCons (tC (.int 5)) (tCons (tLst (tCons (tC (.str (tx [97]))) tNil)) (tCons (tC (.str (tx [65]))) (tCons (tC (.str (tx [97, 32, 98])))
      (tCons (tOp (fun x y H Q => ∃ a b, x = .str (tx a) ∧ y = .str (tx b) ∧ a.length + b.length ≤ sizeLine ∧ Q (.str (tx (a ++ b))) H) (tOp (fun x y H Q => ∃ l n, x = .str (tx l) ∧ y = .int n ∧ -(2 ^ 62) < n ∧ n < 2 ^ 62 ∧ l.length * n.toNat ≤ sizeLine ∧ Q (.str (tx (repL n l))) H) (tC (.str (tx [97, 98]))) (tOp (rI (fun _ j => 0 < j) fun i j => .int (i % j)) (tVar 2) (tC (.int 5)))) (tC (.str (tx [10]))))
      (tCons (tC (.str (tx [97, 98, 96]))) (tCons (tC (.str (tx [122, 123]))) tNil)))))))) := by
  unfold elsT
  exact pa_cons pe_non (pa_cons pe_int (pa_cons (pe_lst (pa_cons pe_tx pa_nil)) (pa_cons pe_tx (pa_cons pe_tx (pa_cons (pe_op op_add_tx (pe_op op_mul_tx pe_tx (pe_op op_mod (pv 2) pe_int)) pe_tx) (pa_cons pe_tx (pa_cons pe_tx pa_nil)))))))
theorem ixT_pe {f : Addr} {cdv : Value} {A : Around} {outer : List Env} {s : Shared} {H : Hp} {E : XK} : PE (cx1 P w K mg base NAo "_law_others_asked" (defScope sAskO) f cdv A outer s H E) ixT (tOp (rI (fun _ j => 0 < j) fun i j => .int (i % j)) (tVar 1) (tC (.int 8))) := by
  unfold ixT
  exact pe_op op_mod (pv 1) pe_int
theorem ixT_plain : PlainIx ixT := by
  unfold ixT
  exact fun _ _ => rfl
theorem elsM_pa {f : Addr} {cdv : Value} {A : Around} {outer : List Env} {s : Shared} {H : Hp} {E : XK} : PA (cx1 P w K mg base NAo "_law_others_asked" (defScope sAskO) f cdv A outer s H E) elsM
    (tCons (tC .non) (tCons (tC (.str (tx [49]))) (tCons (tC (.bl true)) (tCons (tLst (tCons (tC (.int 1)) tNil)) (tCons (tOp (rI0 fun i j => .int (i - j)) (tUn (rU fun i => .int (-i)) (tC (.int 1))) (tVar 2)) (tCons (tOp (rI0 fun i j => .int (i + j)) (tC (.int 301)) (tVar 2)) (tCons (tTup (tCons (tC (.int 1)) tNil)) tNil))))))) := by
  unfold elsM
  exact pa_cons pe_non (pa_cons pe_tx (pa_cons pe_bl (pa_cons (pe_lst (pa_cons pe_int pa_nil)) (pa_cons (pe_op op_sub (pe_un un_neg pe_int) (pv 2)) (pa_cons (pe_op op_add pe_int (pv 2)) (pa_cons (pe_tup (pa_cons pe_int pa_nil)) pa_nil))))))
theorem ixM_pe {f : Addr} {cdv : Value} {A : Around} {outer : List Env} {s : Shared} {H : Hp} {E : XK} : PE (cx1 P w K mg base NAo "_law_others_asked" (defScope sAskO) f cdv A outer s H E) ixM (tOp (rI (fun _ j => 0 < j) fun i j => .int (i % j)) (tVar 1) (tC (.int 7))) := by
  unfold ixM
  exact pe_op op_mod (pv 1) pe_int
theorem ixM_plain : PlainIx ixM := by
  unfold ixM
  exact fun _ _ => rfl
end
end FW
namespace FW
open PySem L2
section
variable {P : Program} {w : World} {K : PySem.W.Frag} {mg : Str → Option Value} {base : Heap}
theorem retT_ps {k : Nat} {f f1 f2 C : Addr} {d1 d2 : FuncData} {p1 p2 : List Str} {cdv : Value} {A : Around} {outer : List Env} {s : Shared} {H : Hp} {E : XK} (hr : Room k (A.deeper (PyProof.Rows.envOfC "_law_others_asked" (defScope sAskO) s.heap.objs.size f cdv)))
    (G1 : Gx P w K mg base k "stands" p1 (spNo C bThrows) f1 d1) (G2 : Gx P w K mg base k "ends" p2 (spNo C bThrows) f2 d2) :
    ∃ t, PS (cx1 P w K mg base NAo "_law_others_asked" (defScope sAskO) f cdv A outer s H E) retT t ∧ ∀ (D : Ends) (kd a b : Int) (v : V) (v4 v5 : Option V) (H1 : Hp), badTq 26 v H1 → (∀ H', Same H1 H' → E (.ref C) none H') → t D [some (.int kd), some (.int a), some (.int b), some v, v4, v5] H1 := by
  unfold retT
  refine ⟨_, ps_ret (pe_ifExp (pt_cmpR op_eq (pe_op op_mod (pe_op op_fdiv (pv 1) pe_int) pe_int) pe_int (nomark _))
    (pe_call G1.ok hr rfl G1.mg G1.kp G1.bd .nil pass1 (pa_cons (pe_tx (l := [97, 98])) (pa_cons (pv 3) pa_nil))) (pe_call G2.ok hr rfl G2.mg G2.kp G2.bd .nil pass1 (pa_cons (pe_tx (l := [97, 98])) (pa_cons (pv 3) pa_nil)))), ?_⟩
  intro D kd a b v v4 v5 H1 hv fin
  have o : okW 26 [97, 98] := ⟨by decide, by decide, by decide, by decide, by decide⟩
  exact ⟨_, rfl, _, _, rfl, rfl, ⟨by decide, by decide⟩, _, _, rfl, rfl, (by show (0 : Int) < _; decide), rfl, _, rfl, ite2 (fun _ => ⟨_, rfl, ⟨_, v, rfl, o, hv⟩, fin⟩) fun _ => ⟨_, rfl, ⟨_, v, rfl, o, hv⟩, fin⟩⟩
theorem retM_ps {k : Nat} {f f1 f2 C : Addr} {d1 d2 : FuncData} {p1 p2 : List Str} {cdv : Value} {A : Around} {outer : List Env} {s : Shared} {H : Hp} {E : XK} (hr : Room k (A.deeper (PyProof.Rows.envOfC "_law_others_asked" (defScope sAskO) s.heap.objs.size f cdv)))
    (G1 : Gx P w K mg base k "firsts" p1 (spNo C bMany) f1 d1) (G2 : Gx P w K mg base k "without" p2 (spNo C bMany) f2 d2) :
    ∃ t, PS (cx1 P w K mg base NAo "_law_others_asked" (defScope sAskO) f cdv A outer s H E) retM t ∧ ∀ (D : Ends) (kd a b : Int) (v : V) (v4 v5 : Option V) (H1 : Hp), badM v H1 → (∀ H', Same H1 H' → E (.ref C) none H') → t D [some (.int kd), some (.int a), some (.int b), some v, v4, v5] H1 := by
  unfold retM
  refine ⟨_, ps_ret (pe_ifExp (pt_cmpR op_eq (pe_op op_mod (pe_op op_fdiv (pv 1) pe_int) pe_int) pe_int (nomark _))
    (pe_call G1.ok hr rfl G1.mg G1.kp G1.bd .nil pass1 (pa_cons pe_int (pa_cons (pe_tx (l := [97, 98])) (pa_cons (pv 3) pa_nil)))) (pe_call G2.ok hr rfl G2.mg G2.kp G2.bd .nil pass1 (pa_cons pe_int (pa_cons (pe_tx (l := [97, 98])) (pa_cons (pv 3) pa_nil))))), ?_⟩
  intro D kd a b v v4 v5 H1 hv fin
  have o : okW 2 [97, 98] := ⟨by decide, by decide, by decide, by decide, by decide⟩
  exact ⟨_, rfl, _, _, rfl, rfl, ⟨by decide, by decide⟩, _, _, rfl, rfl, (by show (0 : Int) < _; decide), rfl, _, rfl, ite2 (fun _ => ⟨_, rfl, ⟨2, _, v, rfl, o, hv⟩, fin⟩) fun _ => ⟨_, rfl, ⟨2, _, v, rfl, o, hv⟩, fin⟩⟩
noncomputable def tgtOf : Stmt → Expr
  | .Assign [t] _ _ => t
  | _ => .Constant .none 0 ⟨0, 0, 0, 0⟩
@[irreducible] noncomputable def tgI : Expr := tgtOf ((defBody sAskO).getD 2 (.Pass ⟨0, 0, 0, 0⟩))
@[irreducible] noncomputable def elsI : List Expr := eltsOf (valOf ((defBody sAskO).getD 2 (.Pass ⟨0, 0, 0, 0⟩)))
@[irreducible] noncomputable def ixI : Expr := sliceOf (valOf ((defBody sAskO).getD 2 (.Pass ⟨0, 0, 0, 0⟩)))
@[irreducible] noncomputable def retI : Stmt := (defBody sAskO).getD 3 (.Pass ⟨0, 0, 0, 0⟩)
theorem restO_eq : ∃ p1 p2 p3, restO = [.Assign [tgI] (.Subscript (.List elsI p1) ixI p2) p3, retI] := ⟨_, _, _, by unfold restO tgI elsI ixI retI; rfl⟩
@[irreducible] noncomputable def eI (i : Nat) : Expr := (eltsOf (valOf ((defBody sAskO).getD 2 (.Pass ⟨0, 0, 0, 0⟩)))).getD i (.Constant .none 0 ⟨0, 0, 0, 0⟩)
theorem elsI_eq : elsI = [eI 0, eI 1, eI 2, eI 3] := by unfold elsI eI; rfl
noncomputable def tT2 (a b : List Nat) : TE := tTup (tCons (tC (.str (tx a))) (tCons (tC (.str (tx b))) tNil))
noncomputable def tT3 : TE := tTup (tCons (tOp (fun x y H Q => ∃ l n, x = .str (tx l) ∧ y = .int n ∧ -(2 ^ 62) < n ∧ n < 2 ^ 62 ∧ l.length * n.toNat ≤ sizeLine ∧ Q (.str (tx (repL n l))) H) (tC (.str (tx [97]))) (tOp (rI0 fun i j => .int (i + j)) (tC (.int 2)) (tOp (rI (fun _ j => 0 < j) fun i j => .int (i % j)) (tVar 2) (tC (.int 9))))) (tCons (tC (.str (tx [97]))) tNil))
section
variable {f : Addr} {cdv : Value} {A : Around} {outer : List Env} {s : Shared} {H : Hp} {E : XK}
theorem eI0 : PE (cx1 P w K mg base NAo "_law_others_asked" (defScope sAskO) f cdv A outer s H E) (eI 0) (tT2 [97, 98] [97, 97, 98]) := by
  unfold eI tT2
  exact pe_tup (pa_cons pe_tx (pa_cons pe_tx pa_nil))
theorem eI1 : PE (cx1 P w K mg base NAo "_law_others_asked" (defScope sAskO) f cdv A outer s H E) (eI 1) (tT2 [98, 97] [98, 97]) := by
  unfold eI tT2
  exact pe_tup (pa_cons pe_tx (pa_cons pe_tx pa_nil))
theorem eI2 : PE (cx1 P w K mg base NAo "_law_others_asked" (defScope sAskO) f cdv A outer s H E) (eI 2) (tT2 [97, 98, 97, 98] [98, 97]) := by
  unfold eI tT2
  exact pe_tup (pa_cons pe_tx (pa_cons pe_tx pa_nil))
theorem eI3 : PE (cx1 P w K mg base NAo "_law_others_asked" (defScope sAskO) f cdv A outer s H E) (eI 3) tT3 := by
  unfold eI tT3
  exact pe_tup (pa_cons (pe_op op_mul_tx pe_tx (pe_op op_add pe_int (pe_op op_mod (pv 2) pe_int))) (pa_cons pe_tx pa_nil))
theorem starI (i : Nat) (hi : i < 4) (es : List Expr) (env : Env) : starEach (eI i :: es) env = (false, eval (eI i) env) :: starEach es env := by
  match i, hi with
  | 0, _ => unfold eI; rfl
  | 1, _ => unfold eI; rfl
  | 2, _ => unfold eI; rfl
  | 3, _ => unfold eI; rfl
theorem elsI_pa : PA (cx1 P w K mg base NAo "_law_others_asked" (defScope sAskO) f cdv A outer s H E) elsI (tCons (tT2 [97, 98] [97, 97, 98]) (tCons (tT2 [98, 97] [98, 97]) (tCons (tT2 [97, 98, 97, 98] [98, 97]) (tCons tT3 tNil)))) := by
  rw [elsI_eq]
  exact pa_cons eI0 (pa_cons eI1 (pa_cons eI2 (pa_cons eI3 pa_nil (starI 3 (by decide) _ _)) (starI 2 (by decide) _ _)) (starI 1 (by decide) _ _)) (starI 0 (by decide) _ _)
theorem ixI_pe : PE (cx1 P w K mg base NAo "_law_others_asked" (defScope sAskO) f cdv A outer s H E) ixI (tOp (rI (fun _ j => 0 < j) fun i j => .int (i % j)) (tVar 1) (tC (.int 4))) := by
  unfold ixI
  exact pe_op op_mod (pv 1) pe_int
theorem ixI_plain : PlainIx ixI := by
  unfold ixI
  exact fun _ _ => rfl
theorem tgI_pg : PG (cx1 P w K mg base NAo "_law_others_asked" (defScope sAskO) f cdv A outer s H E) tgI (gTup K 2 (gCons (gName 4) (gCons (gName 5) gNil))) := by
  unfold tgI
  exact pg_tup rfl (pgs_cons (pg_name (i := 4) scAskO.nd rfl (Or.inl rfl)) (pgs_cons (pg_name (i := 5) scAskO.nd rfl (Or.inl rfl)) pgs_nil))
end
theorem restO_ps {k : Nat} {f f1 C : Addr} {d1 : FuncData} {p1 : List Str} {cdv : Value} {A : Around} {outer : List Env} {s : Shared} {H : Hp} {E : XK} (hr : Room k (A.deeper (PyProof.Rows.envOfC "_law_others_asked" (defScope sAskO) s.heap.objs.size f cdv)))
    (G1 : Gx P w K mg base k "race" p1 (spNo C bWithin) f1 d1) :
    ∃ t, PSs (cx1 P w K mg base NAo "_law_others_asked" (defScope sAskO) f cdv A outer s H E) restO t ∧ ∀ (D : Ends) (kd a b : Int) (v3 v4 v5 : Option V) (H1 : Hp), 0 ≤ b → (∀ H', Same H1 H' → E (.ref C) none H') → t D [some (.int kd), some (.int a), some (.int b), v3, v4, v5] H1 := by
  obtain ⟨q1, q2, q3, est⟩ := restO_eq
  rw [est]
  have pr : PS (cx1 P w K mg base NAo "_law_others_asked" (defScope sAskO) f cdv A outer s H E) retI (tRet (tCall (spNo C bWithin) [] E (tCons (tC (.int 2)) (tCons (tVar 4) (tCons (tVar 5) tNil))))) := by
    unfold retI
    exact ps_ret (pe_call G1.ok hr rfl G1.mg G1.kp G1.bd .nil pass1 (pa_cons pe_int (pa_cons (pv 4) (pa_cons (pv 5) pa_nil))))
  refine ⟨_, pss_cons (ps_asg (pe_ix ix_list (pe_lst elsI_pa) ixI_pe ixI_plain) tgI_pg (by unfold tgI; rfl) (by unfold tgI; rfl) (by unfold tgI; rfl)) (pss_one pr), ?_⟩
  intro D kd a b v3 v4 v5 H1 hb fin
  have m0 : 0 ≤ b % 9 := Int.emod_nonneg _ (by decide)
  have m1 : b % 9 < 9 := Int.emod_lt_of_pos _ (by decide)
  refine ⟨by show 2 ≤ sizeLine; decide, fun t1 h1 => ⟨by show 2 ≤ sizeLine; decide, fun t2 h2 => ⟨by show 2 ≤ sizeLine; decide, fun t3 h3 => ⟨_, rfl, _, _, rfl, rfl, (by show (0 : Int) < _; decide), _, _, rfl, rfl, [97], 2 + b % 9, rfl, rfl, by (first | lia | omega), by (first | lia | omega), ?_, by show 2 ≤ sizeLine; decide, fun t4 h4 => ⟨by show 4 ≤ sizeLine; decide, fun z hz => ⟨_, rfl, _, _, rfl, rfl, (by show (0 : Int) < _; decide), ?_⟩⟩⟩⟩⟩⟩
  · show 1 * (2 + b % 9).toNat ≤ sizeLine
    rw [sizeLine_eq]; (first | lia | omega)
  have fresh : ∀ {H : Hp} {x y : Addr} {o : HO}, (upd H x o) y = none → x ≠ y ∧ H y = none := fun {H x y o} h => by
    have ne : x ≠ y := by
      rintro rfl
      rw [upd_same] at h
      cases h
    exact ⟨ne, by rw [upd_ne ne.symm] at h; exact h⟩
  obtain ⟨n12, h2'⟩ := fresh h2
  obtain ⟨n23, h3'⟩ := fresh h3
  obtain ⟨n13, h3''⟩ := fresh h3'
  obtain ⟨n34, h4'⟩ := fresh h4
  obtain ⟨n24, h4''⟩ := fresh h4'
  obtain ⟨n14, h4'''⟩ := fresh h4''
  obtain ⟨n4z, hz1⟩ := fresh hz
  obtain ⟨n3z, hz2⟩ := fresh hz1
  obtain ⟨n2z, hz3⟩ := fresh hz2
  obtain ⟨n1z, hz4⟩ := fresh hz3
  have sm : ∀ o1 o2 o3 o4 o5, Same H1 (upd (upd (upd (upd (upd H1 t1 o1) t2 o2) t3 o3) t4 o4) z o5) := fun o1 o2 o3 o4 o5 => ((((((Same.refl H1).upd h1).upd h2').upd h3'').upd h4''').upd hz4)
  have c0 : 0 ≤ a % 4 := Int.emod_nonneg _ (by decide)
  have c1 : a % 4 < 4 := Int.emod_lt_of_pos _ (by decide)
  have c4 : a % 4 = ((0 : Nat) : Int) ∨ a % 4 = ((1 : Nat) : Int) ∨ a % 4 = ((2 : Nat) : Int) ∨ a % 4 = ((3 : Nat) : Int) := res_of (P := fun r => r = ((0 : Nat) : Int) ∨ r = ((1 : Nat) : Int) ∨ r = ((2 : Nat) : Int) ∨ r = ((3 : Nat) : Int)) 4 (a) (by decide) (by decide)
  have rl : (repL (2 + b % 9) [97]).length ≤ 11 * 1 := rep_le (2 + b % 9) [97] (by (first | lia | omega))
  have ro : okW 2 (repL (2 + b % 9) [97]) := ⟨by decide, by decide, by (first | lia | omega), fun c hc => by
    unfold repL at hc
    obtain ⟨l, hl, hc'⟩ := List.mem_flatten.mp hc
    rw [(List.mem_replicate.mp hl).2] at hc'
    rw [List.mem_singleton.mp hc']
    decide, fun h => by
    have := congrArg List.length h
    rw [rep_len] at this
    simp only [List.length_cons, List.length_nil] at this
    (first | lia | omega)⟩
  have ri : [97] <:+: repL (2 + b % 9) [97] := by
    obtain ⟨m, em⟩ : ∃ m : Nat, 2 + b % 9 = ((m + 1 : Nat) : Int) := ⟨(1 + b % 9).toNat, by (first | lia | omega)⟩
    rw [em]
    unfold repL
    rw [Int.toNat_natCast, List.replicate_succ, List.flatten_cons]
    exact (List.prefix_append _ _).isInfix
  dsimp only
  rcases c4 with e | e | e | e <;> rw [e]
  · refine ⟨z, _, _, _, rfl, rfl, SqL.of upd_same, rfl, t1, _, rfl, SqT.of (by rw [upd_ne n1z, upd_ne n14, upd_ne n13, upd_ne n12, upd_same]), rfl, _, _, rfl, _, _, rfl, rfl, ?_⟩
    exact ⟨_, rfl, _, rfl, ⟨2, _, _, rfl, ⟨by decide, by decide, by decide, by decide, by decide⟩, ⟨by decide, by decide, by decide, by decide, by decide⟩, .inl (by decide)⟩, fun H' s' => fin H' ((sm _ _ _ _ _).trans s')⟩
  · refine ⟨z, _, _, _, rfl, rfl, SqL.of upd_same, rfl, t2, _, rfl, SqT.of (by rw [upd_ne n2z, upd_ne n24, upd_ne n23, upd_same]), rfl, _, _, rfl, _, _, rfl, rfl, ?_⟩
    exact ⟨_, rfl, _, rfl, ⟨2, _, _, rfl, ⟨by decide, by decide, by decide, by decide, by decide⟩, ⟨by decide, by decide, by decide, by decide, by decide⟩, .inl (by decide)⟩, fun H' s' => fin H' ((sm _ _ _ _ _).trans s')⟩
  · refine ⟨z, _, _, _, rfl, rfl, SqL.of upd_same, rfl, t3, _, rfl, SqT.of (by rw [upd_ne n3z, upd_ne n34, upd_same]), rfl, _, _, rfl, _, _, rfl, rfl, ?_⟩
    exact ⟨_, rfl, _, rfl, ⟨2, _, _, rfl, ⟨by decide, by decide, by decide, by decide, by decide⟩, ⟨by decide, by decide, by decide, by decide, by decide⟩, .inr (by decide)⟩, fun H' s' => fin H' ((sm _ _ _ _ _).trans s')⟩
  · refine ⟨z, _, _, _, rfl, rfl, SqL.of upd_same, rfl, t4, _, rfl, SqT.of (by rw [upd_ne n4z, upd_same]), rfl, _, _, rfl, _, _, rfl, rfl, ?_⟩
    exact ⟨_, rfl, _, rfl, ⟨2, _, _, rfl, ro, ⟨by decide, by decide, by decide, by decide, by decide⟩, .inr ri⟩, fun H' s' => fin H' ((sm _ _ _ _ _).trans s')⟩
end
end FW
namespace FW
open PySem L2
section
variable {P : Program} {w : World} {K : PySem.W.Frag} {mg : Str → Option Value} {base : Heap}
theorem ok_askO {k : Nat} {f f1 f2 f3 f4 f5 cT cM cI : Addr} {fd d1 d2 d3 d4 d5 : FuncData} {p1 p2 p3 p4 p5 : List Str} (F : Fun K "_law_others_asked" "_law_others_asked" sAskO f fd)
    (G1 : Gx P w K mg base k "stands" p1 (spNo cT bThrows) f1 d1) (G2 : Gx P w K mg base k "ends" p2 (spNo cT bThrows) f2 d2) (G3 : Gx P w K mg base k "firsts" p3 (spNo cM bMany) f3 d3) (G4 : Gx P w K mg base k "without" p4 (spNo cM bMany) f4 d4) (G5 : Gx P w K mg base k "race" p5 (spNo cI bWithin) f5 d5) :
    FnOk P w K mg base (CX1 P w base) (k + 1) f fd ["_law_kind", "_law_which", "_law_more"] (spAskO cT cM cI) := by
  refine F.ok1 scAskO (fun vs H Q E h => ?_) (fun cdv A outer s H vs Q E hr h => ?_)
  · obtain ⟨kd, a, b, rfl, _⟩ := h
    rfl
  · obtain ⟨kd, a, b, rfl, ha, ha', hb, hb', hk⟩ := h
    obtain ⟨tT, pT, rT⟩ := retT_ps (outer := outer) (H := H) (E := E) hr G1 G2
    obtain ⟨tM, pM, rM⟩ := retM_ps (outer := outer) (H := H) (E := E) hr G3 G4
    obtain ⟨tI, pI, rI⟩ := restO_ps (outer := outer) (H := H) (E := E) hr G5
    obtain ⟨_, _, _, _, _, e1⟩ := ifT_eq
    obtain ⟨_, _, _, _, _, e2⟩ := ifM_eq
    obtain ⟨_, _, _, _, e3⟩ := blkT_eq
    obtain ⟨_, _, _, _, e4⟩ := blkM_eq
    rw [bodyO_eq, e1, e2, e3, e4]
    refine ⟨_, pss_cons (ps_if (pt_cmpR op_eq (pv 0) pe_int (nomark _)) (pss_cons (ps_set (i := 3) scAskO.nd rfl (Or.inl rfl) (pe_ix ix_list (pe_lst elsT_pa) ixT_pe ixT_plain)) (pss_one pT)) pss_nil)
      (pss_cons (ps_if (pt_cmpR op_eq (pv 0) pe_int (nomark _)) (pss_cons (ps_set (i := 3) scAskO.nd rfl (Or.inl rfl) (pe_ix ix_list (pe_lst elsM_pa) ixM_pe ixM_plain)) (pss_one pM)) pss_nil) pI), ?_⟩
    refine ⟨_, rfl, rfl, _, rfl, ?_⟩
    rcases hk with ⟨rfl, k0⟩ | ⟨rfl, k0⟩ | ⟨rfl, k0⟩
    · refine ite2 (fun _ => ?_) (fun z => absurd (decide_eq_true rfl) z)
      have b0 : 0 ≤ b % 5 := Int.emod_nonneg _ (by decide)
      have b1 : b % 5 < 5 := Int.emod_lt_of_pos _ (by decide)
      have l1 := rep_le (b % 5) [97, 98] (m := 5) (by (first | lia | omega))
      simp only [List.length_cons, List.length_nil] at l1
      refine ⟨by show 1 ≤ sizeLine; decide, fun q1 hq1 => ⟨_, rfl, _, _, rfl, rfl, (by show (0 : Int) < _; decide), [97, 98], b % 5, rfl, rfl, by (first | lia | omega), by (first | lia | omega), ?_, _, [10], rfl, rfl, ?_, by show 8 ≤ sizeLine; decide, fun q2 hq2 => ⟨_, rfl, _, _, rfl, rfl, (by show (0 : Int) < _; decide), ?_⟩⟩⟩
      · show 2 * (b % 5).toNat ≤ sizeLine
        rw [sizeLine_eq]
        (first | lia | omega)
      · show (repL (b % 5) [97, 98]).length + 1 ≤ sizeLine
        rw [sizeLine_eq]
        (first | lia | omega)
      have s1 : ∀ o1 o2, Same H (upd (upd H q1 o1) q2 o2) := fun o1 o2 => ((Same.refl H).upd hq1).upd (((Same.refl H).upd (o := .lst [V.str (tx [97])]) hq1).free hq2)
      have n12 : q1 ≠ q2 := by
        intro z
        rw [← z, upd_same] at hq2
        cases hq2
      have h0 : 0 ≤ a % 8 := Int.emod_nonneg _ (by decide)
      have h1 : a % 8 < 8 := Int.emod_lt_of_pos _ (by decide)
      have c8 : a % 8 = ((0 : Nat) : Int) ∨ a % 8 = ((1 : Nat) : Int) ∨ a % 8 = ((2 : Nat) : Int) ∨ a % 8 = ((3 : Nat) : Int) ∨ a % 8 = ((4 : Nat) : Int) ∨ a % 8 = ((5 : Nat) : Int) ∨ a % 8 = ((6 : Nat) : Int) ∨ a % 8 = ((7 : Nat) : Int) := res_of (P := fun r => r = ((0 : Nat) : Int) ∨ r = ((1 : Nat) : Int) ∨ r = ((2 : Nat) : Int) ∨ r = ((3 : Nat) : Int) ∨ r = ((4 : Nat) : Int) ∨ r = ((5 : Nat) : Int) ∨ r = ((6 : Nat) : Int) ∨ r = ((7 : Nat) : Int)) 8 (a) (by decide) (by decide)
      have tb : ∀ (l : List Nat), l.length ≤ 10000 → thB 26 l = false → ∀ H', badTq 26 (.str (tx l)) H' := fun l hl hb H' => .inr (.inr (.inl ⟨l, rfl, hl, hb⟩))
      have fin : ∀ o1 o2 H', Same (upd (upd H q1 o1) q2 o2) H' → E (.ref cT) none H' := fun o1 o2 H' s' => k0 H' ((s1 _ _).trans s')
      dsimp only
      rcases c8 with e | e | e | e | e | e | e | e <;> rw [e]
      · exact ⟨q2, _, _, _, rfl, rfl, SqL.of upd_same, rfl, rT _ _ _ _ _ _ _ _ (.inl rfl) (fin _ _)⟩
      · exact ⟨q2, _, _, _, rfl, rfl, SqL.of upd_same, rfl, rT _ _ _ _ _ _ _ _ (.inr (.inl ⟨_, rfl⟩)) (fin _ _)⟩
      · exact ⟨q2, _, _, _, rfl, rfl, SqL.of upd_same, rfl, rT _ _ _ _ _ _ _ _ (.inr (.inr (.inr ⟨q1, _, rfl, by rw [upd_ne n12, upd_same]⟩))) (fin _ _)⟩
      · exact ⟨q2, _, _, _, rfl, rfl, SqL.of upd_same, rfl, rT _ _ _ _ _ _ _ _ (tb _ (by decide) (by decide) _) (fin _ _)⟩
      · exact ⟨q2, _, _, _, rfl, rfl, SqL.of upd_same, rfl, rT _ _ _ _ _ _ _ _ (tb _ (by decide) (by decide) _) (fin _ _)⟩
      · exact ⟨q2, _, _, _, rfl, rfl, SqL.of upd_same, rfl, rT _ _ _ _ _ _ _ _ (tb _ (by rw [List.length_append]; simp only [List.length_cons, List.length_nil]; (first | lia | omega)) (thB_mid (by decide)) _) (fin _ _)⟩
      · exact ⟨q2, _, _, _, rfl, rfl, SqL.of upd_same, rfl, rT _ _ _ _ _ _ _ _ (tb _ (by decide) (by decide) _) (fin _ _)⟩
      · exact ⟨q2, _, _, _, rfl, rfl, SqL.of upd_same, rfl, rT _ _ _ _ _ _ _ _ (tb _ (by decide) (by decide) _) (fin _ _)⟩
    · refine ite2 (fun z => absurd (of_decide_eq_true z) (by intro z; injection z with z; (first | lia | omega))) (fun _ => ⟨_, rfl, rfl, _, rfl, ite2 (fun _ => ?_) (fun z => absurd (decide_eq_true rfl) z)⟩)
      refine ⟨by show 1 ≤ sizeLine; decide, fun q1 hq1 => ⟨_, rfl, _, rfl, _, _, rfl, rfl, _, rfl, _, _, rfl, rfl, by show 1 ≤ sizeLine; decide, fun q3 hq3 => ⟨by show 7 ≤ sizeLine; decide, fun q2 hq2 => ⟨_, rfl, _, _, rfl, rfl, (by show (0 : Int) < _; decide), ?_⟩⟩⟩⟩
      have n13 : q1 ≠ q3 := by
        intro z
        rw [← z, upd_same] at hq3
        cases hq3
      have hq3' : H q3 = none := by rw [upd_ne n13.symm] at hq3; exact hq3
      have n32 : q3 ≠ q2 := by
        intro z
        rw [← z, upd_same] at hq2
        cases hq2
      have hq2' : (upd H q1 (.lst [V.int 1])) q2 = none := by rw [upd_ne n32.symm] at hq2; exact hq2
      have n12 : q1 ≠ q2 := by
        intro z
        rw [← z, upd_same] at hq2'
        cases hq2'
      have hq2'' : H q2 = none := by rw [upd_ne n12.symm] at hq2'; exact hq2'
      have s1 : ∀ o1 o2 o3, Same H (upd (upd (upd H q1 o1) q3 o3) q2 o2) := fun o1 o2 o3 => (((Same.refl H).upd hq1).upd hq3').upd hq2''
      have h0 : 0 ≤ a % 7 := Int.emod_nonneg _ (by decide)
      have h1 : a % 7 < 7 := Int.emod_lt_of_pos _ (by decide)
      have c7 : a % 7 = ((0 : Nat) : Int) ∨ a % 7 = ((1 : Nat) : Int) ∨ a % 7 = ((2 : Nat) : Int) ∨ a % 7 = ((3 : Nat) : Int) ∨ a % 7 = ((4 : Nat) : Int) ∨ a % 7 = ((5 : Nat) : Int) ∨ a % 7 = ((6 : Nat) : Int) := res_of (P := fun r => r = ((0 : Nat) : Int) ∨ r = ((1 : Nat) : Int) ∨ r = ((2 : Nat) : Int) ∨ r = ((3 : Nat) : Int) ∨ r = ((4 : Nat) : Int) ∨ r = ((5 : Nat) : Int) ∨ r = ((6 : Nat) : Int)) 7 (a) (by decide) (by decide)
      have fin : ∀ o1 o2 o3 H', Same (upd (upd (upd H q1 o1) q3 o3) q2 o2) H' → E (.ref cM) none H' := fun o1 o2 o3 H' s' => k0 H' ((s1 _ _ _).trans s')
      dsimp only
      rcases c7 with e | e | e | e | e | e | e <;> rw [e]
      · exact ⟨q2, _, _, _, rfl, rfl, SqL.of upd_same, rfl, rM _ _ _ _ _ _ _ _ (.inl rfl) (fin _ _ _)⟩
      · exact ⟨q2, _, _, _, rfl, rfl, SqL.of upd_same, rfl, rM _ _ _ _ _ _ _ _ (.inr (.inr (.inr (.inl ⟨_, rfl⟩)))) (fin _ _ _)⟩
      · exact ⟨q2, _, _, _, rfl, rfl, SqL.of upd_same, rfl, rM _ _ _ _ _ _ _ _ (.inr (.inr (.inl rfl))) (fin _ _ _)⟩
      · exact ⟨q2, _, _, _, rfl, rfl, SqL.of upd_same, rfl, rM _ _ _ _ _ _ _ _ (.inr (.inr (.inr (.inr (.inl ⟨q1, _, rfl, by rw [upd_ne n12, upd_ne n13, upd_same]⟩))))) (fin _ _ _)⟩
      · exact ⟨q2, _, _, _, rfl, rfl, SqL.of upd_same, rfl, rM _ _ _ _ _ _ _ _ (.inr (.inl ⟨_, rfl, by (first | lia | omega)⟩)) (fin _ _ _)⟩
      · exact ⟨q2, _, _, _, rfl, rfl, SqL.of upd_same, rfl, rM _ _ _ _ _ _ _ _ (.inr (.inl ⟨_, rfl, by (first | lia | omega)⟩)) (fin _ _ _)⟩
      · exact ⟨q2, _, _, _, rfl, rfl, SqL.of upd_same, rfl, rM _ _ _ _ _ _ _ _ (.inr (.inr (.inr (.inr (.inr ⟨q3, _, rfl, by rw [upd_ne n32, upd_same]⟩))))) (fin _ _ _)⟩
    · refine ite2 (fun z => absurd (of_decide_eq_true z) (by intro z; injection z with z; (first | lia | omega))) (fun _ => ⟨_, rfl, rfl, _, rfl, ite2 (fun z => absurd (of_decide_eq_true z) (by intro z; injection z with z; (first | lia | omega))) fun _ => ?_⟩)
      exact rI _ _ _ _ _ _ _ _ hb k0
end
end FW
namespace FW
open PySem L2
/-! ### how it is told -/
noncomputable def dueL (kd : Int) : List Bool := [decide (kd = 0), decide (kd = 1) || decide (kd = 5), decide (kd = 2), decide (kd = 3), decide (kd = 4), true]
noncomputable def spTold : Sp := fun vs H Q _ => ∃ (kd a b : Int), vs = [.int kd, .int a, .int b] ∧ 0 ≤ kd ∧ kd < 6 ∧ 0 ≤ a ∧ a < 100000 ∧ 0 ≤ b ∧ b < 1000 ∧ ∀ p H', H p = none → Same H H' → H' p = some (.lst ((dueL kd).map V.bl)) → Q (.ref p) H'
section
variable {P : Program} {w : World} {K : PySem.W.Frag} {mg : Str → Option Value} {base : Heap}
noncomputable abbrev NTo : List Str := ["_law_kind", "_law_which", "_law_more", "error", "_law_found"]
theorem scTold : FnScope NTo ["_law_kind", "_law_which", "_law_more"] (defScope sTold) := ⟨rfl, rfl, rfl, by decide +kernel, rfl, by decide +kernel, by decide +kernel⟩
noncomputable def tTold (K : PySem.W.Frag) (cS cW cT cM cI ea C : Addr) : TS :=
  tSeq (tAsg (tLst (tCons (tCB (rIsiZ K ea C) (tCons (tVar 3) (tCons (tC (V.ref cS)) tNil))) (tCons (tCB (rIsiZ K ea C) (tCons (tVar 3) (tCons (tC (V.ref cW)) tNil))) (tCons (tCB (rIsiZ K ea C) (tCons (tVar 3) (tCons (tC (V.ref cT)) tNil))) tNil)))) (gName 4))
    (tRet (tOp rCat (tVar 4) (tLst (tCons (tCB (rIsiZ K ea C) (tCons (tVar 3) (tCons (tC (V.ref cM)) tNil))) (tCons (tCB (rIsiZ K ea C) (tCons (tVar 3) (tCons (tC (V.ref cI)) tNil))) (tCons (tCB (rIsiZ K ea C) (tCons (tVar 3) (tCons (tC (V.ty "ValueError")) tNil))) tNil))))))
theorem ok_told {k : Nat} {f f1 f2 f3 f4 T cS cW cT cM cI : Addr} {fd d1 d2 d3 d4 : FuncData} (F : Fun K "_law_told" "_law_told" sTold f fd) (B : Bl mg) (X : Errs K mg T [("BadSides", cS), ("BadWord", cW), ("BadThrows", cT), ("BadMany", cM), ("Within", cI)])
    (G1 : Gx P w K mg base k "_law_sides_asked" ["_law_which", "_law_more"] (spAsk cS) f1 d1) (G2 : Gx P w K mg base k "_law_word_asked" ["_law_which", "_law_more"] (spAsk cW) f2 d2) (G3 : Gx P w K mg base k "_law_letter_asked" ["_law_which", "_law_more"] (spAsk cW) f3 d3)
    (G4 : Gx P w K mg base k "_law_others_asked" ["_law_kind", "_law_which", "_law_more"] (spAskO cT cM cI) f4 d4) : FnOk P w K mg base CX0 (k + 1) f fd ["_law_kind", "_law_which", "_law_more"] spTold := by
  refine F.ok scTold (fun vs H Q E h => ?_) (fun cdv A outer s H vs Q E hr h => ?_)
  · obtain ⟨kd, a, b, rfl, _⟩ := h
    rfl
  · obtain ⟨kd, a, b, rfl, hk0, hk6, ha, ha', hb, hb', k0⟩ := h
    refine' ⟨_, pss_cons (ps_try (i := 3) (ts := tTold K cS cW cT cM cI) ⟨rfl, rfl, rfl⟩ rfl scTold.nd rfl rfl rfl X.thr (by decide) ?hb ?hs) (pss_one (ps_ret (pe_lst pa_nil))), ?main⟩
    case hb =>
      intro E pn xe hP
      exact pss_one (ps_if (pt_cmpR op_eq (pv 0) pe_int (nomark _)) (pss_one (ps_expr (pe_call G1.ok hr rfl G1.mg G1.kp G1.bd .nil hP (pa_cons (pv 1) (pa_cons (pv 2) pa_nil)))))
        (pss_one (ps_if (pt_cmpR op_eq (pv 0) pe_int (nomark _)) (pss_one (ps_expr (pe_call G2.ok hr rfl G2.mg G2.kp G2.bd .nil hP (pa_cons (pv 1) (pa_cons (pv 2) pa_nil)))))
        (pss_one (ps_if (pt_cmpR op_eq (pv 0) pe_int (nomark _)) (pss_one (ps_expr (pe_call G3.ok hr rfl G3.mg G3.kp G3.bd .nil hP (pa_cons (pv 1) (pa_cons (pv 2) pa_nil)))))
        (pss_one (ps_expr (pe_call G4.ok hr rfl G4.mg G4.kp G4.bd .nil hP (pa_cons (pv 0) (pa_cons (pv 1) (pa_cons (pv 2) pa_nil)))))))))))
    case hs =>
      intro ea C oe pn ho
      have ci : CallR (Cx.inSuite (cxOf CX0 P w K mg base NTo "_law_told" (defScope sTold) f cdv A outer s H E).nox ea oe pn) (.builtin "isinstance") (rIsiZ K ea C) := call_isinstZ List.mem_cons_self ho
      unfold tTold
      exact pss_cons (ps_set (i := 4) scTold.nd rfl (Or.inl rfl) (pe_lst (pa_cons (pe_callB ci rfl B.isinstance (by decide +kernel) (pa_cons (pv 3) (pa_cons (pe_glob (v := .ref cS) rfl (X.mg "BadSides" cS (by simp)) rfl) pa_nil)))
          (pa_cons (pe_callB ci rfl B.isinstance (by decide +kernel) (pa_cons (pv 3) (pa_cons (pe_glob (v := .ref cW) rfl (X.mg "BadWord" cW (by simp)) rfl) pa_nil)))
          (pa_cons (pe_callB ci rfl B.isinstance (by decide +kernel) (pa_cons (pv 3) (pa_cons (pe_glob (v := .ref cT) rfl (X.mg "BadThrows" cT (by simp)) rfl) pa_nil))) pa_nil)))))
        (pss_one (ps_ret (pe_op op_cat (pv 4) (pe_lst (pa_cons (pe_callB ci rfl B.isinstance (by decide +kernel) (pa_cons (pv 3) (pa_cons (pe_glob (v := .ref cM) rfl (X.mg "BadMany" cM (by simp)) rfl) pa_nil)))
          (pa_cons (pe_callB ci rfl B.isinstance (by decide +kernel) (pa_cons (pv 3) (pa_cons (pe_glob (v := .ref cI) rfl (X.mg "Within" cI (by simp)) rfl) pa_nil)))
          (pa_cons (pe_callB ci rfl B.isinstance (by decide +kernel) (pa_cons (pv 3) (pa_cons (pe_bltn (v := .ty "ValueError") rfl B.valueError (by decide +kernel) rfl) pa_nil))) pa_nil)))))))
    case main =>
      have hnd : ∀ (x : Str) (C : Addr), (x, C) ∈ [(("BadSides" : Str), cS), ("BadWord", cW), ("BadThrows", cT), ("BadMany", cM), ("Within", cI)] → [x == "BadSides", x == "BadWord", x == "BadThrows", x == "BadMany", x == "Within", true] = dueL kd → ∀ (D : Ends) (H1 : Hp), (∀ v H', Q v H' → D.rt v H') → Same H H1 →
          ∃ C', Value.ref C = .ref C' ∧ PySem.W.exmOne K (.ref C') (.ref T) = some true ∧ ∀ ea, tTold K cS cW cT cM cI ea C' (hEnds 5 D) ((blank 5).set 3 (some (.ref ea))) H1 := by
        intro x C hx hd D H1 hD s1
        refine ⟨C, rfl, X.exm x C hx, fun ea => ?_⟩
        have Z := X.k x C hx
        refine ⟨_, rfl, Z, _, _, _, rfl, rfl, X.kit x C "BadSides" cS hx (by simp), _, rfl, Z, _, _, _, rfl, rfl, X.kit x C "BadWord" cW hx (by simp), _, rfl, Z, _, _, _, rfl, rfl, X.kit x C "BadThrows" cT hx (by simp), by show 3 ≤ sizeLine; decide, fun L hL => ?_⟩
        refine ⟨_, rfl, _, rfl, Z, _, _, _, rfl, rfl, X.kit x C "BadMany" cM hx (by simp), _, rfl, Z, _, _, _, rfl, rfl, X.kit x C "Within" cI hx (by simp), _, rfl, Z, _, _, _, rfl, rfl, X.val x C hx, by show 3 ≤ sizeLine; decide, fun L2 hL2 => ?_⟩
        have nL : L ≠ L2 := by
          rintro rfl
          rw [upd_same] at hL2
          cases hL2
        have hL2' : H1 L2 = none := by rw [upd_ne nL.symm] at hL2; exact hL2
        refine ⟨L, L2, _, _, rfl, rfl, by rw [upd_ne nL, upd_same], upd_same, by show 6 ≤ sizeLine; decide, fun p hp => ?_⟩
        have s3 : Same H (upd (upd H1 L (.lst [V.bl (x == "BadSides"), V.bl (x == "BadWord"), V.bl (x == "BadThrows")])) L2 (.lst [V.bl (x == "BadMany"), V.bl (x == "Within"), V.bl true])) := (s1.upd (s1.free hL)).upd (s1.free hL2')
        refine hD _ _ (k0 p _ (s3.free hp) (s3.upd (s3.free hp)) ?_)
        rw [upd_same, ← hd]
        rfl
      have c6 : kd = 0 ∨ kd = 1 ∨ kd = 2 ∨ kd = 3 ∨ kd = 4 ∨ kd = 5 := six_of (by assumption) (by assumption)
      refine ⟨_, rfl, rfl, _, rfl, ?_⟩
      rcases c6 with rfl | rfl | rfl | rfl | rfl | rfl
      · exact ite2 (fun _ => ⟨_, rfl, _, rfl, a, b, rfl, ha, ha', hb, hb', fun H1 s1 => hnd "BadSides" cS (by simp) (by decide) _ H1 (fun _ _ z => z) s1⟩) (fun z => absurd (decide_eq_true rfl) z)
      · refine ite2 (fun z => absurd (of_decide_eq_true z) (by intro z; injection z with z; (first | lia | omega))) fun _ => ⟨_, rfl, rfl, _, rfl, ?_⟩
        exact ite2 (fun _ => ⟨_, rfl, _, rfl, a, b, rfl, ha, ha', hb, hb', fun H1 s1 => hnd "BadWord" cW (by simp) (by decide) _ H1 (fun _ _ z => z) s1⟩) (fun z => absurd (decide_eq_true rfl) z)
      · refine ite2 (fun z => absurd (of_decide_eq_true z) (by intro z; injection z with z; (first | lia | omega))) fun _ => ⟨_, rfl, rfl, _, rfl, ite2 (fun z => absurd (of_decide_eq_true z) (by intro z; injection z with z; (first | lia | omega))) fun _ => ⟨_, rfl, rfl, _, rfl, ite2 (fun z => absurd (of_decide_eq_true z) (by intro z; injection z with z; (first | lia | omega))) fun _ => ?_⟩⟩
        exact ⟨_, rfl, _, rfl, _, rfl, 2, a, b, rfl, ha, ha', hb, hb', .inl ⟨rfl, fun H1 s1 => hnd "BadThrows" cT (by simp) (by decide) _ H1 (fun _ _ z => z) s1⟩⟩
      · refine ite2 (fun z => absurd (of_decide_eq_true z) (by intro z; injection z with z; (first | lia | omega))) fun _ => ⟨_, rfl, rfl, _, rfl, ite2 (fun z => absurd (of_decide_eq_true z) (by intro z; injection z with z; (first | lia | omega))) fun _ => ⟨_, rfl, rfl, _, rfl, ite2 (fun z => absurd (of_decide_eq_true z) (by intro z; injection z with z; (first | lia | omega))) fun _ => ?_⟩⟩
        exact ⟨_, rfl, _, rfl, _, rfl, 3, a, b, rfl, ha, ha', hb, hb', .inr (.inl ⟨rfl, fun H1 s1 => hnd "BadMany" cM (by simp) (by decide) _ H1 (fun _ _ z => z) s1⟩)⟩
      · refine ite2 (fun z => absurd (of_decide_eq_true z) (by intro z; injection z with z; (first | lia | omega))) fun _ => ⟨_, rfl, rfl, _, rfl, ite2 (fun z => absurd (of_decide_eq_true z) (by intro z; injection z with z; (first | lia | omega))) fun _ => ⟨_, rfl, rfl, _, rfl, ite2 (fun z => absurd (of_decide_eq_true z) (by intro z; injection z with z; (first | lia | omega))) fun _ => ?_⟩⟩
        exact ⟨_, rfl, _, rfl, _, rfl, 4, a, b, rfl, ha, ha', hb, hb', .inr (.inr ⟨rfl, fun H1 s1 => hnd "Within" cI (by simp) (by decide) _ H1 (fun _ _ z => z) s1⟩)⟩
      · refine ite2 (fun z => absurd (of_decide_eq_true z) (by intro z; injection z with z; (first | lia | omega))) fun _ => ⟨_, rfl, rfl, _, rfl, ite2 (fun z => absurd (of_decide_eq_true z) (by intro z; injection z with z; (first | lia | omega))) fun _ => ⟨_, rfl, rfl, _, rfl, ite2 (fun _ => ?_) fun z => absurd (decide_eq_true rfl) z⟩⟩
        exact ⟨_, rfl, _, rfl, a, b, rfl, ha, ha', hb, hb', fun H1 s1 => hnd "BadWord" cW (by simp) (by decide) _ H1 (fun _ _ z => z) s1⟩
end
end FW
namespace FW
open PySem L2
theorem thB_low {q : Nat} (h26 : q ≤ 26) {l : List Nat} (h : l.all low = false) : thB q l = false := by
  rw [Bool.eq_false_iff]
  intro z
  rw [Bool.eq_false_iff] at h
  refine h (List.all_eq_true.mpr fun c hc => ?_)
  have := mem_alpha (of_decide_eq_true (List.all_eq_true.mp z c hc)) h26
  unfold low
  rw [decide_eq_true this.1, decide_eq_true (by (first | lia | omega))]
  rfl
theorem badW.q {v : V} {H : Hp} (h : badW v H) {q : Nat} (h26 : q ≤ 26) : badWq q v H := by
  rcases h with h | h | ⟨l, e, hl, hb⟩ | h
  · exact .inl h
  · exact .inr (.inl ⟨_, h⟩)
  · exact .inr (.inr (.inl ⟨l, e, by (first | lia | omega), hb.imp id (thB_low h26)⟩))
  · exact .inr (.inr (.inr h))
theorem b_three : (∀ vs H, bSides3 vs H → ∃ x y z, vs = [x, y, z]) ∧ (∀ vs H, bWord3 vs H → ∃ x y z, vs = [x, y, z]) ∧ (∀ vs H, bMany vs H → ∃ x y z, vs = [x, y, z]) :=
  ⟨fun _ _ zz => by obtain ⟨v, x, y, e, _⟩ := zz; exact ⟨_, _, _, e⟩, fun _ _ zz => by obtain ⟨q, v, x, e, _⟩ := zz; exact ⟨_, _, _, e⟩, fun _ _ zz => by obtain ⟨q, l, v, e, _⟩ := zz; exact ⟨_, _, _, e⟩⟩
end FW
namespace FW
open PySem L2
/-! ### law_k07: the law itself -/
noncomputable def spLaw (K : PySem.W.Frag) : Sp := fun vs H Q _ => ∃ (a : Addr) (ns : List Int), vs = [.ref a] ∧ SqL K H a (ns.map V.int) ∧ ns.length ≤ 63 ∧ ∀ H', Q (.bl true) H'
noncomputable abbrev NL : List Str := ["_law_script", "_law_cell", "_law_kind", "_law_due"]
theorem scLaw : FnScope NL ["_law_script"] (defScope sLaw) := ⟨rfl, rfl, rfl, by decide +kernel, rfl, by decide +kernel, by decide +kernel⟩
theorem waitT_a : waitT 26 [97] = [26, 0] := by decide +kernel
theorem lng_ze : lng [122, 101, 98, 114, 97] [97, 122, 101] = 2 := by decide +kernel
section
variable {P : Program} {w : World} {K : PySem.W.Frag} {mg : Str → Option Value} {base : Heap}
theorem ok_law {f C fI fSh fT fS fV fO : Addr} {fd dT dS dV dO : FuncData} (F : Fun K "law" "law" sLaw f fd) (B : Bl mg) (W : WaitC K mg C fI fSh)
    (GT : Gf P w K mg base 7 "_law_told" ["_law_kind", "_law_which", "_law_more"] spTold fT dT) (GS : Gf P w K mg base 4 "stands" ["word", "throws"] spSt fS dS) (GV : Gf P w K mg base 4 "waits" ["sides", "word"] (spWaits C) fV dV) (GO : Gf P w K mg base 6 "without" ["sides", "word", "many"] (spOne cntW) fO dO) :
    FnOk P w K mg base CX0 8 f fd ["_law_script"] (spLaw K) := by
  refine F.ok scLaw (fun vs H Q E h => ?_) (fun cdv A outer s H vs Q E hr h => ?_)
  · obtain ⟨a, ns, rfl, _⟩ := h
    rfl
  · obtain ⟨a, ns, rfl, hS, hn, k⟩ := h
    have hu := hr.units
    have hr4 := hr.mono (show 4 ≤ 7 by decide)
    have hr6 := hr.mono (show 6 ≤ 7 by decide)
    have T1 : ∃ t, PSs (cxOf CX0 P w K mg base NL "law" (defScope sLaw) f cdv A outer s H E).nox ((defBody sLaw).drop 1) t ∧ ∀ (σ : St) (H1 : Hp), t { nx := fun _ H' => Q .non H', rt := Q } σ H1 := by
      refine ⟨_, pss_one (ps_ret (pe_and (pe_cmpR op_eq (pe_call GS.ok hr4 rfl GS.mg GS.kp GS.bd .nil pass0 (pa_cons (pe_tx (l := [122, 101, 98, 114, 97])) (pa_cons (pe_tx (l := [97, 122, 101])) pa_nil))) pe_int (nomark _))
        (pe_and (pe_cmpR (op_eqL hu) (pe_fld (pe_call GV.ok hr4 rfl GV.mg GV.kp GV.bd .nil pass0 (pa_cons pe_int (pa_cons (pe_tx (l := [97])) pa_nil))) rfl) (pe_lst (pa_cons pe_int (pa_cons pe_int pa_nil))) (nomark _))
        (pe_one (pe_cmpR op_eq (pe_call GO.ok hr6 rfl GO.mg GO.kp GO.bd .nil pass0 (pa_cons pe_int (pa_cons (pe_tx (l := [97, 98])) (pa_cons pe_int pa_nil)))) pe_int (nomark _)))))), ?_⟩
      intro σ H1
      refine ⟨[122, 101, 98, 114, 97], [97, 122, 101], rfl, by decide, rfl, rfl, by decide, by decide, fun H2 s2 => ?_⟩
      rw [lng_ze]
      refine ⟨rfl, _, rfl, iteT ?_⟩
      refine ⟨26, [97], rfl, by decide, by decide, by decide, by decide, by decide, fun x H3 hx s3 zz0 => ?_⟩
      obtain ⟨dx, l, h3x, h3l⟩ := zz0
      refine ⟨x, C, dx, _, _, rfl, h3x, W.cl, W.na, rfl, by show 2 ≤ sizeLine; decide, fun p hp => ?_⟩
      refine ⟨l, p, _, [26, 0], rfl, rfl, SqL.of (by rw [upd_ne (ne_of_none h3l hp)]; exact h3l), SqL.of upd_same, _, rfl, ?_⟩
      rw [waitT_a, decide_eq_true rfl]
      refine iteT ⟨2, [97, 98], 3, rfl, by decide, by decide, by decide, by decide, by decide, by decide, fun H4 s4 => ?_⟩
      have e2 : alpha.take 2 = [97, 98] := by decide
      rw [e2, (cnt_ab 3).1]
      exact ⟨rfl, k _⟩
    obtain ⟨t1, p1, r1⟩ := T1
    refine ⟨_, pss_cons (ps_for PassesOwn.never rfl (pi_list (pv 0)) (pg_name (i := 1) scLaw.nd rfl (Or.inl rfl))
      (pss_cons (ps_set (i := 2) scLaw.nd rfl (Or.inl rfl) (pe_op op_mod (pv 1) pe_int))
      (pss_cons (ps_set (i := 3) scLaw.nd rfl (Or.inl rfl) (pe_lst (pa_cons (pe_cmpR op_eq (pv 2) pe_int (nomark _)) (pa_cons (pe_cmpR op_in_seq (pv 2) (pe_lst (pa_cons pe_int (pa_cons pe_int pa_nil))) rfl) (pa_cons (pe_cmpR op_eq (pv 2) pe_int (nomark _)) (pa_cons (pe_cmpR op_eq (pv 2) pe_int (nomark _)) (pa_cons (pe_cmpR op_eq (pv 2) pe_int (nomark _)) (pa_cons pe_bl pa_nil))))))))
      (pss_one (ps_if (pt_cmpR (op_neB hu) (pe_call GT.ok hr rfl GT.mg GT.kp GT.bd .nil pass0 (pa_cons (pv 2) (pa_cons (pe_op op_mod (pe_op op_fdiv (pv 1) pe_int) pe_int) (pa_cons (pe_op op_mod (pe_op op_fdiv (pv 1) pe_int) pe_int) pa_nil)))) (pv 3) (nomark _)) (pss_one (ps_ret pe_bl)) pss_nil))))) p1, ?_⟩
    refine ⟨_, rfl, a, rfl, ⟨_, hS⟩, for_list (xs := ns.map V.int) (fun _ σ H2 => (∃ v1 v2 v3, σ = [some (.ref a), v1, v2, v3]) ∧ SqL K H2 a (ns.map V.int)) ⟨⟨_, _, _, rfl⟩, hS⟩ (fun _ _ _ _ h => h.2) ?_ (fun σ H2 _ => r1 σ H2)⟩
    rintro i x σ H2 hx ⟨⟨v1, v2, v3, rfl⟩, h2⟩
    obtain ⟨n, rfl⟩ : ∃ n, x = .int n := by
      rw [List.getElem?_map] at hx
      cases e : ns[i]? with
      | none => rw [e] at hx; cases hx
      | some n => rw [e] at hx; exact ⟨n, (Option.some.inj hx).symm⟩
    have k0 : 0 ≤ n % 6 := Int.emod_nonneg _ (by decide)
    have k6 : n % 6 < 6 := Int.emod_lt_of_pos _ (by decide)
    refine ⟨_, rfl, _, _, rfl, rfl, (by show (0 : Int) < _; decide), ?_⟩
    dsimp only
    generalize n % 6 = kd at k0 k6
    refine ⟨_, rfl, rfl, _, rfl, by show 2 ≤ sizeLine; decide, fun z hz => ⟨z, _, rfl, .inl (SqL.of upd_same), rfl, rfl, _, rfl, rfl, _, rfl, rfl, _, rfl, rfl, by show 6 ≤ sizeLine; decide, fun d hd => ?_⟩⟩
    have s3 : Same H2 (upd (upd H2 z (.lst [V.int 1, V.int 5])) d (.lst ((dueL kd).map V.bl))) := ((Same.refl H2).upd hz).upd (((Same.refl H2).upd hz).free hd)
    have hdd : (upd (upd H2 z (.lst [V.int 1, V.int 5])) d (.lst ((dueL kd).map V.bl))) d = some (.lst ((dueL kd).map V.bl)) := upd_same
    have edue : [V.bl (decide (V.int kd = V.int 0)), V.bl (if false then !inV (V.int kd) [V.int 1, V.int 5] else inV (V.int kd) [V.int 1, V.int 5]), V.bl (decide (V.int kd = V.int 2)), V.bl (decide (V.int kd = V.int 3)), V.bl (decide (V.int kd = V.int 4)), V.bl true] = (dueL kd).map V.bl := by
      have c6 : kd = 0 ∨ kd = 1 ∨ kd = 2 ∨ kd = 3 ∨ kd = 4 ∨ kd = 5 := six_of (by assumption) (by assumption)
      rcases c6 with rfl | rfl | rfl | rfl | rfl | rfl <;> decide
    rw [edue]
    generalize upd (upd H2 z (.lst [V.int 1, V.int 5])) d (.lst ((dueL kd).map V.bl)) = H3 at s3 hdd
    refine ⟨_, rfl, _, rfl, _, _, rfl, rfl, ⟨by decide, by decide⟩, _, _, rfl, rfl, (by show (0 : Int) < _; decide), _, rfl, _, _, rfl, rfl, ⟨by decide, by decide⟩, _, _, rfl, rfl, (by show (0 : Int) < _; decide), kd, _, _, rfl, k0, k6, Int.emod_nonneg _ (by decide), Int.emod_lt_of_pos _ (by decide), Int.emod_nonneg _ (by decide), Int.emod_lt_of_pos _ (by decide), fun p H4 hp s4 h4 => ?_⟩
    refine ⟨_, rfl, p, d, _, _, rfl, rfl, SqL.of h4, SqL.of (s4 _ _ hdd), _, rfl, ?_⟩
    exact iteNS rfl ⟨⟨_, _, _, rfl⟩, (s3.trans s4).seq h2⟩
end
end FW
namespace FW
open PySem L2
/-! ### what the top has written, and the law's own head -/
theorem lst0 {C : List Value → Prop} (h : C []) (us : List Value) (e : us.length = 0) : C us := by rw [List.length_eq_zero_iff.mp e]; exact h
theorem lstS {C : List Value → Prop} {n : Nat} (h : ∀ a us, us.length = n → C (a :: us)) (us : List Value) (e : us.length = n + 1) : C us := by
  cases us with
  | nil => cases e
  | cons a r => exact h a r (Nat.succ.inj e)
theorem lst1 {C : List Value → Prop} (h : ∀ a, C [a]) : ∀ us : List Value, us.length = 1 → C us := lstS (C := fun us => C (us)) fun a => lst0 (C := fun us => C (a :: us)) (h a)
theorem lst2 {C : List Value → Prop} (h : ∀ a b, C [a, b]) : ∀ us : List Value, us.length = 2 → C us := lstS (C := fun us => C (us)) fun a => lstS (C := fun us => C (a :: us)) fun b => lst0 (C := fun us => C (a :: b :: us)) (h a b)
theorem lst3 {C : List Value → Prop} (h : ∀ a b c, C [a, b, c]) : ∀ us : List Value, us.length = 3 → C us := lstS (C := fun us => C (us)) fun a => lstS (C := fun us => C (a :: us)) fun b => lstS (C := fun us => C (a :: b :: us)) fun c => lst0 (C := fun us => C (a :: b :: c :: us)) (h a b c)
theorem lst4 {C : List Value → Prop} (h : ∀ a b c d, C [a, b, c, d]) : ∀ us : List Value, us.length = 4 → C us := lstS (C := fun us => C (us)) fun a => lstS (C := fun us => C (a :: us)) fun b => lstS (C := fun us => C (a :: b :: us)) fun c => lstS (C := fun us => C (a :: b :: c :: us)) fun d => lst0 (C := fun us => C (a :: b :: c :: d :: us)) (h a b c d)
theorem lst5 {C : List Value → Prop} (h : ∀ a b c d e, C [a, b, c, d, e]) : ∀ us : List Value, us.length = 5 → C us := lstS (C := fun us => C (us)) fun a => lstS (C := fun us => C (a :: us)) fun b => lstS (C := fun us => C (a :: b :: us)) fun c => lstS (C := fun us => C (a :: b :: c :: us)) fun d => lstS (C := fun us => C (a :: b :: c :: d :: us)) fun e => lst0 (C := fun us => C (a :: b :: c :: d :: e :: us)) (h a b c d e)
theorem lst6 {C : List Value → Prop} (h : ∀ a b c d e f, C [a, b, c, d, e, f]) : ∀ us : List Value, us.length = 6 → C us := lstS (C := fun us => C (us)) fun a => lstS (C := fun us => C (a :: us)) fun b => lstS (C := fun us => C (a :: b :: us)) fun c => lstS (C := fun us => C (a :: b :: c :: us)) fun d => lstS (C := fun us => C (a :: b :: c :: d :: us)) fun e => lstS (C := fun us => C (a :: b :: c :: d :: e :: us)) fun f => lst0 (C := fun us => C (a :: b :: c :: d :: e :: f :: us)) (h a b c d e f)
theorem all_mk {l : PySem.W.OpenLaw} {w : World} {K : PySem.W.Frag} {h : Heap} {mg : Str → Option Value} {fa : Addr} (X : K.In h) (G : h.Ns mainGlobals mg) (hfa : mg "law" = some (.ref fa))
    {f1 : Addr} {od1 an1 : Option Addr} {sl1 : Array (Option Value)} {oc1 kV1 dc1 pm1 cd1 ct1 : Value}
    (a1 : PySem.W.nsIn K mainGlobals "is_whole" = some (some (.ref f1)))
    (l1 : K.lookup f1 = some ⟨oc1, od1, .func (PySem.W.fnOf "is_whole" "is_whole" (defArgs sWho) (defBody sWho) (defScope sWho) .none kV1 dc1 pm1 an1 cd1 ct1), sl1⟩)
    (c1 : PySem.W.codeIn K cd1 "is_whole" = true)
    (k1 : PySem.W.keepIn K (.ref f1) = true)
    {f2 : Addr} {od2 an2 : Option Addr} {sl2 : Array (Option Value)} {oc2 kV2 dc2 pm2 cd2 ct2 : Value}
    (a2 : PySem.W.nsIn K mainGlobals "is_throws" = some (some (.ref f2)))
    (l2 : K.lookup f2 = some ⟨oc2, od2, .func (PySem.W.fnOf "is_throws" "is_throws" (defArgs sThr) (defBody sThr) (defScope sThr) .none kV2 dc2 pm2 an2 cd2 ct2), sl2⟩)
    (c2 : PySem.W.codeIn K cd2 "is_throws" = true)
    (k2 : PySem.W.keepIn K (.ref f2) = true)
    {f3 : Addr} {od3 an3 : Option Addr} {sl3 : Array (Option Value)} {oc3 kV3 dc3 pm3 cd3 ct3 : Value}
    (a3 : PySem.W.nsIn K mainGlobals "is_word" = some (some (.ref f3)))
    (l3 : K.lookup f3 = some ⟨oc3, od3, .func (PySem.W.fnOf "is_word" "is_word" (defArgs sIsW) (defBody sIsW) (defScope sIsW) .none kV3 dc3 pm3 an3 cd3 ct3), sl3⟩)
    (c3 : PySem.W.codeIn K cd3 "is_word" = true)
    (k3 : PySem.W.keepIn K (.ref f3) = true)
    {f4 : Addr} {od4 an4 : Option Addr} {sl4 : Array (Option Value)} {oc4 kV4 dc4 pm4 cd4 ct4 : Value}
    (a4 : PySem.W.nsIn K mainGlobals "check_sides" = some (some (.ref f4)))
    (l4 : K.lookup f4 = some ⟨oc4, od4, .func (PySem.W.fnOf "check_sides" "check_sides" (defArgs sChS) (defBody sChS) (defScope sChS) .none kV4 dc4 pm4 an4 cd4 ct4), sl4⟩)
    (c4 : PySem.W.codeIn K cd4 "check_sides" = true)
    (k4 : PySem.W.keepIn K (.ref f4) = true)
    {f5 : Addr} {od5 an5 : Option Addr} {sl5 : Array (Option Value)} {oc5 kV5 dc5 pm5 cd5 ct5 : Value}
    (a5 : PySem.W.nsIn K mainGlobals "check_word" = some (some (.ref f5)))
    (l5 : K.lookup f5 = some ⟨oc5, od5, .func (PySem.W.fnOf "check_word" "check_word" (defArgs sChW) (defBody sChW) (defScope sChW) .none kV5 dc5 pm5 an5 cd5 ct5), sl5⟩)
    (c5 : PySem.W.codeIn K cd5 "check_word" = true)
    (k5 : PySem.W.keepIn K (.ref f5) = true)
    {f6 : Addr} {od6 an6 : Option Addr} {sl6 : Array (Option Value)} {oc6 kV6 dc6 pm6 cd6 ct6 : Value}
    (a6 : PySem.W.nsIn K mainGlobals "check_throws" = some (some (.ref f6)))
    (l6 : K.lookup f6 = some ⟨oc6, od6, .func (PySem.W.fnOf "check_throws" "check_throws" (defArgs sChT) (defBody sChT) (defScope sChT) .none kV6 dc6 pm6 an6 cd6 ct6), sl6⟩)
    (c6 : PySem.W.codeIn K cd6 "check_throws" = true)
    (k6 : PySem.W.keepIn K (.ref f6) = true)
    {f7 : Addr} {od7 an7 : Option Addr} {sl7 : Array (Option Value)} {oc7 kV7 dc7 pm7 cd7 ct7 : Value}
    (a7 : PySem.W.nsIn K mainGlobals "check_many" = some (some (.ref f7)))
    (l7 : K.lookup f7 = some ⟨oc7, od7, .func (PySem.W.fnOf "check_many" "check_many" (defArgs sChM) (defBody sChM) (defScope sChM) .none kV7 dc7 pm7 an7 cd7 ct7), sl7⟩)
    (c7 : PySem.W.codeIn K cd7 "check_many" = true)
    (k7 : PySem.W.keepIn K (.ref f7) = true)
    {f8 : Addr} {od8 an8 : Option Addr} {sl8 : Array (Option Value)} {oc8 kV8 dc8 pm8 cd8 ct8 : Value}
    (a8 : PySem.W.nsIn K mainGlobals "step" = some (some (.ref f8)))
    (l8 : K.lookup f8 = some ⟨oc8, od8, .func (PySem.W.fnOf "step" "step" (defArgs sStep) (defBody sStep) (defScope sStep) .none kV8 dc8 pm8 an8 cd8 ct8), sl8⟩)
    (c8 : PySem.W.codeIn K cd8 "step" = true)
    (k8 : PySem.W.keepIn K (.ref f8) = true)
    {f9 : Addr} {od9 an9 : Option Addr} {sl9 : Array (Option Value)} {oc9 kV9 dc9 pm9 cd9 ct9 : Value}
    (a9 : PySem.W.nsIn K mainGlobals "shorter_beginnings" = some (some (.ref f9)))
    (l9 : K.lookup f9 = some ⟨oc9, od9, .func (PySem.W.fnOf "shorter_beginnings" "shorter_beginnings" (defArgs sSh) (defBody sSh) (defScope sSh) .none kV9 dc9 pm9 an9 cd9 ct9), sl9⟩)
    (c9 : PySem.W.codeIn K cd9 "shorter_beginnings" = true)
    (k9 : PySem.W.keepIn K (.ref f9) = true)
    {f10 : Addr} {od10 an10 : Option Addr} {sl10 : Array (Option Value)} {oc10 kV10 dc10 pm10 cd10 ct10 : Value}
    (a10 : PySem.W.nsIn K mainGlobals "reached_by_count" = some (some (.ref f10)))
    (l10 : K.lookup f10 = some ⟨oc10, od10, .func (PySem.W.fnOf "reached_by_count" "reached_by_count" (defArgs sRe) (defBody sRe) (defScope sRe) .none kV10 dc10 pm10 an10 cd10 ct10), sl10⟩)
    (c10 : PySem.W.codeIn K cd10 "reached_by_count" = true)
    (k10 : PySem.W.keepIn K (.ref f10) = true)
    {f11 : Addr} {od11 an11 : Option Addr} {sl11 : Array (Option Value)} {oc11 kV11 dc11 pm11 cd11 ct11 : Value}
    (a11 : PySem.W.nsIn K mainGlobals "overlaps" = some (some (.ref f11)))
    (l11 : K.lookup f11 = some ⟨oc11, od11, .func (PySem.W.fnOf "overlaps" "overlaps" (defArgs sOv) (defBody sOv) (defScope sOv) .none kV11 dc11 pm11 an11 cd11 ct11), sl11⟩)
    (c11 : PySem.W.codeIn K cd11 "overlaps" = true)
    (k11 : PySem.W.keepIn K (.ref f11) = true)
    {f12 : Addr} {od12 an12 : Option Addr} {sl12 : Array (Option Value)} {oc12 kV12 dc12 pm12 cd12 ct12 : Value}
    (a12 : PySem.W.nsIn K mainGlobals "stands" = some (some (.ref f12)))
    (l12 : K.lookup f12 = some ⟨oc12, od12, .func (PySem.W.fnOf "stands" "stands" (defArgs sSt) (defBody sSt) (defScope sSt) .none kV12 dc12 pm12 an12 cd12 ct12), sl12⟩)
    (c12 : PySem.W.codeIn K cd12 "stands" = true)
    (k12 : PySem.W.keepIn K (.ref f12) = true)
    {f13 : Addr} {od13 an13 : Option Addr} {sl13 : Array (Option Value)} {oc13 kV13 dc13 pm13 cd13 ct13 : Value}
    (a13 : PySem.W.nsIn K mainGlobals "ends" = some (some (.ref f13)))
    (l13 : K.lookup f13 = some ⟨oc13, od13, .func (PySem.W.fnOf "ends" "ends" (defArgs sEn) (defBody sEn) (defScope sEn) .none kV13 dc13 pm13 an13 cd13 ct13), sl13⟩)
    (c13 : PySem.W.codeIn K cd13 "ends" = true)
    (k13 : PySem.W.keepIn K (.ref f13) = true)
    {f14 : Addr} {od14 an14 : Option Addr} {sl14 : Array (Option Value)} {oc14 kV14 dc14 pm14 cd14 ct14 : Value}
    (a14 : PySem.W.nsIn K mainGlobals "held_by_count" = some (some (.ref f14)))
    (l14 : K.lookup f14 = some ⟨oc14, od14, .func (PySem.W.fnOf "held_by_count" "held_by_count" (defArgs sHeld) (defBody sHeld) (defScope sHeld) .none kV14 dc14 pm14 an14 cd14 ct14), sl14⟩)
    (c14 : PySem.W.codeIn K cd14 "held_by_count" = true)
    (k14 : PySem.W.keepIn K (.ref f14) = true)
    {f15 : Addr} {od15 an15 : Option Addr} {sl15 : Array (Option Value)} {oc15 kV15 dc15 pm15 cd15 ct15 : Value}
    (a15 : PySem.W.nsIn K mainGlobals "waits" = some (some (.ref f15)))
    (l15 : K.lookup f15 = some ⟨oc15, od15, .func (PySem.W.fnOf "waits" "waits" (defArgs sWaits) (defBody sWaits) (defScope sWaits) .none kV15 dc15 pm15 an15 cd15 ct15), sl15⟩)
    (c15 : PySem.W.codeIn K cd15 "waits" = true)
    (k15 : PySem.W.keepIn K (.ref f15) = true)
    {f16 : Addr} {od16 an16 : Option Addr} {sl16 : Array (Option Value)} {oc16 kV16 dc16 pm16 cd16 ct16 : Value}
    (a16 : PySem.W.nsIn K mainGlobals "race" = some (some (.ref f16)))
    (l16 : K.lookup f16 = some ⟨oc16, od16, .func (PySem.W.fnOf "race" "race" (defArgs sRaceF) (defBody sRaceF) (defScope sRaceF) .none kV16 dc16 pm16 an16 cd16 ct16), sl16⟩)
    (c16 : PySem.W.codeIn K cd16 "race" = true)
    (k16 : PySem.W.keepIn K (.ref f16) = true)
    {f17 : Addr} {od17 an17 : Option Addr} {sl17 : Array (Option Value)} {oc17 kV17 dc17 pm17 cd17 ct17 : Value}
    (a17 : PySem.W.nsIn K mainGlobals "likelier" = some (some (.ref f17)))
    (l17 : K.lookup f17 = some ⟨oc17, od17, .func (PySem.W.fnOf "likelier" "likelier" (defArgs sLik) (defBody sLik) (defScope sLik) .none kV17 dc17 pm17 an17 cd17 ct17), sl17⟩)
    (c17 : PySem.W.codeIn K cd17 "likelier" = true)
    (k17 : PySem.W.keepIn K (.ref f17) = true)
    {f18 : Addr} {od18 an18 : Option Addr} {sl18 : Array (Option Value)} {oc18 kV18 dc18 pm18 cd18 ct18 : Value}
    (a18 : PySem.W.nsIn K mainGlobals "firsts" = some (some (.ref f18)))
    (l18 : K.lookup f18 = some ⟨oc18, od18, .func (PySem.W.fnOf "firsts" "firsts" (defArgs sFirsts) (defBody sFirsts) (defScope sFirsts) .none kV18 dc18 pm18 an18 cd18 ct18), sl18⟩)
    (c18 : PySem.W.codeIn K cd18 "firsts" = true)
    (k18 : PySem.W.keepIn K (.ref f18) = true)
    {f19 : Addr} {od19 an19 : Option Addr} {sl19 : Array (Option Value)} {oc19 kV19 dc19 pm19 cd19 ct19 : Value}
    (a19 : PySem.W.nsIn K mainGlobals "without" = some (some (.ref f19)))
    (l19 : K.lookup f19 = some ⟨oc19, od19, .func (PySem.W.fnOf "without" "without" (defArgs sWithout) (defBody sWithout) (defScope sWithout) .none kV19 dc19 pm19 an19 cd19 ct19), sl19⟩)
    (c19 : PySem.W.codeIn K cd19 "without" = true)
    (k19 : PySem.W.keepIn K (.ref f19) = true)
    {f20 : Addr} {od20 an20 : Option Addr} {sl20 : Array (Option Value)} {oc20 kV20 dc20 pm20 cd20 ct20 : Value}
    (a20 : PySem.W.nsIn K mainGlobals "counted_rows" = some (some (.ref f20)))
    (l20 : K.lookup f20 = some ⟨oc20, od20, .func (PySem.W.fnOf "counted_rows" "counted_rows" (defArgs sCnt) (defBody sCnt) (defScope sCnt) .none kV20 dc20 pm20 an20 cd20 ct20), sl20⟩)
    (c20 : PySem.W.codeIn K cd20 "counted_rows" = true)
    (k20 : PySem.W.keepIn K (.ref f20) = true)
    {f21 : Addr} {od21 an21 : Option Addr} {sl21 : Array (Option Value)} {oc21 kV21 dc21 pm21 cd21 ct21 : Value}
    (a21 : PySem.W.nsIn K mainGlobals "first_at_end" = some (some (.ref f21)))
    (l21 : K.lookup f21 = some ⟨oc21, od21, .func (PySem.W.fnOf "first_at_end" "first_at_end" (defArgs sFae) (defBody sFae) (defScope sFae) .none kV21 dc21 pm21 an21 cd21 ct21), sl21⟩)
    (c21 : PySem.W.codeIn K cd21 "first_at_end" = true)
    (k21 : PySem.W.keepIn K (.ref f21) = true)
    {f22 : Addr} {od22 an22 : Option Addr} {sl22 : Array (Option Value)} {oc22 kV22 dc22 pm22 cd22 ct22 : Value}
    (a22 : PySem.W.nsIn K mainGlobals "_law_sides_asked" = some (some (.ref f22)))
    (l22 : K.lookup f22 = some ⟨oc22, od22, .func (PySem.W.fnOf "_law_sides_asked" "_law_sides_asked" (defArgs sAskS) (defBody sAskS) (defScope sAskS) .none kV22 dc22 pm22 an22 cd22 ct22), sl22⟩)
    (c22 : PySem.W.codeIn K cd22 "_law_sides_asked" = true)
    (k22 : PySem.W.keepIn K (.ref f22) = true)
    {f23 : Addr} {od23 an23 : Option Addr} {sl23 : Array (Option Value)} {oc23 kV23 dc23 pm23 cd23 ct23 : Value}
    (a23 : PySem.W.nsIn K mainGlobals "_law_word_asked" = some (some (.ref f23)))
    (l23 : K.lookup f23 = some ⟨oc23, od23, .func (PySem.W.fnOf "_law_word_asked" "_law_word_asked" (defArgs sAskW) (defBody sAskW) (defScope sAskW) .none kV23 dc23 pm23 an23 cd23 ct23), sl23⟩)
    (c23 : PySem.W.codeIn K cd23 "_law_word_asked" = true)
    (k23 : PySem.W.keepIn K (.ref f23) = true)
    {f24 : Addr} {od24 an24 : Option Addr} {sl24 : Array (Option Value)} {oc24 kV24 dc24 pm24 cd24 ct24 : Value}
    (a24 : PySem.W.nsIn K mainGlobals "_law_letter_asked" = some (some (.ref f24)))
    (l24 : K.lookup f24 = some ⟨oc24, od24, .func (PySem.W.fnOf "_law_letter_asked" "_law_letter_asked" (defArgs sAskL) (defBody sAskL) (defScope sAskL) .none kV24 dc24 pm24 an24 cd24 ct24), sl24⟩)
    (c24 : PySem.W.codeIn K cd24 "_law_letter_asked" = true)
    (k24 : PySem.W.keepIn K (.ref f24) = true)
    {f25 : Addr} {od25 an25 : Option Addr} {sl25 : Array (Option Value)} {oc25 kV25 dc25 pm25 cd25 ct25 : Value}
    (a25 : PySem.W.nsIn K mainGlobals "_law_others_asked" = some (some (.ref f25)))
    (l25 : K.lookup f25 = some ⟨oc25, od25, .func (PySem.W.fnOf "_law_others_asked" "_law_others_asked" (defArgs sAskO) (defBody sAskO) (defScope sAskO) .none kV25 dc25 pm25 an25 cd25 ct25), sl25⟩)
    (c25 : PySem.W.codeIn K cd25 "_law_others_asked" = true)
    (k25 : PySem.W.keepIn K (.ref f25) = true)
    {f26 : Addr} {od26 an26 : Option Addr} {sl26 : Array (Option Value)} {oc26 kV26 dc26 pm26 cd26 ct26 : Value}
    (a26 : PySem.W.nsIn K mainGlobals "_law_told" = some (some (.ref f26)))
    (l26 : K.lookup f26 = some ⟨oc26, od26, .func (PySem.W.fnOf "_law_told" "_law_told" (defArgs sTold) (defBody sTold) (defScope sTold) .none kV26 dc26 pm26 an26 cd26 ct26), sl26⟩)
    (c26 : PySem.W.codeIn K cd26 "_law_told" = true)
    (k26 : PySem.W.keepIn K (.ref f26) = true)
    {f27 : Addr} {od27 an27 : Option Addr} {sl27 : Array (Option Value)} {oc27 kV27 dc27 pm27 cd27 ct27 : Value}
    (a27 : PySem.W.nsIn K mainGlobals "law" = some (some (.ref f27)))
    (l27 : K.lookup f27 = some ⟨oc27, od27, .func (PySem.W.fnOf "law" "law" (defArgs sLaw) (defBody sLaw) (defScope sLaw) .none kV27 dc27 pm27 an27 cd27 ct27), sl27⟩)
    (c27 : PySem.W.codeIn K cd27 "law" = true)
    (k27 : PySem.W.keepIn K (.ref f27) = true)
    {xc1 : Str} {tc1 : Tok}
    (v1 : PySem.W.nsIn K mainGlobals "LETTERS" = some (some (.str xc1 tc1)))
    (e1 : xc1 = tx alpha)
    {tc2 : Tok}
    (v2 : PySem.W.nsIn K mainGlobals "LEAST_SIDES" = some (some (.int 2 tc2)))
    {tc3 : Tok}
    (v3 : PySem.W.nsIn K mainGlobals "MOST_SIDES" = some (some (.int 26 tc3)))
    {tc4 : Tok}
    (v4 : PySem.W.nsIn K mainGlobals "MOST_MANY" = some (some (.int 300 tc4)))
    {tc5 : Tok}
    (v5 : PySem.W.nsIn K mainGlobals "COIN_SIDES" = some (some (.int 2 tc5)))
    {tc6 : Tok}
    (v6 : PySem.W.nsIn K mainGlobals "LEAST_LETTERS" = some (some (.int 3 tc6)))
    {CWait : Addr}
    (aWait : PySem.W.nsIn K mainGlobals "Wait" = some (some (.ref CWait)))
    (pgWait : PySem.W.plainGet K CWait Str.empty = true)
    (hdWait : PySem.W.hasDictIn K CWait = true)
    (poWait : PySem.W.plainOver K CWait = true)
    (saWait : PySem.W.findIn K (.ref CWait) "__setattr__" = some (some (.builtin "object.__setattr__")))
    {fIWait : Addr}
    (mkWait : PySem.W.makesIn K CWait = true)
    (inWait : PySem.W.findIn K (.ref CWait) "__init__" = some (some (.ref fIWait)))
    (fnWait : PySem.W.isFn K (.ref fIWait) = true)
    (kcWait : PySem.W.keepIn K (.ref CWait) = true)
    {odIWait anIWait : Option Addr} {slIWait : Array (Option Value)} {ocIWait kVIWait dcIWait pmIWait cdIWait ctIWait : Value}
    (lIWait : K.lookup fIWait = some ⟨ocIWait, odIWait, .func (PySem.W.fnOf "__init__" "Wait.__init__" (defArgs sWaitI) (defBody sWaitI) (defScope sWaitI) .none kVIWait dcIWait pmIWait anIWait cdIWait ctIWait), slIWait⟩)
    (cIWait : PySem.W.codeIn K cdIWait "Wait.__init__" = true)
    (kIWait : PySem.W.keepIn K (.ref fIWait) = true)
    {fSWait : Addr}
    (atWait : PySem.W.findIn K (.ref CWait) "shows" = some (some (.ref fSWait)))
    (mfWait : PySem.W.isFn K (.ref fSWait) = true)
    {odSWait anSWait : Option Addr} {slSWait : Array (Option Value)} {ocSWait kVSWait dcSWait pmSWait cdSWait ctSWait : Value}
    (lSWait : K.lookup fSWait = some ⟨ocSWait, odSWait, .func (PySem.W.fnOf "shows" "Wait.shows" (defArgs sWaitS) (defBody sWaitS) (defScope sWaitS) .none kVSWait dcSWait pmSWait anSWait cdSWait ctSWait), slSWait⟩)
    (cSWait : PySem.W.codeIn K cdSWait "Wait.shows" = true)
    (kSWait : PySem.W.keepIn K (.ref fSWait) = true)
    (noWait_table : PySem.W.findIn K (.ref CWait) "table" = some none)
    {CBadSides : Addr}
    (aBadSides : PySem.W.nsIn K mainGlobals "BadSides" = some (some (.ref CBadSides)))
    (xBadSides : PySem.W.excIn K CBadSides [.type "ValueError", .type "Exception", .type "BaseException", .type "object"] "ValueError.__new__" = true)
    {CBadWord : Addr}
    (aBadWord : PySem.W.nsIn K mainGlobals "BadWord" = some (some (.ref CBadWord)))
    (xBadWord : PySem.W.excIn K CBadWord [.type "ValueError", .type "Exception", .type "BaseException", .type "object"] "ValueError.__new__" = true)
    {CBadThrows : Addr}
    (aBadThrows : PySem.W.nsIn K mainGlobals "BadThrows" = some (some (.ref CBadThrows)))
    (xBadThrows : PySem.W.excIn K CBadThrows [.type "ValueError", .type "Exception", .type "BaseException", .type "object"] "ValueError.__new__" = true)
    {CBadMany : Addr}
    (aBadMany : PySem.W.nsIn K mainGlobals "BadMany" = some (some (.ref CBadMany)))
    (xBadMany : PySem.W.excIn K CBadMany [.type "ValueError", .type "Exception", .type "BaseException", .type "object"] "ValueError.__new__" = true)
    {CWithin : Addr}
    (aWithin : PySem.W.nsIn K mainGlobals "Within" = some (some (.ref CWithin)))
    (xWithin : PySem.W.excIn K CWithin [.type "ValueError", .type "Exception", .type "BaseException", .type "object"] "ValueError.__new__" = true)
    {CThrowError : Addr}
    (aThrowError : PySem.W.nsIn K mainGlobals "ThrowError" = some (some (.ref CThrowError)))
    (tb : PySem.W.subIn K (.ref CThrowError) (.type "BaseException") = some true)
    (ti : PySem.W.isClsIn K CThrowError = true)
    (tt : PySem.W.typeIn K (.ref CThrowError) = some (.type "type"))
    (sp : PySem.W.specialIn K (.builtin "object.__class__") "__get__" = some (some (.builtin "getset_descriptor.__get__")))
    (tk : PySem.W.takesIn K (.builtin "object.__class__") = some true)
    (egBadSides : PySem.W.findIn K (.ref CBadSides) "__getattribute__" = some (some (.builtin "BaseException.__getattribute__")))
    (ehBadSides : PySem.W.findIn K (.ref CBadSides) "__getattr__" = some none)
    (ebBadSides : PySem.W.subIn K (.ref CBadSides) (.type "BaseException") = some true)
    (eiBadSides : PySem.W.isClsIn K CBadSides = true)
    (etBadSides : PySem.W.typeIn K (.ref CBadSides) = some (.type "type"))
    (efBadSides : PySem.W.findIn K (.ref CBadSides) "__class__" = some (some (.builtin "object.__class__")))
    (emBadSides : PySem.W.mroIn K CBadSides (.type "object") = some true)
    (esBadSides : PySem.W.subIn K (.ref CBadSides) (.ref CThrowError) = some true)
    (evBadSides : PySem.W.subIn K (.ref CBadSides) (.type "ValueError") = some true)
    (egBadWord : PySem.W.findIn K (.ref CBadWord) "__getattribute__" = some (some (.builtin "BaseException.__getattribute__")))
    (ehBadWord : PySem.W.findIn K (.ref CBadWord) "__getattr__" = some none)
    (ebBadWord : PySem.W.subIn K (.ref CBadWord) (.type "BaseException") = some true)
    (eiBadWord : PySem.W.isClsIn K CBadWord = true)
    (etBadWord : PySem.W.typeIn K (.ref CBadWord) = some (.type "type"))
    (efBadWord : PySem.W.findIn K (.ref CBadWord) "__class__" = some (some (.builtin "object.__class__")))
    (emBadWord : PySem.W.mroIn K CBadWord (.type "object") = some true)
    (esBadWord : PySem.W.subIn K (.ref CBadWord) (.ref CThrowError) = some true)
    (evBadWord : PySem.W.subIn K (.ref CBadWord) (.type "ValueError") = some true)
    (egBadThrows : PySem.W.findIn K (.ref CBadThrows) "__getattribute__" = some (some (.builtin "BaseException.__getattribute__")))
    (ehBadThrows : PySem.W.findIn K (.ref CBadThrows) "__getattr__" = some none)
    (ebBadThrows : PySem.W.subIn K (.ref CBadThrows) (.type "BaseException") = some true)
    (eiBadThrows : PySem.W.isClsIn K CBadThrows = true)
    (etBadThrows : PySem.W.typeIn K (.ref CBadThrows) = some (.type "type"))
    (efBadThrows : PySem.W.findIn K (.ref CBadThrows) "__class__" = some (some (.builtin "object.__class__")))
    (emBadThrows : PySem.W.mroIn K CBadThrows (.type "object") = some true)
    (esBadThrows : PySem.W.subIn K (.ref CBadThrows) (.ref CThrowError) = some true)
    (evBadThrows : PySem.W.subIn K (.ref CBadThrows) (.type "ValueError") = some true)
    (egBadMany : PySem.W.findIn K (.ref CBadMany) "__getattribute__" = some (some (.builtin "BaseException.__getattribute__")))
    (ehBadMany : PySem.W.findIn K (.ref CBadMany) "__getattr__" = some none)
    (ebBadMany : PySem.W.subIn K (.ref CBadMany) (.type "BaseException") = some true)
    (eiBadMany : PySem.W.isClsIn K CBadMany = true)
    (etBadMany : PySem.W.typeIn K (.ref CBadMany) = some (.type "type"))
    (efBadMany : PySem.W.findIn K (.ref CBadMany) "__class__" = some (some (.builtin "object.__class__")))
    (emBadMany : PySem.W.mroIn K CBadMany (.type "object") = some true)
    (esBadMany : PySem.W.subIn K (.ref CBadMany) (.ref CThrowError) = some true)
    (evBadMany : PySem.W.subIn K (.ref CBadMany) (.type "ValueError") = some true)
    (egWithin : PySem.W.findIn K (.ref CWithin) "__getattribute__" = some (some (.builtin "BaseException.__getattribute__")))
    (ehWithin : PySem.W.findIn K (.ref CWithin) "__getattr__" = some none)
    (ebWithin : PySem.W.subIn K (.ref CWithin) (.type "BaseException") = some true)
    (eiWithin : PySem.W.isClsIn K CWithin = true)
    (etWithin : PySem.W.typeIn K (.ref CWithin) = some (.type "type"))
    (efWithin : PySem.W.findIn K (.ref CWithin) "__class__" = some (some (.builtin "object.__class__")))
    (emWithin : PySem.W.mroIn K CWithin (.type "object") = some true)
    (esWithin : PySem.W.subIn K (.ref CWithin) (.ref CThrowError) = some true)
    (evWithin : PySem.W.subIn K (.ref CWithin) (.type "ValueError") = some true)
    (ksBadSidesBadSides : PySem.W.subIn K (.ref CBadSides) (.ref CBadSides) = some true)
    (ksBadSidesBadWord : PySem.W.subIn K (.ref CBadSides) (.ref CBadWord) = some false)
    (knBadSidesBadWord : CBadSides ≠ CBadWord)
    (ksBadSidesBadThrows : PySem.W.subIn K (.ref CBadSides) (.ref CBadThrows) = some false)
    (knBadSidesBadThrows : CBadSides ≠ CBadThrows)
    (ksBadSidesBadMany : PySem.W.subIn K (.ref CBadSides) (.ref CBadMany) = some false)
    (knBadSidesBadMany : CBadSides ≠ CBadMany)
    (ksBadSidesWithin : PySem.W.subIn K (.ref CBadSides) (.ref CWithin) = some false)
    (knBadSidesWithin : CBadSides ≠ CWithin)
    (ksBadWordBadSides : PySem.W.subIn K (.ref CBadWord) (.ref CBadSides) = some false)
    (knBadWordBadSides : CBadWord ≠ CBadSides)
    (ksBadWordBadWord : PySem.W.subIn K (.ref CBadWord) (.ref CBadWord) = some true)
    (ksBadWordBadThrows : PySem.W.subIn K (.ref CBadWord) (.ref CBadThrows) = some false)
    (knBadWordBadThrows : CBadWord ≠ CBadThrows)
    (ksBadWordBadMany : PySem.W.subIn K (.ref CBadWord) (.ref CBadMany) = some false)
    (knBadWordBadMany : CBadWord ≠ CBadMany)
    (ksBadWordWithin : PySem.W.subIn K (.ref CBadWord) (.ref CWithin) = some false)
    (knBadWordWithin : CBadWord ≠ CWithin)
    (ksBadThrowsBadSides : PySem.W.subIn K (.ref CBadThrows) (.ref CBadSides) = some false)
    (knBadThrowsBadSides : CBadThrows ≠ CBadSides)
    (ksBadThrowsBadWord : PySem.W.subIn K (.ref CBadThrows) (.ref CBadWord) = some false)
    (knBadThrowsBadWord : CBadThrows ≠ CBadWord)
    (ksBadThrowsBadThrows : PySem.W.subIn K (.ref CBadThrows) (.ref CBadThrows) = some true)
    (ksBadThrowsBadMany : PySem.W.subIn K (.ref CBadThrows) (.ref CBadMany) = some false)
    (knBadThrowsBadMany : CBadThrows ≠ CBadMany)
    (ksBadThrowsWithin : PySem.W.subIn K (.ref CBadThrows) (.ref CWithin) = some false)
    (knBadThrowsWithin : CBadThrows ≠ CWithin)
    (ksBadManyBadSides : PySem.W.subIn K (.ref CBadMany) (.ref CBadSides) = some false)
    (knBadManyBadSides : CBadMany ≠ CBadSides)
    (ksBadManyBadWord : PySem.W.subIn K (.ref CBadMany) (.ref CBadWord) = some false)
    (knBadManyBadWord : CBadMany ≠ CBadWord)
    (ksBadManyBadThrows : PySem.W.subIn K (.ref CBadMany) (.ref CBadThrows) = some false)
    (knBadManyBadThrows : CBadMany ≠ CBadThrows)
    (ksBadManyBadMany : PySem.W.subIn K (.ref CBadMany) (.ref CBadMany) = some true)
    (ksBadManyWithin : PySem.W.subIn K (.ref CBadMany) (.ref CWithin) = some false)
    (knBadManyWithin : CBadMany ≠ CWithin)
    (ksWithinBadSides : PySem.W.subIn K (.ref CWithin) (.ref CBadSides) = some false)
    (knWithinBadSides : CWithin ≠ CBadSides)
    (ksWithinBadWord : PySem.W.subIn K (.ref CWithin) (.ref CBadWord) = some false)
    (knWithinBadWord : CWithin ≠ CBadWord)
    (ksWithinBadThrows : PySem.W.subIn K (.ref CWithin) (.ref CBadThrows) = some false)
    (knWithinBadThrows : CWithin ≠ CBadThrows)
    (ksWithinBadMany : PySem.W.subIn K (.ref CWithin) (.ref CBadMany) = some false)
    (knWithinBadMany : CWithin ≠ CBadMany)
    (ksWithinWithin : PySem.W.subIn K (.ref CWithin) (.ref CWithin) = some true)
    (z1 : PySem.W.nsIn K mainGlobals "isinstance" = some none)
    (z2 : PySem.W.nsIn K mainGlobals "str" = some none)
    (z3 : PySem.W.nsIn K mainGlobals "int" = some none)
    (z4 : PySem.W.nsIn K mainGlobals "bool" = some none)
    (z5 : PySem.W.nsIn K mainGlobals "list" = some none)
    (z6 : PySem.W.nsIn K mainGlobals "all" = some none)
    (z7 : PySem.W.nsIn K mainGlobals "any" = some none)
    (z8 : PySem.W.nsIn K mainGlobals "len" = some none)
    (z9 : PySem.W.nsIn K mainGlobals "sum" = some none)
    (z10 : PySem.W.nsIn K mainGlobals "min" = some none)
    (z11 : PySem.W.nsIn K mainGlobals "max" = some none)
    (z12 : PySem.W.nsIn K mainGlobals "range" = some none)
    (z13 : PySem.W.nsIn K mainGlobals "enumerate" = some none)
    (z14 : PySem.W.nsIn K mainGlobals "reversed" = some none)
    (z15 : PySem.W.nsIn K mainGlobals "zip" = some none)
    (z16 : PySem.W.nsIn K mainGlobals "set" = some none)
    (z17 : PySem.W.nsIn K mainGlobals "sorted" = some none)
    (z18 : PySem.W.nsIn K mainGlobals "ValueError" = some none)
    (z19 : PySem.W.nsIn K mainGlobals "ord" = some none)
    (z20 : PySem.W.nsIn K mainGlobals "dict" = some none) :
    ∃ fd : FuncData, (∀ (s : Shared) (v : Value), BindsTo s fd ⟨[v], []⟩ [("_law_script", v)]) ∧ ∀ base : Heap, K.In base → base.Ns mainGlobals mg → FnOk l.prog w K mg base CX0 8 fa fd ["_law_script"] (spLaw K) := by
  have e := hfa.symm.trans (PySem.W.mg_of X G a27)
  cases e
  have B : Bl mg := ⟨PySem.W.mg_none_of X G z1, PySem.W.mg_none_of X G z2, PySem.W.mg_none_of X G z3, PySem.W.mg_none_of X G z4, PySem.W.mg_none_of X G z5, PySem.W.mg_none_of X G z6, PySem.W.mg_none_of X G z7, PySem.W.mg_none_of X G z8, PySem.W.mg_none_of X G z9, PySem.W.mg_none_of X G z10, PySem.W.mg_none_of X G z11, PySem.W.mg_none_of X G z12, PySem.W.mg_none_of X G z13, PySem.W.mg_none_of X G z14, PySem.W.mg_none_of X G z15, PySem.W.mg_none_of X G z16, PySem.W.mg_none_of X G z17, PySem.W.mg_none_of X G z18, PySem.W.mg_none_of X G z19, PySem.W.mg_none_of X G z20⟩
  have F1 := fun_mk (st := sWho) l1 c1 k1
  have b1 := F1.binds (ps := ["thing"]) fun _ _ _ _ _ _ us hl => lst1 (C := fun us => bindArgs _ ⟨us, []⟩ = pure (List.zip _ us)) (fun _ => rfl) us hl
  have m1 := PySem.W.mg_of X G a1
  have F2 := fun_mk (st := sThr) l2 c2 k2
  have b2 := F2.binds (ps := ["sides", "thing"]) fun _ _ _ _ _ _ us hl => lst2 (C := fun us => bindArgs _ ⟨us, []⟩ = pure (List.zip _ us)) (fun _ _ => rfl) us hl
  have m2 := PySem.W.mg_of X G a2
  have F3 := fun_mk (st := sIsW) l3 c3 k3
  have b3 := F3.binds (ps := ["sides", "thing"]) fun _ _ _ _ _ _ us hl => lst2 (C := fun us => bindArgs _ ⟨us, []⟩ = pure (List.zip _ us)) (fun _ _ => rfl) us hl
  have m3 := PySem.W.mg_of X G a3
  have F4 := fun_mk (st := sChS) l4 c4 k4
  have b4 := F4.binds (ps := ["sides"]) fun _ _ _ _ _ _ us hl => lst1 (C := fun us => bindArgs _ ⟨us, []⟩ = pure (List.zip _ us)) (fun _ => rfl) us hl
  have m4 := PySem.W.mg_of X G a4
  have F5 := fun_mk (st := sChW) l5 c5 k5
  have b5 := F5.binds (ps := ["sides", "word"]) fun _ _ _ _ _ _ us hl => lst2 (C := fun us => bindArgs _ ⟨us, []⟩ = pure (List.zip _ us)) (fun _ _ => rfl) us hl
  have m5 := PySem.W.mg_of X G a5
  have F6 := fun_mk (st := sChT) l6 c6 k6
  have b6 := F6.binds (ps := ["sides", "throws"]) fun _ _ _ _ _ _ us hl => lst2 (C := fun us => bindArgs _ ⟨us, []⟩ = pure (List.zip _ us)) (fun _ _ => rfl) us hl
  have m6 := PySem.W.mg_of X G a6
  have F7 := fun_mk (st := sChM) l7 c7 k7
  have b7 := F7.binds (ps := ["many"]) fun _ _ _ _ _ _ us hl => lst1 (C := fun us => bindArgs _ ⟨us, []⟩ = pure (List.zip _ us)) (fun _ => rfl) us hl
  have m7 := PySem.W.mg_of X G a7
  have F8 := fun_mk (st := sStep) l8 c8 k8
  have b8 := F8.binds (ps := ["word", "shorter", "reached", "letter"]) fun _ _ _ _ _ _ us hl => lst4 (C := fun us => bindArgs _ ⟨us, []⟩ = pure (List.zip _ us)) (fun _ _ _ _ => rfl) us hl
  have m8 := PySem.W.mg_of X G a8
  have F9 := fun_mk (st := sSh) l9 c9 k9
  have b9 := F9.binds (ps := ["word"]) fun _ _ _ _ _ _ us hl => lst1 (C := fun us => bindArgs _ ⟨us, []⟩ = pure (List.zip _ us)) (fun _ => rfl) us hl
  have m9 := PySem.W.mg_of X G a9
  have F10 := fun_mk (st := sRe) l10 c10 k10
  have b10 := F10.binds (ps := ["word", "throws"]) fun _ _ _ _ _ _ us hl => lst2 (C := fun us => bindArgs _ ⟨us, []⟩ = pure (List.zip _ us)) (fun _ _ => rfl) us hl
  have m10 := PySem.W.mg_of X G a10
  have F11 := fun_mk (st := sOv) l11 c11 k11
  have b11 := F11.binds (ps := ["word"]) fun _ _ _ _ _ _ us hl => lst1 (C := fun us => bindArgs _ ⟨us, []⟩ = pure (List.zip _ us)) (fun _ => rfl) us hl
  have m11 := PySem.W.mg_of X G a11
  have F12 := fun_mk (st := sSt) l12 c12 k12
  have b12 := F12.binds (ps := ["word", "throws"]) fun _ _ _ _ _ _ us hl => lst2 (C := fun us => bindArgs _ ⟨us, []⟩ = pure (List.zip _ us)) (fun _ _ => rfl) us hl
  have m12 := PySem.W.mg_of X G a12
  have F13 := fun_mk (st := sEn) l13 c13 k13
  have b13 := F13.binds (ps := ["word", "throws"]) fun _ _ _ _ _ _ us hl => lst2 (C := fun us => bindArgs _ ⟨us, []⟩ = pure (List.zip _ us)) (fun _ _ => rfl) us hl
  have m13 := PySem.W.mg_of X G a13
  have F14 := fun_mk (st := sHeld) l14 c14 k14
  have b14 := F14.binds (ps := ["sides", "word"]) fun _ _ _ _ _ _ us hl => lst2 (C := fun us => bindArgs _ ⟨us, []⟩ = pure (List.zip _ us)) (fun _ _ => rfl) us hl
  have m14 := PySem.W.mg_of X G a14
  have F15 := fun_mk (st := sWaits) l15 c15 k15
  have b15 := F15.binds (ps := ["sides", "word"]) fun _ _ _ _ _ _ us hl => lst2 (C := fun us => bindArgs _ ⟨us, []⟩ = pure (List.zip _ us)) (fun _ _ => rfl) us hl
  have m15 := PySem.W.mg_of X G a15
  have F16 := fun_mk (st := sRaceF) l16 c16 k16
  have b16 := F16.binds (ps := ["sides", "one", "other"]) fun _ _ _ _ _ _ us hl => lst3 (C := fun us => bindArgs _ ⟨us, []⟩ = pure (List.zip _ us)) (fun _ _ _ => rfl) us hl
  have m16 := PySem.W.mg_of X G a16
  have F17 := fun_mk (st := sLik) l17 c17 k17
  have b17 := F17.binds (ps := ["word"]) fun _ _ _ _ _ _ us hl => lst1 (C := fun us => bindArgs _ ⟨us, []⟩ = pure (List.zip _ us)) (fun _ => rfl) us hl
  have m17 := PySem.W.mg_of X G a17
  have F18 := fun_mk (st := sFirsts) l18 c18 k18
  have b18 := F18.binds (ps := ["sides", "word", "many"]) fun _ _ _ _ _ _ us hl => lst3 (C := fun us => bindArgs _ ⟨us, []⟩ = pure (List.zip _ us)) (fun _ _ _ => rfl) us hl
  have m18 := PySem.W.mg_of X G a18
  have F19 := fun_mk (st := sWithout) l19 c19 k19
  have b19 := F19.binds (ps := ["sides", "word", "many"]) fun _ _ _ _ _ _ us hl => lst3 (C := fun us => bindArgs _ ⟨us, []⟩ = pure (List.zip _ us)) (fun _ _ _ => rfl) us hl
  have m19 := PySem.W.mg_of X G a19
  have F20 := fun_mk (st := sCnt) l20 c20 k20
  have b20 := F20.binds (ps := ["sides", "word", "many"]) fun _ _ _ _ _ _ us hl => lst3 (C := fun us => bindArgs _ ⟨us, []⟩ = pure (List.zip _ us)) (fun _ _ _ => rfl) us hl
  have m20 := PySem.W.mg_of X G a20
  have F21 := fun_mk (st := sFae) l21 c21 k21
  have b21 := F21.binds (ps := ["at_end", "nowhere", "length", "shared", "count"]) fun _ _ _ _ _ _ us hl => lst5 (C := fun us => bindArgs _ ⟨us, []⟩ = pure (List.zip _ us)) (fun _ _ _ _ _ => rfl) us hl
  have m21 := PySem.W.mg_of X G a21
  have F22 := fun_mk (st := sAskS) l22 c22 k22
  have b22 := F22.binds (ps := ["_law_which", "_law_more"]) fun _ _ _ _ _ _ us hl => lst2 (C := fun us => bindArgs _ ⟨us, []⟩ = pure (List.zip _ us)) (fun _ _ => rfl) us hl
  have m22 := PySem.W.mg_of X G a22
  have F23 := fun_mk (st := sAskW) l23 c23 k23
  have b23 := F23.binds (ps := ["_law_which", "_law_more"]) fun _ _ _ _ _ _ us hl => lst2 (C := fun us => bindArgs _ ⟨us, []⟩ = pure (List.zip _ us)) (fun _ _ => rfl) us hl
  have m23 := PySem.W.mg_of X G a23
  have F24 := fun_mk (st := sAskL) l24 c24 k24
  have b24 := F24.binds (ps := ["_law_which", "_law_more"]) fun _ _ _ _ _ _ us hl => lst2 (C := fun us => bindArgs _ ⟨us, []⟩ = pure (List.zip _ us)) (fun _ _ => rfl) us hl
  have m24 := PySem.W.mg_of X G a24
  have F25 := fun_mk (st := sAskO) l25 c25 k25
  have b25 := F25.binds (ps := ["_law_kind", "_law_which", "_law_more"]) fun _ _ _ _ _ _ us hl => lst3 (C := fun us => bindArgs _ ⟨us, []⟩ = pure (List.zip _ us)) (fun _ _ _ => rfl) us hl
  have m25 := PySem.W.mg_of X G a25
  have F26 := fun_mk (st := sTold) l26 c26 k26
  have b26 := F26.binds (ps := ["_law_kind", "_law_which", "_law_more"]) fun _ _ _ _ _ _ us hl => lst3 (C := fun us => bindArgs _ ⟨us, []⟩ = pure (List.zip _ us)) (fun _ _ _ => rfl) us hl
  have m26 := PySem.W.mg_of X G a26
  have F27 := fun_mk (st := sLaw) l27 c27 k27
  have b27 := F27.binds (ps := ["_law_script"]) fun _ _ _ _ _ _ us hl => lst1 (C := fun us => bindArgs _ ⟨us, []⟩ = pure (List.zip _ us)) (fun _ => rfl) us hl
  have m27 := PySem.W.mg_of X G a27
  have G_LETTERS : Gv mg "LETTERS" (.str (tx alpha)) := ⟨_, PySem.W.mg_of X G v1, _, by rw [e1]⟩
  have G_LEAST_SIDES : Gv mg "LEAST_SIDES" (.int 2) := ⟨_, PySem.W.mg_of X G v2, _, rfl⟩
  have G_MOST_SIDES : Gv mg "MOST_SIDES" (.int 26) := ⟨_, PySem.W.mg_of X G v3, _, rfl⟩
  have G_MOST_MANY : Gv mg "MOST_MANY" (.int 300) := ⟨_, PySem.W.mg_of X G v4, _, rfl⟩
  have G_COIN_SIDES : Gv mg "COIN_SIDES" (.int 2) := ⟨_, PySem.W.mg_of X G v5, _, rfl⟩
  have G_LEAST_LETTERS : Gv mg "LEAST_LETTERS" (.int 3) := ⟨_, PySem.W.mg_of X G v6, _, rfl⟩
  have mWait := PySem.W.mg_of X G aWait
  have clWait : Cls K CWait := ⟨pgWait, hdWait, poWait, saWait⟩
  have mkWait : Mk K CWait fIWait := ⟨mkWait, inWait, fnWait, kcWait⟩
  have FIWait := fun_mk (st := sWaitI) lIWait cIWait kIWait
  have bIWait := FIWait.binds (ps := ["self", "table"]) fun _ _ _ _ _ _ us hl => lst2 (C := fun us => bindArgs _ ⟨us, []⟩ = pure (List.zip _ us)) (fun _ _ => rfl) us hl
  have FSWait := fun_mk (st := sWaitS) lSWait cSWait kSWait
  have bSWait := FSWait.binds (ps := ["self", "sides", "word"]) fun _ _ _ _ _ _ us hl => lst3 (C := fun us => bindArgs _ ⟨us, []⟩ = pure (List.zip _ us)) (fun _ _ _ => rfl) us hl
  have meWait : Meth K CWait "shows" fSWait := ⟨atWait, mfWait, kSWait⟩
  have XBadSides : ExcCl K mg "BadSides" CBadSides := ⟨PySem.W.mg_of X G aBadSides, xBadSides⟩
  have XBadWord : ExcCl K mg "BadWord" CBadWord := ⟨PySem.W.mg_of X G aBadWord, xBadWord⟩
  have XBadThrows : ExcCl K mg "BadThrows" CBadThrows := ⟨PySem.W.mg_of X G aBadThrows, xBadThrows⟩
  have XBadMany : ExcCl K mg "BadMany" CBadMany := ⟨PySem.W.mg_of X G aBadMany, xBadMany⟩
  have XWithin : ExcCl K mg "Within" CWithin := ⟨PySem.W.mg_of X G aWithin, xWithin⟩
  have ERR : Errs K mg CThrowError [("BadSides", CBadSides), ("BadWord", CBadWord), ("BadThrows", CBadThrows), ("BadMany", CBadMany), ("Within", CWithin)] := ⟨PySem.W.mg_of X G aThrowError,
      mem_c (P := fun x C => mg x = some (.ref C)) (PySem.W.mg_of X G aBadSides) (mem_c (PySem.W.mg_of X G aBadWord) (mem_c (PySem.W.mg_of X G aBadThrows) (mem_c (PySem.W.mg_of X G aBadMany) (mem_c (PySem.W.mg_of X G aWithin) mem_n)))),
      mem_c (P := fun _ C => PySem.W.exmOne K (.ref C) (.ref CThrowError) = some true) (exm_of tb ti tt esBadSides) (mem_c (exm_of tb ti tt esBadWord) (mem_c (exm_of tb ti tt esBadThrows) (mem_c (exm_of tb ti tt esBadMany) (mem_c (exm_of tb ti tt esWithin) mem_n)))),
      mem_c (P := fun _ C => ExcK K C) (⟨egBadSides, ehBadSides, ebBadSides, eiBadSides, efBadSides, sp, tk, emBadSides⟩) (mem_c (⟨egBadWord, ehBadWord, ebBadWord, eiBadWord, efBadWord, sp, tk, emBadWord⟩) (mem_c (⟨egBadThrows, ehBadThrows, ebBadThrows, eiBadThrows, efBadThrows, sp, tk, emBadThrows⟩) (mem_c (⟨egBadMany, ehBadMany, ebBadMany, eiBadMany, efBadMany, sp, tk, emBadMany⟩) (mem_c (⟨egWithin, ehWithin, ebWithin, eiWithin, efWithin, sp, tk, emWithin⟩) mem_n)))),
      mem_c (P := fun _ C => PySem.W.kitOne K (.ref C) (.type "ValueError") = some true) (kit_val evBadSides) (mem_c (kit_val evBadWord) (mem_c (kit_val evBadThrows) (mem_c (kit_val evBadMany) (mem_c (kit_val evWithin) mem_n)))),
      fun x C y D h h' => mem_c (P := fun x C => ∀ (y : Str) (D : Addr), (y, D) ∈ ([("BadSides", CBadSides), ("BadWord", CBadWord), ("BadThrows", CBadThrows), ("BadMany", CBadMany), ("Within", CWithin)] : List (Str × Addr)) → PySem.W.kitOne K (.ref C) (.ref D) = some (x == y)) (mem_c (P := fun y D => PySem.W.kitOne K (.ref CBadSides) (.ref D) = some (("BadSides" : Str) == y)) ((kit_of eiBadSides etBadSides ksBadSidesBadSides (.inl rfl)).trans (by decide +kernel)) (mem_c ((kit_of eiBadWord etBadWord ksBadSidesBadWord (.inr knBadSidesBadWord)).trans (by decide +kernel)) (mem_c ((kit_of eiBadThrows etBadThrows ksBadSidesBadThrows (.inr knBadSidesBadThrows)).trans (by decide +kernel)) (mem_c ((kit_of eiBadMany etBadMany ksBadSidesBadMany (.inr knBadSidesBadMany)).trans (by decide +kernel)) (mem_c ((kit_of eiWithin etWithin ksBadSidesWithin (.inr knBadSidesWithin)).trans (by decide +kernel)) mem_n))))) (mem_c (mem_c (P := fun y D => PySem.W.kitOne K (.ref CBadWord) (.ref D) = some (("BadWord" : Str) == y)) ((kit_of eiBadSides etBadSides ksBadWordBadSides (.inr knBadWordBadSides)).trans (by decide +kernel)) (mem_c ((kit_of eiBadWord etBadWord ksBadWordBadWord (.inl rfl)).trans (by decide +kernel)) (mem_c ((kit_of eiBadThrows etBadThrows ksBadWordBadThrows (.inr knBadWordBadThrows)).trans (by decide +kernel)) (mem_c ((kit_of eiBadMany etBadMany ksBadWordBadMany (.inr knBadWordBadMany)).trans (by decide +kernel)) (mem_c ((kit_of eiWithin etWithin ksBadWordWithin (.inr knBadWordWithin)).trans (by decide +kernel)) mem_n))))) (mem_c (mem_c (P := fun y D => PySem.W.kitOne K (.ref CBadThrows) (.ref D) = some (("BadThrows" : Str) == y)) ((kit_of eiBadSides etBadSides ksBadThrowsBadSides (.inr knBadThrowsBadSides)).trans (by decide +kernel)) (mem_c ((kit_of eiBadWord etBadWord ksBadThrowsBadWord (.inr knBadThrowsBadWord)).trans (by decide +kernel)) (mem_c ((kit_of eiBadThrows etBadThrows ksBadThrowsBadThrows (.inl rfl)).trans (by decide +kernel)) (mem_c ((kit_of eiBadMany etBadMany ksBadThrowsBadMany (.inr knBadThrowsBadMany)).trans (by decide +kernel)) (mem_c ((kit_of eiWithin etWithin ksBadThrowsWithin (.inr knBadThrowsWithin)).trans (by decide +kernel)) mem_n))))) (mem_c (mem_c (P := fun y D => PySem.W.kitOne K (.ref CBadMany) (.ref D) = some (("BadMany" : Str) == y)) ((kit_of eiBadSides etBadSides ksBadManyBadSides (.inr knBadManyBadSides)).trans (by decide +kernel)) (mem_c ((kit_of eiBadWord etBadWord ksBadManyBadWord (.inr knBadManyBadWord)).trans (by decide +kernel)) (mem_c ((kit_of eiBadThrows etBadThrows ksBadManyBadThrows (.inr knBadManyBadThrows)).trans (by decide +kernel)) (mem_c ((kit_of eiBadMany etBadMany ksBadManyBadMany (.inl rfl)).trans (by decide +kernel)) (mem_c ((kit_of eiWithin etWithin ksBadManyWithin (.inr knBadManyWithin)).trans (by decide +kernel)) mem_n))))) (mem_c (mem_c (P := fun y D => PySem.W.kitOne K (.ref CWithin) (.ref D) = some (("Within" : Str) == y)) ((kit_of eiBadSides etBadSides ksWithinBadSides (.inr knWithinBadSides)).trans (by decide +kernel)) (mem_c ((kit_of eiBadWord etBadWord ksWithinBadWord (.inr knWithinBadWord)).trans (by decide +kernel)) (mem_c ((kit_of eiBadThrows etBadThrows ksWithinBadThrows (.inr knWithinBadThrows)).trans (by decide +kernel)) (mem_c ((kit_of eiBadMany etBadMany ksWithinBadMany (.inr knWithinBadMany)).trans (by decide +kernel)) (mem_c ((kit_of eiWithin etWithin ksWithinWithin (.inl rfl)).trans (by decide +kernel)) mem_n))))) mem_n)))) x C h y D h'⟩
  refine ⟨PySem.W.fnOf "law" "law" (defArgs sLaw) (defBody sLaw) (defScope sLaw) .none kV27 dc27 pm27 an27 cd27 ct27, fun s v => .of_eq rfl, fun base _ _ => ?_⟩
  have W : WaitC K mg CWait fIWait fSWait := ⟨mWait, clWait, mkWait, meWait, noWait_table⟩
  have g1 : Gf l.prog w K mg base 1 "is_whole" ["thing"] (spWho K) f1 _ := ⟨ok_who F1 B, m1, k1, b1⟩
  have g2 : Gf l.prog w K mg base 1 "is_throws" ["sides", "thing"] (spThr K) f2 _ := ⟨ok_thr F2 B G_LETTERS, m2, k2, b2⟩
  have g3 : Gf l.prog w K mg base 2 "is_word" ["sides", "thing"] (spIsW K) f3 _ := ⟨ok_isw F3 B g2, m3, k3, b3⟩
  have g4 : Gf l.prog w K mg base 2 "check_sides" ["sides"] spChS f4 _ := ⟨ok_chs F4 g1 G_LEAST_SIDES G_MOST_SIDES, m4, k4, b4⟩
  have g5 : Gf l.prog w K mg base 3 "check_word" ["sides", "word"] spChW f5 _ := ⟨ok_chw F5 g3, m5, k5, b5⟩
  have g6 : Gf l.prog w K mg base 2 "check_throws" ["sides", "throws"] spChT f6 _ := ⟨ok_cht F6 g2, m6, k6, b6⟩
  have g7 : Gf l.prog w K mg base 2 "check_many" ["many"] spChM f7 _ := ⟨ok_chm F7 g1 G_MOST_MANY, m7, k7, b7⟩
  have g8 : Gf l.prog w K mg base 1 "step" ["word", "shorter", "reached", "letter"] (spStep K) f8 _ := ⟨ok_step F8 B, m8, k8, b8⟩
  have g9 : Gf l.prog w K mg base 2 "shorter_beginnings" ["word"] spSh f9 _ := ⟨ok_sh F9 g8, m9, k9, b9⟩
  have g10 : Gf l.prog w K mg base 3 "reached_by_count" ["word", "throws"] spRe f10 _ := ⟨ok_re F10 g8 g9, m10, k10, b10⟩
  have g11 : Gf l.prog w K mg base 4 "overlaps" ["word"] spOv f11 _ := ⟨ok_ov F11 B g5 G_MOST_SIDES g9, m11, k11, b11⟩
  have g12 : Gf l.prog w K mg base 4 "stands" ["word", "throws"] spSt f12 _ := ⟨ok_st F12 B g5 G_MOST_SIDES g6 g10, m12, k12, b12⟩
  have g14 : Gf l.prog w K mg base 3 "held_by_count" ["sides", "word"] spHeld f14 _ := ⟨ok_held F14 B g9, m14, k14, b14⟩
  have oI : FnOk l.prog w K mg base CX0 1 fIWait _ ["self", "table"] (spWaitI K CWait) := ok_waitI FIWait B W
  have g15 : Gf l.prog w K mg base 4 "waits" ["sides", "word"] (spWaits CWait) f15 _ := ⟨ok_waits F15 B W oI bIWait g4 g5 g14, m15, k15, b15⟩
  have g21 : Gf l.prog w K mg base 1 "first_at_end" ["at_end", "nowhere", "length", "shared", "count"] (spFae K) f21 _ := ⟨ok_fae F21 B, m21, k21, b21⟩
  have g20 : Gf l.prog w K mg base 5 "counted_rows" ["sides", "word", "many"] spCnt f20 _ := ⟨ok_cnt F20 B g4 g5 g7 g11 g21, m20, k20, b20⟩
  have g19 : Gf l.prog w K mg base 6 "without" ["sides", "word", "many"] (spOne cntW) f19 _ := ⟨ok_without F19 g20, m19, k19, b19⟩
  have xS : Gx l.prog w K mg base 2 "check_sides" ["sides"] (spNo CBadSides sbS) f4 _ := ⟨no_chs F4 g1 G_LEAST_SIDES G_MOST_SIDES XBadSides, m4, k4, b4⟩
  have xW : Gx l.prog w K mg base 3 "check_word" ["sides", "word"] (spNo CBadWord sbW) f5 _ := ⟨no_chw F5 g3 XBadWord, m5, k5, b5⟩
  have xT : Gx l.prog w K mg base 2 "check_throws" ["sides", "throws"] (spNo CBadThrows sbT) f6 _ := ⟨no_cht F6 g2 XBadThrows, m6, k6, b6⟩
  have xM : Gx l.prog w K mg base 2 "check_many" ["many"] (spNo CBadMany sbM) f7 _ := ⟨no_chm F7 g1 G_MOST_MANY XBadMany, m7, k7, b7⟩
  have ov : Gx l.prog w K mg base 4 "overlaps" ["word"] (spNo CBadWord bWord) f11 _ := ⟨no_ov F11 G_MOST_SIDES xW, m11, k11, b11⟩
  have stW : Gx l.prog w K mg base 4 "stands" ["word", "throws"] (spNo CBadWord bWordT) f12 _ := ⟨no_stW F12 G_MOST_SIDES xW, m12, k12, b12⟩
  have enW : Gx l.prog w K mg base 4 "ends" ["word", "throws"] (spNo CBadWord bWordT) f13 _ := ⟨no_enW F13 G_MOST_SIDES xW, m13, k13, b13⟩
  have stT : Gx l.prog w K mg base 4 "stands" ["word", "throws"] (spNo CBadThrows bThrows) f12 _ := ⟨no_stT F12 G_MOST_SIDES g5 xT, m12, k12, b12⟩
  have enT : Gx l.prog w K mg base 4 "ends" ["word", "throws"] (spNo CBadThrows bThrows) f13 _ := ⟨no_enT F13 G_MOST_SIDES g5 xT, m13, k13, b13⟩
  have waS : Gx l.prog w K mg base 4 "waits" ["sides", "word"] (spNo CBadSides bSides2) f15 _ := ⟨no_waitsS F15 xS, m15, k15, b15⟩
  have waW : Gx l.prog w K mg base 4 "waits" ["sides", "word"] (spNo CBadWord bWord2) f15 _ := ⟨no_waitsW F15 g4 xW, m15, k15, b15⟩
  have raS : Gx l.prog w K mg base 4 "race" ["sides", "one", "other"] (spNo CBadSides bSides3) f16 _ := ⟨no_raceS F16 xS, m16, k16, b16⟩
  have raW : Gx l.prog w K mg base 4 "race" ["sides", "one", "other"] (spNo CBadWord bWord3) f16 _ := ⟨no_raceW F16 g4 xW, m16, k16, b16⟩
  have raO : Gx l.prog w K mg base 4 "race" ["sides", "one", "other"] (spNo CBadWord bOther) f16 _ := ⟨no_raceO F16 g4 g5 xW, m16, k16, b16⟩
  have raI : Gx l.prog w K mg base 4 "race" ["sides", "one", "other"] (spNo CWithin bWithin) f16 _ := ⟨no_raceI F16 g4 g5 XWithin, m16, k16, b16⟩
  have liW : Gx l.prog w K mg base 4 "likelier" ["word"] (spNo CBadWord bCoin) f17 _ := ⟨no_likW F17 G_COIN_SIDES xW, m17, k17, b17⟩
  have liS : Gx l.prog w K mg base 4 "likelier" ["word"] (spNo CBadWord bShort) f17 _ := ⟨no_likS F17 B G_COIN_SIDES G_LEAST_LETTERS g5 XBadWord, m17, k17, b17⟩
  have cnS : Gx l.prog w K mg base 4 "counted_rows" ["sides", "word", "many"] (spNo CBadSides bSides3) f20 _ := ⟨no_cntS F20 xS, m20, k20, b20⟩
  have cnW : Gx l.prog w K mg base 4 "counted_rows" ["sides", "word", "many"] (spNo CBadWord bWord3) f20 _ := ⟨no_cntW F20 g4 xW, m20, k20, b20⟩
  have cnM : Gx l.prog w K mg base 4 "counted_rows" ["sides", "word", "many"] (spNo CBadMany bMany) f20 _ := ⟨no_cntM F20 g4 g5 xM, m20, k20, b20⟩
  have fiS : Gx l.prog w K mg base 5 "firsts" ["sides", "word", "many"] (spNo CBadSides bSides3) f18 _ := ⟨no_firsts b_three.1 F18 cnS, m18, k18, b18⟩
  have fiW : Gx l.prog w K mg base 5 "firsts" ["sides", "word", "many"] (spNo CBadWord bWord3) f18 _ := ⟨no_firsts b_three.2.1 F18 cnW, m18, k18, b18⟩
  have fiM : Gx l.prog w K mg base 5 "firsts" ["sides", "word", "many"] (spNo CBadMany bMany) f18 _ := ⟨no_firsts b_three.2.2 F18 cnM, m18, k18, b18⟩
  have woS : Gx l.prog w K mg base 5 "without" ["sides", "word", "many"] (spNo CBadSides bSides3) f19 _ := ⟨no_without b_three.1 F19 cnS, m19, k19, b19⟩
  have woW : Gx l.prog w K mg base 5 "without" ["sides", "word", "many"] (spNo CBadWord bWord3) f19 _ := ⟨no_without b_three.2.1 F19 cnW, m19, k19, b19⟩
  have woM : Gx l.prog w K mg base 5 "without" ["sides", "word", "many"] (spNo CBadMany bMany) f19 _ := ⟨no_without b_three.2.2 F19 cnM, m19, k19, b19⟩
  have aS : Gx l.prog w K mg base 6 "_law_sides_asked" ["_law_which", "_law_more"] (spAsk CBadSides) f22 _ := ⟨ok_askS F22 (waS.imp (by decide) fun _ _ z => z.elim fun v z => ⟨v, .non, z.1, z.2⟩) (raS.imp (by decide) fun _ _ z => z.elim fun v z => ⟨v, .non, .non, z.1, z.2⟩) (fiS.imp (by decide) fun _ _ z => z.elim fun v z => ⟨v, .non, .non, z.1, z.2⟩) (woS.imp (by decide) fun _ _ z => z.elim fun v z => ⟨v, .non, .non, z.1, z.2⟩), m22, k22, b22⟩
  have aW : Gx l.prog w K mg base 6 "_law_word_asked" ["_law_which", "_law_more"] (spAsk CBadWord) f23 _ := ⟨ok_askW F23 (ov.imp (by decide) fun _ _ z => z.elim fun v z => ⟨v, z.1, z.2.q (by decide)⟩) (stW.imp (by decide) fun _ _ z => z.elim fun v z => ⟨v, .non, z.1, z.2.q (by decide)⟩) (enW.imp (by decide) fun _ _ z => z.elim fun v z => ⟨v, .non, z.1, z.2.q (by decide)⟩)
    (waW.imp (by decide) fun _ _ z => z.elim fun v z => ⟨2, v, z.1, by decide, by decide, z.2.q (by decide)⟩) (raW.imp (by decide) fun _ _ z => z.elim fun v z => ⟨2, v, _, z.1, by decide, by decide, z.2.q (by decide)⟩) (raO.imp (by decide) fun _ _ z => z.elim fun v z => ⟨2, [97], v, z.1, ⟨by decide, by decide, by decide, by decide, by decide⟩, z.2.q (by decide)⟩)
    (liW.imp (by decide) fun _ _ z => z.elim fun v z => ⟨v, z.1, z.2.q (by decide)⟩) (fiW.imp (by decide) fun _ _ z => z.elim fun v z => ⟨2, v, _, z.1, by decide, by decide, z.2.q (by decide)⟩) (woW.imp (by decide) fun _ _ z => z.elim fun v z => ⟨2, v, _, z.1, by decide, by decide, z.2.q (by decide)⟩), m23, k23, b23⟩
  have aL : Gx l.prog w K mg base 6 "_law_letter_asked" ["_law_which", "_law_more"] (spAsk CBadWord) f24 _ := ⟨ok_askL F24 (waW.imp (by decide) fun _ _ h => h) (raO.imp (by decide) fun _ _ h => h) woW ((liW.or liS).imp (by decide) fun _ _ h => h), m24, k24, b24⟩
  have aO : Gx l.prog w K mg base 6 "_law_others_asked" ["_law_kind", "_law_which", "_law_more"] (spAskO CBadThrows CBadMany CWithin) f25 _ := ⟨ok_askO F25 (stT.imp (by decide) fun _ _ h => h) (enT.imp (by decide) fun _ _ h => h) fiM woM (raI.imp (by decide) fun _ _ h => h), m25, k25, b25⟩
  have gT : Gf l.prog w K mg base 7 "_law_told" ["_law_kind", "_law_which", "_law_more"] spTold f26 _ := ⟨ok_told F26 B ERR aS aW aL aO, m26, k26, b26⟩
  exact ok_law F27 B W gT g12 g15 g19
theorem walk {l : PySem.W.OpenLaw} {q : Program} {loose : List Str} {XP : (Str → Option Value) → Heap → Prop} {YP : World → Heap → Prop} {d : DefRec} {K : Params → PySem.W.Frag} (hn : l.most = some 63) (hdf : d.params.defaults = [])
    (hY : ∀ (w : World) (h : Heap), YP w h → (K w.params).In h)
    (F : ∀ (w : World) (mg : Str → Option Value) (fa : Addr) (h : Heap), (K w.params).In h → h.Ns mainGlobals mg → mg d.name = some (.ref fa) →
      ∃ fd : FuncData, (∀ (s : Shared) (u : Value), BindsTo s fd ⟨[u], []⟩ [("_law_script", u)]) ∧ ∀ base : Heap, (K w.params).In base → base.Ns mainGlobals mg → FnOk l.prog w (K w.params) mg base CX0 8 fa fd ["_law_script"] (spLaw (K w.params))) :
    PySem.W.WalkO q loose XP YP l.row.toRowW d [] (fun f vs => PySem.call f vs) :=
  L2.walk_of (n := 63) (k := 8) (x := "_law_script") (CX := fun w => CX0) (sp := fun w => spLaw (K w.params)) hn (by decide) hdf ⟨rfl, by decide, by decide⟩ hY F (fun _ _ a ns hl _ hS => ⟨a, ns, rfl, hS, hl, fun _ => rfl⟩) fun _ _ _ _ _ z => z
end FW
open PySem PySem.W PyProof.Rows
set_option maxRecDepth 100000 in
set_option maxHeartbeats 0 in
theorem PySem.Challenge.cw_firstword_k07_refused_holds : PySem.Challenge.rw_firstword_k07_refused.Holds := by
  w_on; o_law; k_head; (case hw => w_witness2)
  k_fill
  refine FW.walk (l := PySem.Challenge.rw_firstword_k07_refused) rfl rfl (fun w h Y => PySem.W.kIn_of Y) ?F
  case F =>
    intro w mg fa h KX G hmg
    refine' FW.all_mk KX G hmg ?a1 ?l1 ?c1 ?k1 ?a2 ?l2 ?c2 ?k2 ?a3 ?l3 ?c3 ?k3 ?a4 ?l4 ?c4 ?k4 ?a5 ?l5 ?c5 ?k5 ?a6 ?l6 ?c6 ?k6 ?a7 ?l7 ?c7 ?k7 ?a8 ?l8 ?c8 ?k8 ?a9 ?l9 ?c9 ?k9 ?a10 ?l10 ?c10 ?k10 ?a11 ?l11 ?c11 ?k11 ?a12 ?l12 ?c12 ?k12 ?a13 ?l13 ?c13 ?k13 ?a14 ?l14 ?c14 ?k14 ?a15 ?l15 ?c15 ?k15 ?a16 ?l16 ?c16 ?k16 ?a17 ?l17 ?c17 ?k17 ?a18 ?l18 ?c18 ?k18 ?a19 ?l19 ?c19 ?k19 ?a20 ?l20 ?c20 ?k20 ?a21 ?l21 ?c21 ?k21 ?a22 ?l22 ?c22 ?k22 ?a23 ?l23 ?c23 ?k23 ?a24 ?l24 ?c24 ?k24 ?a25 ?l25 ?c25 ?k25 ?a26 ?l26 ?c26 ?k26 ?a27 ?l27 ?c27 ?k27 ?v1 ?e1 ?v2 ?v3 ?v4 ?v5 ?v6 ?aWait ?pgWait ?hdWait ?poWait ?saWait ?mkWait ?inWait ?fnWait ?kcWait ?lIWait ?cIWait ?kIWait ?atWait ?mfWait ?lSWait ?cSWait ?kSWait ?noWait_table ?aBadSides ?xBadSides ?aBadWord ?xBadWord ?aBadThrows ?xBadThrows ?aBadMany ?xBadMany ?aWithin ?xWithin ?aThrowError ?tb ?ti ?tt ?sp ?tk ?egBadSides ?ehBadSides ?ebBadSides ?eiBadSides ?etBadSides ?efBadSides ?emBadSides ?esBadSides ?evBadSides ?egBadWord ?ehBadWord ?ebBadWord ?eiBadWord ?etBadWord ?efBadWord ?emBadWord ?esBadWord ?evBadWord ?egBadThrows ?ehBadThrows ?ebBadThrows ?eiBadThrows ?etBadThrows ?efBadThrows ?emBadThrows ?esBadThrows ?evBadThrows ?egBadMany ?ehBadMany ?ebBadMany ?eiBadMany ?etBadMany ?efBadMany ?emBadMany ?esBadMany ?evBadMany ?egWithin ?ehWithin ?ebWithin ?eiWithin ?etWithin ?efWithin ?emWithin ?esWithin ?evWithin ?ksBadSidesBadSides ?ksBadSidesBadWord ?knBadSidesBadWord ?ksBadSidesBadThrows ?knBadSidesBadThrows ?ksBadSidesBadMany ?knBadSidesBadMany ?ksBadSidesWithin ?knBadSidesWithin ?ksBadWordBadSides ?knBadWordBadSides ?ksBadWordBadWord ?ksBadWordBadThrows ?knBadWordBadThrows ?ksBadWordBadMany ?knBadWordBadMany ?ksBadWordWithin ?knBadWordWithin ?ksBadThrowsBadSides ?knBadThrowsBadSides ?ksBadThrowsBadWord ?knBadThrowsBadWord ?ksBadThrowsBadThrows ?ksBadThrowsBadMany ?knBadThrowsBadMany ?ksBadThrowsWithin ?knBadThrowsWithin ?ksBadManyBadSides ?knBadManyBadSides ?ksBadManyBadWord ?knBadManyBadWord ?ksBadManyBadThrows ?knBadManyBadThrows ?ksBadManyBadMany ?ksBadManyWithin ?knBadManyWithin ?ksWithinBadSides ?knWithinBadSides ?ksWithinBadWord ?knWithinBadWord ?ksWithinBadThrows ?knWithinBadThrows ?ksWithinBadMany ?knWithinBadMany ?ksWithinWithin ?z1 ?z2 ?z3 ?z4 ?z5 ?z6 ?z7 ?z8 ?z9 ?z10 ?z11 ?z12 ?z13 ?z14 ?z15 ?z16 ?z17 ?z18 ?z19 ?z20
    (case a1 => k_is)
    (case l1 => k_is)
    (case c1 => k_is)
    (case k1 => k_is)
    (case a2 => k_is)
    (case l2 => k_is)
    (case c2 => k_is)
    (case k2 => k_is)
    (case a3 => k_is)
    (case l3 => k_is)
    (case c3 => k_is)
    (case k3 => k_is)
    (case a4 => k_is)
    (case l4 => k_is)
    (case c4 => k_is)
    (case k4 => k_is)
    (case a5 => k_is)
    (case l5 => k_is)
    (case c5 => k_is)
    (case k5 => k_is)
    (case a6 => k_is)
    (case l6 => k_is)
    (case c6 => k_is)
    (case k6 => k_is)
    (case a7 => k_is)
    (case l7 => k_is)
    (case c7 => k_is)
    (case k7 => k_is)
    (case a8 => k_is)
    (case l8 => k_is)
    (case c8 => k_is)
    (case k8 => k_is)
    (case a9 => k_is)
    (case l9 => k_is)
    (case c9 => k_is)
    (case k9 => k_is)
    (case a10 => k_is)
    (case l10 => k_is)
    (case c10 => k_is)
    (case k10 => k_is)
    (case a11 => k_is)
    (case l11 => k_is)
    (case c11 => k_is)
    (case k11 => k_is)
    (case a12 => k_is)
    (case l12 => k_is)
    (case c12 => k_is)
    (case k12 => k_is)
    (case a13 => k_is)
    (case l13 => k_is)
    (case c13 => k_is)
    (case k13 => k_is)
    (case a14 => k_is)
    (case l14 => k_is)
    (case c14 => k_is)
    (case k14 => k_is)
    (case a15 => k_is)
    (case l15 => k_is)
    (case c15 => k_is)
    (case k15 => k_is)
    (case a16 => k_is)
    (case l16 => k_is)
    (case c16 => k_is)
    (case k16 => k_is)
    (case a17 => k_is)
    (case l17 => k_is)
    (case c17 => k_is)
    (case k17 => k_is)
    (case a18 => k_is)
    (case l18 => k_is)
    (case c18 => k_is)
    (case k18 => k_is)
    (case a19 => k_is)
    (case l19 => k_is)
    (case c19 => k_is)
    (case k19 => k_is)
    (case a20 => k_is)
    (case l20 => k_is)
    (case c20 => k_is)
    (case k20 => k_is)
    (case a21 => k_is)
    (case l21 => k_is)
    (case c21 => k_is)
    (case k21 => k_is)
    (case a22 => k_is)
    (case l22 => k_is)
    (case c22 => k_is)
    (case k22 => k_is)
    (case a23 => k_is)
    (case l23 => k_is)
    (case c23 => k_is)
    (case k23 => k_is)
    (case a24 => k_is)
    (case l24 => k_is)
    (case c24 => k_is)
    (case k24 => k_is)
    (case a25 => k_is)
    (case l25 => k_is)
    (case c25 => k_is)
    (case k25 => k_is)
    (case a26 => k_is)
    (case l26 => k_is)
    (case c26 => k_is)
    (case k26 => k_is)
    (case a27 => k_is)
    (case l27 => k_is)
    (case c27 => k_is)
    (case k27 => k_is)
    (case v1 => k_is)
    (case e1 => exact (by decide +kernel))
    (case v2 => k_is)
    (case v3 => k_is)
    (case v4 => k_is)
    (case v5 => k_is)
    (case v6 => k_is)
    (case aWait => k_is)
    (case pgWait => k_is)
    (case hdWait => k_is)
    (case poWait => k_is)
    (case saWait => k_is)
    (case mkWait => k_is)
    (case inWait => k_is)
    (case fnWait => k_is)
    (case kcWait => k_is)
    (case lIWait => k_is)
    (case cIWait => k_is)
    (case kIWait => k_is)
    (case atWait => k_is)
    (case mfWait => k_is)
    (case lSWait => k_is)
    (case cSWait => k_is)
    (case kSWait => k_is)
    (case noWait_table => k_is)
    (case aBadSides => k_is)
    (case xBadSides => k_exc)
    (case aBadWord => k_is)
    (case xBadWord => k_exc)
    (case aBadThrows => k_is)
    (case xBadThrows => k_exc)
    (case aBadMany => k_is)
    (case xBadMany => k_exc)
    (case aWithin => k_is)
    (case xWithin => k_exc)
    (case aThrowError => k_is)
    (case tb => k_is)
    (case ti => k_is)
    (case tt => k_is)
    (case sp => k_is)
    (case tk => k_is)
    (case egBadSides => k_is)
    (case ehBadSides => k_is)
    (case ebBadSides => k_is)
    (case eiBadSides => k_is)
    (case etBadSides => k_is)
    (case efBadSides => k_is)
    (case emBadSides => k_is)
    (case esBadSides => k_is)
    (case evBadSides => k_is)
    (case egBadWord => k_is)
    (case ehBadWord => k_is)
    (case ebBadWord => k_is)
    (case eiBadWord => k_is)
    (case etBadWord => k_is)
    (case efBadWord => k_is)
    (case emBadWord => k_is)
    (case esBadWord => k_is)
    (case evBadWord => k_is)
    (case egBadThrows => k_is)
    (case ehBadThrows => k_is)
    (case ebBadThrows => k_is)
    (case eiBadThrows => k_is)
    (case etBadThrows => k_is)
    (case efBadThrows => k_is)
    (case emBadThrows => k_is)
    (case esBadThrows => k_is)
    (case evBadThrows => k_is)
    (case egBadMany => k_is)
    (case ehBadMany => k_is)
    (case ebBadMany => k_is)
    (case eiBadMany => k_is)
    (case etBadMany => k_is)
    (case efBadMany => k_is)
    (case emBadMany => k_is)
    (case esBadMany => k_is)
    (case evBadMany => k_is)
    (case egWithin => k_is)
    (case ehWithin => k_is)
    (case ebWithin => k_is)
    (case eiWithin => k_is)
    (case etWithin => k_is)
    (case efWithin => k_is)
    (case emWithin => k_is)
    (case esWithin => k_is)
    (case evWithin => k_is)
    (case ksBadSidesBadSides => k_is)
    (case ksBadSidesBadWord => k_is)
    (case knBadSidesBadWord => exact (by decide))
    (case ksBadSidesBadThrows => k_is)
    (case knBadSidesBadThrows => exact (by decide))
    (case ksBadSidesBadMany => k_is)
    (case knBadSidesBadMany => exact (by decide))
    (case ksBadSidesWithin => k_is)
    (case knBadSidesWithin => exact (by decide))
    (case ksBadWordBadSides => k_is)
    (case knBadWordBadSides => exact (by decide))
    (case ksBadWordBadWord => k_is)
    (case ksBadWordBadThrows => k_is)
    (case knBadWordBadThrows => exact (by decide))
    (case ksBadWordBadMany => k_is)
    (case knBadWordBadMany => exact (by decide))
    (case ksBadWordWithin => k_is)
    (case knBadWordWithin => exact (by decide))
    (case ksBadThrowsBadSides => k_is)
    (case knBadThrowsBadSides => exact (by decide))
    (case ksBadThrowsBadWord => k_is)
    (case knBadThrowsBadWord => exact (by decide))
    (case ksBadThrowsBadThrows => k_is)
    (case ksBadThrowsBadMany => k_is)
    (case knBadThrowsBadMany => exact (by decide))
    (case ksBadThrowsWithin => k_is)
    (case knBadThrowsWithin => exact (by decide))
    (case ksBadManyBadSides => k_is)
    (case knBadManyBadSides => exact (by decide))
    (case ksBadManyBadWord => k_is)
    (case knBadManyBadWord => exact (by decide))
    (case ksBadManyBadThrows => k_is)
    (case knBadManyBadThrows => exact (by decide))
    (case ksBadManyBadMany => k_is)
    (case ksBadManyWithin => k_is)
    (case knBadManyWithin => exact (by decide))
    (case ksWithinBadSides => k_is)
    (case knWithinBadSides => exact (by decide))
    (case ksWithinBadWord => k_is)
    (case knWithinBadWord => exact (by decide))
    (case ksWithinBadThrows => k_is)
    (case knWithinBadThrows => exact (by decide))
    (case ksWithinBadMany => k_is)
    (case knWithinBadMany => exact (by decide))
    (case ksWithinWithin => k_is)
    (case z1 => k_is)
    (case z2 => k_is)
    (case z3 => k_is)
    (case z4 => k_is)
    (case z5 => k_is)
    (case z6 => k_is)
    (case z7 => k_is)
    (case z8 => k_is)
    (case z9 => k_is)
    (case z10 => k_is)
    (case z11 => k_is)
    (case z12 => k_is)
    (case z13 => k_is)
    (case z14 => k_is)
    (case z15 => k_is)
    (case z16 => k_is)
    (case z17 => k_is)
    (case z18 => k_is)
    (case z19 => k_is)
    (case z20 => k_is)

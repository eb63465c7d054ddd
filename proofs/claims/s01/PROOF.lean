import PyProof.Rows.All
import Wide.All
import OpenK.AllK
import Wide.FinOn
import PyProof.EqAt
import PyProof.EqKinds
import PyProof.NeKinds
import PyProof.TupleCall
import KE.BitLaws
import KE.KSortTup
import Open.SpecLaws
import KE.OsHead
import KE.OsGo
import PySem.Challenge.RW_togethersets_s01_answers
set_option Elab.async false
set_option linter.all false
set_option maxRecDepth 100000
set_option maxHeartbeats 2000000
section
namespace L2
open PySem PySem.Spec PyProof.Rows
noncomputable abbrev Key := Sum Int Str
noncomputable def keyIs : Key → Value → Bool
  | .inl k, v => Value.isInt k v
  | .inr x, v => Value.isStrOf x v
noncomputable def keyH (w : World) : Key → Int
  | .inl k => hashInt k
  | .inr x => hashStr w x
theorem keyIs_shape : ∀ {k : Key} {v : Value}, keyIs k v = true → (∃ i t, k = Sum.inl i ∧ v = Value.int i t) ∨ (∃ x t, k = Sum.inr x ∧ v = Value.str x t)
  | .inl i, v, h => by
    obtain ⟨t, e⟩ := Value.isInt_shape (k := i) (v := v) h
    exact .inl ⟨i, t, rfl, e⟩
  | .inr x, v, h => by
    obtain ⟨t, e⟩ := Value.isStrOf_shape (x := x) (v := v) h
    exact .inr ⟨x, t, rfl, e⟩
theorem key_ll (a b : Int) : decide ((Sum.inl a : Key) = Sum.inl b) = (a == b) := by
  by_cases e : a = b
  · subst e; simp
  · have h : ¬ (Sum.inl a : Key) = Sum.inl b := fun q => e (Sum.inl.inj q)
    rw [decide_eq_false h]
    exact (beq_eq_false_iff_ne.mpr e).symm
theorem key_rr (a b : Str) : decide ((Sum.inr a : Key) = Sum.inr b) = decide (a = b) := by
  by_cases e : a = b
  · subst e; simp
  · have h : ¬ (Sum.inr a : Key) = Sum.inr b := fun q => e (Sum.inr.inj q)
    rw [decide_eq_false h, decide_eq_false e]
theorem key_lr (a : Int) (b : Str) : decide ((Sum.inl a : Key) = Sum.inr b) = false := decide_eq_false (fun q => nomatch q)
theorem key_rl (a : Str) (b : Int) : decide ((Sum.inr a : Key) = Sum.inl b) = false := decide_eq_false (fun q => nomatch q)
noncomputable def mixKind (prog : Program) (w : World) : PySem.KeyKind prog w Key where
  is := keyIs
  hash := keyH w
  inj := fun v a b ha hb => by
    rcases keyIs_shape ha with ⟨i, t, rfl, rfl⟩ | ⟨x, t, rfl, rfl⟩
    · rcases keyIs_shape hb with ⟨j, u, rfl, e⟩ | ⟨y, u, rfl, e⟩
      · injection e with e1 _; rw [e1]
      · exact nomatch e
    · rcases keyIs_shape hb with ⟨j, u, rfl, e⟩ | ⟨y, u, rfl, e⟩
      · exact nomatch e
      · injection e with e1 _; rw [e1]
  byValue := fun k v h => by
    rcases keyIs_shape h with ⟨i, t, rfl, rfl⟩ | ⟨x, t, rfl, rfl⟩ <;> rfl
  pyHash := fun hv h => by
    rcases keyIs_shape hv with ⟨i, t, rfl, rfl⟩ | ⟨x, t, rfl, rfl⟩
    · exact wpAny_pyHash_int h
    · exact wpAny_pyHash_str h
  eqBool := fun hu hv h => by
    rcases keyIs_shape hu with ⟨i, t, rfl, rfl⟩ | ⟨x, t, rfl, rfl⟩
    · rcases keyIs_shape hv with ⟨j, u, rfl, rfl⟩ | ⟨y, u, rfl, rfl⟩
      · rw [key_ll] at h; exact wpAny_eqBool_int h
      · rw [key_lr] at h; exact SeqAt.EqAt.int_str i t y u _ _ _ _ h
    · rcases keyIs_shape hv with ⟨j, u, rfl, rfl⟩ | ⟨y, u, rfl, rfl⟩
      · rw [key_rl] at h; exact SeqAt.EqAt.str_int x t j u _ _ _ _ h
      · rw [key_rr] at h; exact wpAny_eqBool_str h
  «strs» := fun k x t v h => by
    rcases keyIs_shape h with ⟨i, u, rfl, e⟩ | ⟨y, u, rfl, e⟩
    · exact nomatch e
    · injection e with e1 _
      subst e1
      cases v <;> rfl
end L2
namespace L2
open PySem PySem.Spec PyProof.Rows
inductive V where
  | non | bl (b : Bool) | int (i : Int) | str (x : Str) | byt (b : Array UInt8) | flt (b : UInt64) | ref (a : Addr) | ty (n : String)
  deriving DecidableEq
noncomputable def RelV : V → Value → Prop
  | .non, u => u = Value.none
  | .bl b, u => u = Value.bool b
  | .int i, u => ∃ t, u = Value.int i t
  | .str x, u => ∃ t, u = Value.str x t
  | .byt b, u => ∃ t, u = Value.bytes b t
  | .flt b, u => ∃ t, u = Value.float b t
  | .ref a, u => u = Value.ref a
  | .ty n, u => u = Value.type n
noncomputable abbrev Vals : List V → List Value → Prop := Paired RelV
theorem Vals.length {xs : List V} {us : List Value} (r : Vals xs us) : xs.length = us.length := Paired.length r
theorem Vals.get : ∀ {xs : List V} {us : List Value} {i : Nat} {x : V}, Vals xs us → xs[i]? = some x → ∃ u, us[i]? = some u ∧ RelV x u
  | _, _, _, _, .nil, e => by simp at e
  | _, _, 0, _, .cons r _, e => by simp at e; subst e; exact ⟨_, rfl, r⟩
  | _, _, i + 1, x, .cons _ t, e => by
    obtain ⟨u, h1, h2⟩ := Vals.get (i := i) (x := x) t (by simpa using e)
    exact ⟨u, by simpa using h1, h2⟩
theorem Vals.append : ∀ {xs ys : List V} {us ws : List Value}, Vals xs us → Vals ys ws → Vals (xs ++ ys) (us ++ ws)
  | _, _, _, _, .nil, s => s
  | _, _, _, _, .cons r t, s => .cons r (Vals.append t s)
theorem Vals.take : ∀ {xs : List V} {us : List Value} (n : Nat), Vals xs us → Vals (xs.take n) (us.take n)
  | _, _, 0, _ => .nil
  | _, _, _ + 1, .nil => .nil
  | _, _, n + 1, .cons r t => .cons r (Vals.take n t)
theorem Vals.drop : ∀ {xs : List V} {us : List Value} (n : Nat), Vals xs us → Vals (xs.drop n) (us.drop n)
  | _, _, 0, r => r
  | _, _, _ + 1, .nil => .nil
  | _, _, n + 1, .cons _ t => Vals.drop n t
noncomputable def RelO : Option V → Option Value → Prop
  | some v, some u => RelV v u
  | none, none => True
  | _, _ => False
noncomputable def KV {κ : Type} : List (κ × V) → List (κ × Value) → Prop := Paired fun (p : κ × V) (q : κ × Value) => p.1 = q.1 ∧ RelV p.2 q.2
noncomputable def kV : Key → V
  | .inl i => .int i
  | .inr x => .str x
inductive HO where
  /-- a list -/
  | lst (xs : List V)
  /-- a tuple (never changes) -/
  | tup (xs : List V)
  /-- a dict whose keys are ints and texts; one whose keys are tuples of ints and texts (the empty one is both) -/
  | dK (kvs : List (Key × V)) | dT (kvs : List (List Key × V))
  /-- a set of ints: its members, its size -/
  | set (S : Int → Bool) (n : Nat)
  /-- an instance of the class at C, its dict at dx, its attributes -/
  | ins (C dx : Addr) (fs : List (Str × V))
  /-- the dict of the instance at x -/
  | own (x : Addr)
  /-- the dict of an exception -/
  | xd (fs : List (Str × V))
  /-- a bound method, f of x -/
  | met (f x : Addr)
  /-- a range object lo, lo + 1, .. below hi -/
  | rng (lo hi : Int)
  /-- a thing that is known to the object (the script; a dict while a loop walks it): read, never written while it is so -/
  | frz (o : Obj) (u : HO)
  /-- a code object's table -/
  | tbl (ps : Array Value)
  /-- any other thing, by what is true of its one object (a def of one's own: SetO a S n := HO.ext fun h => ..) -/
  | ext (φ : Heap → Prop)
noncomputable abbrev Hp := Addr → Option HO
noncomputable def upd (H : Hp) (a : Addr) (o : HO) : Hp := fun b => if b = a then some o else H b
theorem upd_same {H : Hp} {a : Addr} {o : HO} : upd H a o a = some o := by unfold upd; rw [if_pos rfl]
theorem upd_ne {H : Hp} {a b : Addr} {o : HO} (h : b ≠ a) : upd H a o b = H b := by unfold upd; rw [if_neg h]
theorem upd_upd {H : Hp} {a : Addr} {o u : HO} : upd (upd H a o) a u = upd H a u := by
  funext b; unfold upd; split <;> rfl
theorem ne_of {H : Hp} {a b : Addr} {o u : HO} (h : H a = some o) (h' : H b = some u) (d : o ≠ u) : a ≠ b := by
  intro e; subst e; rw [h] at h'; exact d (Option.some.inj h')
theorem ne_of_none {H : Hp} {a b : Addr} {o : HO} (h : H a = some o) (h' : H b = none) : a ≠ b := by
  intro e; subst e; rw [h] at h'; cases h'
section
variable (P : Program) (w : World)
noncomputable def ObjOk (H : Hp) (h : Heap) (a : Addr) : HO → Prop
  | .lst xs => xs.length ≤ sizeLine ∧ ∃ (its : List Value) (n : Nat), Vals xs its ∧ h.get? a = some { cls := .type "list", data := .seq its.toArray n }
  | .tup xs => xs.length ≤ sizeLine ∧ ∃ its : List Value, Vals xs its ∧ IsTup h a its.toArray
  | .dK kvs => kvs.length ≤ sizeLine ∧ (a == sysModules) = false ∧ ∃ vs, KV kvs vs ∧ h.DictOf (mixKind P w) a vs
  | .dT kvs => kvs.length ≤ sizeLine ∧ (a == sysModules) = false ∧ ∃ xs : List (List Key × Addr × Value),
      Paired (fun (p : List Key × V) (q : List Key × Addr × Value) => p.1 = q.1 ∧ H q.2.1 = some (.tup (p.1.map kV)) ∧ RelV p.2 q.2.2) kvs xs ∧
      ∃ o es ep, h.get? a = some o ∧ o.ExactDict ∧ o.data = .dict es ep ∧ es.toList = xs.map (entryOfKey (tupleKind (mixKind P w))) ∧ (xs.map (·.1)).Nodup
  | .set S n => h.SetOf (intKind P w) a S n
  | .ins C dx fs => H dx = some (.own a) ∧ fs.length ≤ 1000 ∧ dx ≠ a ∧ h.get? a = some (PySem.W.instObj C dx) ∧
      ∃ mA, h.Ns1 dx mA ∧ (∀ f, RelO (fs.lookup f) (mA f)) ∧ PySem.Within mA (fs.map (·.1))
  | .own _ => ∃ o, h.get? a = some o
  | .xd fs => ∃ mA, h.Ns1 a mA ∧ ∀ f, RelO (fs.lookup f) (mA f)
  | .rng lo hi => ∃ t u v, h.get? a = some { cls := .type "range", data := .fields #[.int lo t, .int hi u, .int 1 v] }
  | .frz o u => h.get? a = some o ∧ ObjOk H h a u
  | .tbl ps => h.get? a = some { cls := .none, data := .fields ps }
  | .met f x => h.get? a = some (PySem.W.methodObj (.ref f) (.ref x))
  | .ext φ => φ h ∧ (∃ o, h.get? a = some o) ∧ ∀ h1 h2 : Heap, φ h1 → (∀ o, h1.get? a = some o → h2.get? a = some o) → φ h2
noncomputable def HOk (H : Hp) (h : Heap) : Prop := ∀ a o, H a = some o → ObjOk P w H h a o
end
section
variable {P : Program} {w : World} {H H' : Hp} {h h' : Heap} {a : Addr} {o : HO}
theorem ObjOk.lt (x : ObjOk P w H h a o) : a < h.objs.size := by
  cases o with
  | lst xs => obtain ⟨_, _, _, _, e⟩ := x; exact Heap.lt_size e
  | tup xs => obtain ⟨_, _, _, p⟩ := x; exact p.lt
  | dK kvs => obtain ⟨_, _, _, _, o, _, _, e, _⟩ := x; exact Heap.lt_size e
  | dT kvs => obtain ⟨_, _, _, _, o, _, _, e, _⟩ := x; exact Heap.lt_size e
  | set S n => obtain ⟨o, _, _, _, e, _⟩ := x; exact Heap.lt_size e
  | ins C dx fs => obtain ⟨_, _, _, e, _⟩ := x; exact Heap.lt_size e
  | own y => obtain ⟨_, e⟩ := x; exact Heap.lt_size e
  | xd fs => obtain ⟨_, ⟨_, _, _, e, _⟩, _⟩ := x; exact Heap.lt_size e
  | rng lo hi => obtain ⟨_, _, _, e⟩ := x; exact Heap.lt_size e
  | frz ob u => obtain ⟨e, _⟩ := x; exact Heap.lt_size e
  | tbl ps => exact Heap.lt_size (show h.get? a = some _ from x)
  | met f y => exact Heap.lt_size (show h.get? a = some _ from x)
  | ext φ => obtain ⟨_, ⟨_, e⟩, _⟩ := x; exact Heap.lt_size e
theorem Paired.mapP {α β : Type} {F G : α → β → Prop} : ∀ {l₁ : List α} {l₂ : List β}, Paired F l₁ l₂ → (∀ a b, F a b → G a b) → Paired G l₁ l₂
  | _, _, .nil, _ => .nil
  | _, _, .cons r t, f => .cons (f _ _ r) (Paired.mapP t f)
theorem ObjOk.stay (x : ObjOk P w H h a o) (k : ∀ b u, (b = a ∨ H b = some (.own a)) → h.get? b = some u → h'.get? b = some u)
    (ho : ∀ b, H b = some (.own a) → H' b = some (.own a)) (ht : ∀ b xs, H b = some (.tup xs) → H' b = some (.tup xs)) : ObjOk P w H' h' a o := by
  induction o with
  | lst xs => obtain ⟨z, its, n, r, e⟩ := x; exact ⟨z, its, n, r, k _ _ (.inl rfl) e⟩
  | tup xs => obtain ⟨z, its, r, ob, e, c⟩ := x; exact ⟨z, its, r, ob, k _ _ (.inl rfl) e, c⟩
  | dK kvs => obtain ⟨z, y, vs, r, ob, es, ep, e, c⟩ := x; exact ⟨z, y, vs, r, ob, es, ep, k _ _ (.inl rfl) e, c⟩
  | dT kvs =>
    obtain ⟨z, y, xs, r, ob, es, ep, e, c⟩ := x
    exact ⟨z, y, xs, Paired.mapP r fun p q z => ⟨z.1, ht _ _ z.2.1, z.2.2⟩, ob, es, ep, k _ _ (.inl rfl) e, c⟩
  | set S n => obtain ⟨ob, es, ep, t, e, c⟩ := x; exact ⟨ob, es, ep, t, k _ _ (.inl rfl) e, c⟩
  | ins C dx fs =>
    obtain ⟨d, z, ne, e, mA, ⟨od, es, ep, e2, c⟩, r⟩ := x
    exact ⟨ho _ d, z, ne, k _ _ (.inl rfl) e, mA, ⟨od, es, ep, k _ _ (.inr d) e2, c⟩, r⟩
  | own y => obtain ⟨ob, e⟩ := x; exact ⟨ob, k _ _ (.inl rfl) e⟩
  | xd fs => obtain ⟨mA, ⟨od, es, ep, e, c⟩, r⟩ := x; exact ⟨mA, ⟨od, es, ep, k _ _ (.inl rfl) e, c⟩, r⟩
  | rng lo hi => obtain ⟨t, u, v, e⟩ := x; exact ⟨t, u, v, k _ _ (.inl rfl) e⟩
  | frz ob u ih => obtain ⟨e, q⟩ := x; exact ⟨k _ _ (.inl rfl) e, ih q⟩
  | tbl ps =>
    have e : h.get? a = some { cls := .none, data := .fields ps } := x
    show h'.get? a = some { cls := .none, data := .fields ps }
    exact k a _ (.inl rfl) e
  | met f y =>
    have e : h.get? a = some (PySem.W.methodObj (.ref f) (.ref y)) := x
    show h'.get? a = some (PySem.W.methodObj (.ref f) (.ref y))
    exact k a _ (.inl rfl) e
  | ext φ => obtain ⟨p, ⟨o, e⟩, st⟩ := x; exact ⟨st _ _ p fun o q => k _ _ (.inl rfl) q, ⟨o, k _ _ (.inl rfl) e⟩, st⟩
theorem HOk.lt (x : HOk P w H h) (e : H a = some o) : a < h.objs.size := (x a o e).lt
theorem HOk.fresh (x : HOk P w H h) (e : h.objs.size ≤ a) : H a = none := by
  cases q : H a with
  | none => rfl
  | some u => exact absurd (Nat.lt_of_lt_of_le (x.lt q) e) (Nat.lt_irrefl _)
theorem HOk.kept (x : HOk P w H h) (k : ∀ b u, h.get? b = some u → h'.get? b = some u) : HOk P w H h' := fun a o e =>
  (x a o e).stay (fun b u _ q => k b u q) (fun _ q => q) fun _ _ q => q
theorem HOk.laid (x : HOk P w H h) (k : ∀ b u, h.get? b = some u → h'.get? b = some u) (hp : h.objs.size ≤ a) (new : ObjOk P w (upd H a o) h' a o) : HOk P w (upd H a o) h' := fun b u e => by
  have hn := x.fresh hp
  by_cases hb : b = a
  · subst hb; rw [upd_same] at e; cases e; exact new
  · rw [upd_ne hb] at e
    exact (x b u e).stay (fun c v _ q => k c v q) (fun c q => by rw [upd_ne (ne_of_none q hn)]; exact q) fun c xs q => by rw [upd_ne (ne_of_none q hn)]; exact q
end
noncomputable def Rd (H : Hp) (a : Addr) (u : HO) : Prop := H a = some u ∨ ∃ o, H a = some (.frz o u)
theorem Rd.ok {P : Program} {w : World} {H : Hp} {h : Heap} {a : Addr} {u : HO} (r : Rd H a u) (x : HOk P w H h) : ObjOk P w H h a u := by
  rcases r with r | ⟨o, r⟩
  · exact x a u r
  · obtain ⟨_, q⟩ := x a _ r
    exact q
noncomputable def Mut : Option HO → Prop
  | some (.lst _) => True
  | some (.dK _) => True
  | some (.dT _) => True
  | some (.set _ _) => True
  | some (.ins _ _ _) => True
  | some (.ext _) => True
  | _ => False
section
variable {P : Program} {w : World} {H : Hp} {h h' : Heap} {x e : Addr} {o' : HO}
theorem HOk.write (ok : HOk P w H h) (mu : Mut (H x)) (he : e = x ∨ H e = some (.own x)) (k : ∀ b u, b ≠ e → h.get? b = some u → h'.get? b = some u) (heo : ∃ u, h'.get? e = some u)
    (new : ObjOk P w (upd H x o') h' x o') : HOk P w (upd H x o') h' := fun b u q => by
  have nown : ∀ c y, H c = some (.own y) → c ≠ x := fun c y r z => by subst z; rw [r] at mu; exact mu
  have ntup : ∀ c xs, H c = some (.tup xs) → c ≠ x := fun c xs r z => by subst z; rw [r] at mu; exact mu
  by_cases hb : b = x
  · subst hb; rw [upd_same] at q; cases q; exact new
  · rw [upd_ne hb] at q
    by_cases hbe : b = e
    · have q' : H b = some (.own x) := by
        rcases he with z | z
        · exact absurd (hbe.trans z) hb
        · rw [hbe]; exact z
      rw [q] at q'; cases q'
      obtain ⟨v, hv⟩ := heo
      exact ⟨v, by rw [hbe]; exact hv⟩
    · refine (ok b u q).stay (fun c v hc r => k c v ?_ r) (fun c r => by rw [upd_ne (nown c b r)]; exact r) fun c xs r => by rw [upd_ne (ntup c xs r)]; exact r
      rcases hc with rfl | hc
      · exact hbe
      · rintro rfl
        rcases he with z | z
        · exact nown c b hc z
        · rw [hc] at z; cases z; exact hb rfl
end
structure Un (fs ex : List Addr) (H H' : Hp) (h h' : Heap) : Prop where
  keep : ∀ b o, h.get? b = some o → H b = none → b ∉ fs → b ∉ ex → h'.get? b = some o
  slot : ∀ b o, h.get? b = some o → H b = none → b ∈ fs → b ∉ ex → ∃ sl, h'.get? b = some { o with slots := sl }
  free : ∀ b o, h.get? b = some o → H b = none → b ∉ ex → H' b = none
  there : ∀ b o, h.get? b = some o → b ∉ ex → ∃ o', h'.get? b = some o'
  tups : ∀ b xs, H b = some (.tup xs) → H' b = some (.tup xs)
  frzs : ∀ b o u, H b = some (.frz o u) → H' b = some (.frz o u)
  tbls : ∀ b ps, H b = some (.tbl ps) → ∃ more, H' b = some (.tbl (ps ++ more))
section
variable {fs fs' ex ex' : List Addr} {H H1 H2 : Hp} {h h1 h2 h' : Heap} {a x e : Addr} {o : HO}
theorem Un.any (u : Un fs ex H H1 h h1) {b : Addr} {ob : Obj} (q : h.get? b = some ob) (n : H b = none) (hx : b ∉ ex) : ∃ sl, h1.get? b = some { ob with slots := sl } := by
  by_cases hb : b ∈ fs
  · exact u.slot b ob q n hb hx
  · exact ⟨ob.slots, u.keep b ob q n hb hx⟩
theorem Un.kept (k : ∀ b u, h.get? b = some u → h'.get? b = some u) : Un fs ex H H h h' :=
  ⟨fun b ob q _ _ _ => k b ob q, fun b ob q _ _ _ => ⟨ob.slots, k b ob q⟩, fun _ _ _ n _ => n, fun b ob q _ => ⟨ob, k b ob q⟩, fun _ _ q => q, fun _ _ _ q => q, fun _ ps q => ⟨#[], by rw [q]; simp⟩⟩
theorem Un.refl : Un fs ex H H h h := Un.kept fun _ _ q => q
theorem Un.laid (k : ∀ b u, h.get? b = some u → h'.get? b = some u) (hp : h.objs.size ≤ a) (hn : H a = none) : Un fs ex H (upd H a o) h h' where
  keep := fun b u q _ _ _ => k b u q
  slot := fun b u q _ _ _ => ⟨u.slots, k b u q⟩
  free := fun b u q n _ => by rw [upd_ne (Nat.ne_of_lt (Nat.lt_of_lt_of_le (Heap.lt_size q) hp))]; exact n
  there := fun b u q _ => ⟨u, k b u q⟩
  tups := fun b xs q => by rw [upd_ne (ne_of_none q hn)]; exact q
  frzs := fun b u xs q => by rw [upd_ne (ne_of_none q hn)]; exact q
  tbls := fun b ps q => ⟨#[], by rw [upd_ne (ne_of_none q hn), q]; simp⟩
theorem Un.write (mu : Mut (H x)) (he : e = x ∨ H e = some (.own x)) (k : ∀ b u, b ≠ e → h.get? b = some u → h'.get? b = some u) (heo : ∃ u, h'.get? e = some u) : Un fs ex H (upd H x o) h h' := by
  have hx : ∀ b, H b = none → b ≠ x := fun b n z => by subst z; rw [n] at mu; exact mu
  have hb : ∀ b, H b = none → b ≠ e := fun b n z => by
    subst z
    rcases he with r | r
    · exact hx b n r
    · rw [n] at r; cases r
  have hm : ∀ b u, H b = some u → ¬ Mut (some u) → b ≠ x := fun b u q nm z => by subst z; rw [q] at mu; exact nm mu
  refine ⟨fun b u q n _ _ => k b u (hb b n) q, fun b u q n _ _ => ⟨u.slots, k b u (hb b n) q⟩, fun b u q n _ => by rw [upd_ne (hx b n)]; exact n, fun b u q _ => ?_,
    fun b xs q => by rw [upd_ne (hm b _ q fun z => z)]; exact q, fun b u xs q => by rw [upd_ne (hm b _ q fun z => z)]; exact q, fun b ps q => ⟨#[], by rw [upd_ne (hm b _ q fun z => z), q]; simp⟩⟩
  by_cases hbe : b = e
  · subst hbe; exact heo
  · exact ⟨u, k b u hbe q⟩
end
noncomputable def trk (h : Heap) (H : Hp) : List Addr := (List.range h.objs.size).filter fun a => (H a).isSome
noncomputable def hidT (h : Heap) (H : Hp) : Heap := PySem.W.hideAll h (trk h H)
theorem hidT_size (h : Heap) (H : Hp) : (hidT h H).objs.size = h.objs.size := PySem.W.hideAll_size _ _
theorem hidT_get {h : Heap} {H : Hp} {b : Addr} {o : Obj} (e : h.get? b = some o) (n : H b = none) : (hidT h H).get? b = some o :=
  PySem.W.hideAll_get _ e fun hm => by
    have q : (H b).isSome = true := (List.mem_filter.mp hm).2
    rw [n] at q; simp at q
theorem of_hidT {h : Heap} {H : Hp} {b : Addr} {o : Obj} (e : (hidT h H).get? b = some o) : h.get? b = some o ∧ H b = none := by
  have e' : h.get? b = some o := PySem.W.of_hideAll (trk h H) e
  refine ⟨e', ?_⟩
  cases q : H b with
  | none => rfl
  | some x =>
    have hm : b ∈ trk h H := List.mem_filter.mpr ⟨List.mem_range.mpr (Heap.lt_size e'), by simp [q]⟩
    have z : (hidT h H).get? b = none := PySem.W.hideAll_none (trk h H) hm
    rw [z] at e; cases e
end L2
namespace L2
open PySem PySem.Spec PyProof.Rows
structure Mod (K : PySem.W.Frag) (mg : Str → Option Value) (base : Heap) : Prop where
  kin : K.In base
  glob : base.Ns mainGlobals mg
  blt : ∃ mb, base.Ns builtinsNs mb ∧ ∀ x : Str, x ≠ "__name__" → mb x = bootBuiltins x
  nolimit : base.NoLimit
structure Cx where
  prog : Program
  w : World
  K : PySem.W.Frag
  mg : Str → Option Value
  base : Heap
  A : Around
  N : List Str
  s_0 : Shared
  H_0 : Hp
  env : Env
  outer : List Env
  stack : List Env
  ex : List Addr
  fn : Str → Bool
  calm : Bool
  pn : List (Addr × Obj)
  xe : Value → Shared → Prop
noncomputable def frs (l : List Env) : List Addr := l.filterMap (·.frame)
noncomputable abbrev Cx.fs (X : Cx) : List Addr := frs X.outer
noncomputable def Vis (sc : Scope) (x : Str) : Prop := sc.names.lookup x = some .local ∨ sc.names.lookup x = some .cell ∨ sc.names.lookup x = some .free
noncomputable def Loc (sc : Scope) (x : Str) : Prop := sc.names.lookup x = some .local ∨ sc.names.lookup x = some .cell
noncomputable def Look (env : Env) (h : Heap) (m : Str → Option Value) (x : Str) (u : Value) : Prop :=
  (env.kindOf x = some .local ∧ m x = some u) ∨ ((env.kindOf x = some .cell ∨ env.kindOf x = some .free) ∧ ∃ c, env.cells.lookup x = some c ∧ h.IsCell c (some u))
structure Cx.Ok (X : Cx) : Prop where
  mod : Mod X.K X.mg X.base
  kind : X.env.scope.kind = .function
  glob : X.env.globals = mainGlobals
  blt : X.env.builtins = builtinsNs
  above : X.s_0.heap.objs.size ≤ X.env.locals
  inj : ∀ x y c, X.env.cells.lookup x = some c → X.env.cells.lookup y = some c → x = y
  has : ∀ x, (X.env.kindOf x = some .cell ∨ X.env.kindOf x = some .free) → ∃ c, X.env.cells.lookup x = some c
  cab : ∀ x c, X.fn x = true → X.env.cells.lookup x = some c → X.s_0.heap.objs.size ≤ c
  hd : X.calm = true → X.A.handled = none
  frames : X.A.frames = some X.stack
  stk : X.stack = X.outer ∨ (X.stack = X.env :: X.outer ∧ X.env.frame = some X.env.locals)
  exf : ∀ b ∈ X.ex, b ≠ X.env.locals ∧ ∀ x c, X.env.cells.lookup x = some c → c ≠ b
  bs : ∀ b o, X.base.get? b = some o → X.s_0.heap.get? b = some o ∧ X.H_0 b = none
  bsz : X.base.objs.size ≤ X.s_0.heap.objs.size
  noex : ∀ b o, X.base.get? b = some o → b ∉ X.ex
  exfs : ∀ b ∈ X.ex, b ∉ X.fs
  funs : X.s_0.heap.FunFrames X.base X.outer
  frf : ∀ b ∈ X.fs, X.H_0 b = none
structure Inv (X : Cx) (pins : List (Addr × Obj)) (σ : List (Option V)) (H : Hp) (s : Shared) : Prop where
  ok : X.Ok
  os : s.os = X.s_0.os
  bare : AllBare s.gens
  base : Un X.fs X.ex X.H_0 H X.s_0.heap s.heap
  loc : ∃ m, s.heap.Ns X.env.locals m ∧ ∀ (i : Nat) (x : Str) (v : V), X.N[i]? = some x → σ[i]? = some (some v) → Vis X.env.scope x → ∃ u, RelV v u ∧ Look X.env s.heap m x u
  cell : ∀ x c, X.env.cells.lookup x = some c → ∃ v, s.heap.IsCell c v
  free : H X.env.locals = none
  freeC : ∀ x c, X.env.cells.lookup x = some c → H c = none
  pin : ∀ p ∈ X.pn ++ pins, s.heap.get? p.1 = some p.2 ∧ H p.1 = none ∧ p.1 ≠ X.env.locals ∧ p.1 ∉ X.fs ∧ ∀ v, p.2.data ≠ .cell v
  hok : HOk X.prog X.w H s.heap
  len : σ.length = X.N.length
section
variable {X : Cx} {pins : List (Addr × Obj)} {σ : List (Option V)} {H H' : Hp} {s : Shared} {h' : Heap}
theorem Cx.Ok.nofr (ok : X.Ok) {b : Addr} {o : Obj} (e : X.base.get? b = some o) : b ∉ X.fs := fun hb => by
  have := (ok.funs.mem hb).1
  rw [e] at this; cases this
theorem Inv.bs (I : Inv X pins σ H s) : ∀ b o, X.base.get? b = some o → s.heap.get? b = some o ∧ H b = none := fun b o e =>
  ⟨I.base.keep b o (I.ok.bs b o e).1 (I.ok.bs b o e).2 (I.ok.nofr e) (I.ok.noex b o e), I.base.free b o (I.ok.bs b o e).1 (I.ok.bs b o e).2 (I.ok.noex b o e)⟩
theorem Inv.bk (I : Inv X pins σ H s) : ∀ b o, X.base.get? b = some o → s.heap.get? b = some o := fun b o e => (I.bs b o e).1
theorem Inv.mod (I : Inv X pins σ H s) : Mod X.K X.mg X.base := I.ok.mod
theorem Inv.kIn (I : Inv X pins σ H s) : X.K.In s.heap := I.ok.mod.kin.keeps I.bk
theorem Inv.lt (I : Inv X pins σ H s) : X.env.locals < s.heap.objs.size := let ⟨_, hn, _⟩ := I.loc; hn.lt
theorem Inv.sz (I : Inv X pins σ H s) : X.s_0.heap.objs.size ≤ s.heap.objs.size := Nat.le_trans I.ok.above (Nat.le_of_lt I.lt)
theorem Inv.nofs (I : Inv X pins σ H s) {a : Addr} (h : s.heap.objs.size ≤ a) : a ∉ X.fs := fun hb => by
  obtain ⟨_, o, ho, _⟩ := I.ok.funs.mem hb
  exact absurd (Nat.lt_of_lt_of_le (Heap.lt_size ho) (Nat.le_trans I.sz h)) (Nat.lt_irrefl _)
theorem Inv.cne (I : Inv X pins σ H s) : ∀ x c, X.env.cells.lookup x = some c → c ≠ X.env.locals := fun x c e z => by
  obtain ⟨v, o, ho, hd⟩ := I.cell x c e
  obtain ⟨m, ⟨o', es, ep, ho', hd', _⟩, _⟩ := I.loc
  rw [z, ho'] at ho; cases ho; rw [hd'] at hd; cases hd
theorem Inv.funs (I : Inv X pins σ H s) : s.heap.FunFrames X.base X.outer := by
  have all : ∀ (l : List Env), (∀ b ∈ frs l, b ∈ X.fs) → X.s_0.heap.FunFrames X.base l → s.heap.FunFrames X.base l := by
    intro l
    induction l with
    | nil => intro _ _; trivial
    | cons env r ih =>
      intro hs hl
      obtain ⟨hk, ⟨L, o, hf, hn, ho, hd⟩, hr⟩ := hl
      have hL : L ∈ X.fs := hs L (by unfold frs; rw [List.filterMap_cons, hf]; exact List.mem_cons_self)
      obtain ⟨sl, e⟩ := I.base.slot L o ho (I.ok.frf L hL) hL fun z => I.ok.exfs L z hL
      exact ⟨hk, ⟨L, _, hf, hn, e, hd⟩, ih (fun b hb => hs b (by unfold frs; rw [List.filterMap_cons, hf]; exact List.mem_cons_of_mem _ hb)) hr⟩
  exact all X.outer (fun _ hb => hb) I.ok.funs
theorem Inv.stack (I : Inv X pins σ H s) : s.heap.FunFrames X.base X.stack := by
  rcases I.ok.stk with e | ⟨e, hf⟩
  · rw [e]; exact I.funs
  · rw [e]
    obtain ⟨m, hn, _⟩ := I.loc
    refine .cons (by rw [I.ok.kind]; decide) hf hn ?_ I.funs
    exact Heap.get?_none_of_le (Nat.le_trans I.ok.bsz I.ok.above)
theorem Inv.stkSub (I : Inv X pins σ H s) : ∀ b ∈ frs X.stack, b ∈ X.env.locals :: X.fs := fun b hb => by
  rcases I.ok.stk with e | ⟨e, hf⟩
  · rw [e] at hb; exact List.mem_cons_of_mem _ hb
  · rw [e] at hb
    unfold frs at hb
    rw [List.filterMap_cons, hf] at hb
    exact hb
theorem Inv.stkFree (I : Inv X pins σ H s) : ∀ b ∈ frs X.stack, H b = none := fun b hb => by
  rcases List.mem_cons.mp (I.stkSub b hb) with e | hb
  · rw [e]; exact I.free
  · obtain ⟨_, o, ho, _⟩ := I.ok.funs.mem hb
    exact I.base.free b o ho (I.ok.frf b hb) fun z => I.ok.exfs b z hb
theorem Inv.step {g' : Array GenState} {t' : Nat} {d' : Drawn} {ch : List Addr} (I : Inv X pins σ H s)
    (hch : ∀ b ∈ ch, (b ∈ X.ex ∨ X.s_0.heap.objs.size ≤ b) ∧ b ≠ X.env.locals ∧ (∀ x c, X.env.cells.lookup x = some c → c ≠ b) ∧ ∀ p ∈ X.pn ++ pins, p.1 ≠ b)
    (keep : ∀ b o, b ≠ X.env.locals → b ∉ X.fs → b ∉ ch → s.heap.get? b = some o → H b = none → h'.get? b = some o)
    (slot : ∀ b o, b ≠ X.env.locals → b ∈ X.fs → b ∉ ch → s.heap.get? b = some o → H b = none → ∃ sl, h'.get? b = some { o with slots := sl }) (free : ∀ b o, b ∉ ch → s.heap.get? b = some o → H b = none → H' b = none)
    (there : ∀ b o, b ∉ ch → s.heap.get? b = some o → ∃ o', h'.get? b = some o')
    (tups : ∀ b xs, H b = some (.tup xs) → H' b = some (.tup xs)) (frzs : ∀ b o u, H b = some (.frz o u) → H' b = some (.frz o u)) (tbls : ∀ b ps, H b = some (.tbl ps) → ∃ more, H' b = some (.tbl (ps ++ more)))
    (ns : ∀ m, s.heap.Ns X.env.locals m → h'.Ns X.env.locals m) (hok : HOk X.prog X.w H' h') (hg : AllBare g') :
    Inv X pins σ H' { s with heap := h', gens := g', drawn := d', toks := t' } := by
  have neL : ∀ b o, X.s_0.heap.get? b = some o → b ≠ X.env.locals := fun b o e => Nat.ne_of_lt (Nat.lt_of_lt_of_le (Heap.lt_size e) I.ok.above)
  have neC : ∀ b o, X.s_0.heap.get? b = some o → b ∉ X.ex → b ∉ ch := fun b o e hx hb => by
    rcases (hch b hb).1 with z | z
    · exact hx z
    · exact absurd (Nat.lt_of_lt_of_le (Heap.lt_size e) z) (Nat.lt_irrefl _)
  have cellK : ∀ x c, X.env.cells.lookup x = some c → ∀ v, s.heap.IsCell c v → h'.IsCell c v := fun x c e v ⟨o, ho, hd⟩ => by
    have nch : c ∉ ch := fun z => (hch c z).2.2.1 x c e rfl
    by_cases hc : c ∈ X.fs
    · obtain ⟨sl, q⟩ := slot c o (I.cne x c e) hc nch ho (I.freeC x c e)
      exact ⟨_, q, hd⟩
    · exact ⟨o, keep c o (I.cne x c e) hc nch ho (I.freeC x c e), hd⟩
  refine ⟨I.ok, I.os, hg, ⟨fun b o e n hb hx => ?_, fun b o e n hb hx => ?_, fun b o e n hx => ?_, fun b o e hx => ?_, fun b xs e => tups b xs (I.base.tups b xs e), fun b o xs e => frzs b o xs (I.base.frzs b o xs e), fun b ps e => ?_⟩, ?_, fun x c e => ?_, ?_, fun x c e => ?_, fun p hp => ?_, hok, I.len⟩
  · exact keep b o (neL b o e) hb (neC b o e hx) (I.base.keep b o e n hb hx) (I.base.free b o e n hx)
  · obtain ⟨sl, e1⟩ := I.base.slot b o e n hb hx
    obtain ⟨sl', e2⟩ := slot b _ (neL b o e) hb (neC b o e hx) e1 (I.base.free b o e n hx)
    exact ⟨sl', e2⟩
  · obtain ⟨o', e1⟩ := I.base.there b o e hx
    exact free b o' (neC b o e hx) e1 (I.base.free b o e n hx)
  · obtain ⟨o', e1⟩ := I.base.there b o e hx
    exact there b o' (neC b o e hx) e1
  · obtain ⟨m1, e1⟩ := I.base.tbls b ps e
    obtain ⟨m2, e2⟩ := tbls b _ e1
    exact ⟨m1 ++ m2, by rw [e2, Array.append_assoc]⟩
  · obtain ⟨m, hn, hl⟩ := I.loc
    refine ⟨m, ns m hn, fun i x v e1 e2 e3 => ?_⟩
    obtain ⟨u, r, l⟩ := hl i x v e1 e2 e3
    refine ⟨u, r, ?_⟩
    rcases l with l | ⟨k, c, e, z⟩
    · exact .inl l
    · exact .inr ⟨k, c, e, cellK x c e _ z⟩
  · obtain ⟨v, z⟩ := I.cell x c e
    exact ⟨v, cellK x c e v z⟩
  · obtain ⟨m, ⟨o, _, _, ho, _⟩, _⟩ := I.loc
    exact free _ o (fun z => (hch _ z).2.1 rfl) ho I.free
  · obtain ⟨v, o, ho, hd⟩ := I.cell x c e
    exact free c o (fun z => (hch c z).2.2.1 x c e rfl) ho (I.freeC x c e)
  · obtain ⟨e, n, ne, nf, d⟩ := I.pin p hp
    have nch : p.1 ∉ ch := fun z => (hch p.1 z).2.2.2 p hp rfl
    exact ⟨keep p.1 p.2 ne nf nch e n, free p.1 p.2 nch e n, ne, nf, d⟩
theorem Inv.un {t' : Nat} (I : Inv X pins σ H s) (u : Un X.fs [] H H' s.heap h') (hok : HOk X.prog X.w H' h') : Inv X pins σ H' { s with heap := h', toks := t' } := by
  obtain ⟨m, ⟨o, es, ep, ho, r⟩, _⟩ := id I.loc
  obtain ⟨sl, hL⟩ := u.any ho I.free (by simp)
  exact I.step (g' := s.gens) (d' := s.drawn) (ch := []) (fun _ z => nomatch z) (fun b o _ hb _ e n => u.keep b o e n hb (by simp)) (fun b o _ hb _ e n => u.slot b o e n hb (by simp)) (fun b o _ e n => u.free b o e n (by simp)) (fun b o _ e => u.there b o e (by simp)) u.tups u.frzs u.tbls (fun m' hm => by
    obtain ⟨o', es', ep', ho', r'⟩ := hm
    rw [ho] at ho'; cases ho'
    exact ⟨_, es', ep', hL, r'⟩) hok I.bare
theorem Inv.call {g' : Array GenState} {t' : Nat} {d' : Drawn} {ch : List Addr} (I : Inv X pins σ H s) (u : Un (frs X.stack) ch H H' s.heap h') (hok : HOk X.prog X.w H' h') (hg : AllBare g')
    (hch : ∀ b ∈ ch, (b ∈ X.ex ∨ X.s_0.heap.objs.size ≤ b) ∧ b ≠ X.env.locals ∧ (∀ x c, X.env.cells.lookup x = some c → c ≠ b) ∧ ∀ p ∈ X.pn ++ pins, p.1 ≠ b) :
    Inv X pins σ H' { s with heap := h', gens := g', drawn := d', toks := t' } := by
  obtain ⟨m, ⟨o, es, ep, ho, r⟩, _⟩ := id I.loc
  obtain ⟨sl, hL⟩ := u.any ho I.free fun z => (hch _ z).2.1 rfl
  exact I.step (ch := ch) hch (fun b o hL hb hc e n => u.keep b o e n (fun z => (List.mem_cons.mp (I.stkSub b z)).elim hL hb) hc) (fun b o _ _ hc e n => u.any e n hc) (fun b o hc e n => u.free b o e n hc) (fun b o hc e => u.there b o e hc) u.tups u.frzs u.tbls (fun m' hm => by
    obtain ⟨o', es', ep', ho', r'⟩ := hm
    rw [ho] at ho'; cases ho'
    exact ⟨_, es', ep', hL, r'⟩) hok hg
theorem Inv.turned {t' : Nat} {it : Addr} (I : Inv X pins σ H s) (k : ∀ b o, b ≠ it → s.heap.get? b = some o → h'.get? b = some o) (hn : H it = none) (hL : it ≠ X.env.locals)
    (h1 : it ∈ X.ex ∨ X.s_0.heap.objs.size ≤ it) (h2 : ∀ x c, X.env.cells.lookup x = some c → c ≠ it) (h3 : ∀ p ∈ X.pn ++ pins, p.1 ≠ it) : Inv X pins σ H { s with heap := h', toks := t' } := by
  have nit : ∀ b u, H b = some u → b ≠ it := fun b u e z => by rw [z, hn] at e; cases e
  refine I.step (g' := s.gens) (d' := s.drawn) (ch := [it]) (fun b hb => ?_) (fun b o _ _ hc e _ => k b o (fun z => hc (by simp [z])) e) (fun b o _ _ hc e _ => ⟨o.slots, k b o (fun z => hc (by simp [z])) e⟩) (fun _ _ _ _ n => n)
    (fun b o hc e => ⟨o, k b o (fun z => hc (by simp [z])) e⟩) (fun _ _ e => e) (fun _ _ _ e => e) (fun b ps e => ⟨#[], by rw [e]; simp⟩) (fun m hm => ?_) (fun b u e => ?_) I.bare
  · have e : b = it := by simpa using hb
    subst e
    exact ⟨h1, hL, h2, h3⟩
  · obtain ⟨o, es, ep, ho, r⟩ := hm
    exact ⟨o, es, ep, k _ o (Ne.symm hL) ho, r⟩
  · refine (I.hok b u e).stay (fun c v hc q => k c v ?_ q) (fun _ q => q) fun _ _ q => q
    rcases hc with z | z
    · rw [z]; exact nit b u e
    · exact nit c _ z
theorem Inv.tok (I : Inv X pins σ H s) (t : Nat) : Inv X pins σ H { s with toks := t } := I.un (h' := s.heap) (t' := t) Un.refl I.hok
theorem Inv.kept {t' : Nat} (I : Inv X pins σ H s) (k : ∀ b u, s.heap.get? b = some u → h'.get? b = some u) : Inv X pins σ H { s with heap := h', toks := t' } := I.un (Un.kept k) (I.hok.kept k)
theorem Inv.laid {a : Addr} {o : HO} {t' : Nat} (I : Inv X pins σ H s) (k : ∀ b u, s.heap.get? b = some u → h'.get? b = some u) (hp : s.heap.objs.size ≤ a) (new : ObjOk X.prog X.w (upd H a o) h' a o) :
    Inv X pins σ (upd H a o) { s with heap := h', toks := t' } := I.un (Un.laid k hp (I.hok.fresh hp)) (I.hok.laid k hp new)
theorem Inv.write {x e : Addr} {o : HO} {t' : Nat} (I : Inv X pins σ H s) (mu : Mut (H x)) (he : e = x ∨ H e = some (.own x)) (k : ∀ b u, b ≠ e → s.heap.get? b = some u → h'.get? b = some u) (heo : ∃ u, h'.get? e = some u)
    (new : ObjOk X.prog X.w (upd H x o) h' x o) : Inv X pins σ (upd H x o) { s with heap := h', toks := t' } := I.un (Un.write mu he k heo) (I.hok.write mu he k heo new)
theorem Inv.weak {σ' : List (Option V)} (I : Inv X pins σ H s) (hl : σ'.length = σ.length) (w : ∀ (i : Nat) v, σ'[i]? = some (some v) → σ[i]? = some (some v)) : Inv X pins σ' H s :=
  ⟨I.ok, I.os, I.bare, I.base, let ⟨m, hn, hl'⟩ := I.loc; ⟨m, hn, fun i x v e1 e2 e3 => hl' i x v e1 (w i v e2) e3⟩, I.cell, I.free, I.freeC, I.pin, I.hok, hl.trans I.len⟩
theorem Inv.pins_of {pins' : List (Addr × Obj)} (I : Inv X pins σ H s) (h : ∀ p ∈ pins', s.heap.get? p.1 = some p.2 ∧ H p.1 = none ∧ p.1 ≠ X.env.locals ∧ p.1 ∉ X.fs ∧ ∀ v, p.2.data ≠ .cell v) : Inv X pins' σ H s :=
  ⟨I.ok, I.os, I.bare, I.base, I.loc, I.cell, I.free, I.freeC, fun p hp => (List.mem_append.mp hp).elim (fun z => I.pin p (List.mem_append_left _ z)) (h p), I.hok, I.len⟩
theorem nodup_ix {N : List Str} (hN : N.Nodup) {i j : Nat} {x : Str} (a : N[i]? = some x) (b : N[j]? = some x) : i = j := by
  obtain ⟨h1, e1⟩ := List.getElem?_eq_some_iff.mp a
  obtain ⟨h2, e2⟩ := List.getElem?_eq_some_iff.mp b
  exact (List.getElem_inj hN).mp (e1.trans e2.symm)
theorem store_ok2 {M : Model} {A : Around} {E : Value → Shared → Prop} {i : Nat} {x : Str} {v : V} {u : Value} {Q : Unit → Shared → Prop} (I : Inv X pins σ H s) (hN : X.N.Nodup) (hi : X.N[i]? = some x) (hx : Loc X.env.scope x) (r : RelV v u)
    (h : ∀ s', Inv X pins (σ.set i (some v)) H s' → (∃ a, Heap.SameBut a s.heap s'.heap ∧ (a = X.env.locals ∨ X.env.cells.lookup x = some a)) → Q () s') (hf : X.fn x = true ∨ X.env.scope.names.lookup x = some .local := by first | exact .inl rfl | exact .inr rfl | assumption) : wpAny M A (storeName X.env x u) Q E s := by
  obtain ⟨m, hn, hl⟩ := id I.loc
  have hcls : (X.env.scope.kind == .class || (X.env.scope.kind == .module && X.env.locals != X.env.globals)) = false := by rw [I.ok.kind]; rfl
  have hiσ : i < σ.length := by rw [I.len]; exact (List.getElem?_eq_some_iff.mp hi).1
  have cne := I.cne
  have tracked : ∀ {a : Addr} {h' : Heap}, (∃ o, s.heap.get? a = some o ∧ H a = none) → Heap.SameBut a s.heap h' → HOk X.prog X.w H h' := fun {a h'} ha hs b ob e => by
    obtain ⟨_, _, hfree⟩ := ha
    refine (I.hok b ob e).stay (fun c w' hc q => (hs.2 c ?_).trans q) (fun _ q => q) fun _ _ q => q
    rintro rfl
    rcases hc with rfl | hc
    · rw [hfree] at e; cases e
    · rw [hfree] at hc; cases hc
  rcases hx with hk | hk
  · refine wpAny_storeName_local hk hn (fun h' hn' hs => ?_) hcls
    obtain ⟨oL, _, _, hoL, _⟩ := id hn
    refine h _ ⟨I.ok, I.os, I.bare, ⟨fun b o e n hb hx => ?_, fun b o e n hb hx => ?_, I.base.free, fun b o e hx => ?_, I.base.tups, I.base.frzs, I.base.tbls⟩, ⟨_, hn', fun j y v' e1 e2 e3 => ?_⟩, fun y c e => ?_, I.free, I.freeC, fun p hp => ?_, tracked ⟨oL, hoL, I.free⟩ hs, by simpa using I.len⟩ ⟨_, hs, .inl rfl⟩
    · exact (hs.2 b (Nat.ne_of_lt (Nat.lt_of_lt_of_le (Heap.lt_size e) I.ok.above))).trans (I.base.keep b o e n hb hx)
    · obtain ⟨sl, e1⟩ := I.base.slot b o e n hb hx
      exact ⟨sl, (hs.2 b (Nat.ne_of_lt (Nat.lt_of_lt_of_le (Heap.lt_size e) I.ok.above))).trans e1⟩
    · obtain ⟨o', e1⟩ := I.base.there b o e hx
      exact ⟨o', (hs.2 b (Nat.ne_of_lt (Nat.lt_of_lt_of_le (Heap.lt_size e) I.ok.above))).trans e1⟩
    · by_cases hj : j = i
      · subst hj
        rw [hi] at e1; cases e1
        rw [List.getElem?_set_self hiσ] at e2
        cases e2
        exact ⟨u, r, .inl ⟨hk, by simp⟩⟩
      · rw [List.getElem?_set_ne (Ne.symm hj)] at e2
        obtain ⟨u', r', q⟩ := hl j y v' e1 e2 e3
        refine ⟨u', r', ?_⟩
        rcases q with ⟨k, e⟩ | ⟨k, c, e, z⟩
        · refine .inl ⟨k, ?_⟩
          have : y ≠ x := fun e => hj (nodup_ix hN e1 (e ▸ hi))
          simp [this, e]
        · exact .inr ⟨k, c, e, z.sameBut hs (cne y c e)⟩
    · obtain ⟨w', z⟩ := I.cell y c e
      exact ⟨w', z.sameBut hs (cne y c e)⟩
    · obtain ⟨e, n, ne, nf, d⟩ := I.pin p hp
      exact ⟨(hs.2 p.1 ne).trans e, n, ne, nf, d⟩
  · have hfn : X.fn x = true := by
      rcases hf with z | z
      · exact z
      · rw [z] at hk; cases hk
    obtain ⟨c, hc⟩ := I.ok.has x (.inl hk)
    obtain ⟨w', z⟩ := I.cell x c hc
    refine wpAny_storeName_cell I.ok.kind hk hc z (fun h' hc' hs => ?_)
    obtain ⟨oc, hoc, hocd⟩ := id z
    refine h { s with heap := h' } ⟨I.ok, I.os, I.bare, ⟨fun b o e n hb hx => ?_, fun b o e n hb hx => ?_, I.base.free, fun b o e hx => ?_, I.base.tups, I.base.frzs, I.base.tbls⟩, ⟨m, hn.sameBut hs (Ne.symm (cne x c hc)), fun j y v' e1 e2 e3 => ?_⟩, fun y c' e => ?_, I.free, I.freeC, fun p hp => ?_, tracked ⟨oc, hoc, I.freeC x c hc⟩ hs, by simpa using I.len⟩ ⟨c, hs, .inr hc⟩
    · exact (hs.2 b (Nat.ne_of_lt (Nat.lt_of_lt_of_le (Heap.lt_size e) (I.ok.cab x c hfn hc)))).trans (I.base.keep b o e n hb hx)
    · obtain ⟨sl, e1⟩ := I.base.slot b o e n hb hx
      exact ⟨sl, (hs.2 b (Nat.ne_of_lt (Nat.lt_of_lt_of_le (Heap.lt_size e) (I.ok.cab x c hfn hc)))).trans e1⟩
    · obtain ⟨o', e1⟩ := I.base.there b o e hx
      exact ⟨o', (hs.2 b (Nat.ne_of_lt (Nat.lt_of_lt_of_le (Heap.lt_size e) (I.ok.cab x c hfn hc)))).trans e1⟩
    · by_cases hj : j = i
      · subst hj
        rw [hi] at e1; cases e1
        rw [List.getElem?_set_self hiσ] at e2
        cases e2
        exact ⟨u, r, .inr ⟨.inl hk, c, hc, hc'⟩⟩
      · rw [List.getElem?_set_ne (Ne.symm hj)] at e2
        obtain ⟨u', r', q⟩ := hl j y v' e1 e2 e3
        refine ⟨u', r', ?_⟩
        rcases q with q | ⟨k, c', e, z'⟩
        · exact .inl q
        · refine .inr ⟨k, c', e, z'.sameBut hs ?_⟩
          rintro rfl
          exact hj (nodup_ix hN e1 (I.ok.inj _ _ _ e hc ▸ hi))
    · by_cases hcc : c' = c
      · subst hcc; exact ⟨_, hc'⟩
      · obtain ⟨w2, z2⟩ := I.cell y c' e
        exact ⟨w2, z2.sameBut hs hcc⟩
    · obtain ⟨e, n, ne, nf, d⟩ := I.pin p hp
      refine ⟨(hs.2 p.1 ?_).trans e, n, ne, nf, d⟩
      intro q
      rw [q, hoc] at e
      have q' : oc = p.2 := Option.some.inj e
      exact d w' (by rw [← q']; exact hocd)
theorem store_ok {M : Model} {A : Around} {E : Value → Shared → Prop} {i : Nat} {x : Str} {v : V} {u : Value} {Q : Unit → Shared → Prop} (I : Inv X pins σ H s) (hN : X.N.Nodup) (hi : X.N[i]? = some x) (hx : Loc X.env.scope x) (r : RelV v u)
    (h : ∀ s', Inv X pins (σ.set i (some v)) H s' → Q () s') (hf : X.fn x = true ∨ X.env.scope.names.lookup x = some .local := by first | exact .inl rfl | exact .inr rfl | assumption) : wpAny M A (storeName X.env x u) Q E s :=
  store_ok2 I hN hi hx r (fun s' I' _ => h s' I') hf
theorem Inv.call' {s' : Shared} {ch : List Addr} (I : Inv X pins σ H s) (ho : s'.os = s.os) (u : Un (frs X.stack) ch H H' s.heap s'.heap) (hok : HOk X.prog X.w H' s'.heap) (hg : AllBare s'.gens)
    (hch : ∀ b ∈ ch, (b ∈ X.ex ∨ X.s_0.heap.objs.size ≤ b) ∧ b ≠ X.env.locals ∧ (∀ x c, X.env.cells.lookup x = some c → c ≠ b) ∧ ∀ p ∈ X.pn ++ pins, p.1 ≠ b) : Inv X pins σ H' s' := by
  obtain ⟨h', g', d', t', o'⟩ := s'
  have e : o' = s.os := ho
  subst e
  exact I.call (g' := g') (t' := t') (d' := d') u hok hg hch
end
noncomputable abbrev XK := Value → Option Addr → Hp → Prop
noncomputable abbrev St := List (Option V)
noncomputable abbrev VK := V → Hp → Prop
noncomputable abbrev TE := St → Hp → VK → Prop
noncomputable abbrev TT := St → Hp → (Bool → Hp → Prop) → Prop
noncomputable abbrev TA := St → Hp → (List V → Hp → Prop) → Prop
structure Ends where
  nx : St → Hp → Prop
  rt : VK
  bk : St → Hp → Prop := fun _ _ => False
  ct : St → Hp → Prop := fun _ _ => False
noncomputable abbrev TS := Ends → St → Hp → Prop
noncomputable def EP (X : Cx) (pins : List (Addr × Obj)) (σ : St) (Q : VK) (u : Value) (s' : Shared) : Prop := ∃ v H', Inv X pins σ H' s' ∧ RelV v u ∧ Q v H'
noncomputable def TP (X : Cx) (pins : List (Addr × Obj)) (σ : St) (Q : Bool → Hp → Prop) (b : Bool) (s' : Shared) : Prop := ∃ H', Inv X pins σ H' s' ∧ Q b H'
noncomputable def AP (X : Cx) (pins : List (Addr × Obj)) (σ : St) (Q : List V → Hp → Prop) (us : List Value) (s' : Shared) : Prop := ∃ vs H', Inv X pins σ H' s' ∧ Vals vs us ∧ Q vs H'
noncomputable def SP (X : Cx) (pins : List (Addr × Obj)) (D : Ends) (f : Flow) (s' : Shared) : Prop :=
  match f with
  | .next => ∃ σ' H', Inv X pins σ' H' s' ∧ D.nx σ' H'
  | .brk => ∃ σ' H', Inv X pins σ' H' s' ∧ D.bk σ' H'
  | .cont => ∃ σ' H', Inv X pins σ' H' s' ∧ D.ct σ' H'
  | .ret u => ∃ v σ' H', Inv X pins σ' H' s' ∧ RelV v u ∧ D.rt v H'
noncomputable def PE (X : Cx) (e : Expr) (t : TE) : Prop :=
  ∀ (pins : List (Addr × Obj)) (s : Shared) (σ : St) (H : Hp) (Q : VK), Inv X pins σ H s → t σ H Q → wpAny (model X.prog X.w) X.A (eval e X.env) (EP X pins σ Q) X.xe s
noncomputable def PT (X : Cx) (e : Expr) (t : TT) : Prop :=
  ∀ (pins : List (Addr × Obj)) (s : Shared) (σ : St) (H : Hp) (Q : Bool → Hp → Prop), Inv X pins σ H s → t σ H Q → wpAny (model X.prog X.w) X.A (isTrue e X.env (eval e X.env)) (TP X pins σ Q) X.xe s
noncomputable def PW (X : Cx) (e : Expr) (t : TT) : Prop :=
  ∀ (whole : Sem Value) (pins : List (Addr × Obj)) (s : Shared) (σ : St) (H : Hp) (Q : Bool → Hp → Prop), Inv X pins σ H s → t σ H Q → wpAny (model X.prog X.w) X.A (isTrue e X.env whole) (TP X pins σ Q) X.xe s
theorem PW.pt {X : Cx} {e : Expr} {t : TT} (h : PW X e t) : PT X e t := h _
noncomputable def PA (X : Cx) (es : List Expr) (t : TA) : Prop :=
  ∀ (pos : Pos) (pins : List (Addr × Obj)) (s : Shared) (σ : St) (H : Hp) (Q : List V → Hp → Prop), Inv X pins σ H s → t σ H Q → wpAny (model X.prog X.w) X.A (spliced (backTo pos (starEach es X.env))) (AP X pins σ Q) X.xe s
noncomputable def PS (X : Cx) (st : Stmt) (t : TS) : Prop :=
  ∀ (pins : List (Addr × Obj)) (s : Shared) (σ : St) (H : Hp) (D : Ends), Inv X pins σ H s → t D σ H → wpAny (model X.prog X.w) X.A (exec st X.env) (SP X pins D) X.xe s
noncomputable def PSs (X : Cx) (st : List Stmt) (t : TS) : Prop :=
  ∀ (pins : List (Addr × Obj)) (s : Shared) (σ : St) (H : Hp) (D : Ends), Inv X pins σ H s → t D σ H → wpAny (model X.prog X.w) X.A (execs st X.env) (SP X pins D) X.xe s
theorem thn {α : Type} {t : Sem α} {Q Q' : α → Shared → Prop} {M : Model} {A : Around} {E : Value → Shared → Prop} {s : Shared} (h : wpAny M A t Q E s) (hQ : ∀ a s, Q a s → Q' a s) : wpAny M A t Q' E s := wpAny_mono h hQ fun _ _ x => x
end L2
namespace L2
open PySem PySem.Spec PyProof.Rows
section
variable {X : Cx}
noncomputable def tVar (i : Nat) : TE := fun σ H Q => ∃ v, σ[i]? = some (some v) ∧ Q v H
noncomputable def tC (v : V) : TE := fun _ H Q => Q v H
theorem pe_var {i : Nat} {x : Str} {pos : Pos} (hN : X.N[i]? = some x) (hv : Vis X.env.scope x) (hd : (x == ("__debug__" : Str)) = false := by decide) (hcd : (x == ("__classdict__" : Str)) = false := by decide) : PE X (.Name x pos) (tVar i) := by
  intro pins s σ H Q I h
  obtain ⟨v, e, h⟩ := h
  obtain ⟨m, hn, hl⟩ := I.loc
  obtain ⟨u, r, l⟩ := hl i x v hN e hv
  have fin : EP X pins σ Q u s := ⟨v, H, I, r, h⟩
  rcases l with ⟨hk, hm⟩ | ⟨hk, c, hc, hcell⟩
  · exact wpAny_Name (wpAny_loadName_local I.ok.kind hk hn hm fin) hd
  · rcases hk with hk | hk
    · exact wpAny_Name (wpAny_loadName_cell I.ok.kind hk hc hcell fin) hd
    · exact wpAny_Name (wpAny_loadName_free I.ok.kind hk hc hcell fin hcd) hd
theorem pe_int {i j pos} : PE X (.Constant (.int i) j pos) (tC (.int i)) := fun _ _ _ H _ I h => wpAny_Constant_int ⟨.int i, H, I.tok _, ⟨_, rfl⟩, h⟩
theorem pe_bl {b j pos} : PE X (.Constant (.bool b) j pos) (tC (.bl b)) := fun _ _ _ H _ I h => Constant_bool ⟨.bl b, H, I, rfl, h⟩
theorem pe_non {j pos} : PE X (.Constant .none j pos) (tC .non) := fun _ _ _ H _ I h => Constant_none ⟨.non, H, I, rfl, h⟩
noncomputable def Gl (X : Cx) (x : Str) : Prop := X.env.kindOf x = some .globalImplicit
theorem ld_glob {E : Value → Shared → Prop} {pins : List (Addr × Obj)} {s : Shared} {σ : St} {H : Hp} {x : Str} {u : Value} {pos : Pos} {Q : Value → Shared → Prop} (I : Inv X pins σ H s) (hg : Gl X x) (hm : X.mg x = some u) (h : Q u s)
    (hd : (x == ("__debug__" : Str)) = false := by decide) : wpAny (model X.prog X.w) X.A (eval (.Name x pos) X.env) Q E s :=
  Calls.Name_function_global I.ok.kind hg (Calls.loadGlobal_global (by rw [I.ok.glob]; exact I.mod.glob.keeps I.bk) hm h) hd
theorem ld_blt {E : Value → Shared → Prop} {pins : List (Addr × Obj)} {s : Shared} {σ : St} {H : Hp} {x : Str} {u : Value} {pos : Pos} {Q : Value → Shared → Prop} (I : Inv X pins σ H s) (hg : Gl X x) (hm : X.mg x = none) (hv : bootBuiltins x = some u) (h : Q u s)
    (hn : x ≠ "__name__" := by decide) (hd : (x == ("__debug__" : Str)) = false := by decide) : wpAny (model X.prog X.w) X.A (eval (.Name x pos) X.env) Q E s := by
  obtain ⟨mb, h1, h2⟩ := I.mod.blt
  exact Calls.Name_function_global I.ok.kind hg (Calls.loadGlobal_builtin (by rw [I.ok.glob]; exact I.mod.glob.keeps I.bk) hm (by rw [I.ok.blt]; exact h1.keeps I.bk) ((h2 x hn).trans hv) h) hd
theorem pe_glob {x : Str} {v : V} {u : Value} {pos : Pos} (hg : Gl X x) (hm : X.mg x = some u) (r : RelV v u) (hd : (x == ("__debug__" : Str)) = false := by decide) : PE X (.Name x pos) (tC v) :=
  fun _ _ _ H _ I h => ld_glob I hg hm ⟨v, H, I, r, h⟩ hd
variable {a b : Expr} {ta tb : TE} {pos : Pos}
noncomputable def tB (t : TE) : TT := fun σ H Q => t σ H fun x H1 => ∃ c, x = .bl c ∧ Q c H1
theorem pt_val {e : Expr} {t : TE} (h : PE X e t) (he : ∀ whole, isTrue e X.env whole = (do let v ← whole; standAt e.pos; holding [v] (truthy v)) := by intro _; rfl) : PT X e (tB t) := by
  intro pins s σ H Q I hw
  refine isTrue_plain (thn (h pins s σ H _ I hw) fun v s1 ⟨x, H1, I1, r1, q1⟩ => ?_) (he _)
  obtain ⟨d, rfl, q⟩ := q1
  cases r1
  exact wpAny_truthy_bool ⟨H1, I1, q⟩
variable {tA tB' : TT} {rest : List Expr}
noncomputable def tOr (t u : TT) : TT := fun σ H Q => t σ H fun c H1 => if c = true then Q true H1 else u σ H1 Q
noncomputable def tNot (t : TT) : TT := fun σ H Q => t σ H fun c H1 => Q (!c) H1
theorem pw_or1 (ha : PT X a tA) : PW X (.BoolOp .Or [a] pos) tA := by
  intro wh pins s σ H Q I h
  refine isTrue_or (thn (ha pins s σ H Q I h) fun c s1 e => ?_)
  cases c with
  | false => exact isTrue_or_nil e
  | true => exact e
theorem pw_or (ha : PT X a tA) (hb : PW X (.BoolOp .Or (b :: rest) pos) tB') : PW X (.BoolOp .Or (a :: b :: rest) pos) (tOr tA tB') := by
  intro wh pins s σ H Q I h
  refine isTrue_or (thn (ha pins s σ H _ I h) fun c s1 ⟨H1, I1, q1⟩ => ?_)
  cases c with
  | true => exact ⟨H1, I1, q1⟩
  | false => exact hb wh pins s1 σ H1 Q I1 q1
theorem pt_not (ha : PT X a tA) : PT X (.UnaryOp .Not a pos) (tNot tA) := by
  intro pins s σ H Q I h
  exact isTrue_not (ha pins s σ H (fun c H1 => Q (!c) H1) I h)
noncomputable def tOrV (ta tb : TE) : TE := fun σ H Q => ta σ H fun x H1 => ∃ c, x = .bl c ∧ if c = true then Q (.bl true) H1 else tb σ H1 Q
noncomputable def tNotV (ta : TE) : TE := fun σ H Q => ta σ H fun x H1 => ∃ c, x = .bl c ∧ Q (.bl (!c)) H1
theorem pe_one {op} {t : TE} (h : PE X a t) : PE X (.BoolOp op [a] pos) t := fun pins s σ H Q I hw => BoolOp_one (h pins s σ H Q I hw)
theorem pe_or (ha : PE X a ta) (hb : PE X (.BoolOp .Or (b :: rest) pos) tb) : PE X (.BoolOp .Or (a :: b :: rest) pos) (tOrV ta tb) := by
  intro pins s σ H Q I h
  refine BoolOp_or (thn (ha pins s σ H _ I h) fun v s1 ⟨x, H1, I1, r1, q1⟩ => ?_)
  obtain ⟨c, rfl, q1⟩ := q1
  cases r1
  refine wpAny_truthy_bool ?_
  cases c with
  | false => exact hb pins s1 σ H1 Q I1 q1
  | true => exact ⟨.bl true, H1, I1, rfl, q1⟩
theorem pe_not (ha : PE X a ta) : PE X (.UnaryOp .Not a pos) (tNotV ta) := by
  intro pins s σ H Q I h
  refine UnaryOp_ (thn (ha pins s σ H _ I h) fun v s1 ⟨x, H1, I1, r1, q1⟩ => ?_)
  obtain ⟨c, rfl, q1⟩ := q1
  cases r1
  exact not_of (wpAny_truthy_bool ⟨.bl (!c), H1, I1, rfl, q1⟩)
noncomputable def tIf (t : TT) (ta tb : TE) : TE := fun σ H Q => t σ H fun c H1 => if c = true then ta σ H1 Q else tb σ H1 Q
theorem pe_ifExp {c : Expr} (hc : PT X c tA) (ha : PE X a ta) (hb : PE X b tb) : PE X (.IfExp c a b pos) (tIf tA ta tb) := by
  intro pins s σ H Q I h
  refine wpAny_IfExp (thn (hc pins s σ H _ I h) fun d s1 ⟨H1, I1, q1⟩ => ?_)
  cases d with
  | true => exact ha pins s1 σ H1 Q I1 q1
  | false => exact hb pins s1 σ H1 Q I1 q1
end
end L2
namespace L2
open PySem PySem.Spec PyProof.Rows
noncomputable def SqL (K : PySem.W.Frag) (H : Hp) (a : Addr) (xs : List V) : Prop :=
  Rd H a (.lst xs) ∨
    ∃ (o : Obj) (its : Array Value) (n : Nat), K.lookup a = some o ∧ o.cls = .type "list" ∧ o.dict = none ∧ o.data = .seq its n ∧ its.size ≤ sizeLine ∧ Vals xs its.toList
noncomputable def SqT (K : PySem.W.Frag) (H : Hp) (a : Addr) (xs : List V) : Prop :=
  Rd H a (.tup xs) ∨
    ∃ (o : Obj) (its : Array Value) (n : Nat), K.lookup a = some o ∧ o.cls = .type "tuple" ∧ o.data = .seq its n ∧ its.size ≤ sizeLine ∧ Vals xs its.toList
noncomputable def absV : Value → Option V
  | .none => some .non
  | .bool b => some (.bl b)
  | .int i _ => some (.int i)
  | .str x _ => some (.str x)
  | .bytes b _ => some (.byt b)
  | .float b _ => some (.flt b)
  | .ref a => some (.ref a)
  | .type n => some (.ty n)
  | _ => none
theorem RelV.abs {x : V} {u : Value} (r : RelV x u) : absV u = some x := by
  cases x with
  | non => cases r; rfl
  | bl _ => cases r; rfl
  | int _ => obtain ⟨t, rfl⟩ := r; rfl
  | str _ => obtain ⟨t, rfl⟩ := r; rfl
  | byt _ => obtain ⟨t, rfl⟩ := r; rfl
  | flt _ => obtain ⟨t, rfl⟩ := r; rfl
  | ref _ => cases r; rfl
  | ty _ => cases r; rfl
theorem RelV.inj {x y : V} {u : Value} (r : RelV x u) (q : RelV y u) : x = y := Option.some.inj (r.abs.symm.trans q.abs)
theorem Vals.inj : ∀ {xs ys : List V} {us : List Value}, Vals xs us → Vals ys us → xs = ys
  | _, _, _, .nil, .nil => rfl
  | _, _, _, .cons r t, .cons r' t' => by rw [r.inj r', Vals.inj t t']
section
variable {X : Cx} {pins : List (Addr × Obj)} {σ : St} {H : Hp} {s : Shared} {a : Addr} {xs ys : List V}
theorem SqL.of {K : PySem.W.Frag} (h : H a = some (.lst xs)) : SqL K H a xs := .inl (.inl h)
theorem Inv.list (I : Inv X pins σ H s) (h : SqL X.K H a xs) : ∃ its : List Value, Vals xs its ∧ PlainL s.heap a its.toArray ∧ xs.length ≤ sizeLine := by
  rcases h with h | ⟨o, its, n, hk, hc, hd, hs, hz, r⟩
  · obtain ⟨z, its, n, r, e⟩ := h.ok I.hok
    exact ⟨its, r, ⟨_, n, e, rfl, rfl, rfl⟩, z⟩
  · refine ⟨its.toList, r, ⟨o, n, I.kIn a o hk, hc, hd, by simpa using hs⟩, ?_⟩
    have e := r.length
    simp only [Array.length_toList] at e
    omega
theorem Inv.tuple (I : Inv X pins σ H s) (h : SqT X.K H a xs) : ∃ its : List Value, Vals xs its ∧ IsTup s.heap a its.toArray ∧ xs.length ≤ sizeLine := by
  rcases h with h | ⟨o, its, n, hk, hc, hs, hz, r⟩
  · obtain ⟨z, its, r, p⟩ := h.ok I.hok
    exact ⟨its, r, p, z⟩
  · refine ⟨its.toList, r, ⟨o, I.kIn a o hk, hc, n, by simpa using hs⟩, ?_⟩
    have e := r.length
    simp only [Array.length_toList] at e
    omega
theorem Inv.list_inj (I : Inv X pins σ H s) (h : SqL X.K H a xs) (h' : SqL X.K H a ys) : xs = ys := by
  obtain ⟨its, r, ⟨o, n, e, _, _, d⟩, _⟩ := I.list h
  obtain ⟨its', r', ⟨o', n', e', _, _, d'⟩, _⟩ := I.list h'
  rw [e] at e'; cases e'
  rw [d] at d'
  injection d' with d1 _
  have : its = its' := by simpa using congrArg Array.toList d1
  subst this
  exact r.inj r'
end
noncomputable abbrev Cx.wish (X : Cx) (E : Value → Shared → Prop) : Cx := { X with xe := E }
noncomputable abbrev Cx.nox (X : Cx) : Cx := X.wish fun _ _ => False
theorem Cx.Ok.wish {X : Cx} (ok : X.Ok) (E : Value → Shared → Prop) : (X.wish E).Ok :=
  ⟨ok.mod, ok.kind, ok.glob, ok.blt, ok.above, ok.inj, ok.has, ok.cab, ok.hd, ok.frames, ok.stk, ok.exf, ok.bs, ok.bsz, ok.noex, ok.exfs, ok.funs, ok.frf⟩
theorem Cx.Ok.unwish {X : Cx} {E : Value → Shared → Prop} (ok : (X.wish E).Ok) : X.Ok :=
  ⟨ok.mod, ok.kind, ok.glob, ok.blt, ok.above, ok.inj, ok.has, ok.cab, ok.hd, ok.frames, ok.stk, ok.exf, ok.bs, ok.bsz, ok.noex, ok.exfs, ok.funs, ok.frf⟩
section
variable {X : Cx} {pins : List (Addr × Obj)} {σ : St} {H : Hp} {s : Shared} {E : Value → Shared → Prop}
theorem Inv.wish (I : Inv X pins σ H s) (E : Value → Shared → Prop) : Inv (X.wish E) pins σ H s := ⟨I.ok.wish E, I.os, I.bare, I.base, I.loc, I.cell, I.free, I.freeC, I.pin, I.hok, I.len⟩
theorem Inv.unwish (I : Inv (X.wish E) pins σ H s) : Inv X pins σ H s := ⟨I.ok.unwish, I.os, I.bare, I.base, I.loc, I.cell, I.free, I.freeC, I.pin, I.hok, I.len⟩
theorem SP.unwish {D : Ends} {f : Flow} {s' : Shared} (h : SP (X.wish E) pins D f s') : SP X pins D f s' := by
  cases f with
  | next => obtain ⟨σ', H', I, q⟩ := h; exact ⟨σ', H', I.unwish, q⟩
  | brk => obtain ⟨σ', H', I, q⟩ := h; exact ⟨σ', H', I.unwish, q⟩
  | cont => obtain ⟨σ', H', I, q⟩ := h; exact ⟨σ', H', I.unwish, q⟩
  | ret u => obtain ⟨v, σ', H', I, r, q⟩ := h; exact ⟨v, σ', H', I.unwish, r, q⟩
theorem PSs.nox {st : List Stmt} {t : TS} (h : PSs X.nox st t) : PSs X st t := fun pins s σ H D I hw =>
  wpAny_mono (h pins s σ H D (I.wish _) hw) (fun _ _ q => q.unwish) fun _ _ z => False.elim z
end
section
variable {X : Cx} {st : Stmt} {rest : List Stmt} {t u : TS} {e : Expr} {te : TE} {pos : Pos}
noncomputable def tNext : TS := fun D σ H => D.nx σ H
noncomputable def tSeq (t u : TS) : TS := fun D σ H => t { D with nx := u D } σ H
theorem pss_nil : PSs X [] tNext := fun _ _ σ H _ I h => wpAny_execs_nil ⟨σ, H, I, h⟩
theorem pss_cons (h1 : PS X st t) (h2 : PSs X rest u) : PSs X (st :: rest) (tSeq t u) := by
  intro pins s σ H D I h
  refine wpAny_execs_cons (thn (h1 pins s σ H { D with nx := u D } I h) fun f s1 q => ?_)
  cases f with
  | next =>
    obtain ⟨σ', H', I', q⟩ := q
    exact h2 pins s1 σ' H' D I' q
  | ret v => exact q
  | brk => exact q
  | cont => exact q
theorem pss_one (h1 : PS X st t) : PSs X [st] t := by
  intro pins s σ H D I h
  refine wpAny_execs_cons (thn (h1 pins s σ H D I h) fun f s1 q => ?_)
  cases f with
  | next => exact wpAny_execs_nil q
  | ret v => exact q
  | brk => exact q
  | cont => exact q
theorem Inv.quiet {pins : List (Addr × Obj)} {σ : St} {H : Hp} {s : Shared} (I : Inv X pins σ H s) : interactive X.env = false := by simp [interactive, I.ok.kind]
noncomputable def tDrop (te : TE) : TS := fun D σ H => te σ H fun _ H1 => D.nx σ H1
theorem ps_expr (he : PE X e te) (hs : swapsWith e none pos.line X.env = pure false := by rfl) : PS X (.Expr e pos) (tDrop te) := by
  intro pins s σ H D I h
  exact wpAny_Expr_any (thn (he pins s σ H _ I h) fun v s1 ⟨x, H1, I1, r1, q1⟩ => ⟨σ, H1, I1, q1⟩) I.quiet hs
noncomputable def tRet (te : TE) : TS := fun D σ H => te σ H D.rt
theorem ps_ret (he : PE X e te) : PS X (.Return (some e) pos) (tRet te) := by
  intro pins s σ H D I h
  exact wpAny_Return_some (thn (he pins s σ H _ I h) fun v s1 ⟨x, H1, I1, r1, q1⟩ => ⟨x, σ, H1, I1, r1, q1⟩)
noncomputable def tIfS (c : TT) (t u : TS) : TS := fun D σ H => c σ H fun b H1 => if b = true then t D σ H1 else u D σ H1
theorem ps_if {c : Expr} {a b : List Stmt} {tc : TT} (hc : PT X c tc) (ha : PSs X a t) (hb : PSs X b u) : PS X (.If c a b pos) (tIfS tc t u) := by
  intro pins s σ H D I h
  refine wpAny_If (thn (hc pins s σ H _ I h) fun d s1 ⟨H1, I1, q1⟩ => ?_)
  cases d with
  | true => exact ha pins s1 σ H1 D I1 q1
  | false => exact hb pins s1 σ H1 D I1 q1
end
noncomputable abbrev TG := V → St → Hp → (St → Hp → Prop) → Prop
noncomputable def PG (X : Cx) (target : Expr) (t : TG) : Prop :=
  ∀ (pins : List (Addr × Obj)) (s : Shared) (σ : St) (H : Hp) (v : V) (u : Value) (Q : St → Hp → Prop), Inv X pins σ H s → RelV v u → t v σ H Q →
    wpAny (model X.prog X.w) X.A (assign target X.env u) (fun _ s' => ∃ σ' H', Inv X pins σ' H' s' ∧ Q σ' H') X.xe s
section
variable {X : Cx} {pos : Pos}
noncomputable def gName (i : Nat) : TG := fun v σ H Q => Q (σ.set i (some v)) H
theorem pg_name {i : Nat} {x : Str} (hN : X.N.Nodup) (hi : X.N[i]? = some x) (hx : Loc X.env.scope x) (hf : X.fn x = true ∨ X.env.scope.names.lookup x = some .local := by first | exact .inl rfl | exact .inr rfl | assumption) : PG X (.Name x pos) (gName i) := by
  intro pins s σ H v u Q I r h
  exact wpAny_assign_Name (store_ok I hN hi hx r (fun s' I' => ⟨_, H, I', h⟩) hf)
noncomputable def tAsg (te : TE) (g : TG) : TS := fun D σ H => te σ H fun x H1 => g x σ H1 D.nx
theorem ps_set {i : Nat} {x : Str} {e : Expr} {te : TE} {pos' : Pos} (hN : X.N.Nodup) (hi : X.N[i]? = some x) (hx : Loc X.env.scope x) (he : PE X e te) (hs : swapsWith e (some (.Name x pos')) pos.line X.env = pure false := by rfl) (hf : X.fn x = true ∨ X.env.scope.names.lookup x = some .local := by first | exact .inl rfl | exact .inr rfl | assumption) :
    PS X (.Assign [.Name x pos'] e pos) (tAsg te (gName i)) := by
  intro pins s σ H D I h
  refine wpAny_Assign_Name (thn (he pins s σ H _ I h) fun v s1 ⟨y, H1, I1, r1, q1⟩ => ?_) hs
  exact store_ok I1 hN hi hx r1 (fun s2 I2 => ⟨_, H1, I2, q1⟩) hf
end
section
variable {X : Cx} {pos : Pos}
noncomputable def tWhile (c : TT) (tb : TS) : TS := fun D σ H => ∃ W : Nat → St → Hp → Prop, (∃ m, W m σ H) ∧ ∀ m σ H, W m σ H →
  c σ H fun b H1 => if b = true then ∃ N : St → Hp → Prop, (∀ σ' H', N σ' H' → ∃ m', m' < m ∧ W m' σ' H') ∧ tb { D with nx := N, ct := N, bk := D.nx } σ H1 else D.nx σ H1
theorem ps_while {c : Expr} {body : List Stmt} {tc : TT} {tb : TS} (hp : PassesOwn (model X.prog X.w) X.A X.env X.xe) (hc : PT X c tc) (hb : PSs X body tb) : PS X (.While c body [] pos) (tWhile tc tb) := by
  intro pins s σ H D I h
  obtain ⟨W, ⟨m0, w0⟩, turn⟩ := h
  refine wpAny_While (codeAny_whileLoop (fun n s' => ∃ σ' H', Inv X pins σ' H' s' ∧ W n σ' H') ?_ m0 ⟨σ, H, I, w0⟩)
  rintro n s1 ⟨σ1, H1, I1, w1⟩
  refine wpAny_passesOwn hp (thn (hc pins s1 σ1 H1 _ I1 (turn n σ1 H1 w1)) fun b s2 ⟨H2, I2, q2⟩ => ?_)
  cases b with
  | true =>
    obtain ⟨N, hN, q2⟩ := q2
    rw [if_pos rfl]
    refine wpAny_passesOwn hp (thn (hb pins s2 σ1 H2 _ I2 q2) fun f s3 q3 => ?_)
    cases f with
    | next =>
      obtain ⟨σ3, H3, I3, n3⟩ := q3
      obtain ⟨m', hm, w3⟩ := hN σ3 H3 n3
      exact ⟨m', hm, σ3, H3, I3, w3⟩
    | cont =>
      obtain ⟨σ3, H3, I3, n3⟩ := q3
      obtain ⟨m', hm, w3⟩ := hN σ3 H3 n3
      exact ⟨m', hm, σ3, H3, I3, w3⟩
    | brk => exact q3
    | ret v => exact q3
  | false =>
    rw [if_neg Bool.false_ne_true]
    exact wpAny_execs_nil ⟨σ1, H2, I2, q2⟩
end
structure It where
  go : Nat → Hp → Prop
  yld : Nat → Hp → V → Hp → Prop
  stop : Nat → Hp → Prop
noncomputable def FpOk (X : Cx) (pins : List (Addr × Obj)) (H : Hp) (b : Addr) : Prop :=
  H b = none ∧ b ≠ X.env.locals ∧ b ∉ X.fs ∧ (b ∈ X.ex ∨ X.s_0.heap.objs.size ≤ b) ∧ (∀ x c, X.env.cells.lookup x = some c → c ≠ b) ∧ ∀ p ∈ X.pn ++ pins, p.1 ≠ b
theorem Inv.fpOk {X : Cx} {pins : List (Addr × Obj)} {σ : St} {H H' : Hp} {s : Shared} {b : Addr} (I : Inv X pins σ H s) (hb : s.heap.objs.size ≤ b) (hn : H' b = none) : FpOk X pins H' b := by
  refine ⟨hn, Nat.ne_of_gt (Nat.lt_of_lt_of_le I.lt hb), I.nofs hb, .inr (Nat.le_trans I.sz hb), fun x c e z => ?_, fun p hp z => ?_⟩
  · obtain ⟨v, q⟩ := I.cell x c e
    exact absurd (Nat.lt_of_lt_of_le q.lt (by rw [z]; exact hb)) (Nat.lt_irrefl _)
  · exact absurd (Nat.lt_of_lt_of_le (Heap.lt_size (I.pin p hp).1) (by rw [z]; exact hb)) (Nat.lt_irrefl _)
structure Turn (P : Program) (w : World) (K : PySem.W.Frag) (tg : Expr) (J : It) (fp : List Addr) (it : Addr) (tn : Nat → Heap → Prop) : Prop where
  mem : it ∈ fp
  obj : ∀ i h, tn i h → ∀ b ∈ fp, ∃ o, h.get? b = some o ∧ ∀ v, o.data ≠ .cell v
  keep : ∀ i h h', tn i h → (∀ b ∈ fp, ∀ o, h.get? b = some o → h'.get? b = some o) → tn i h'
  item : ∀ (X : Cx), X.prog = P → X.w = w → X.K = K → X.calm = true → ∀ (i : Nat) (pins : List (Addr × Obj)) (s : Shared) (σ : St) (H : Hp) (E : Value → Shared → Prop), Inv X pins σ H s → (∀ b ∈ fp, FpOk X pins H b) → tn i s.heap → J.go i H →
    wpAny (model P w) X.A (pyNext (.ref it)) (fun r s1 => ∃ u, r = some u ∧
      wpAny (model P w) X.A (letOwnedTupleGo tg (.ref it) u) (fun _ s2 => ∃ x H', Inv X pins σ H' s2 ∧ RelV x u ∧ J.yld i H x H' ∧ tn (i + 1) s2.heap ∧ ∀ b ∈ fp, H' b = none) E s1) E s
  done : ∀ (X : Cx), X.prog = P → X.w = w → X.K = K → X.calm = true → ∀ (i : Nat) (pins : List (Addr × Obj)) (s : Shared) (σ : St) (H : Hp) (E : Value → Shared → Prop), Inv X pins σ H s → (∀ b ∈ fp, FpOk X pins H b) → tn i s.heap → J.stop i H →
    wpAny (model P w) X.A (pyNext (.ref it)) (fun r s1 => r = none ∧ Inv X pins σ H s1) E s
  self : ∀ (A : Around) (i : Nat) (s : Shared) (Q : Value → Shared → Prop) (E : Value → Shared → Prop), tn i s.heap → Q (.ref it) s → wpAny (model P w) A (pyIter (.ref it)) Q E s
noncomputable abbrev TI := St → Hp → (It → Hp → Prop) → Prop
noncomputable def PIE (X : Cx) (pins : List (Addr × Obj)) (σ : St) (tg : Expr) (R : It → Hp → Prop) (itv : Value) (s2 : Shared) : Prop :=
  ∃ (it : Addr) (fp : List Addr) (tn : Nat → Heap → Prop) (J : It) (H' : Hp), itv = .ref it ∧ Inv X pins σ H' s2 ∧ Turn X.prog X.w X.K tg J fp it tn ∧ tn 0 s2.heap ∧ (∀ b ∈ fp, FpOk X pins H' b) ∧ R J H'
noncomputable def PI (X : Cx) (tg iter : Expr) (wi : TI) : Prop :=
  ∀ (pins : List (Addr × Obj)) (s : Shared) (σ : St) (H : Hp) (R : It → Hp → Prop), Inv X pins σ H s → wi σ H R →
    wpAny (model X.prog X.w) X.A (eval iter X.env) (fun v s1 => wpAny (model X.prog X.w) X.A (pyIter v) (PIE X pins σ tg R) X.xe s1) X.xe s
theorem go_of {M : Model} {A : Around} {E : Value → Shared → Prop} {s : Shared} {tg : Expr} {it : Addr} {u : Value} {o : Obj} {n : String} {vs : Array Value} {Q : Unit → Shared → Prop} (ho : s.heap.get? it = some o) (hc : o.cls = .type n) (hd : o.data = .fields vs)
    (hn : ["enumerate", "zip", "dict_itemiterator", "dict_reverseitemiterator", "odict_iterator", "itertools.zip_longest", "itertools.pairwise"].contains n = false) (hQ : Q () s) : wpAny M A (letOwnedTupleGo tg (.ref it) u) Q E s := by
  unfold letOwnedTupleGo
  cases tg <;> first
    | exact wpAny_pure hQ
    | (cases u <;> first
        | exact wpAny_pure hQ
        | (refine wpAny_bind (wpAny_load ho ?_)
           rw [hc, hd]
           show wpAny M A (if (["enumerate", "zip", "dict_itemiterator", "dict_reverseitemiterator", "odict_iterator", "itertools.zip_longest", "itertools.pairwise"].contains n && vs[0]? == some (rawInt _)) = true then _ else _) Q E s
           rw [if_neg (by intro h; rw [hn, Bool.false_and] at h; cases h)]
           exact wpAny_pure hQ))
noncomputable def Itl (K : PySem.W.Frag) (a : Addr) : It :=
  ⟨fun i H => ∃ xs x, SqL K H a xs ∧ xs[i]? = some x, fun i H x H' => H' = H ∧ ∀ xs, SqL K H a xs → xs[i]? = some x, fun i H => ∃ xs, SqL K H a xs ∧ xs.length ≤ i⟩
noncomputable def Itr (lo : Int) (n : Nat) : It := ⟨fun i _ => i < n, fun i H x H' => H' = H ∧ x = .int (lo + i), fun i _ => n ≤ i⟩
theorem turn_list {P : Program} {w : World} {K : PySem.W.Frag} {tg : Expr} (a it : Addr) : Turn P w K tg (Itl K a) [it] it (fun i h => h.IsListIter it a i) where
  mem := by simp
  obj := fun i h st b hb => by
    have e : b = it := by simpa using hb
    subst e
    obtain ⟨o, e, c, d⟩ := st
    exact ⟨o, e, fun v z => by rw [d] at z; cases z⟩
  keep := fun i h h' st k => st.at fun o e => k it (by simp) o e
  item := by
    intro X hP hw hK hc i pins s σ H E I hf st hg
    subst hP hw hK
    obtain ⟨xs, x, hq, hx⟩ := hg
    obtain ⟨its, rv, p, hz⟩ := I.list hq
    obtain ⟨u, hu, ru⟩ := rv.get hx
    obtain ⟨f0, f1, f2, f3, f4, f5⟩ := hf it (by simp)
    refine wpAny_pyNext_list_item st p.isList (x := u) (by simpa using hu) fun h' st' sb => ?_
    have I1 : Inv X pins σ H { s with heap := h' } := I.turned (t' := s.toks) (fun b o hb e => (sb.2 b hb).trans e) f0 f1 f3 f4 f5
    obtain ⟨o, e, c, d⟩ := id st'
    exact ⟨u, rfl, go_of (s := { s with heap := h' }) e c d (by decide) ⟨x, H, I1, ru, ⟨rfl, fun ys hy => by rw [I.list_inj hy hq]; exact hx⟩, st', fun b hb => (hf b hb).1⟩⟩
  done := by
    intro X hP hw hK hc i pins s σ H E I hf st hg
    subst hP hw hK
    obtain ⟨xs, hq, hx⟩ := hg
    obtain ⟨its, rv, p, hz⟩ := I.list hq
    obtain ⟨f0, f1, f2, f3, f4, f5⟩ := hf it (by simp)
    have hl := rv.length
    exact wpAny_pyNext_list_end (I.ok.hd hc) st p.isList (by simp; omega) fun h' eb => ⟨rfl, I.turned (t' := s.toks) (fun b o hb e => eb b o hb e) f0 f1 f3 f4 f5⟩
  self := fun _ _ _ _ _ st h => wpAny_pyIter_listiter st h
theorem turn_range {P : Program} {w : World} {K : PySem.W.Frag} {tg : Expr} (it : Addr) (lo : Int) (n : Nat) : Turn P w K tg (Itr lo n) [it] it (fun i h => IsRangeIter h it (lo + (i : Nat) * 1) ((n : Int) - (i : Nat)) 1) where
  mem := by simp
  obj := fun i h st b hb => by
    have e : b = it := by simpa using hb
    subst e
    exact ⟨_, st, fun v z => by
      have z' : Data.fields _ = Data.cell v := z
      cases z'⟩
  keep := fun i h h' st k => k it (by simp) _ st
  item := by
    intro X hP hw hK hc i pins s σ H E I hf st hg
    subst hP hw hK
    obtain ⟨f0, f1, f2, f3, f4, f5⟩ := hf it (by simp)
    have W := Walks.range (prog := X.prog) (w := X.w) (I.ok.hd hc) it lo 1 n
    refine W.item i s _ _ hg st fun v h' tk hv st' kk => ?_
    obtain ⟨t, rfl⟩ := hv
    have I1 : Inv X pins σ H { s with heap := h', toks := tk } := I.turned (fun b o hb e => kk b o (by simpa using hb) e) f0 f1 f3 f4 f5
    refine ⟨_, rfl, go_of (s := { s with heap := h', toks := tk }) (n := "range_iterator") st' rfl rfl (by decide) ⟨.int (lo + i), H, I1, ⟨t, ?_⟩, ⟨rfl, rfl⟩, st', fun b hb => (hf b hb).1⟩⟩
    rw [Int.mul_one]
  done := by
    intro X hP hw hK hc i pins s σ H E I hf st hg
    subst hP hw hK
    obtain ⟨f0, f1, f2, f3, f4, f5⟩ := hf it (by simp)
    exact wpAny_pyNext_range_end (I.ok.hd hc) st (by have : n ≤ i := hg; omega) fun h' eb => ⟨rfl, I.turned (t' := s.toks) (fun b o hb e => eb b o hb e) f0 f1 f3 f4 f5⟩
  self := fun _ _ _ _ _ st h => wpAny_pyIter_rangeiter st h
end L2
namespace L2
open PySem PySem.Spec PyProof.Rows
section
variable {X : Cx} {tg : Expr}
noncomputable def iList (K : PySem.W.Frag) (tl : TE) : TI := fun σ H R => tl σ H fun x H1 => ∃ a, x = .ref a ∧ (∃ xs, SqL K H1 a xs) ∧ R (Itl K a) H1
theorem pi_list {l : Expr} {tl : TE} (hl : PE X l tl) : PI X tg l (iList X.K tl) := by
  intro pins s σ H R I h
  refine thn (hl pins s σ H _ I h) fun v s1 ⟨x, H1, I1, r1, q1⟩ => ?_
  obtain ⟨a, e, ⟨xs, hq⟩, q⟩ := q1
  subst e
  cases r1
  obtain ⟨its, rv, p, hz⟩ := I1.list hq
  refine wpAny_pyIter_list p.isList ?_
  refine ⟨s1.heap.objs.size, [s1.heap.objs.size], _, _, H1, rfl, I1.kept (t' := s1.toks) fun b o e => Heap.get?_push_of_some _ e, turn_list a _, ⟨_, Heap.get?_push_size _ rfl, rfl, rfl⟩, fun b hb => ?_, q⟩
  have e : b = s1.heap.objs.size := by simpa using hb
  subst e
  exact I1.fpOk (Nat.le_refl _) (I1.hok.fresh (Nat.le_refl _))
theorem range_it {pins : List (Addr × Obj)} {σ : St} {H : Hp} {s : Shared} {R : It → Hp → Prop} {E : Value → Shared → Prop} {lo hi : Int} {t u v : Tok} {tk : Nat} (I : Inv X pins σ H s) (h1 : -(2 ^ 62) ≤ lo) (h2 : lo < 2 ^ 62) (h3 : -(2 ^ 62) ≤ hi) (h4 : hi < 2 ^ 62)
    (q : R (Itr lo (hi - lo).toNat) H) : wpAny (model X.prog X.w) X.A (pyIter (.ref s.heap.objs.size)) (PIE X pins σ tg R) E { s with heap := s.heap.push { cls := .type "range", data := .fields #[.int lo t, .int hi u, .int 1 v] }, toks := tk } := by
  refine wpAny_pyIter_range (IsRange.new ..) (small_one h1 h2 h3 h4) ?_
  have I1 : Inv X pins σ H { s with heap := s.heap.push { cls := .type "range", data := .fields #[.int lo t, .int hi u, .int 1 v] }, toks := tk } := I.kept fun b o e => Heap.get?_push_of_some _ e
  refine ⟨(s.heap.push { cls := .type "range", data := .fields #[.int lo t, .int hi u, .int 1 v] }).objs.size, [(s.heap.push { cls := .type "range", data := .fields #[.int lo t, .int hi u, .int 1 v] }).objs.size], _, _, H, rfl,
    I1.kept (t' := tk) fun b o e => Heap.get?_push_of_some _ e, turn_range _ lo (hi - lo).toNat, ?_, fun b hb => ?_, q⟩
  · have e1 : lo + ((0 : Nat) : Int) * 1 = lo := by simp
    have e2 : (((hi - lo).toNat : Nat) : Int) - ((0 : Nat) : Int) = Builtin.Range.rangeSize lo hi 1 := by rw [rangeSize_one]; split <;> omega
    show IsRangeIter _ _ (lo + ((0 : Nat) : Int) * 1) ((((hi - lo).toNat : Nat) : Int) - ((0 : Nat) : Int)) 1
    rw [e1, e2]
    exact Heap.get?_push_size _ rfl
  · have e : b = (s.heap.push { cls := .type "range", data := .fields #[.int lo t, .int hi u, .int 1 v] }).objs.size := by simpa using hb
    subst e
    exact I1.fpOk (Nat.le_refl _) (I1.hok.fresh (Nat.le_refl _))
noncomputable def iRng1 (ta : TA) : TI := fun σ H R => ta σ H fun vs H1 => ∃ j : Int, vs = [.int j] ∧ -(2 ^ 62) ≤ j ∧ j < 2 ^ 62 ∧ R (Itr 0 j.toNat) H1
noncomputable def iRng2 (ta : TA) : TI := fun σ H R => ta σ H fun vs H1 => ∃ i j : Int, vs = [.int i, .int j] ∧ (-(2 ^ 62) ≤ i ∧ i < 2 ^ 62 ∧ -(2 ^ 62) ≤ j ∧ j < 2 ^ 62) ∧ R (Itr i (j - i).toNat) H1
theorem pi_range1 {a : Expr} {ta : TA} {p pos : Pos} (hg : Gl X "range") (hm : X.mg "range" = none) (ha : PA X [a] ta) (hs : starEach [a] X.env = [(false, eval a X.env)] := by rfl) : PI X tg (.Call (.Name "range" p) [a] [] pos) (iRng1 ta) := by
  intro pins s σ H R I h
  refine Call_ (ld_blt I hg hm boot_range (PyProof.Rows.callWith_type1 (thn (ha pos pins s σ H _ I h) fun us s1 ⟨vs, H1, I1, r1, q1⟩ => ?_) hs rfl))
  obtain ⟨j, e, q1, q2, q⟩ := q1
  subst e
  cases r1 with
  | cons r rr =>
    cases rr
    obtain ⟨t, rfl⟩ := r
    exact call_range_1 (range_it I1 (by omega) (by omega) q1 q2 (by simpa using q))
theorem pi_range2 {a b : Expr} {ta : TA} {p pos : Pos} (hg : Gl X "range") (hm : X.mg "range" = none) (ha : PA X [a, b] ta) (hs : starEach [a, b] X.env = [(false, eval a X.env), (false, eval b X.env)] := by rfl) (hs2 : starEach [b] X.env = [(false, eval b X.env)] := by rfl) :
    PI X tg (.Call (.Name "range" p) [a, b] [] pos) (iRng2 ta) := by
  intro pins s σ H R I h
  refine Call_ (ld_blt I hg hm boot_range (PyProof.Rows.callWith_type1 (thn (ha pos pins s σ H _ I h) fun us s1 ⟨vs, H1, I1, r1, q1⟩ => ?_) (by rw [hs, hs2]) (by rw [hs2]; rfl)))
  obtain ⟨i, j, e, ⟨q1, q2, q3, q4⟩, q⟩ := q1
  subst e
  cases r1 with
  | cons r rr =>
    cases rr with
    | cons r' rr =>
      cases rr
      obtain ⟨t, rfl⟩ := r
      obtain ⟨t', rfl⟩ := r'
      exact call_range_2 (range_it I1 q1 q2 q3 q4 q)
noncomputable def tFor (wi : TI) (g : TG) (tb : TS) : TS := fun D σ H => wi σ H fun J H1 => ∃ W : Nat → Nat → St → Hp → Prop, (∃ m, W 0 m σ H1) ∧ ∀ i m σ H, W i m σ H →
  (J.stop i H ∧ D.nx σ H) ∨ (J.go i H ∧ ∃ N : St → Hp → Prop, (∀ σ' H', N σ' H' → ∃ m', m' < m ∧ W (i + 1) m' σ' H') ∧ ∀ x H', J.yld i H x H' → g x σ H' fun σ2 H2 => tb { D with nx := N, ct := N, bk := D.nx } σ2 H2)
noncomputable def pinsAt (fp : List Addr) (h : Heap) : List (Addr × Obj) := fp.filterMap fun b => (h.get? b).map fun o => (b, o)
theorem mem_pinsAt {fp : List Addr} {h : Heap} {b : Addr} {o : Obj} (hb : b ∈ fp) (e : h.get? b = some o) : (b, o) ∈ pinsAt fp h := List.mem_filterMap.mpr ⟨b, hb, by rw [e]; rfl⟩
theorem of_pinsAt {fp : List Addr} {h : Heap} {p : Addr × Obj} (hp : p ∈ pinsAt fp h) : p.1 ∈ fp ∧ h.get? p.1 = some p.2 := by
  obtain ⟨b, hb, e⟩ := List.mem_filterMap.mp hp
  cases q : h.get? b with
  | none => rw [q] at e; cases e
  | some o =>
    rw [q] at e
    have e' : (b, o) = p := Option.some.inj e
    subst e'
    exact ⟨hb, q⟩
theorem Inv.pinned {pins : List (Addr × Obj)} {σ : St} {H : Hp} {s : Shared} {fp : List Addr} (I : Inv X pins σ H s) (hf : ∀ b ∈ fp, FpOk X pins H b) (ho : ∀ b ∈ fp, ∃ o, s.heap.get? b = some o ∧ ∀ v, o.data ≠ .cell v) : Inv X (pins ++ pinsAt fp s.heap) σ H s :=
  I.pins_of fun p hp => (List.mem_append.mp hp).elim (fun z => I.pin p (List.mem_append_right _ z)) fun z => by
    obtain ⟨hb, e⟩ := of_pinsAt z
    obtain ⟨f0, f1, f2, _⟩ := hf p.1 hb
    obtain ⟨o, e', d⟩ := ho p.1 hb
    rw [e] at e'; cases e'
    exact ⟨e, f0, f1, f2, d⟩
theorem Inv.unpinned {pins pl : List (Addr × Obj)} {σ : St} {H : Hp} {s : Shared} (I : Inv X (pins ++ pl) σ H s) : Inv X pins σ H s := I.pins_of fun p hp => I.pin p (List.mem_append_right _ (List.mem_append_left _ hp))
theorem ps_for {iter : Expr} {body : List Stmt} {wi : TI} {g : TG} {tb : TS} {pos : Pos} (hp : PassesOwn (model X.prog X.w) X.A X.env X.xe) (hc : X.calm = true) (hi : PI X tg iter wi) (hg : PG X tg g) (hb : PSs X body tb)
    (hs : ∀ x, foldedSetIterable iter X.env x = pure x := by intro _; rfl) : PS X (.For tg iter body [] pos) (tFor wi g tb) := by
  intro pins s σ H D I h
  refine wpAny_For (thn (hi pins s σ H _ I h) fun v s1 h1 => thn h1 fun itv s2 h2 => ?_) hs
  obtain ⟨it, fp, tn, J, H2, e, I2, T, st2, f2, W, ⟨m0, w0⟩, turn⟩ := h2
  subst e
  have stat : ∀ {H' : Hp}, (∀ b ∈ fp, H' b = none) → ∀ b ∈ fp, FpOk X pins H' b := fun hn b hb => ⟨hn b hb, (f2 b hb).2⟩
  refine codeAny_forLoop_any (fun n s' => ∃ i σ' H', Inv X pins σ' H' s' ∧ tn i s'.heap ∧ (∀ b ∈ fp, H' b = none) ∧ W i n σ' H') ?_ m0 ⟨0, σ, H2, I2, st2, fun b hb => (f2 b hb).1, w0⟩
  rintro n s3 ⟨i, σ3, H3, I3, st3, fr3, w3⟩
  rcases turn i n σ3 H3 w3 with ⟨stop, qn⟩ | ⟨go, N, hN, step⟩
  · refine wpAny_passesOwn hp (thn (T.done X rfl rfl rfl hc i pins s3 σ3 H3 X.xe I3 (stat fr3) st3 stop) fun r s4 ⟨hr, I4⟩ => ?_)
    subst hr
    exact wpAny_execs_nil ⟨σ3, H3, I4, qn⟩
  · refine wpAny_passesOwn hp (thn (T.item X rfl rfl rfl hc i pins s3 σ3 H3 X.xe I3 (stat fr3) st3 go) fun r s4 ⟨u, hr, h4⟩ => ?_)
    subst hr
    refine wpAny_passesOwn hp (thn h4 fun _ s5 ⟨x, H5, I5, r5, y5, st5, fr5⟩ => ?_)
    have I5' := I5.pinned (stat fr5) (T.obj _ _ st5)
    refine wpAny_passesOwn hp (thn (hg _ s5 σ3 H5 x u _ I5' r5 (step x H5 y5)) fun _ s6 ⟨σ6, H6, I6, q6⟩ => ?_)
    refine wpAny_passesOwn hp (thn (hb _ s6 σ6 H6 _ I6 q6) fun f s7 q7 => ?_)
    have again : ∀ {σ7 : St} {H7 : Hp}, Inv X (pins ++ pinsAt fp s5.heap) σ7 H7 s7 → N σ7 H7 → ∃ m, m < n ∧ ∃ i σ' H', Inv X pins σ' H' s7 ∧ tn i s7.heap ∧ (∀ b ∈ fp, H' b = none) ∧ W i m σ' H' := fun {σ7 H7} I7 n7 => by
      obtain ⟨m', hm, w7⟩ := hN σ7 H7 n7
      refine ⟨m', hm, i + 1, σ7, H7, I7.unpinned, T.keep _ _ _ st5 fun b hb o e => (I7.pin (b, o) (List.mem_append_right _ (List.mem_append_right _ (mem_pinsAt hb e)))).1, fun b hb => ?_, w7⟩
      obtain ⟨o, e, d⟩ := T.obj _ _ st5 b hb
      exact (I7.pin (b, o) (List.mem_append_right _ (List.mem_append_right _ (mem_pinsAt hb e)))).2.1
    cases f with
    | next => obtain ⟨σ7, H7, I7, n7⟩ := q7; exact again I7 n7
    | cont => obtain ⟨σ7, H7, I7, n7⟩ := q7; exact again I7 n7
    | brk => obtain ⟨σ7, H7, I7, q7⟩ := q7; exact ⟨σ7, H7, I7.unpinned, q7⟩
    | ret v => obtain ⟨x7, σ7, H7, I7, r7, q7⟩ := q7; exact ⟨x7, σ7, H7, I7.unpinned, r7, q7⟩
end
theorem for_list {K : PySem.W.Frag} {a : Addr} {xs : List V} {g : TG} {tb : TS} {D : Ends} {σ : St} {H : Hp} (Pv : Nat → St → Hp → Prop) (h0 : Pv 0 σ H) (hl : ∀ i σ H, i ≤ xs.length → Pv i σ H → SqL K H a xs)
    (hs : ∀ i x σ H, xs[i]? = some x → Pv i σ H → g x σ H fun σ2 H2 => tb { D with nx := Pv (i + 1), ct := Pv (i + 1), bk := D.nx } σ2 H2) (hd : ∀ σ H, Pv xs.length σ H → D.nx σ H) :
    ∃ W : Nat → Nat → St → Hp → Prop, (∃ m, W 0 m σ H) ∧ ∀ i m σ H, W i m σ H →
      ((Itl K a).stop i H ∧ D.nx σ H) ∨ ((Itl K a).go i H ∧ ∃ N : St → Hp → Prop, (∀ σ' H', N σ' H' → ∃ m', m' < m ∧ W (i + 1) m' σ' H') ∧ ∀ x H', (Itl K a).yld i H x H' → g x σ H' fun σ2 H2 => tb { D with nx := N, ct := N, bk := D.nx } σ2 H2) := by
  refine ⟨fun i m σ H => m = xs.length - i ∧ i ≤ xs.length ∧ Pv i σ H, ⟨xs.length, by simp, Nat.zero_le _, h0⟩, ?_⟩
  rintro i m σ H ⟨rfl, hi, p⟩
  have q := hl i σ H hi p
  by_cases hlt : i < xs.length
  · refine .inr ⟨⟨xs, xs[i], q, by simp [hlt]⟩, Pv (i + 1), fun σ' H' p' => ⟨xs.length - (i + 1), by omega, rfl, hlt, p'⟩, fun x H' y => ?_⟩
    obtain ⟨e, y⟩ := y
    subst e
    exact hs i x σ _ (y xs q) p
  · have e : i = xs.length := by omega
    subst e
    exact .inl ⟨⟨xs, q, Nat.le_refl _⟩, hd σ H p⟩
theorem for_range {lo : Int} {n : Nat} {g : TG} {tb : TS} {D : Ends} {σ : St} {H : Hp} (Pv : Nat → St → Hp → Prop) (h0 : Pv 0 σ H)
    (hs : ∀ i σ H, i < n → Pv i σ H → g (.int (lo + i)) σ H fun σ2 H2 => tb { D with nx := Pv (i + 1), ct := Pv (i + 1), bk := D.nx } σ2 H2) (hd : ∀ σ H, Pv n σ H → D.nx σ H) :
    ∃ W : Nat → Nat → St → Hp → Prop, (∃ m, W 0 m σ H) ∧ ∀ i m σ H, W i m σ H →
      ((Itr lo n).stop i H ∧ D.nx σ H) ∨ ((Itr lo n).go i H ∧ ∃ N : St → Hp → Prop, (∀ σ' H', N σ' H' → ∃ m', m' < m ∧ W (i + 1) m' σ' H') ∧ ∀ x H', (Itr lo n).yld i H x H' → g x σ H' fun σ2 H2 => tb { D with nx := N, ct := N, bk := D.nx } σ2 H2) := by
  refine ⟨fun i m σ H => m = n - i ∧ i ≤ n ∧ Pv i σ H, ⟨n, by simp, Nat.zero_le _, h0⟩, ?_⟩
  rintro i m σ H ⟨rfl, hi, p⟩
  by_cases hlt : i < n
  · refine .inr ⟨hlt, Pv (i + 1), fun σ' H' p' => ⟨n - (i + 1), by omega, rfl, hlt, p'⟩, fun x H' y => ?_⟩
    obtain ⟨e, y⟩ := y
    subst e y
    exact hs i σ _ hlt p
  · have e : i = n := by omega
    subst e
    exact .inl ⟨Nat.le_refl _, hd σ H p⟩
theorem while_by {c : TT} {tb : TS} {D : Ends} {σ : St} {H : Hp} (Pv : St → Hp → Prop) (μ : St → Hp → Nat) (h0 : Pv σ H)
    (hs : ∀ σ H, Pv σ H → c σ H fun b H1 => if b = true then tb { D with nx := fun σ' H' => Pv σ' H' ∧ μ σ' H' < μ σ H, ct := fun σ' H' => Pv σ' H' ∧ μ σ' H' < μ σ H, bk := D.nx } σ H1 else D.nx σ H1)
    (mono : ∀ σ H Q Q', (∀ b H1, Q b H1 → Q' b H1) → c σ H Q → c σ H Q') : tWhile c tb D σ H := by
  refine ⟨fun m σ H => m = μ σ H ∧ Pv σ H, ⟨_, rfl, h0⟩, ?_⟩
  rintro m σ H ⟨rfl, p⟩
  refine mono σ H _ _ (fun b H1 q => ?_) (hs σ H p)
  cases b with
  | true => exact ⟨_, fun σ' H' ⟨p', l⟩ => ⟨_, l, rfl, p'⟩, q⟩
  | false => exact q
end L2
namespace L2
open PySem PySem.Spec PyProof.Rows
noncomputable abbrev R2 := V → V → Hp → VK → Prop
noncomputable def OpR (X : Cx) (f : Value → Value → Sem Value) (r : R2) : Prop :=
  ∀ (pins : List (Addr × Obj)) (s : Shared) (σ : St) (H : Hp) (x y : V) (v u : Value) (Q : VK), Inv X pins σ H s → RelV x v → RelV y u → r x y H Q →
    wpAny (model X.prog X.w) X.A (f v u) (EP X pins σ Q) X.xe s
noncomputable def UnR (X : Cx) (f : Value → Sem Value) (r : V → Hp → VK → Prop) : Prop :=
  ∀ (pins : List (Addr × Obj)) (s : Shared) (σ : St) (H : Hp) (x : V) (v : Value) (Q : VK), Inv X pins σ H s → RelV x v → r x H Q →
    wpAny (model X.prog X.w) X.A (f v) (EP X pins σ Q) X.xe s
noncomputable def CallR (X : Cx) (f : Value) (r : List V → Hp → VK → Prop) : Prop :=
  ∀ (pins : List (Addr × Obj)) (s : Shared) (σ : St) (H : Hp) (xs : List V) (us : List Value) (Q : VK), Inv X pins σ H s → Vals xs us → r xs H Q →
    wpAny (model X.prog X.w) X.A (call f us) (EP X pins σ Q) X.xe s
noncomputable def tOp (r : R2) (ta tb : TE) : TE := fun σ H Q => ta σ H fun x H1 => tb σ H1 fun y H2 => r x y H2 Q
noncomputable def tUn (r : V → Hp → VK → Prop) (ta : TE) : TE := fun σ H Q => ta σ H fun x H1 => r x H1 Q
noncomputable def rI (C : Int → Int → Prop) (g : Int → Int → V) : R2 := fun x y H Q => ∃ i j, x = .int i ∧ y = .int j ∧ C i j ∧ Q (g i j) H
noncomputable def rI0 (g : Int → Int → V) : R2 := fun x y H Q => ∃ i j, x = .int i ∧ y = .int j ∧ Q (g i j) H
noncomputable def rU (g : Int → V) : V → Hp → VK → Prop := fun x H Q => ∃ i, x = .int i ∧ Q (g i) H
section
variable {X : Cx} {a b c : Expr} {ta tb tc : TE} {pos : Pos}
theorem binT (ha : PE X a ta) (hb : PE X b tb) {pins : List (Addr × Obj)} {s : Shared} {σ : St} {H : Hp} {R : V → V → Hp → Prop} (I : Inv X pins σ H s)
    (h : ta σ H fun x H1 => tb σ H1 fun y H2 => R x y H2) {Q : Value → Shared → Prop} {f : Value → Value → Sem Value}
    (hf : ∀ v u s2 x y H2, Inv X pins σ H2 s2 → RelV x v → RelV y u → R x y H2 → wpAny (model X.prog X.w) X.A (f v u) Q X.xe s2) :
    wpAny (model X.prog X.w) X.A (eval a X.env) (fun v s₁ => wpAny (model X.prog X.w) X.A (eval b X.env) (fun u s₂ => wpAny (model X.prog X.w) X.A (f v u) Q X.xe s₂) X.xe s₁) X.xe s := by
  refine thn (ha pins s σ H _ I h) fun v s1 ⟨x, H1, I1, r1, q1⟩ => ?_
  refine thn (hb pins s1 σ H1 _ I1 q1) fun u s2 ⟨y, H2, I2, r2, q2⟩ => ?_
  exact hf v u s2 x y H2 I2 r1 r2 q2
theorem pe_op {op : Operator} {r : R2} (ho : OpR X (binaryOp op) r) (ha : PE X a ta) (hb : PE X b tb) : PE X (.BinOp a op b pos) (tOp r ta tb) := by
  intro pins s σ H Q I h
  exact wpAny_BinOp (binT ha hb I h fun v u s2 x y H2 I2 rx ry q => ho pins s2 σ H2 x y v u Q I2 rx ry q)
theorem pe_un {op : UnaryOp} {r : V → Hp → VK → Prop} (ho : UnR X (unaryOp op) r) (ha : PE X a ta) : PE X (.UnaryOp op a pos) (tUn r ta) := by
  intro pins s σ H Q I h
  exact UnaryOp_ (thn (ha pins s σ H _ I h) fun v s1 ⟨x, H1, I1, r1, q1⟩ => ho pins s1 σ H1 x v Q I1 r1 q1)
theorem opI {f : Value → Value → Sem Value} {C : Int → Int → Prop} {g : Int → Int → Int}
    (rule : ∀ (i j : Int) (t u : Tok) (s : Shared) (Q : Value → Shared → Prop) (E : Value → Shared → Prop), C i j → Q (.int (g i j) s.toks) { s with toks := s.toks + 1 } → wpAny (model X.prog X.w) X.A (f (.int i t) (.int j u)) Q E s) :
    OpR X f (rI C fun i j => .int (g i j)) := by
  intro pins s σ H x y v u Q I rx ry h
  obtain ⟨i, j, rfl, rfl, hc, q⟩ := h
  obtain ⟨t, rfl⟩ := rx
  obtain ⟨t', rfl⟩ := ry
  exact rule i j t t' s _ _ hc ⟨.int (g i j), H, I.tok _, ⟨_, rfl⟩, q⟩
theorem opI0 {f : Value → Value → Sem Value} {g : Int → Int → Int}
    (rule : ∀ (i j : Int) (t u : Tok) (s : Shared) (Q : Value → Shared → Prop) (E : Value → Shared → Prop), Q (.int (g i j) s.toks) { s with toks := s.toks + 1 } → wpAny (model X.prog X.w) X.A (f (.int i t) (.int j u)) Q E s) :
    OpR X f (rI0 fun i j => .int (g i j)) := by
  intro pins s σ H x y v u Q I rx ry h
  obtain ⟨i, j, rfl, rfl, q⟩ := h
  obtain ⟨t, rfl⟩ := rx
  obtain ⟨t', rfl⟩ := ry
  exact rule i j t t' s _ _ ⟨.int (g i j), H, I.tok _, ⟨_, rfl⟩, q⟩
theorem opB0 {f : Value → Value → Sem Value} {g : Int → Int → Bool}
    (rule : ∀ (i j : Int) (t u : Tok) (s : Shared) (Q : Value → Shared → Prop) (E : Value → Shared → Prop), Q (.bool (g i j)) s → wpAny (model X.prog X.w) X.A (f (.int i t) (.int j u)) Q E s) :
    OpR X f (rI0 fun i j => .bl (g i j)) := by
  intro pins s σ H x y v u Q I rx ry h
  obtain ⟨i, j, rfl, rfl, q⟩ := h
  obtain ⟨t, rfl⟩ := rx
  obtain ⟨t', rfl⟩ := ry
  exact rule i j t t' s _ _ ⟨.bl (g i j), H, I, rfl, q⟩
noncomputable def CPow (i j : Int) : Prop := 0 ≤ j ∧ j ≤ 1000000 ∧ i.natAbs < 2 ^ 64
noncomputable def CMul (i j : Int) : Prop := (-(2 ^ 64) < i ∧ i < 2 ^ 64) ∨ (-(2 ^ 64) < j ∧ j < 2 ^ 64)
theorem CMul.ok {i j : Int} (h : CMul i j) : IntMulOk i j := by
  rcases h with ⟨h1, h2⟩ | ⟨h1, h2⟩
  · exact .of_left (intBits_le_64 h1 h2)
  · exact .of_right (intBits_le_64 h1 h2)
theorem two_pow_nn (k : Nat) : (0 : Int) ≤ 2 ^ k := by
  rw [two_pow_cast]
  exact Int.natCast_nonneg _
theorem op_add : OpR X (binaryOp .Add) (rI0 fun i j => .int (i + j)) := opI0 fun _ _ _ _ _ _ _ q => add_int q
theorem op_sub : OpR X (binaryOp .Sub) (rI0 fun i j => .int (i - j)) := opI0 fun _ _ _ _ _ _ _ q => sub_int q
theorem op_mul : OpR X (binaryOp .Mult) (rI CMul fun i j => .int (i * j)) := opI fun _ _ _ _ _ _ _ hc q => mul_int q hc.ok
theorem op_shl : OpR X (binaryOp .LShift) (rI CPow fun i j => .int (i * 2 ^ j.toNat)) := opI fun _ _ _ _ _ _ _ hc q => lshift_int_small hc.1 hc.2.1 hc.2.2 q
theorem op_shr : OpR X (binaryOp .RShift) (rI (fun _ j => 0 ≤ j) fun i j => .int (i / 2 ^ j.toNat)) := opI fun i j _ _ _ _ _ hc q =>
  rshift_int hc (by rw [Int.fdiv_eq_ediv_of_nonneg i (two_pow_nn _)]; exact q)
theorem op_and : OpR X (binaryOp .BitAnd) (rI0 fun i j => .int (Builtin.bitAnd i j)) := opI0 fun _ _ _ _ _ _ _ q => and_int q
theorem op_or : OpR X (binaryOp .BitOr) (rI0 fun i j => .int (Builtin.bitOr i j)) := opI0 fun _ _ _ _ _ _ _ q => or_int q
theorem unI {f : Value → Sem Value} {g : Int → Int}
    (rule : ∀ (i : Int) (t : Tok) (s : Shared) (Q : Value → Shared → Prop) (E : Value → Shared → Prop), Q (.int (g i) s.toks) { s with toks := s.toks + 1 } → wpAny (model X.prog X.w) X.A (f (.int i t)) Q E s) :
    UnR X f (rU fun i => .int (g i)) := by
  intro pins s σ H x v Q I rx h
  obtain ⟨i, rfl, q⟩ := h
  obtain ⟨t, rfl⟩ := rx
  exact rule i t s _ _ ⟨.int (g i), H, I.tok _, ⟨_, rfl⟩, q⟩
theorem un_neg : UnR X (unaryOp .USub) (rU fun i => .int (-i)) := unI fun _ _ _ _ _ q => neg_int q
end
noncomputable def scal : V → V → Bool
  | .non, .non => true | .non, .int _ => true | .int _, .non => true | .non, .bl _ => true | .bl _, .non => true | .non, .str _ => true | .str _, .non => true
  | .int _, .int _ => true | .bl _, .bl _ => true | .str _, .str _ => true | .byt _, .byt _ => true
  | .int _, .str _ => true | .str _, .int _ => true | .bl _, .str _ => true | .str _, .bl _ => true
  | _, _ => false
noncomputable def rEq : R2 := fun x y H Q => scal x y = true ∧ Q (.bl (decide (x = y))) H
noncomputable def rNe : R2 := fun x y H Q => scal x y = true ∧ Q (.bl (!decide (x = y))) H
theorem dec_int {i j : Int} : decide (V.int i = V.int j) = (i == j) := by
  rw [Bool.eq_iff_iff]
  simp
theorem dec_bl {i j : Bool} : decide (V.bl i = V.bl j) = (i == j) := by
  rw [Bool.eq_iff_iff]
  simp
theorem dec_str {i j : Str} : decide (V.str i = V.str j) = (i == j) := by
  rw [Bool.eq_iff_iff]
  simp
theorem dec_byt {i j : Array UInt8} : decide (V.byt i = V.byt j) = (i.toList == j.toList) := by
  rw [Bool.eq_iff_iff]
  cases i
  cases j
  simp
section
variable {X : Cx} {a b c : Expr} {ta tb tc : TE} {pos : Pos}
theorem fin_bl {pins : List (Addr × Obj)} {σ : St} {H : Hp} {s : Shared} {Q : VK} {k k' : Bool} (I : Inv X pins σ H s) (q : Q (.bl k) H) (e : k = k') : EP X pins σ Q (.bool k') s := by
  subst e
  exact ⟨.bl k, H, I, rfl, q⟩
theorem op_eq : OpR X (compareOp .Eq) rEq := by
  intro pins s σ H x y v u Q I rx ry h
  obtain ⟨hs, q⟩ := h
  cases x with
  | non =>
    cases rx
    cases y with
    | non => cases ry; exact PySem.EqNone.eq_none_none (fin_bl I q (by simp))
    | bl j => cases ry; exact PySem.EqNone.eq_none_bool (fin_bl I q (by simp))
    | int j => obtain ⟨t', rfl⟩ := ry; exact PySem.EqNone.eq_none_int (fin_bl I q (by simp))
    | str j => obtain ⟨t', rfl⟩ := ry; exact PySem.EqNone.eq_none_str (fin_bl I q (by simp))
    | _ => exact absurd (show false = true from hs) Bool.false_ne_true
  | bl i =>
    cases rx
    cases y with
    | non => cases ry; exact PySem.EqNone.eq_bool_none (fin_bl I q (by simp))
    | bl j => cases ry; exact eq_bool (fin_bl I q dec_bl)
    | str j => obtain ⟨t', rfl⟩ := ry; exact PySem.EqMixed.eq_bool_str (fin_bl I q (by simp))
    | _ => exact absurd (show false = true from hs) Bool.false_ne_true
  | int i =>
    obtain ⟨t, rfl⟩ := rx
    cases y with
    | non => cases ry; exact PySem.EqNone.eq_int_none (fin_bl I q (by simp))
    | int j => obtain ⟨t', rfl⟩ := ry; exact eq_int (fin_bl I q dec_int)
    | str j => obtain ⟨t', rfl⟩ := ry; exact PySem.EqMixed.eq_int_str (fin_bl I q (by simp))
    | _ => exact absurd (show false = true from hs) Bool.false_ne_true
  | str i =>
    obtain ⟨t, rfl⟩ := rx
    cases y with
    | non => cases ry; exact PySem.EqNone.eq_str_none (fin_bl I q (by simp))
    | bl j => cases ry; exact PySem.EqMixed.eq_str_bool (fin_bl I q (by simp))
    | int j => obtain ⟨t', rfl⟩ := ry; exact PySem.EqMixed.eq_str_int (fin_bl I q (by simp))
    | str j => obtain ⟨t', rfl⟩ := ry; exact eq_str (fin_bl I q dec_str)
    | _ => exact absurd (show false = true from hs) Bool.false_ne_true
  | byt i =>
    obtain ⟨t, rfl⟩ := rx
    cases y with
    | byt j => obtain ⟨t', rfl⟩ := ry; exact PySem.W.eq_bytes (fin_bl I q dec_byt)
    | _ => exact absurd (show false = true from hs) Bool.false_ne_true
  | _ => cases y <;> exact absurd (show false = true from hs) Bool.false_ne_true
theorem op_ne : OpR X (compareOp .NotEq) rNe := by
  intro pins s σ H x y v u Q I rx ry h
  obtain ⟨hs, q⟩ := h
  cases x with
  | non =>
    cases rx
    cases y with
    | non => cases ry; exact PySem.EqNone.ne_none_none (fin_bl I q (by simp))
    | bl j => cases ry; exact PySem.EqNone.ne_none_bool (fin_bl I q (by simp))
    | int j => obtain ⟨t', rfl⟩ := ry; exact PySem.EqNone.ne_none_int (fin_bl I q (by simp))
    | str j => obtain ⟨t', rfl⟩ := ry; exact PySem.EqNone.ne_none_str (fin_bl I q (by simp))
    | _ => exact absurd (show false = true from hs) Bool.false_ne_true
  | bl i =>
    cases rx
    cases y with
    | non => cases ry; exact PySem.EqNone.ne_bool_none (fin_bl I q (by simp))
    | bl j => cases ry; exact ne_bool (fin_bl I q (congrArg not dec_bl))
    | str j => obtain ⟨t', rfl⟩ := ry; exact PySem.EqMixed.ne_bool_str (fin_bl I q (by simp))
    | _ => exact absurd (show false = true from hs) Bool.false_ne_true
  | int i =>
    obtain ⟨t, rfl⟩ := rx
    cases y with
    | non => cases ry; exact PySem.EqNone.ne_int_none (fin_bl I q (by simp))
    | int j => obtain ⟨t', rfl⟩ := ry; exact ne_int (fin_bl I q (congrArg not dec_int))
    | str j => obtain ⟨t', rfl⟩ := ry; exact PySem.EqMixed.ne_int_str (fin_bl I q (by simp))
    | _ => exact absurd (show false = true from hs) Bool.false_ne_true
  | str i =>
    obtain ⟨t, rfl⟩ := rx
    cases y with
    | non => cases ry; exact PySem.EqNone.ne_str_none (fin_bl I q (by simp))
    | bl j => cases ry; exact PySem.EqMixed.ne_str_bool (fin_bl I q (by simp))
    | int j => obtain ⟨t', rfl⟩ := ry; exact PySem.EqMixed.ne_str_int (fin_bl I q (by simp))
    | str j => obtain ⟨t', rfl⟩ := ry; exact ne_str (fin_bl I q (congrArg not dec_str))
    | _ => exact absurd (show false = true from hs) Bool.false_ne_true
  | byt i =>
    obtain ⟨t, rfl⟩ := rx
    cases y with
    | byt j => obtain ⟨t', rfl⟩ := ry; exact PySem.W.ne_bytes (fin_bl I q (congrArg not dec_byt))
    | _ => exact absurd (show false = true from hs) Bool.false_ne_true
  | _ => cases y <;> exact absurd (show false = true from hs) Bool.false_ne_true
theorem op_lt : OpR X (compareOp .Lt) (rI0 fun i j => .bl (decide (i < j))) := opB0 fun _ _ _ _ _ _ _ q => lt_int q
theorem op_gt : OpR X (compareOp .Gt) (rI0 fun i j => .bl (decide (j < i))) := opB0 fun _ _ _ _ _ _ _ q => gt_int q
theorem op_ge : OpR X (compareOp .GtE) (rI0 fun i j => .bl (decide (j ≤ i))) := opB0 fun _ _ _ _ _ _ _ q => ge_int q
theorem op_isN : OpR X (compareOp .Is) (fun x y H Q => y = .non ∧ Q (.bl (decide (x = .non))) H) := by
  intro pins s σ H x y v u Q I rx ry h
  obtain ⟨rfl, q⟩ := h
  cases ry
  refine is_none_gen (fin_bl I q ?_)
  cases x <;> first
    | (cases rx; rfl)
    | (obtain ⟨t, rfl⟩ := rx; rfl)
theorem op_notN : OpR X (compareOp .IsNot) (fun x y H Q => y = .non ∧ Q (.bl (!decide (x = .non))) H) := by
  intro pins s σ H x y v u Q I rx ry h
  obtain ⟨rfl, q⟩ := h
  cases ry
  refine isnot_none_gen (fin_bl I q ?_)
  cases x <;> first
    | (cases rx; rfl)
    | (obtain ⟨t, rfl⟩ := rx; rfl)
theorem nomark (b : Expr) {op : CmpOp} (h : op ≠ .In := by decide) (h2 : op ≠ .NotIn := by decide) : behindInMarks op b = false := by
  have e1 : (op == CmpOp.In) = false := by cases op <;> first | rfl | exact absurd rfl h
  have e2 : (op == CmpOp.NotIn) = false := by cases op <;> first | rfl | exact absurd rfl h2
  cases b <;> simp [behindInMarks, e1, e2]
theorem pe_cmpR {op : CmpOp} {r : R2} (ho : OpR X (compareOp op) r) (ha : PE X a ta) (hb : PE X b tb) (hm : behindInMarks op b = false) : PE X (.Compare a [op] [b] pos) (tOp r ta tb) := by
  intro pins s σ H Q I h
  exact wpAny_Compare1 (binT ha hb I h fun v u s2 x y H2 I2 rx ry q => ho pins s2 σ H2 x y v u Q I2 rx ry q) hm
noncomputable def tTest (t : TE) : TT := fun σ H Q => t σ H fun x H' => ∃ k, x = .bl k ∧ Q k H'
theorem pt_cmpR {op : CmpOp} {r : R2} (ho : OpR X (compareOp op) r) (ha : PE X a ta) (hb : PE X b tb) (hm : behindInMarks op b = false) : PT X (.Compare a [op] [b] pos) (tTest (tOp r ta tb)) := by
  intro pins s σ H Q I h
  refine wpAny_isTrue_Compare1 (thn (ha pins s σ H _ I h) fun v s1 ⟨x, H1, I1, r1, q1⟩ => thn (hb pins s1 σ H1 _ I1 q1) fun u s2 ⟨y, H2, I2, r2, q2⟩ =>
    thn (ho pins s2 σ H2 x y v u _ I2 r1 r2 q2) fun c s3 ⟨z, H3, I3, r3, k, e, q3⟩ => ?_) hm
  subst e
  cases r3
  exact wpAny_truthy_bool ⟨H3, I3, q3⟩
theorem line63 : (sizeLine : Nat) < 2 ^ 63 := by rw [sizeLine_eq]; decide
theorem vals1 {x : V} {us : List Value} (r : Vals [x] us) : ∃ u, us = [u] ∧ RelV x u := by
  cases r with
  | cons r1 r2 => cases r2; exact ⟨_, rfl, r1⟩
end
end L2
namespace L2
open PySem PySem.Spec PyProof.Rows
structure ObjM (h : Heap) (x dx C : Addr) (mA : Str → Option Value) : Prop where
  obj : h.get? x = some (PySem.W.instObj C dx)
  ns : h.Ns1 dx mA
  ne : dx ≠ x
theorem lookIn_ns {h : Heap} {dx : Addr} {mA : Str → Option Value} (n : h.Ns1 dx mA) : ∃ od, h.get? dx = some od ∧ ∀ name, PySem.W.lookIn name od = some (mA name) := by
  obtain ⟨o, es, ep, ho, hd, hk, _, hm⟩ := n
  refine ⟨o, ho, fun name => ?_⟩
  have e := hm name
  unfold nsFind findBy at e
  rw [← Array.find?_toList] at e
  unfold PySem.W.lookIn
  rw [hd]
  dsimp only
  split
  · rename_i y q
    rw [q] at e
    exact congrArg some e
  · rename_i q
    rw [q] at e
    have a : es.toList.any (·.refKey) = false := by
      rw [List.any_eq_false]
      intro y hy
      obtain ⟨z, t, hkey⟩ := hk y (Array.mem_toList_iff.mp hy)
      simp [DictEntry.refKey, hkey]
    have a' : ¬ es.toList.any (·.refKey) = true := by rw [a]; exact Bool.false_ne_true
    rw [if_neg a']
    exact congrArg some e
theorem ObjM.look {h : Heap} {x dx C : Addr} {mA : Str → Option Value} (I : ObjM h x dx C mA) : ∃ od, PySem.W.InstAt h x (PySem.W.instObj C dx) C (some od) ∧ ∀ name, PySem.W.lookIn name od = some (mA name) :=
  let ⟨od, ho, hl⟩ := lookIn_ns I.ns
  ⟨od, ⟨I.obj, rfl, rfl, ho⟩, hl⟩
section
variable {prog : Program} {w : World} {A : Around} {E : Value → Shared → Prop} {s : Shared} {K : PySem.W.Frag} {x dx C f : Addr} {mA : Str → Option Value} {name : Str} {v : Value}
theorem get_map {expr : Bool} {Q : Value → Shared → Prop} (X : K.In s.heap) (I : ObjM s.heap x dx C mA) (hg : PySem.W.plainGet K C name = true) (hh : PySem.W.hasDictIn K C = true)
    (ha : PySem.W.findIn K (.ref C) name = some none) (hv : mA name = some v) (hv' : PySem.W.handedIn v = true) (h : Q v { s with toks := s.toks + 1 }) :
    wpAny (model prog w) A (getAttr (.ref x) name expr) Q E s := by
  obtain ⟨od, J, hl⟩ := I.look
  exact PySem.W.get_value X J (PySem.W.plainGet_of hg).1 (PySem.W.findObj_own hh ha rfl (by rw [hl, hv])) hv' h
theorem get_meth {pl : Sem Bool} {Q : Value × List Value → Shared → Prop} (X : K.In s.heap) (I : ObjM s.heap x dx C mA) (hg : PySem.W.plainGet K C name = true)
    (hf : PySem.W.findIn K (.ref C) name = some (some (.ref f))) (ht : PySem.W.isFn K (.ref f) = true) (hv : mA name = none) (h : Q (.ref f, [.ref x]) s) :
    wpAny (model prog w) A (getMethod (.ref x) name pl) Q E s := by
  obtain ⟨od, J, hl⟩ := I.look
  exact PySem.W.method_fn X J (PySem.W.plainGet_of hg).1 (PySem.W.plainGet_of hg).2 hf (beq_iff_eq.mp ht) (by show (PySem.W.lookIn name od).map (·.isSome) = some false; rw [hl, hv]; rfl) h
theorem set_map {ns : List Str} {Q : Unit → Shared → Prop} (X : K.In s.heap) (I : ObjM s.heap x dx C mA)
    (hs : PySem.W.findIn K (.ref C) "__setattr__" = some (some (.builtin "object.__setattr__"))) (hp : PySem.W.plainOver K C = true) (ht : PySem.W.takerIn K C name = some none) (hh : PySem.W.hasDictIn K C = true)
    (hw : PySem.Within mA ns) (hsz : ns.length ≤ sizeLine)
    (h : ∀ h', ObjM h' x dx C (fun y => if y = name then some v else mA y) → Heap.SameBut dx s.heap h' → Q () { s with heap := h', toks := s.toks + 2 }) :
    wpAny (model prog w) A (setAttr (.ref x) name v) Q E s := by
  obtain ⟨od, J, hl⟩ := I.look
  refine PySem.W.set_plain X J hs (PySem.W.osa_open (s := { s with toks := s.toks + 1 }) (r := none) X J hp ht fun b => ?_)
  obtain ⟨cd, hc, hd'⟩ := PySem.W.any_some hh
  have hx : s.heap.get? x = some ⟨.ref C, some dx, .plain, #[]⟩ := I.obj
  refine wpAny_bind (wpAny_pure (wpAny_bind (wpAny_bind (wpAny_loadPart hx (wpAny_bind (PySem.W.Looks.here (s := { s with toks := s.toks + 1 }) (PySem.W.looks_clsIn X hc) ?_))))))
  rw [hd']
  refine wpAny_pure (a := some dx) (wpAny_bind (wpAny_pure (wpAny_bind ?_)))
  refine wpAny_nsSet1 (s := { s with toks := s.toks + 1 }) I.ns fun h' hn2 hs2 => ?_
  obtain ⟨oD, esD, epD, hoD, hdD, hcD⟩ := hn2.count (PySem.Within.cons name v hw)
  refine wpAny_bind (wpAny_lookBehind hoD (by rw [hdD]; exact pastItsLine_dict (Nat.le_trans hcD (by rw [List.length_cons]; omega))) ?_)
  exact wpAny_pure (h _ ⟨(hs2.2 _ (Ne.symm I.ne)).trans I.obj, hn2, I.ne⟩ hs2)
theorem make_map {R : Result → Shared → Prop} {vs : List Value} {kw : List (Str × Value)} (X : K.In s.heap) (hm : PySem.W.makesIn K C = true)
    (hi : PySem.W.findIn K (.ref C) "__init__" = some (some (.ref f))) (hf : PySem.W.typeIn K (.ref f) = some (.type "function"))
    (h : codeAny (model prog w) (A.under (.builtin "type.__call__" ⟨.ref C :: vs, kw⟩)) (.call (.ref f) ⟨.ref (s.heap.objs.size + 1) :: vs, kw⟩) (PySem.W.InitBack (s.heap.objs.size + 1) R)
      { s with heap := (s.heap.push PySem.W.emptyDict).push (PySem.W.instObj C s.heap.objs.size) }) :
    codeAny (model prog w) A (.call (.ref C) ⟨vs, kw⟩) R s := by
  obtain ⟨hh, g, d, t, os⟩ := s
  exact PySem.W.make_core (PySem.W.makes_of X hm) (PySem.W.looks_findIn X hi) (fun self => PySem.W.bind_fn X self hf) (.inl rfl) h
end
noncomputable def putF (f : Str) (v : V) : List (Str × V) → List (Str × V)
  | [] => [(f, v)]
  | (g, x) :: r => if g = f then (g, v) :: r else (g, x) :: putF f v r
theorem lookup_putF (f g : Str) (v : V) : ∀ fs : List (Str × V), (putF f v fs).lookup g = if g = f then some v else fs.lookup g
  | [] => by
    show List.lookup g [(f, v)] = _
    by_cases h : g = f
    · have hb : (g == f) = true := beq_iff_eq.mpr h
      simp only [List.lookup, hb, if_pos h]
    · have hb : (g == f) = false := beq_eq_false_iff_ne.mpr h
      simp only [List.lookup, hb, if_neg h]
  | (k, x) :: r => by
    have ih := lookup_putF f g v r
    rw [show putF f v ((k, x) :: r) = (if k = f then (k, v) :: r else (k, x) :: putF f v r) from rfl]
    by_cases hk : k = f
    · rw [if_pos hk]
      by_cases h : g = k
      · have hb : (g == k) = true := beq_iff_eq.mpr h
        simp only [List.lookup, hb, if_pos (h.trans hk)]
      · have hb : (g == k) = false := beq_eq_false_iff_ne.mpr h
        simp only [List.lookup, hb, if_neg (fun e : g = f => h (e.trans hk.symm))]
    · rw [if_neg hk]
      by_cases h : g = k
      · have hb : (g == k) = true := beq_iff_eq.mpr h
        simp only [List.lookup, hb, if_neg (fun e : g = f => hk (h.symm.trans e))]
      · have hb : (g == k) = false := beq_eq_false_iff_ne.mpr h
        simp only [List.lookup, hb]
        exact ih
theorem keys_putF (f : Str) (v : V) : ∀ fs : List (Str × V), f ∈ (putF f v fs).map (·.1) ∧ ∀ g, g ∈ fs.map (·.1) → g ∈ (putF f v fs).map (·.1)
  | [] => ⟨by simp [putF], fun g h => by simp at h⟩
  | (k, x) :: r => by
    obtain ⟨i1, i2⟩ := keys_putF f v r
    rw [show putF f v ((k, x) :: r) = (if k = f then (k, v) :: r else (k, x) :: putF f v r) from rfl]
    by_cases hk : k = f
    · rw [if_pos hk]
      subst hk
      exact ⟨by simp, fun g h => by simpa using h⟩
    · rw [if_neg hk]
      refine ⟨?_, fun g h => ?_⟩
      · rw [List.map_cons]
        exact List.mem_cons_of_mem _ i1
      · rw [List.map_cons] at h ⊢
        rcases List.mem_cons.mp h with e | e
        · exact List.mem_cons.mpr (.inl e)
        · exact List.mem_cons_of_mem _ (i2 g e)
theorem length_putF (f : Str) (v : V) : ∀ fs : List (Str × V), (putF f v fs).length ≤ fs.length + 1
  | [] => by simp [putF]
  | (k, x) :: r => by
    have ih := length_putF f v r
    rw [show putF f v ((k, x) :: r) = (if k = f then (k, v) :: r else (k, x) :: putF f v r) from rfl]
    by_cases hk : k = f
    · rw [if_pos hk, List.length_cons, List.length_cons]; omega
    · rw [if_neg hk, List.length_cons, List.length_cons]; omega
theorem RelO.some_of {v : V} {o : Option Value} (r : RelO (some v) o) : ∃ u, o = some u ∧ RelV v u := by
  cases o with
  | none => exact (show False from r).elim
  | some u => exact ⟨u, rfl, r⟩
theorem RelO.none_of {o : Option Value} (r : RelO none o) : o = none := by
  cases o with
  | none => rfl
  | some u => exact (show False from r).elim
theorem handed_of {v : V} {u : Value} (r : RelV v u) : PySem.W.handedIn u = true := by
  cases v with
  | non => cases (show u = Value.none from r); rfl
  | bl b => cases (show u = Value.bool b from r); rfl
  | int i => obtain ⟨t, e⟩ := (show ∃ t, u = Value.int i t from r); cases e; rfl
  | str x => obtain ⟨t, e⟩ := (show ∃ t, u = Value.str x t from r); cases e; rfl
  | byt b => obtain ⟨t, e⟩ := (show ∃ t, u = Value.bytes b t from r); cases e; rfl
  | flt b => obtain ⟨t, e⟩ := (show ∃ t, u = Value.float b t from r); cases e; rfl
  | ref a => cases (show u = Value.ref a from r); rfl
  | ty n => cases (show u = Value.type n from r); rfl
section
variable {P : Program} {w : World} {H H' : Hp} {h h' : Heap} {a C dx : Addr} {fs fs' : List (Str × V)}
theorem ins_get (hok : HOk P w H h) (e : H a = some (.ins C dx fs)) : ∃ mA, ObjM h a dx C mA ∧ (∀ f, RelO (fs.lookup f) (mA f)) ∧ PySem.Within mA (fs.map (·.1)) ∧ fs.length ≤ 1000 ∧ H dx = some (.own a) := by
  obtain ⟨d, z, ne, ob, mA, n, r, q⟩ := (show ObjOk P w H h a (.ins C dx fs) from hok a _ e)
  exact ⟨mA, ⟨ob, n, ne⟩, r, q, z, d⟩
end
structure Cls (K : PySem.W.Frag) (C : Addr) : Prop where
  pg : PySem.W.plainGet K C Str.empty = true
  hd : PySem.W.hasDictIn K C = true
  po : PySem.W.plainOver K C = true
  sa : PySem.W.findIn K (.ref C) "__setattr__" = some (some (.builtin "object.__setattr__"))
theorem Cls.get {K : PySem.W.Frag} {C : Addr} (c : Cls K C) (f : Str) : PySem.W.plainGet K C f = true := c.pg
noncomputable def NoAttr (K : PySem.W.Frag) (C : Addr) (f : Str) : Prop := PySem.W.findIn K (.ref C) f = some none
theorem NoAttr.taker {K : PySem.W.Frag} {C : Addr} {f : Str} (n : NoAttr K C f) : PySem.W.takerIn K C f = some none := by
  unfold PySem.W.takerIn
  rw [show PySem.W.findIn K (.ref C) f = some none from n]
  rfl
structure Meth (K : PySem.W.Frag) (C : Addr) (m : Str) (f : Addr) : Prop where
  at_ : PySem.W.findIn K (.ref C) m = some (some (.ref f))
  fn : PySem.W.isFn K (.ref f) = true
  kp : PySem.W.keepIn K (.ref f) = true
section
variable {X : Cx} {pins : List (Addr × Obj)} {σ : St} {H : Hp} {s : Shared} {a C dx : Addr} {fs : List (Str × V)} {f : Str} {v : V} {A : Around} {E : Value → Shared → Prop}
theorem getattr_ok {b : Bool} {Q : Value → Shared → Prop} (I : Inv X pins σ H s) (e : H a = some (.ins C dx fs)) (c : Cls X.K C) (n : NoAttr X.K C f) (l : fs.lookup f = some v)
    (h : ∀ u s', Inv X pins σ H s' → RelV v u → Q u s') : wpAny (model X.prog X.w) A (getAttr (.ref a) f b) Q E s := by
  obtain ⟨mA, O, r, _, _, _⟩ := ins_get I.hok e
  obtain ⟨u, hu, ru⟩ := RelO.some_of (v := v) (o := mA f) (by rw [← l]; exact r f)
  exact get_map I.kIn O (c.get f) c.hd n hu (handed_of ru) (h u _ (I.tok _) ru)
theorem getmeth_ok {m : Str} {g : Addr} {pl : Sem Bool} {Q : Value × List Value → Shared → Prop} (I : Inv X pins σ H s) (e : H a = some (.ins C dx fs)) (c : Cls X.K C) (k : Meth X.K C m g) (l : fs.lookup m = none)
    (h : Q (.ref g, [.ref a]) s) : wpAny (model X.prog X.w) A (getMethod (.ref a) m pl) Q E s := by
  obtain ⟨mA, O, r, _, _, _⟩ := ins_get I.hok e
  have hn : mA m = none := RelO.none_of (by rw [← l]; exact r m)
  exact get_meth I.kIn O (c.get m) k.at_ k.fn hn h
theorem setattr_ok {y : V} {u : Value} {Q : Unit → Shared → Prop} (I : Inv X pins σ H s) (e : H a = some (.ins C dx fs)) (c : Cls X.K C) (n : NoAttr X.K C f) (hl : fs.length < 1000) (ry : RelV y u)
    (h : ∀ s', Inv X pins σ (upd H a (.ins C dx (putF f y fs))) s' → Q () s') : wpAny (model X.prog X.w) A (setAttr (.ref a) f u) Q E s := by
  obtain ⟨mA, O, r, wi, _, ho⟩ := ins_get I.hok e
  have hz : (fs.map (·.1)).length ≤ sizeLine := by rw [List.length_map, sizeLine_eq]; omega
  refine set_map I.kIn O c.sa c.po n.taker c.hd wi hz fun h' O' sb => h _ ?_
  have hd : ∃ o, h'.get? dx = some o := let ⟨o, _, _, e', _⟩ := O'.ns; ⟨o, e'⟩
  refine I.write (x := a) (e := dx) (by rw [e]; exact True.intro) (.inr ho) (fun b q hb z => (sb.2 b hb).trans z) hd ?_
  refine ⟨by rw [upd_ne O.ne]; exact ho, ?_, O.ne, O'.obj, _, O'.ns, fun g => ?_, fun g hg => ?_⟩
  · have := length_putF f y fs; omega
  · show RelO ((putF f y fs).lookup g) (if g = f then some u else mA g)
    rw [lookup_putF]
    by_cases q : g = f
    · rw [if_pos q, if_pos q]; exact ry
    · rw [if_neg q, if_neg q]; exact r g
  · by_cases q : g = f
    · rw [q]; exact (keys_putF f y fs).1
    · refine (keys_putF f y fs).2 g (wi g fun z => hg ?_)
      show (if g = f then some u else mA g) = none
      rw [if_neg q]; exact z
theorem Inv.made (I : Inv X pins σ H s) : Inv X pins σ (upd (upd H s.heap.objs.size (.own (s.heap.objs.size + 1))) (s.heap.objs.size + 1) (.ins C s.heap.objs.size []))
    { s with heap := (s.heap.push PySem.W.emptyDict).push (PySem.W.instObj C s.heap.objs.size) } := by
  have e1 : (s.heap.push PySem.W.emptyDict).get? s.heap.objs.size = some PySem.W.emptyDict := Heap.get?_push_size s.heap rfl
  have e2 : ((s.heap.push PySem.W.emptyDict).push (PySem.W.instObj C s.heap.objs.size)).get? (s.heap.objs.size + 1) = some (PySem.W.instObj C s.heap.objs.size) := by
    have := Heap.get?_push_size (s.heap.push PySem.W.emptyDict) (o := PySem.W.instObj C s.heap.objs.size) rfl
    rwa [Heap.size_push] at this
  have e3 : (s.heap.push PySem.W.emptyDict).Ns s.heap.objs.size (fun _ => none) := ⟨PySem.W.emptyDict, #[], _, e1, rfl, (fun e he => absurd he (by simp)), fun _ => rfl⟩
  have I1 := I.laid (a := s.heap.objs.size) (o := .own (s.heap.objs.size + 1)) (h' := s.heap.push PySem.W.emptyDict) (t' := s.toks) (fun b u q => Heap.get?_push_of_some _ q) (Nat.le_refl _) ⟨_, e1⟩
  refine I1.laid (a := s.heap.objs.size + 1) (o := .ins C s.heap.objs.size []) (t' := s.toks) (fun b u q => Heap.get?_push_of_some _ q) (Nat.le_of_eq (Heap.size_push _ _)) ?_
  have ne : s.heap.objs.size ≠ s.heap.objs.size + 1 := Nat.ne_of_lt (Nat.lt_succ_self _)
  refine ⟨by rw [upd_ne ne, upd_same], Nat.zero_le _, ne, e2, fun _ => none, (Heap.Ns1.of_empty e3).at fun o q => Heap.get?_push_of_some _ q, fun _ => True.intro, fun y hy => absurd rfl hy⟩
theorem attr_of {prog : Program} {w : World} {env : Env} {e : Expr} {f : Str} {pos : Pos} {s : Shared} {Q : Value → Shared → Prop} (hb : attributeBase e f env (eval e env) = eval e env)
    (h : wpAny (model prog w) A (eval e env) (fun o s₁ => wpAny (model prog w) A (getAttr o f true) Q E s₁) E s) : wpAny (model prog w) A (eval (.Attribute e f pos) env) Q E s :=
  Attribute_any_ h (by rw [arm_eval_Attribute, hb])
end
noncomputable def tFld (K : PySem.W.Frag) (ta : TE) (f : Str) : TE := fun σ H Q => ta σ H fun x H1 => ∃ a C dx fs v, x = .ref a ∧ H1 a = some (.ins C dx fs) ∧ Cls K C ∧ NoAttr K C f ∧ fs.lookup f = some v ∧ Q v H1
noncomputable def sFld (K : PySem.W.Frag) (ta tv : TE) (f : Str) : TS := fun D σ H => tv σ H fun y H1 => ta σ H1 fun x H2 => ∃ a C dx fs, x = .ref a ∧ H2 a = some (.ins C dx fs) ∧ Cls K C ∧ NoAttr K C f ∧ fs.length < 1000 ∧
  D.nx σ (upd H2 a (.ins C dx (putF f y fs)))
section
variable {X : Cx} {o e value : Expr} {f : Str} {pos pos' tpos : Pos} {ta tv : TE}
theorem pe_fld (he : PE X e ta) (hb : attributeBase e f X.env (eval e X.env) = eval e X.env) : PE X (.Attribute e f pos) (tFld X.K ta f) := by
  intro pins s σ H Q I h
  refine attr_of hb (thn (he pins s σ H _ I h) fun u s1 ⟨x, H1, I1, rx, a, C, dx, fs, v, ex, ea, c, n, l, q⟩ => ?_)
  subst ex
  obtain rfl : u = Value.ref a := rx
  exact getattr_ok I1 ea c n l fun u' s2 I2 ru => ⟨v, H1, I2, ru, q⟩
theorem ps_fld (ha : PE X o ta) (hv : PE X value tv) (hs : swapsWith value (some (.Attribute o f pos')) pos.line X.env = pure false) : PS X (.Assign [.Attribute o f pos'] value pos) (sFld X.K ta tv f) := by
  intro pins s σ H D I h
  refine plainObj_wpAny_Assign_Attribute (thn (hv pins s σ H _ I h) fun u s1 ⟨y, H1, I1, ry, q⟩ => thn (ha pins s1 σ H1 _ I1 q) fun ov s2 ⟨x, H2, I2, rx, a, C, dx, fs, ex, ea, c, n, l, q2⟩ => ?_) hs
  subst ex
  obtain rfl : ov = Value.ref a := rx
  exact setattr_ok I2 ea c n l ry fun s3 I3 => ⟨σ, _, I3, q2⟩
end
section
variable {X : Cx} {pins : List (Addr × Obj)} {σ : St} {H : Hp} {s : Shared} {A : Around} {E : Value → Shared → Prop} {Q : Value → Shared → Prop} {c : Value} {b : Bool}
end
end L2
namespace L2
open PySem PySem.Spec PyProof.Rows
structure Room (k : Nat) (A : Around) : Prop where
  hd : A.handled = none
  dp : A.depth + 3 * k + 5 < recursionLimit
  un : A.units + 16 * k + 200 < cLine
theorem Room.mono {j k : Nat} {A : Around} (r : Room k A) (h : j ≤ k) : Room j A := ⟨r.hd, by have := r.dp; omega, by have := r.un; omega⟩
theorem Room.deeper {k : Nat} {A : Around} (r : Room (k + 1) A) (env : Env) : Room k (A.deeper env) :=
  ⟨r.hd, by have := r.dp; show A.depth + 1 + 3 * k + 5 < _; omega, by have := r.un; show A.units + 3 + 16 * k + 200 < _; omega⟩
theorem make_depth {A : Around} {C : Addr} {us : List Value} {kw : List (Str × Value)} : (A.under (.builtin "type.__call__" ⟨.ref C :: us, kw⟩)).depth = A.depth + 1 := by
  first | rfl | simp [Around.under, Code.weight, Code.isCreation, Code.isGuard, Code.isCaller, Code.frames, Code.isFrame, guardIds]
theorem make_units {A : Around} {C : Addr} {us : List Value} {kw : List (Str × Value)} : (A.under (.builtin "type.__call__" ⟨.ref C :: us, kw⟩)).units = A.units + 1 := by
  first | rfl | simp [Around.under, Code.cUnits, Code.frames, Code.isFrame]
theorem Room.make {k : Nat} {A : Around} (r : Room (k + 1) A) (C : Addr) (us : List Value) (kw : List (Str × Value)) : Room k (A.under (.builtin "type.__call__" ⟨.ref C :: us, kw⟩)) :=
  ⟨r.hd, by have := r.dp; rw [make_depth]; omega, by have := r.un; rw [make_units]; omega⟩
theorem Room.depth {k : Nat} {A : Around} (r : Room k A) : A.depth < recursionLimit := by have := r.dp; omega
noncomputable def tNil : TA := fun _ H Q => Q [] H
noncomputable def tCons (ta : TE) (tr : TA) : TA := fun σ H Q => ta σ H fun x H1 => tr σ H1 fun xs H2 => Q (x :: xs) H2
section
variable {X : Cx} {e : Expr} {es : List Expr} {te : TE} {t : TA} {pos : Pos}
theorem pa_nil : PA X [] tNil := fun _ _ _ _ H Q I h => Calls.spliced_nil ⟨[], H, I, .nil, h⟩
theorem pa_cons (ha : PE X e te) (hr : PA X es t) (hs : starEach (e :: es) X.env = (false, eval e X.env) :: starEach es X.env := by rfl) : PA X (e :: es) (tCons te t) := by
  intro pos pins s σ H Q I h
  rw [hs]
  show wpAny _ _ (spliced ((false, eval e X.env) :: backTo pos (starEach es X.env))) _ _ s
  refine Calls.spliced_cons (thn (ha pins s σ H _ I h) fun u s1 ⟨x, H1, I1, r1, q1⟩ => ?_)
  exact thn (hr pos pins s1 σ H1 _ I1 q1) fun us s2 ⟨xs, H2, I2, r2, q2⟩ => ⟨x :: xs, H2, I2, .cons r1 r2, q2⟩
noncomputable def tLst (t : TA) : TE := fun σ H Q => t σ H fun xs H1 => xs.length ≤ sizeLine ∧ ∀ p, H1 p = none → Q (.ref p) (upd H1 p (.lst xs))
theorem pe_lst (h : PA X es t) : PE X (.List es pos) (tLst t) := by
  intro pins s σ H Q I hq
  refine wpAny_List_spliced (thn (h pos pins s σ H _ I hq) fun us s1 ⟨xs, H1, I1, r, z, q⟩ => ⟨by rw [← r.length]; exact z, ?_⟩)
  have hf : H1 s1.heap.objs.size = none := I1.hok.fresh (Nat.le_refl _)
  refine ⟨.ref s1.heap.objs.size, upd H1 s1.heap.objs.size (.lst xs), I1.laid (t' := s1.toks) (fun b u e => Heap.get?_push_of_some _ e) (Nat.le_refl _) ?_, rfl, q _ hf⟩
  exact ⟨z, us, 0, r, Heap.get?_push_size _ rfl⟩
end
noncomputable abbrev Sp := List V → Hp → VK → XK → Prop
noncomputable abbrev CXT := List Env → Hp → Shared → XK → Value → Shared → Prop
structure Env0 (P : Program) (w : World) (K : PySem.W.Frag) (mg : Str → Option Value) (base : Heap) (A : Around) (outer : List Env) (s : Shared) (H : Hp) : Prop where
  frames : A.frames = some outer
  mod : Mod K mg base
  bs : ∀ b o, base.get? b = some o → s.heap.get? b = some o ∧ H b = none
  bsz : base.objs.size ≤ s.heap.objs.size
  funs : s.heap.FunFrames base outer
  frf : ∀ b ∈ frs outer, H b = none
  hok : HOk P w H s.heap
  bare : AllBare s.gens
noncomputable def CE (outer : List Env) (P : Program) (w : World) (H : Hp) (s : Shared) (Q : VK) (u : Value) (s' : Shared) : Prop :=
  ∃ v H', s'.os = s.os ∧ AllBare s'.gens ∧ Un (frs outer) [] H H' s.heap s'.heap ∧ HOk P w H' s'.heap ∧ RelV v u ∧ Q v H'
noncomputable def CR (CX : CXT) (outer : List Env) (P : Program) (w : World) (H : Hp) (s : Shared) (Q : VK) (E : XK) (r : Result) (s' : Shared) : Prop :=
  match r with
  | .ok (.ret u) => CE outer P w H s Q u s'
  | .ok _ => False
  | .error e => CX outer H s E e s'
structure FnOk (P : Program) (w : World) (K : PySem.W.Frag) (mg : Str → Option Value) (base : Heap) (CX : CXT) (k : Nat) (f : Addr) (fd : FuncData) (ps : List Str) (sp : Sp) : Prop where
  len : ∀ vs H Q E, sp vs H Q E → vs.length = ps.length
  run : ∀ (A : Around) (outer : List Env) (s : Shared) (H : Hp) (args : Args) (us : List Value) (vs : List V) (Q : VK) (E : XK), Room k A → Env0 P w K mg base A outer s H → BindsTo s fd args (ps.zip us) → Vals vs us → sp vs H Q E →
    codeAny (model P w) A (.call (.ref f) args) (CR CX outer P w H s Q E) s
theorem Env0.make {P : Program} {w : World} {K : PySem.W.Frag} {mg : Str → Option Value} {base : Heap} {A : Around} {outer : List Env} {s : Shared} {H : Hp} (e : Env0 P w K mg base A outer s H) (C : Addr) (us : List Value) (kw : List (Str × Value)) :
    Env0 P w K mg base (A.under (.builtin "type.__call__" ⟨.ref C :: us, kw⟩)) outer s H := ⟨by first | exact e.frames | (simpa [Around.under, Code.envs, Code.isFrame, pushEnvs] using e.frames), e.mod, e.bs, e.bsz, e.funs, e.frf, e.hok, e.bare⟩
section
variable {X : Cx} {pins : List (Addr × Obj)} {σ : St} {H : Hp} {s s' : Shared}
theorem Inv.env0 (I : Inv X pins σ H s) : Env0 X.prog X.w X.K X.mg X.base X.A X.stack s H :=
  ⟨I.ok.frames, I.ok.mod, I.bs, Nat.le_trans I.ok.bsz I.sz, I.stack, I.stkFree, I.hok, I.bare⟩
theorem Inv.after {Q : VK} {u : Value} (I : Inv X pins σ H s) (h : CE X.stack X.prog X.w H s Q u s') : EP X pins σ Q u s' := by
  obtain ⟨v, H', os, bare, un, hok, r, q⟩ := h
  obtain ⟨hh, g, d, t, os'⟩ := s'
  obtain rfl : os' = s.os := os
  exact ⟨v, H', I.call (h' := hh) (g' := g) (d' := d) (t' := t) (ch := []) un hok bare (fun b z => absurd z (by simp)), r, q⟩
end
noncomputable def tCall (sp : Sp) (dvs : List V) (E : XK) (t : TA) : TE := fun σ H Q => t σ H fun vs H1 => sp (vs ++ dvs) H1 Q E
noncomputable def tMeth (C : Addr) (m : Str) (sp : Sp) (dvs : List V) (E : XK) (ta : TE) (t : TA) : TE := fun σ H Q => ta σ H fun x H1 => ∃ a dx fs, x = .ref a ∧ H1 a = some (.ins C dx fs) ∧ fs.lookup m = none ∧
  t σ H1 fun vs H2 => sp (x :: (vs ++ dvs)) H2 Q E
noncomputable def tMake (C : Addr) (sp : Sp) (dvs : List V) (E : XK) (t : TA) : TE := fun σ H Q => t σ H fun vs H1 => ∀ x dx, H1 x = none → H1 dx = none → dx ≠ x →
  sp (.ref x :: (vs ++ dvs)) (upd (upd H1 dx (.own x)) x (.ins C dx [])) (fun v H2 => v = .non ∧ Q (.ref x) H2) E
noncomputable def Binds (K : PySem.W.Frag) (fd : FuncData) (ps : List Str) (ds : List Value) : Prop :=
  ∀ (s : Shared) (us : List Value), K.In s.heap → (us ++ ds).length = ps.length → BindsTo s fd ⟨us, []⟩ (ps.zip (us ++ ds))
theorem Binds.all {K : PySem.W.Frag} {fd : FuncData} {ps : List Str} (h : ∀ us : List Value, us.length = ps.length → bindArgs fd ⟨us, []⟩ = pure (ps.zip us)) : Binds K fd ps [] := fun s us _ hl => by
  rw [List.append_nil] at hl ⊢
  exact .of_eq (h us hl)
noncomputable def Passes (CX : CXT) (X : Cx) (E : XK) : Prop := ∀ (pins : List (Addr × Obj)) (σ : St) (H : Hp) (s : Shared) (e : Value) (s' : Shared), Inv X pins σ H s → CX X.stack H s E e s' → X.xe e s'
section
variable {X : Cx} {CX : CXT} {k : Nat} {f C : Addr} {fd : FuncData} {ps : List Str} {sp : Sp} {dvs : List V} {ds : List Value} {E : XK} {x m : Str} {p pos apos : Pos} {e o : Expr} {es : List Expr} {ta : TE} {t : TA}
theorem run_fn {pins : List (Addr × Obj)} {σ : St} {H : Hp} {s : Shared} {Q : VK} {us : List Value} {vs : List V} (F : FnOk X.prog X.w X.K X.mg X.base CX k f fd ps sp) (hr : Room k X.A) (hb : Binds X.K fd ps ds) (hd : Vals dvs ds) (hx : Passes CX X E)
    (I : Inv X pins σ H s) (r : Vals vs us) (h : sp (vs ++ dvs) H Q E) : wpAny (model X.prog X.w) X.A (call (.ref f) us) (EP X pins σ Q) X.xe s := by
  have r2 : Vals (vs ++ dvs) (us ++ ds) := r.append hd
  have hl : (us ++ ds).length = ps.length := by rw [← r2.length]; exact F.len _ _ _ _ h
  refine wpAny_call (codeAny_mono (F.run X.A X.stack s H ⟨us, []⟩ (us ++ ds) (vs ++ dvs) Q E hr I.env0 (hb s us I.kIn hl) r2 h) fun r s' hq => ?_)
  cases r with
  | error e => exact hx pins σ H s e s' I hq
  | ok fl =>
    cases fl with
    | ret u => exact I.after hq
    | next => exact False.elim hq
    | brk => exact False.elim hq
    | cont => exact False.elim hq
theorem pe_call (F : FnOk X.prog X.w X.K X.mg X.base CX k f fd ps sp) (hr : Room k X.A) (hg : Gl X x) (hm : X.mg x = some (.ref f)) (hk : PySem.W.keepIn X.K (.ref f) = true) (hb : Binds X.K fd ps ds) (hd : Vals dvs ds) (hx : Passes CX X E)
    (ha : PA X (e :: es) t) (hdb : (x == ("__debug__" : Str)) = false := by decide) (he : starEach (e :: es) X.env = (false, eval e X.env) :: starEach es X.env := by rfl) (hpl : (backTo pos (starEach es X.env)).any (·.1) = false := by rfl) :
    PE X (.Call (.Name x p) (e :: es) [] pos) (tCall sp dvs E t) := by
  intro pins s σ H Q I h
  refine wpAny_Call_Name_kw (ld_glob I hg hm ?_ hdb)
  refine PySem.W.callWith_K (h₀ := X.base) I.ok.mod.kin hk (thn (ha pos pins s σ H _ I h) fun us s1 ⟨vs, H1, I1, r, q⟩ => ⟨I1.kIn, ?_⟩) he hpl
  exact run_fn F hr hb hd hx I1 r q
theorem pe_meth {pl : Sem Bool} (he : PE X o ta) (c : Cls X.K C) (hm : Meth X.K C m f) (F : FnOk X.prog X.w X.K X.mg X.base CX k f fd ps sp) (hr : Room k X.A) (hb : Binds X.K fd ps ds) (hd : Vals dvs ds) (hx : Passes CX X E) (ha : PA X (e :: es) t)
    (hst : starEach (e :: es) X.env = (false, eval e X.env) :: starEach es X.env := by rfl) (hpl : (backTo pos (starEach es X.env)).any (·.1) = false := by rfl)
    (ht : eval (.Call (.Attribute o m apos) (e :: es) [] pos) X.env = (do
      let ov ← eval o X.env
      standAt apos.atName
      let (f, first) ← holding [ov] (getMethod ov m pl)
      callWith pos f first (backTo pos (starEach (e :: es) X.env)) (backToKw pos (keywordEach [] X.env))) := by rfl) :
    PE X (.Call (.Attribute o m apos) (e :: es) [] pos) (tMeth C m sp dvs E ta t) := by
  intro pins s σ H Q I h
  refine PySem.W.methodCall_KW (pl := pl) (thn (he pins s σ H _ I h) fun u s1 ⟨x, H1, I1, rx, a, dx, fs, ex, ea, l, q⟩ => ?_) ht
  subst ex
  obtain rfl : u = Value.ref a := rx
  refine getmeth_ok I1 ea c hm l ?_
  refine PySem.W.callWith_K (first := [.ref a]) (h₀ := X.base) I.ok.mod.kin hm.kp (thn (ha pos pins s1 σ H1 _ I1 q) fun us s2 ⟨vs, H2, I2, r, q2⟩ => ⟨I2.kIn, ?_⟩) hst hpl
  exact run_fn (us := .ref a :: us) (vs := .ref a :: vs) F hr hb hd hx I2 (.cons rfl r) q2
theorem pe_meth0 {pl : Sem Bool} (he : PE X o ta) (c : Cls X.K C) (hm : Meth X.K C m f) (F : FnOk X.prog X.w X.K X.mg X.base CX k f fd ps sp) (hr : Room k X.A) (hb : Binds X.K fd ps ds) (hd : Vals dvs ds) (hx : Passes CX X E)
    (ht : eval (.Call (.Attribute o m apos) [] [] pos) X.env = (do
      let ov ← eval o X.env
      standAt apos.atName
      let (f, first) ← holding [ov] (getMethod ov m pl)
      callWith pos f first (backTo pos (starEach [] X.env)) (backToKw pos (keywordEach [] X.env))) := by rfl) :
    PE X (.Call (.Attribute o m apos) [] [] pos) (tMeth C m sp dvs E ta tNil) := by
  intro pins s σ H Q I h
  refine PySem.W.methodCall_KW (pl := pl) (thn (he pins s σ H _ I h) fun u s1 ⟨x, H1, I1, rx, a, dx, fs, ex, ea, l, q⟩ => ?_) ht
  subst ex
  obtain rfl : u = Value.ref a := rx
  refine getmeth_ok I1 ea c hm l ?_
  exact PySem.W.callWith_K0 (first := [.ref a]) I1.kIn hm.kp (run_fn (us := [.ref a]) (vs := [.ref a]) F hr hb hd hx I1 (.cons rfl .nil) q)
structure Mk (K : PySem.W.Frag) (C f : Addr) : Prop where
  makes : PySem.W.makesIn K C = true
  init : PySem.W.findIn K (.ref C) "__init__" = some (some (.ref f))
  fn : PySem.W.isFn K (.ref f) = true
  kp : PySem.W.keepIn K (.ref C) = true
theorem run_make {pins : List (Addr × Obj)} {σ : St} {H : Hp} {s : Shared} {Q : VK} {us : List Value} {vs : List V} (M : Mk X.K C f) (F : FnOk X.prog X.w X.K X.mg X.base CX k f fd ps sp) (hr : Room (k + 1) X.A) (hb : Binds X.K fd ps ds) (hd : Vals dvs ds)
    (hx : Passes CX X E) (I : Inv X pins σ H s) (r : Vals vs us)
    (h : ∀ x dx, H x = none → H dx = none → dx ≠ x → sp (.ref x :: (vs ++ dvs)) (upd (upd H dx (.own x)) x (.ins C dx [])) (fun v H2 => v = .non ∧ Q (.ref x) H2) E) :
    wpAny (model X.prog X.w) X.A (call (.ref C) us) (EP X pins σ Q) X.xe s := by
  have hq := h (s.heap.objs.size + 1) s.heap.objs.size (I.hok.fresh (Nat.le_succ _)) (I.hok.fresh (Nat.le_refl _)) (Nat.ne_of_lt (Nat.lt_succ_self _))
  have I2 := Inv.made (C := C) I
  have r2 : Vals (V.ref (s.heap.objs.size + 1) :: (vs ++ dvs)) (Value.ref (s.heap.objs.size + 1) :: (us ++ ds)) := .cons rfl (r.append hd)
  have hl : (Value.ref (s.heap.objs.size + 1) :: us ++ ds).length = ps.length := by
    have e := r2.length
    rw [F.len _ _ _ _ hq] at e
    exact e.symm
  refine wpAny_call (make_map (f := f) I.kIn M.makes M.init (beq_iff_eq.mp M.fn) (codeAny_mono (F.run _ X.stack _ _ ⟨Value.ref (s.heap.objs.size + 1) :: us, []⟩ (Value.ref (s.heap.objs.size + 1) :: (us ++ ds)) _ _ E (hr.make C us [])
    (I2.env0.make C us []) (hb _ (Value.ref (s.heap.objs.size + 1) :: us) I2.kIn hl) r2 hq) fun r s' hq' => ?_))
  cases r with
  | error e => exact hx pins σ _ _ e s' I2 hq'
  | ok fl =>
    cases fl with
    | ret u =>
      obtain ⟨v, H', I3, rv, ev, q3⟩ := I2.after hq'
      subst ev
      exact ⟨rv, ⟨V.ref (s.heap.objs.size + 1), H', I3, rfl, q3⟩⟩
    | next => exact False.elim hq'
    | brk => exact False.elim hq'
    | cont => exact False.elim hq'
theorem pe_make (M : Mk X.K C f) (F : FnOk X.prog X.w X.K X.mg X.base CX k f fd ps sp) (hr : Room (k + 1) X.A) (hg : Gl X x) (hm : X.mg x = some (.ref C)) (hb : Binds X.K fd ps ds) (hd : Vals dvs ds) (hx : Passes CX X E)
    (ha : PA X (e :: es) t) (hdb : (x == ("__debug__" : Str)) = false := by decide) (he : starEach (e :: es) X.env = (false, eval e X.env) :: starEach es X.env := by rfl) (hpl : (backTo pos (starEach es X.env)).any (·.1) = false := by rfl) :
    PE X (.Call (.Name x p) (e :: es) [] pos) (tMake C sp dvs E t) := by
  intro pins s σ H Q I h
  refine wpAny_Call_Name_kw (ld_glob I hg hm ?_ hdb)
  refine PySem.W.callWith_K (h₀ := X.base) I.ok.mod.kin M.kp (thn (ha pos pins s σ H _ I h) fun us s1 ⟨vs, H1, I1, r, q⟩ => ⟨I1.kIn, ?_⟩) he hpl
  exact run_make M F hr hb hd hx I1 r q
theorem pe_make0 (M : Mk X.K C f) (F : FnOk X.prog X.w X.K X.mg X.base CX k f fd ps sp) (hr : Room (k + 1) X.A) (hg : Gl X x) (hm : X.mg x = some (.ref C)) (hb : Binds X.K fd ps ds) (hd : Vals dvs ds) (hx : Passes CX X E)
    (hdb : (x == ("__debug__" : Str)) = false := by decide) : PE X (.Call (.Name x p) [] [] pos) (tMake C sp dvs E tNil) := by
  intro pins s σ H Q I h
  refine wpAny_Call_Name_kw (ld_glob I hg hm ?_ hdb)
  exact PySem.W.callWith_K0 I.kIn M.kp (run_make (us := []) M F hr hb hd hx I .nil h)
end
section
variable {X : Cx} {CX : CXT} {k : Nat} {f C : Addr} {fd : FuncData} {ps ks : List Str} {sp : Sp} {E : XK} {x m : Str} {p pos apos kpos : Pos} {e o : Expr} {es : List Expr} {kws : List Keyword} {te ta : TE} {t tk : TA} {nm : Option Str}
variable {g : List Value → List Value → List Value} {gV : List V → List V → List V}
end
structure FnScope (N P : List Str) (sc : Scope) : Prop where
  kind : sc.kind = .function
  co : sc.isCoroutine = false
  gen : sc.isGenerator = false
  nd : N.Nodup
  pre : N.take P.length = P
  par : ∀ x ∈ P, sc.names.lookup x = some .local ∨ sc.names.lookup x = some .cell
  nofree : ∀ y ∈ sc.names, y.2 ≠ .free
theorem bindL_out {kindOf : Str → Option NameKind} {x : Str} : ∀ {binds : List (Str × Value)} {m : Str → Option Value}, (∀ v, (x, v) ∉ binds) → bindL kindOf binds m x = m x
  | [], _, _ => rfl
  | (n, v) :: r, m, h => by
    unfold bindL
    rw [bindL_out fun w hw => h w (List.mem_cons_of_mem _ hw)]
    split
    · have : x ≠ n := by rintro rfl; exact h v List.mem_cons_self
      simp [this]
    · rfl
theorem bindC_out {kindOf : Str → Option NameKind} {x : Str} : ∀ {binds : List (Str × Value)} {m : Str → Option Value}, (∀ v, (x, v) ∉ binds) → bindC kindOf binds m x = m x
  | [], _, _ => rfl
  | (n, v) :: r, m, h => by
    unfold bindC
    rw [bindC_out fun w hw => h w (List.mem_cons_of_mem _ hw)]
    split
    · rfl
    · have : x ≠ n := by rintro rfl; exact h v List.mem_cons_self
      simp [this]
theorem bindL_get {kindOf : Str → Option NameKind} {x : Str} {v : Value} : ∀ {P : List Str} {vs : List Value} {i : Nat} {m : Str → Option Value}, P.Nodup → P[i]? = some x → vs[i]? = some v → kindOf x = some .local →
    bindL kindOf (P.zip vs) m x = some v
  | [], _, _, _, _, h, _, _ => by simp at h
  | _ :: _, [], _, _, _, _, h, _ => by simp at h
  | p :: P, w :: vs, 0, m, nd, h1, h2, hk => by
    simp at h1 h2; subst h1; subst h2
    show bindL kindOf ((p, w) :: P.zip vs) m p = _
    unfold bindL
    rw [bindL_out fun v hv => (List.nodup_cons.mp nd).1 (List.of_mem_zip hv).1, if_pos hk]
    simp
  | p :: P, w :: vs, i + 1, m, nd, h1, h2, hk => by
    show bindL kindOf ((p, w) :: P.zip vs) m x = _
    unfold bindL
    exact bindL_get (i := i) (List.nodup_cons.mp nd).2 (by simpa using h1) (by simpa using h2) hk
theorem bindC_get {kindOf : Str → Option NameKind} {x : Str} {v : Value} : ∀ {P : List Str} {vs : List Value} {i : Nat} {m : Str → Option Value}, P.Nodup → P[i]? = some x → vs[i]? = some v → kindOf x ≠ some .local →
    bindC kindOf (P.zip vs) m x = some v
  | [], _, _, _, _, h, _, _ => by simp at h
  | _ :: _, [], _, _, _, _, h, _ => by simp at h
  | p :: P, w :: vs, 0, m, nd, h1, h2, hk => by
    simp at h1 h2; subst h1; subst h2
    show bindC kindOf ((p, w) :: P.zip vs) m p = _
    unfold bindC
    rw [bindC_out fun v hv => (List.nodup_cons.mp nd).1 (List.of_mem_zip hv).1, if_neg hk]
    simp
  | p :: P, w :: vs, i + 1, m, nd, h1, h2, hk => by
    show bindC kindOf ((p, w) :: P.zip vs) m x = _
    unfold bindC
    exact bindC_get (i := i) (List.nodup_cons.mp nd).2 (by simpa using h1) (by simpa using h2) hk
noncomputable def start (N : List Str) (vs : List V) : St := vs.map some ++ List.replicate (N.length - vs.length) none
noncomputable def cxOf (CX : CXT) (P : Program) (w : World) (K : PySem.W.Frag) (mg : Str → Option Value) (base : Heap) (N : List Str) (qual : Str) (scope : Scope) (f : Addr) (cd : Value) (A : Around) (outer : List Env) (s : Shared) (H : Hp) (E : XK) : Cx where
  prog := P
  w := w
  K := K
  mg := mg
  base := base
  A := A.deeper (envOfC qual scope s.heap.objs.size f cd)
  N := N
  s_0 := s
  H_0 := H
  env := envOfC qual scope s.heap.objs.size f cd
  outer := outer
  stack := envOfC qual scope s.heap.objs.size f cd :: outer
  ex := []
  calm := true
  fn := fun _ => true
  pn := []
  xe := fun e s' => wpAny (model P w) (A.deeper (envOfC qual scope s.heap.objs.size f cd)) (leaving (envOfC qual scope s.heap.objs.size f cd) e) (fun _ s'' => CX outer H s E e s'') (fun e' s'' => CX outer H s E e' s'') s'
theorem cell_has {sc : Scope} {n : Nat} {x : Str} (h : sc.names.lookup x = some .cell) : ∃ c, (cellsFrom n sc.names []).lookup x = some c := by
  have q := PySem.W.cellsFrom_some sc.names n [] (.inl h)
  exact Option.isSome_iff_exists.mp q
theorem inv_start {CX : CXT} {P : Program} {w : World} {K : PySem.W.Frag} {mg : Str → Option Value} {base : Heap} {N ps : List Str} {qual : Str} {scope : Scope} {f : Addr} {cd : Value} {A : Around} {outer : List Env} {s s1 : Shared} {H : Hp} {E : XK} {us : List Value} {vs : List V}
    (S : FnScope N ps scope) (hd : A.handled = none) (e0 : Env0 P w K mg base A outer s H) (hl : vs.length = ps.length) (r : Vals vs us)
    (x : InCallC s s.heap.objs.size (bindL (envOfC qual scope s.heap.objs.size f cd).kindOf (ps.zip us) fun _ => none) (cellsFrom (s.heap.objs.size + 1) scope.names []) (bindC (envOfC qual scope s.heap.objs.size f cd).kindOf (ps.zip us) fun _ => none) s1) :
    Inv (cxOf CX P w K mg base N qual scope f cd A outer s H E) [] (start N vs) H s1 := by
  have hpl : ps.length ≤ N.length := by have := congrArg List.length S.pre; rw [List.length_take] at this; omega
  obtain ⟨h1, tk, rfl, hk⟩ := x.done
  have noA : ∀ b : Addr, b ∉ (cxOf CX P w K mg base N qual scope f cd A outer s H E).ex := fun b z => absurd (show b ∈ ([] : List Addr) from z) (by simp)
  refine ⟨⟨e0.mod, S.kind, rfl, rfl, Nat.le_refl _, fun y z c h1 h2 => ?_, fun y hy => ?_, fun y c _ h => ?_, fun _ => hd, Around.frames_deeper e0.frames, .inr ⟨rfl, rfl⟩, fun b z => absurd z (noA b), e0.bs, e0.bsz, fun b _ _ => noA b, fun b z => absurd z (noA b), e0.funs, e0.frf⟩,
    rfl, e0.bare, Un.kept hk, ⟨_, x.toInCall.ns, fun i y v h1 h2 h3 => ?_⟩, fun y c h => ⟨_, x.cell y c h⟩, e0.hok.fresh (Nat.le_refl _), fun y c h => ?_, fun p hp => absurd (show p ∈ ([] : List (Addr × Obj)) from hp) (by simp), e0.hok.kept hk, ?_⟩
  · exact name_of_addr x.apart (PySem.mem_of_lookup h1) (PySem.mem_of_lookup h2)
  · have hy : scope.names.lookup y = some .cell ∨ scope.names.lookup y = some .free := hy
    rcases hy with hy | hy
    · exact cell_has hy
    · exact absurd rfl (S.nofree _ (PySem.mem_of_lookup hy))
  · exact Nat.le_of_lt (x.above y c (PySem.mem_of_lookup h))
  · have hi : i < vs.length := by
      unfold start at h2
      by_cases hi : i < vs.length
      · exact hi
      · rw [List.getElem?_append_right (by simpa using hi)] at h2
        rw [List.getElem?_replicate] at h2
        split at h2 <;> cases h2
    have ha : vs[i]? = some v := by
      unfold start at h2
      rw [List.getElem?_append_left (by simpa using hi), List.getElem?_map] at h2
      cases e : vs[i]? with
      | none => rw [e] at h2; cases h2
      | some a => rw [e] at h2; cases h2; rfl
    obtain ⟨u, hu, rv⟩ := r.get ha
    have hp : ps[i]? = some y := by
      rw [← S.pre, List.getElem?_take_of_lt (by omega)]; exact h1
    have ndP : ps.Nodup := by rw [← S.pre]; exact S.nd.sublist (List.take_sublist _ _)
    refine ⟨u, rv, ?_⟩
    rcases S.par y (List.mem_of_getElem? hp) with k | k
    · exact .inl ⟨k, bindL_get ndP hp hu k⟩
    · obtain ⟨c, e⟩ := cell_has (n := s.heap.objs.size + 1) k
      refine .inr ⟨.inl k, c, e, ?_⟩
      have q := x.cell y c e
      rw [bindC_get ndP hp hu (by show scope.names.lookup y ≠ _; rw [k]; decide)] at q
      exact q
  · exact e0.hok.fresh (Nat.le_of_lt (x.above y c (PySem.mem_of_lookup h)))
  · unfold start
    show _ = N.length
    rw [List.length_append, List.length_map, List.length_replicate]
    omega
theorem fn_of {CX : CXT} {P : Program} {w : World} {K : PySem.W.Frag} {mg : Str → Option Value} {base : Heap} {k : Nat} {f : Addr} {name qual : Str} {params : Arguments} {body : List Stmt} {scope : Scope} {dV kV doc pm cdv ct oc : Value} {an od : Option Addr}
    {osl : Array (Option Value)} {N ps : List Str} {sp : Sp} (lk : K.lookup f = some ⟨oc, od, .func (PySem.W.fnOf name qual params body scope dV kV doc pm an cdv ct), osl⟩) (hcd : PySem.W.codeIn K cdv qual = true) (S : FnScope N ps scope)
    (len : ∀ vs H Q E, sp vs H Q E → vs.length = ps.length)
    (hbody : ∀ (A : Around) (outer : List Env) (s : Shared) (H : Hp) (vs : List V) (Q : VK) (E : XK), Room k (A.deeper (envOfC qual scope s.heap.objs.size f cdv)) → sp vs H Q E →
      ∃ t, PSs (cxOf CX P w K mg base N qual scope f cdv A outer s H E) body t ∧ t { nx := fun _ H' => Q .non H', rt := Q } (start N vs) H) :
    FnOk P w K mg base CX (k + 1) f (PySem.W.fnOf name qual params body scope dV kV doc pm an cdv ct) ps sp := by
  refine ⟨len, fun A outer s H args us vs Q E hr e0 hb r hsp => ?_⟩
  have hl := len _ _ _ _ hsp
  have KX : K.In s.heap := e0.mod.kin.keeps fun b o e => (e0.bs b o e).1
  have lim : s.heap.NoLimit := e0.mod.nolimit.keeps fun b o e => (e0.bs b o e).1
  have hkind : ∀ y ∈ ps.zip us, scope.names.lookup y.1 = some .local ∨ (scope.names.lookup y.1 = some .cell ∧ ((cellsFrom (s.heap.objs.size + 1) scope.names []).lookup y.1).isSome = true) := fun ⟨n, v⟩ hy => by
    rcases S.par n (List.of_mem_zip hy).1 with q | q
    · exact .inl q
    · exact .inr ⟨q, PySem.W.cellsFrom_some _ _ _ (.inl q)⟩
  refine codeAny_call_function hr.depth (KX _ _ lk) rfl S.co S.gen rfl (PySem.W.codeRec_of KX hcd) (hb _ _ _ _ ?_)
  refine wpAny_newFunctionEnv_cells S.kind hkind fun env he s1 x => ?_
  subst he
  refine ⟨lim.keeps x.toInCall.keep, codeAny_func ?_⟩
  obtain ⟨t, ht, hq⟩ := hbody A outer s H vs Q E (hr.deeper _) hsp
  have I : Inv (cxOf CX P w K mg base N qual scope f cdv A outer s H E) [] (start N vs) H s1 := inv_start S hr.hd e0 hl r x
  refine wpAny_mono (ht [] s1 (start N vs) H _ I hq) (fun fl s' hs => ?_) fun e s' hs => hs
  have fin : ∀ {σ' : St} {H' : Hp} {v : V} {u : Value}, Inv (cxOf CX P w K mg base N qual scope f cdv A outer s H E) [] σ' H' s' → RelV v u → Q v H' → CE outer P w H s Q u s' :=
    fun {σ' H' v u} J rv q => ⟨v, H', J.os, J.bare, J.base, J.hok, rv, q⟩
  cases fl with
  | ret u =>
    obtain ⟨v, σ', H', J, rv, q⟩ := hs
    exact fin J rv q
  | next =>
    obtain ⟨σ', H', J, q⟩ := hs
    exact fin (v := V.non) (u := Value.none) J rfl q
  | brk =>
    obtain ⟨_, _, _, q⟩ := hs
    exact False.elim q
  | cont =>
    obtain ⟨_, _, _, q⟩ := hs
    exact False.elim q
end L2
namespace L2
open PySem PySem.Spec PyProof.Rows
section
variable {X : Cx} {x : Str} {p pos : Pos} {e : Expr} {es : List Expr} {t : TA} {id T : String} {r : List V → Hp → VK → Prop}
noncomputable def tCB (r : List V → Hp → VK → Prop) (t : TA) : TE := fun σ H Q => t σ H fun vs H1 => r vs H1 Q
theorem pe_callB (hc : CallR X (.builtin id) r) (hg : Gl X x) (hm : X.mg x = none) (hv : bootBuiltins x = some (.builtin id)) (ha : PA X (e :: es) t) (hn : x ≠ "__name__" := by decide) (hdb : (x == ("__debug__" : Str)) = false := by decide)
    (he : starEach (e :: es) X.env = (false, eval e X.env) :: starEach es X.env := by rfl) (hpl : (backTo pos (starEach es X.env)).any (·.1) = false := by rfl) : PE X (.Call (.Name x p) (e :: es) [] pos) (tCB r t) := by
  intro pins s σ H Q I h
  refine wpAny_Call_Name_kw (ld_blt I hg hm hv ?_ hn hdb)
  exact PyProof.Rows.callWith_builtin1 (thn (ha pos pins s σ H _ I h) fun us s1 ⟨vs, H1, I1, r1, q1⟩ => hc pins s1 σ H1 vs us Q I1 r1 q1) he hpl
end
end L2
namespace HT
open PySem PyProof.Rows
section
open PySem.SeqAt
open PySem.AutoSeq1 (wpAny_loadPart')
open PySem.MeetsSeq PySem.MeetsSeq2 PySem.MeetsSeq3
end
section
variable {prog : Program} {w : World} {A : Around} {E : Value → Shared → Prop} {s : Shared}
noncomputable def sIx (n d : Nat) : Option Int → Nat
  | none => d
  | some v => if v < 0 then (v + (n : Int)).toNat else min v.toNat n
theorem sIx_none (n d : Nat) : sIx n d none = d := rfl
theorem sIx_nat (n d k : Nat) : sIx n d (some (k : Int)) = min k n := by
  show (if (k : Int) < 0 then ((k : Int) + (n : Int)).toNat else min (k : Int).toNat n) = min k n
  rw [if_neg (by omega), Int.toNat_natCast]
end
end HT
namespace L2
open PySem PySem.Spec PyProof.Rows
noncomputable abbrev TO := St → Hp → (Option Int → Hp → Prop) → Prop
noncomputable def PO (X : Cx) (e : Option Expr) (t : TO) : Prop :=
  ∀ (pins : List (Addr × Obj)) (s : Shared) (σ : St) (H : Hp) (Q : Option Int → Hp → Prop), Inv X pins σ H s → t σ H Q →
    wpAny (model X.prog X.w) X.A (evalPart e X.env) (fun u s' => ∃ o H', Inv X pins σ H' s' ∧ IsPart u o ∧ Q o H') X.xe s
noncomputable def tNoPart : TO := fun _ H Q => Q none H
noncomputable def tPart (t : TE) : TO := fun σ H Q => t σ H fun x H1 => ∃ i, x = .int i ∧ Q (some i) H1
section
variable {X : Cx} {e : Expr} {te : TE} {lo hi : Option Expr} {tl th : TO} {pos p2 : Pos}
theorem po_none : PO X none tNoPart := by
  intro pins s σ H Q I h
  rw [evalPart_none]
  exact wpAny_pure ⟨none, H, I, .none, h⟩
theorem po_some (h : PE X e te) : PO X (some e) (tPart te) := by
  intro pins s σ H Q I hw
  rw [evalPart_some]
  refine thn (h pins s σ H _ I hw) fun u s1 ⟨x, H1, I1, r1, q1⟩ => ?_
  obtain ⟨i, rfl, q⟩ := q1
  obtain ⟨t, rfl⟩ := r1
  exact ⟨some i, H1, I1, .int i t, q⟩
noncomputable def SlR (X : Cx) (r : V → Option Int → Option Int → Hp → VK → Prop) : Prop :=
  ∀ (pins : List (Addr × Obj)) (s : Shared) (σ : St) (H : Hp) (x : V) (v vl vu : Value) (lo hi : Option Int) (sl : Addr) (Q : VK), Inv X pins σ H s → RelV x v → s.heap.IsSliceOf sl vl vu .none → IsPart vl lo → IsPart vu hi → r x lo hi H Q →
    ∃ T id, typeLookup (.type T) "__getitem__" = pure (some (.builtin id)) ∧ s.TypeIs v T ∧ wpAny (model X.prog X.w) X.A (getItem v (.ref sl)) (EP X pins σ Q) X.xe s
noncomputable def tSl (r : V → Option Int → Option Int → Hp → VK → Prop) (te : TE) (tl th : TO) : TE := fun σ H Q => te σ H fun x H1 => tl σ H1 fun l H2 => th σ H2 fun u H3 => r x l u H3 Q
theorem pe_slice {r : V → Option Int → Option Int → Hp → VK → Prop} (hr : SlR X r) (he : PE X e te) (hl : PO X lo tl) (hu : PO X hi th) : PE X (.Subscript e (.Slice lo hi none p2) pos) (tSl r te tl th) := by
  intro pins s σ H Q I h
  refine Subscript_ (thn (he pins s σ H _ I h) fun v s1 ⟨x, H1, I1, r1, q1⟩ => ?_)
  refine wpAny_Slice (thn (hl pins s1 σ H1 _ I1 q1) fun vl s2 ⟨l, H2, I2, pl, q2⟩ => thn (hu pins s2 σ H2 _ I2 q2) fun vu s3 ⟨u, H3, I3, pu, q3⟩ => ?_)
  rw [evalPart_none]
  refine wpAny_pure ?_
  have I4 : Inv X pins σ H3 { s3 with heap := s3.heap.push { cls := .type "slice", data := .fields #[vl, vu, .none] } } := I3.kept (t' := s3.toks) fun b ob q => Heap.get?_push_of_some _ q
  obtain ⟨T, id, hT, ht, hg⟩ := hr pins { s3 with heap := s3.heap.push { cls := .type "slice", data := .fields #[vl, vu, .none] } } σ H3 x v vl vu l u s3.heap.objs.size Q I4 r1 (Heap.IsSliceOf.new ..) pl pu q3
  show wpAny (model X.prog X.w) X.A (subscriptTail e (.Slice lo hi none p2) v (.ref s3.heap.objs.size)) (EP X pins σ Q) X.xe { s3 with heap := s3.heap.push { cls := .type "slice", data := .fields #[vl, vu, .none] } }
  exact tail_any (ops := [.ref s3.heap.objs.size, v]) ht hT hg (by with_unfolding_all rfl)
noncomputable def cutV (xs : List V) (lo hi : Option Int) : List V := (xs.drop (HT.sIx xs.length 0 lo)).take (HT.sIx xs.length xs.length hi - HT.sIx xs.length 0 lo)
theorem cutV_length (xs : List V) (lo hi : Option Int) : (cutV xs lo hi).length ≤ xs.length := by
  unfold cutV
  rw [List.length_take, List.length_drop]
  omega
end
end L2
namespace L2
open PySem PySem.Spec PyProof.Rows
noncomputable def ixN (n : Nat) (i : Int) : Option Nat := if 0 ≤ i then (if i < n then some i.toNat else none) else if -(n : Int) ≤ i then some (i + n).toNat else none
noncomputable def atI {α : Type} (xs : List α) (i : Int) : Option α := (ixN xs.length i).bind fun j => xs[j]?
theorem ixN_seq {n : Nat} {i : Int} {j : Nat} (h : ixN n i = some j) : seqIndex? i n = some j ∧ j < n ∧ -(n : Int) ≤ i ∧ i < n := by
  unfold ixN at h
  by_cases h0 : 0 ≤ i
  · rw [if_pos h0] at h
    by_cases h1 : i < n
    · rw [if_pos h1] at h
      have e : i.toNat = j := Option.some.inj h
      exact ⟨by rw [seqIndex_of h0 h1, e], by omega, by omega, h1⟩
    · rw [if_neg h1] at h; cases h
  · rw [if_neg h0] at h
    by_cases h1 : -(n : Int) ≤ i
    · rw [if_pos h1] at h
      have e : (i + n).toNat = j := Option.some.inj h
      exact ⟨by rw [seqIndex_neg (by omega) h1, e], by omega, h1, by omega⟩
    · rw [if_neg h1] at h; cases h
theorem atI_get {α : Type} {xs : List α} {i : Int} {v : α} (h : atI xs i = some v) : ∃ j, seqIndex? i xs.length = some j ∧ xs[j]? = some v ∧ j < xs.length ∧ -(xs.length : Int) ≤ i ∧ i < xs.length := by
  unfold atI at h
  cases e : ixN xs.length i with
  | none => rw [e] at h; cases h
  | some j =>
    rw [e] at h
    obtain ⟨h1, h2, h3, h4⟩ := ixN_seq e
    exact ⟨j, h1, h, h2, h3, h4⟩
theorem atI_nat {α : Type} {xs : List α} {j : Nat} {v : α} (h : xs[j]? = some v) : atI xs (j : Int) = some v := by
  have hj : j < xs.length := (List.getElem?_eq_some_iff.mp h).1
  have e : ixN xs.length (j : Int) = some j := by
    unfold ixN
    rw [if_pos (by omega), if_pos (by omega)]; simp
  unfold atI; rw [e]; exact h
noncomputable def PlainIx (b : Expr) : Prop := ∀ o i, subscripted b false o i = operate [o, i] (getItem o i)
noncomputable def IxR (X : Cx) (r : R2) : Prop :=
  ∀ (value slice : Expr) (pins : List (Addr × Obj)) (s : Shared) (σ : St) (H : Hp) (x y : V) (v u : Value) (Q : VK), Inv X pins σ H s → RelV x v → RelV y u → r x y H Q →
    subscripted slice false v u = operate [v, u] (getItem v u) → wpAny (model X.prog X.w) X.A (subscriptTail value slice v u) (EP X pins σ Q) X.xe s
noncomputable def MtR (X : Cx) (id : String) (r : V → List V → Hp → VK → Prop) : Prop :=
  ∀ (pins : List (Addr × Obj)) (s : Shared) (σ : St) (H : Hp) (x : V) (xs : List V) (v : Value) (us : List Value) (Q : VK), Inv X pins σ H s → RelV x v → Vals xs us → r x xs H Q →
    wpAny (model X.prog X.w) X.A (call (.builtin id) (v :: us)) (EP X pins σ Q) X.xe s
section
variable {X : Cx} {a b : Expr} {ta tb : TE} {pos : Pos}
theorem pe_ix {r : R2} (hr : IxR X r) (ha : PE X a ta) (hb : PE X b tb) (hs : PlainIx b) : PE X (.Subscript a b pos) (tOp r ta tb) := by
  intro pins s σ H Q I h
  exact Subscript_ (binT ha hb I h fun v u s2 x y H2 I2 rx ry q => hr a b pins s2 σ H2 x y v u Q I2 rx ry q (hs _ _))
noncomputable def rIxL (K : PySem.W.Frag) : R2 := fun x y H Q => ∃ p xs i v, x = .ref p ∧ y = .int i ∧ SqL K H p xs ∧ atI xs i = some v ∧ Q v H
noncomputable def rIxT (K : PySem.W.Frag) : R2 := fun x y H Q => ∃ p xs i v, x = .ref p ∧ y = .int i ∧ SqT K H p xs ∧ atI xs i = some v ∧ Q v H
theorem ix_list : IxR X (rIxL X.K) := by
  intro value slice pins s σ H x y v u Q I rx ry h hs
  obtain ⟨p, xs, i, z, rfl, rfl, hq, he, q⟩ := h
  cases rx
  obtain ⟨t, rfl⟩ := ry
  obtain ⟨its, r, pl, hz⟩ := I.list hq
  obtain ⟨j, h1, h2, h3, h4, h5⟩ := atI_get he
  obtain ⟨w, ew, rw'⟩ := r.get h2
  have hl := r.length
  have hn := line63
  have fin : EP X pins σ Q w s := ⟨z, H, I, rw', q⟩
  by_cases h0 : 0 ≤ i
  · have hj : i.toNat = j := by
      rw [seqIndex_of h0 h5] at h1
      exact Option.some.inj h1
    exact item_listR pl.isList h0 (by omega) (by rw [hj]; simpa using ew) fin hs
  · have hj : (i + (its.toArray.size : Int)).toNat = j := by
      rw [seqIndex_neg (by omega) h4] at h1
      rw [List.size_toArray, ← hl]
      exact Option.some.inj h1
    exact subscriptTail_builtinR (x := w) pl.isList.typeIs slot_list_getitem.lookup
      (wpAny_getItem_list_neg (Q := fun r s' => r = w ∧ EP X pins σ Q r s') pl.isList (by omega) (by rw [List.size_toArray] <;> omega) (by omega) (by rw [hj]; simpa using ew) ⟨rfl, fin⟩) hs
theorem ix_tup : IxR X (rIxT X.K) := by
  intro value slice pins s σ H x y v u Q I rx ry h hs
  obtain ⟨p, xs, i, z, rfl, rfl, hq, he, q⟩ := h
  cases rx
  obtain ⟨t, rfl⟩ := ry
  obtain ⟨its, r, pl, hz⟩ := I.tuple hq
  obtain ⟨j, h1, h2, h3, h4, h5⟩ := atI_get he
  obtain ⟨w, ew, rw'⟩ := r.get h2
  have hl := r.length
  have hn := line63
  have fin : EP X pins σ Q w s := ⟨z, H, I, rw', q⟩
  exact subscriptTail_builtinR (x := w) pl.typeIs slot_tuple_getitem.lookup
    (getItem_tuple (j := j) (Q := fun r s' => r = w ∧ EP X pins σ Q r s') pl (by omega) (by omega) (by rw [List.size_toArray, ← hl]; exact h1) (by simpa using ew) ⟨rfl, fin⟩) hs
theorem slice_bounds (lo hi : Option Int) (n : Nat) : (sliceBounds lo hi none n).1 = ((HT.sIx n 0 lo : Nat) : Int) ∧ (sliceBounds lo hi none n).2.1 = ((HT.sIx n n hi : Nat) : Int) ∧ (sliceBounds lo hi none n).2.2 = 1 := by
  refine ⟨?_, ?_, rfl⟩
  · cases lo with
    | none => simp [sliceBounds, HT.sIx]
    | some i =>
      simp only [sliceBounds, HT.sIx, Option.getD_none, show (1 : Int) > 0 by decide, if_true]
      by_cases h : i < 0
      · simp only [h, if_true] <;> omega
      · simp only [h, if_false] <;> omega
  · cases hi with
    | none => simp [sliceBounds, HT.sIx]
    | some i =>
      simp only [sliceBounds, HT.sIx, Option.getD_none, show (1 : Int) > 0 by decide, if_true]
      by_cases h : i < 0
      · simp only [h, if_true] <;> omega
      · simp only [h, if_false] <;> omega
theorem slicePick_cut (its : List Value) (lo hi : Option Int) : slicePick its.toArray lo hi none = ((its.drop (HT.sIx its.length 0 lo)).take (HT.sIx its.length its.length hi - HT.sIx its.length 0 lo)).toArray := by
  obtain ⟨h1, h2, h3⟩ := slice_bounds lo hi its.toArray.size
  unfold slicePick
  rw [h1, h2, h3]
  simp only [sliceRange_one, pick_run, List.size_toArray] <;> rfl
noncomputable def rSlL (K : PySem.W.Frag) : V → Option Int → Option Int → Hp → VK → Prop := fun x lo hi H Q => ∃ a xs, x = .ref a ∧ SqL K H a xs ∧ ∀ p, H p = none → Q (.ref p) (upd H p (.lst (cutV xs lo hi)))
theorem sl_list : SlR X (rSlL X.K) := by
  intro pins s σ H x v vl vu lo hi sl Q I rx hs pl pu h
  obtain ⟨a, xs, rfl, hx, q⟩ := h
  cases rx
  obtain ⟨its, r, ht, hz⟩ := I.list hx
  have hlen := r.length
  refine ⟨"list", _, slot_list_getitem.lookup, ht.isList.typeIs, ?_⟩
  refine wpAny_getItem_list_slice ht.isList hs pl pu .none (by simp) ?_ (by rw [List.size_toArray] <;> omega)
  rw [slicePick_cut, ← hlen]
  refine ⟨.ref s.heap.objs.size, _, I.laid (t' := s.toks) (o := .lst (cutV xs lo hi)) (fun b ob q => Heap.get?_push_of_some _ q) (Nat.le_refl _) ?_, rfl, q _ (I.hok.fresh (Nat.le_refl _))⟩
  exact ⟨Nat.le_trans (cutV_length xs lo hi) hz, _, 0, (r.drop (HT.sIx xs.length 0 lo)).take (HT.sIx xs.length xs.length hi - HT.sIx xs.length 0 lo), Heap.get?_push_size _ rfl⟩
theorem call_len_seq : CallR X (.builtin "len") (fun xs H Q => ∃ p ys, xs = [.ref p] ∧ (SqL X.K H p ys ∨ SqT X.K H p ys) ∧ Q (.int ys.length) H) := by
  intro pins s σ H xs us Q I r h
  obtain ⟨p, ys, rfl, hq, q⟩ := h
  obtain ⟨u, rfl, rx⟩ := vals1 r
  cases rx
  have hn := line63
  rcases hq with hq | hq
  · obtain ⟨its, r', pl, hz⟩ := I.list hq
    have hlen := r'.length
    exact Calls.call_len_list pl.isList (by simp only [List.size_toArray] <;> omega) ⟨.int ys.length, H, I.tok _, ⟨s.toks + 1, by rw [List.size_toArray, hlen]⟩, q⟩
  · obtain ⟨its, r', pl, hz⟩ := I.tuple hq
    have hlen := r'.length
    exact len_tuple pl (by simp only [List.size_toArray] <;> omega) ⟨.int ys.length, H, I.tok _, ⟨s.toks + 1, by rw [List.size_toArray, hlen]⟩, q⟩
noncomputable def tyV (K : PySem.W.Frag) (T : String) (x : V) (H : Hp) : Prop := match x with
  | .str _ => T = "str"
  | .int _ => T = "int"
  | .ref p => (T = "list" ∧ ∃ xs, SqL K H p xs) ∨ (T = "tuple" ∧ ∃ o, K.lookup p = some o ∧ o.cls = .type "tuple" ∧ o.dict = none) ∨
      (T = "dict" ∧ ((∃ kvs, H p = some (.dK kvs)) ∨ ∃ kvs, H p = some (.dT kvs))) ∨ (T = "set" ∧ ∃ S n, H p = some (.set S n))
  | _ => False
theorem tyV_is {pins : List (Addr × Obj)} {σ : St} {H : Hp} {s : Shared} {T : String} {x : V} {v : Value} (I : Inv X pins σ H s) (r : RelV x v) (ty : tyV X.K T x H) :
    s.TypeIs v T ∧ ∀ a, v = .ref a → ∃ ob, s.heap.get? a = some ob ∧ ob.dict = none := by
  cases x with
  | str z =>
    obtain ⟨t, rfl⟩ := r
    cases (show T = "str" from ty)
    exact ⟨typeIs_str s z t, fun _ e => nomatch e⟩
  | int i =>
    obtain ⟨t, rfl⟩ := r
    cases (show T = "int" from ty)
    exact ⟨typeIs_int s i t, fun _ e => nomatch e⟩
  | ref p =>
    cases r
    rcases ty with ⟨rfl, xs, hq⟩ | ⟨rfl, o, hk, hc, hd⟩ | ⟨rfl, hk⟩ | ⟨rfl, S, n, hk⟩
    · obtain ⟨its, _, pl, _⟩ := I.list hq
      refine ⟨pl.isList.typeIs, fun a e => ?_⟩
      cases e
      obtain ⟨o, n, e, c, hd, _⟩ := pl
      exact ⟨o, e, hd⟩
    · refine ⟨⟨o, I.kIn p o hk, hc⟩, fun a e => ?_⟩
      cases e
      exact ⟨o, I.kIn _ o hk, hd⟩
    · have z : ∃ o, s.heap.get? p = some o ∧ o.ExactDict := by
        rcases hk with ⟨kvs, hk⟩ | ⟨kvs, hk⟩
        · obtain ⟨_, _, _, _, o, _, _, e, ex, _⟩ := I.hok p _ hk
          exact ⟨o, e, ex⟩
        · obtain ⟨_, _, _, _, o, _, _, e, ex, _⟩ := I.hok p _ hk
          exact ⟨o, e, ex⟩
      obtain ⟨o, e, ex⟩ := z
      refine ⟨⟨o, e, ex.1⟩, fun a e2 => ?_⟩
      cases e2
      exact ⟨o, e, ex.2.1⟩
    · obtain ⟨o, _, _, _, e, ex, _⟩ := I.hok p _ hk
      refine ⟨⟨o, e, ex.1⟩, fun a e2 => ?_⟩
      cases e2
      exact ⟨o, e, ex.2.1⟩
  | _ => exact False.elim ty
noncomputable def tBM0 (K : PySem.W.Frag) (T : String) (r : V → List V → Hp → VK → Prop) (to : TE) : TE := fun σ H Q => to σ H fun x H1 => tyV K T x H1 ∧ r x [] H1 Q
noncomputable def tBM (K : PySem.W.Frag) (T : String) (r : V → List V → Hp → VK → Prop) (to : TE) (t : TA) : TE := fun σ H Q => to σ H fun x H1 => tyV K T x H1 ∧ t σ H1 fun xs H2 => r x xs H2 Q
variable {o e : Expr} {es : List Expr} {to : TE} {t : TA} {name : Str} {apos cpos : Pos} {T id : String} {r : V → List V → Hp → VK → Prop}
theorem pe_bm0 (pa : PlainAttrs T) (slot : Slot T name id) (hty : typeOf (.builtin id) = pure (.type "method_descriptor")) (hm : MtR X id r) (ho : PE X o to)
    (hbase : attributeBase o name X.env (eval o X.env) = eval o X.env := by rfl) (hline : (apos.endLine == cpos.line) = true := by rfl) : PE X (.Call (.Attribute o name apos) [] [] cpos) (tBM0 X.K T r to) := by
  intro pins s σ H Q I h
  refine wpAny_Call_method0_late hbase hline (thn (ho pins s σ H _ I h) fun v s1 ⟨x, H1, I1, r1, ty, q1⟩ => ?_)
  obtain ⟨h1, h2⟩ := tyV_is I1 r1 ty
  exact ⟨T, id, pa, slot, hty, h1, h2, Calls.callWith_builtin rfl (PySem.evalArgs_none (hm pins s1 σ H1 x [] v [] Q I1 r1 .nil q1))⟩
theorem pe_bm (pa : PlainAttrs T) (slot : Slot T name id) (hty : typeOf (.builtin id) = pure (.type "method_descriptor")) (hm : MtR X id r) (ho : PE X o to) (ha : PA X (e :: es) t)
    (hbase : attributeBase o name X.env (eval o X.env) = eval o X.env := by rfl)
    (hfew : ((backTo cpos (starEach (e :: es) X.env)).all (fun x => !x.1) && (backToKw cpos (keywordEach [] X.env)).all (fun x => x.1.isSome)
      && decide ((e :: es).length + ([] : List Keyword).length + (if ([] : List Keyword).isEmpty then 0 else 1) < 30)) = true := by rfl)
    (hline : (apos.endLine == cpos.line) = true := by rfl) (hs : starEach (e :: es) X.env = (false, eval e X.env) :: starEach es X.env := by rfl) (hplain : (backTo cpos (starEach es X.env)).any (·.1) = false := by rfl) :
    PE X (.Call (.Attribute o name apos) (e :: es) [] cpos) (tBM X.K T r to t) := by
  intro pins s σ H Q I h
  refine wpAny_Call_method_late hbase hfew hline rfl (thn (ho pins s σ H _ I h) fun v s1 ⟨x, H1, I1, r1, ty, q1⟩ => ?_)
  obtain ⟨h1, h2⟩ := tyV_is I1 r1 ty
  refine ⟨T, id, pa, slot, hty, h1, h2, ?_⟩
  have hA := ha cpos pins s1 σ H1 _ I1 q1
  rw [hs] at hA ⊢
  refine Calls.callWith_builtin (by show (false || (backTo cpos (starEach es X.env)).any (·.1)) = false; rw [hplain] <;> rfl) (Calls.evalArgs_plain ?_)
  exact thn hA fun us s2 ⟨vs, H2, I2, r2, q2⟩ => hm pins s2 σ H2 x vs v us Q I2 r1 r2 q2
end
end L2
namespace L2
open PySem PySem.Spec PyProof.Rows
noncomputable def MtM (X : Cx) (id : String) (r : V → List V → Hp → VK → Prop) : Prop :=
  ∀ (pins : List (Addr × Obj)) (s : Shared) (σ : St) (H : Hp) (x : V) (xs : List V) (v : Value) (us : List Value) (Q : VK), Inv X pins σ H s → RelV x v → Vals xs us → r x xs H Q →
    wpAny (model X.prog X.w) X.A (call (.builtin id) (v :: us)) (EP X pins σ Q) X.xe s
theorem Vals.one : ∀ {x : V} {us : List Value}, Vals [x] us → ∃ u, us = [u] ∧ RelV x u
  | _, _, .cons r .nil => ⟨_, rfl, r⟩
theorem Vals.reverse {xs : List V} {us : List Value} (h : Vals xs us) : Vals xs.reverse us.reverse := by
  induction h with
  | nil => exact .nil
  | cons r t ih => rw [List.reverse_cons, List.reverse_cons]; exact Vals.append ih (.cons r .nil)
section
variable {X : Cx} {pins : List (Addr × Obj)} {σ : St} {H : Hp} {s : Shared} {l b : Addr} {xs ys zs : List V}
theorem Inv.lset {its its' : List Value} {n : Nat} {f : Array Value → Array Value} {t' : Nat} (I : Inv X pins σ H s) (hH : H l = some (.lst xs))
    (e : s.heap.get? l = some { cls := .type "list", data := .seq its.toArray n }) (hf : f its.toArray = its'.toArray) (hv : Vals ys its') (hz : ys.length ≤ sizeLine) :
    Inv X pins σ (upd H l (.lst ys)) { s with heap := s.heap.update l (Obj.mapSeq f), toks := t' } := by
  have q := PySem.IsL.update e f
  rw [hf] at q
  refine I.write (x := l) (e := l) (by rw [hH]; exact trivial) (.inl rfl) (fun b' u hb hu => (Heap.get?_update_other s.heap (Obj.mapSeq f) (Ne.symm hb)).trans hu) ⟨_, q⟩ ?_
  exact ⟨hz, its', _, hv, q⟩
theorem Inv.lnew {its : List Value} {t' : Nat} (I : Inv X pins σ H s) (hv : Vals ys its) (hz : ys.length ≤ sizeLine) :
    Inv X pins σ (upd H s.heap.objs.size (.lst ys)) { s with heap := s.heap.push { cls := .type "list", data := .seq its.toArray }, toks := t' } :=
  I.laid (fun _ _ q => Heap.get?_push_of_some _ q) (Nat.le_refl _) ⟨hz, its, 0, hv, Heap.get?_push_size _ rfl⟩
theorem Inv.fresh (I : Inv X pins σ H s) : H s.heap.objs.size = none := I.hok.fresh (Nat.le_refl _)
theorem Inv.lstM (I : Inv X pins σ H s) (hH : H l = some (.lst xs)) : xs.length ≤ sizeLine ∧ ∃ (its : List Value) (n : Nat), Vals xs its ∧ xs.length = its.length ∧ s.heap.get? l = some { cls := .type "list", data := .seq its.toArray n } := by
  obtain ⟨z, its, n, r, e⟩ := I.hok l _ hH
  exact ⟨z, its, n, r, r.length, e⟩
theorem notLongL {n : Nat} (h : n ≤ sizeLine) : Builtin.List.listTooLong n = false := by
  unfold Builtin.List.listTooLong
  exact decide_eq_false (by omega)
end
section
variable {X : Cx}
noncomputable def rAppend : V → List V → Hp → VK → Prop := fun x vs H Q => ∃ l xs y, x = .ref l ∧ vs = [y] ∧ H l = some (.lst xs) ∧ xs.length < sizeLine ∧ Q .non (upd H l (.lst (xs ++ [y])))
theorem mt_append : MtM X "list.append" rAppend := by
  intro pins s σ H x vs v us Q I rx rv h
  obtain ⟨l, xs, y, rfl, rfl, hH, hz, q⟩ := h
  cases rx
  obtain ⟨u, rfl, ru⟩ := rv.one
  obtain ⟨z, its, n, r, hl, e⟩ := I.lstM hH
  refine call_meets F.slot_list_append ⟨_, e, rfl⟩ F.entry_list_append (F.args_list_append_2 _ _) (PySem.list_append l its.toArray n u (by rw [List.size_toArray]; omega)) ⟨e, ?_⟩
  refine ⟨.non, _, I.lset (its' := its ++ [u]) hH e (by simp) (r.append (.cons ru .nil)) ?_, rfl, q⟩
  rw [List.length_append, List.length_singleton]
  omega
noncomputable def rExtend : V → List V → Hp → VK → Prop := fun x vs H Q => ∃ l b xs zs, x = .ref l ∧ vs = [.ref b] ∧ H l = some (.lst xs) ∧ H b = some (.lst zs) ∧ xs.length + zs.length ≤ sizeLine ∧ Q .non (upd H l (.lst (xs ++ zs)))
theorem mt_extend : MtM X "list.extend" rExtend := by
  intro pins s σ H x vs v us Q I rx rv h
  obtain ⟨l, b, xs, zs, rfl, rfl, hH, hB, hz, q⟩ := h
  cases rx
  obtain ⟨u, rfl, ru⟩ := rv.one
  cases ru
  obtain ⟨z, its, n, r, hl, e⟩ := I.lstM hH
  obtain ⟨z2, its2, n2, r2, hl2, e2⟩ := I.lstM hB
  have hsz : its.toArray.size + its2.toArray.size ≤ sizeLine := by rw [List.size_toArray, List.size_toArray]; omega
  have hlong : ¬ (!its.toArray.isEmpty && Builtin.List.listTooLong (its.toArray.size + its2.toArray.size)) = true := by
    rw [notLongL hsz, Bool.and_false]
    exact Bool.false_ne_true
  refine call_meets F.slot_list_extend ⟨_, e, rfl⟩ F.entry_list_extend (F.args_list_extend_2 _ _)
    (AutoSeq1.list_extend_list_list_0 l its.toArray n b its2.toArray n2 hlong (by rw [List.size_toArray]; omega) (by omega)) ⟨e, e2, ?_⟩
  refine ⟨.non, _, I.lset (its' := its ++ its2) hH e (by simp) (r.append r2) ?_, rfl, q⟩
  rw [List.length_append]
  omega
noncomputable def rCat : R2 := fun x y H Q => ∃ l b xs zs, x = .ref l ∧ y = .ref b ∧ H l = some (.lst xs) ∧ H b = some (.lst zs) ∧ xs.length + zs.length ≤ sizeLine ∧ ∀ p, H p = none → Q (.ref p) (upd H p (.lst (xs ++ zs)))
theorem op_cat : OpR X (binaryOp .Add) rCat := by
  intro pins s σ H x y v u Q I rx ry h
  obtain ⟨l, b, xs, zs, rfl, rfl, hH, hB, hz, q⟩ := h
  cases rx
  cases ry
  obtain ⟨z, its, n, r, hl, e⟩ := I.lstM hH
  obtain ⟨z2, its2, n2, r2, hl2, e2⟩ := I.lstM hB
  refine PySem.P.add_list e e2 ?_ (by rw [List.size_toArray, List.size_toArray]; omega)
  have ea : its.toArray ++ its2.toArray = (its ++ its2).toArray := by simp
  rw [ea]
  exact ⟨.ref _, _, I.lnew (t' := s.toks) (r.append r2) (by rw [List.length_append]; omega), rfl, q _ I.fresh⟩
end
section
variable {prog : Program} {w : World} {A : Around} {E : Value → Shared → Prop} {s : Shared}
end
section
variable {X : Cx}
end
end L2
namespace L2
open PySem PySem.Spec PyProof.Rows
theorem Vals.ref1 {a : Addr} {us : List Value} (r : Vals [V.ref a] us) : us = [Value.ref a] := by
  cases r with
  | cons r t =>
    cases t
    cases r
    rfl
section
variable {prog : Program} {w : World} {A : Around} {E : Value → Shared → Prop} {s : Shared} {l : Addr} {its : List Value} {ns : List Int} {Q : Value → Shared → Prop}
end
section
variable {X : Cx}
end
section
variable {X : Cx}
end
section
variable {X : Cx}
end
section
variable {X : Cx}
end
section
variable {X : Cx} {pins : List (Addr × Obj)} {σ : St} {H : Hp} {s : Shared}
end
section
variable {X : Cx}
end
end L2
namespace L2
open PySem PySem.Spec PyProof.Rows
noncomputable abbrev CellAt (h : Heap) (c : Addr) (v : Option Value) : Prop := h.IsCell c v
noncomputable def relS (scope sc : Scope) : Scope :=
  { scope with names := scope.names.map fun (n, k) => if (k == .free && sc.kind == .function && sc.names.lookup n == some .cell) then (n, .cell) else (n, k) }
noncomputable def cloFrom (cells : List (Str × Addr)) : List (Str × NameKind) → List (Str × Addr) → List (Str × Addr)
  | [], acc => acc
  | (n, k) :: r, acc => if k == .free then cloFrom cells r ((n, (cells.lookup n).getD 0) :: acc) else cloFrom cells r acc
theorem closure_loop (env : Env) (f : Str × NameKind → List (Str × Addr) → Sem (ForInStep (List (Str × Addr))))
    (hf : ∀ n k c, f (n, k) c = if k == .free then (do let a ← cellOf env n; pure (.yield ((n, a) :: c))) else pure (.yield c)) :
    ∀ (names : List (Str × NameKind)) (acc : List (Str × Addr)), (∀ y ∈ names, y.2 = .free → ∃ c, env.cells.lookup y.1 = some c) → forIn names acc f = pure (cloFrom env.cells names acc)
  | [], acc, _ => by rw [List.forIn_nil]; rfl
  | (n, k) :: r, acc, h => by
    rw [List.forIn_cons, hf]
    have ih := fun acc => closure_loop env f hf r acc fun y hy => h y (List.mem_cons_of_mem _ hy)
    unfold cloFrom
    by_cases hk : (k == NameKind.free) = true
    · rw [if_pos hk, if_pos hk]
      obtain ⟨c, hc⟩ := h (n, k) List.mem_cons_self (by simpa using hk)
      have e : cellOf env n = pure c := by unfold cellOf; rw [hc]
      rw [e]
      have e2 : (env.cells.lookup n).getD 0 = c := by rw [hc]; rfl
      rw [e2]
      exact ih _
    · rw [if_neg hk, if_neg hk]
      exact ih _
theorem closure_ok {scope : Scope} {env : Env} (h : ∀ y ∈ scope.names, y.2 = .free → ∃ c, env.cells.lookup y.1 = some c) : closureFor scope env = pure (cloFrom env.cells scope.names []) := by
  simp only [closureFor]
  rw [closure_loop env _ (fun n k c => rfl) scope.names [] h]
  rfl
theorem mem_lookup {α : Type} : ∀ {l : List (Str × α)} {n : Str} {c : α}, (n, c) ∈ l → ∃ c', l.lookup n = some c'
  | (k, v) :: r, n, c, h => by
    rw [List.lookup_cons]
    cases hb : n == k with
    | true => exact ⟨_, rfl⟩
    | false =>
      rcases List.mem_cons.mp h with e | h
      · cases e; simp at hb
      · exact mem_lookup h
theorem cloFrom_mem {cells : List (Str × Addr)} : ∀ {names : List (Str × NameKind)} {acc : List (Str × Addr)} {n : Str} {c : Addr}, (n, c) ∈ cloFrom cells names acc → (n, c) ∈ acc ∨ ((n, .free) ∈ names ∧ c = (cells.lookup n).getD 0)
  | [], _, _, _, h => .inl h
  | (m, k) :: r, acc, n, c, h => by
    unfold cloFrom at h
    split at h
    · rename_i hk
      have hk : k = .free := by simpa using hk
      rcases cloFrom_mem h with h | ⟨h1, h2⟩
      · rcases List.mem_cons.mp h with e | h
        · cases e; exact .inr ⟨hk ▸ List.mem_cons_self, rfl⟩
        · exact .inl h
      · exact .inr ⟨List.mem_cons_of_mem _ h1, h2⟩
    · rcases cloFrom_mem h with h | ⟨h1, h2⟩
      · exact .inl h
      · exact .inr ⟨List.mem_cons_of_mem _ h1, h2⟩
theorem cloFrom_acc {cells : List (Str × Addr)} : ∀ {names : List (Str × NameKind)} {acc : List (Str × Addr)} {p : Str × Addr}, p ∈ acc → p ∈ cloFrom cells names acc
  | [], _, _, h => h
  | (m, k) :: r, acc, p, h => by
    unfold cloFrom
    split
    · exact cloFrom_acc (List.mem_cons_of_mem _ h)
    · exact cloFrom_acc h
theorem cloFrom_has {cells : List (Str × Addr)} : ∀ {names : List (Str × NameKind)} {acc : List (Str × Addr)} {n : Str}, (n, .free) ∈ names → (n, (cells.lookup n).getD 0) ∈ cloFrom cells names acc
  | (m, k) :: r, acc, n, h => by
    unfold cloFrom
    rcases List.mem_cons.mp h with e | h
    · cases e
      exact cloFrom_acc List.mem_cons_self
    · split
      · exact cloFrom_has h
      · exact cloFrom_has h
theorem cells_mem : ∀ {names : List (Str × NameKind)} {h : Heap} {acc : List (Str × Addr)} {x : Str} {c : Addr}, (x, c) ∈ cellsFrom h.objs.size names acc →
    (x, c) ∈ acc ∨ ((x, .cell) ∈ names ∧ h.objs.size ≤ c ∧ CellAt (pushCells h names) c none)
  | [], _, _, _, _, h => .inl h
  | (n, k) :: r, h, acc, x, c, hm => by
    unfold cellsFrom at hm
    unfold pushCells
    split at hm
    · rename_i hk
      rw [if_pos hk]
      have hk : k = .cell := by simpa using hk
      rw [← Heap.size_push h { cls := .type "cell", data := .cell none }] at hm
      rcases cells_mem hm with hm | ⟨h1, h2, h3⟩
      · rcases List.mem_cons.mp hm with e | hm
        · cases e
          exact .inr ⟨hk ▸ List.mem_cons_self, Nat.le_refl _, _, pushCells_keeps r _ _ _ (Heap.get?_push_size _ rfl), rfl⟩
        · exact .inl hm
      · rw [Heap.size_push] at h2
        exact .inr ⟨List.mem_cons_of_mem _ h1, Nat.le_of_succ_le h2, h3⟩
    · rename_i hk
      rw [if_neg hk]
      rcases cells_mem hm with hm | ⟨h1, h2, h3⟩
      · exact .inl hm
      · exact .inr ⟨List.mem_cons_of_mem _ h1, h2, h3⟩
theorem cells_acc : ∀ {names : List (Str × NameKind)} {n : Nat} {acc : List (Str × Addr)} {p : Str × Addr}, p ∈ acc → p ∈ cellsFrom n names acc
  | [], _, _, _, h => h
  | (m, k) :: r, n, acc, p, h => by
    unfold cellsFrom
    split
    · exact cells_acc (List.mem_cons_of_mem _ h)
    · exact cells_acc h
theorem cells_has : ∀ {names : List (Str × NameKind)} {n : Nat} {acc : List (Str × Addr)} {x : Str}, (x, .cell) ∈ names → ∃ c, (x, c) ∈ cellsFrom n names acc
  | (m, k) :: r, n, acc, x, h => by
    unfold cellsFrom
    rcases List.mem_cons.mp h with e | h
    · cases e
      exact ⟨n, cells_acc List.mem_cons_self⟩
    · split
      · exact cells_has h
      · exact cells_has h
theorem cells_inj : ∀ {names : List (Str × NameKind)} {h : Heap} {acc : List (Str × Addr)} {x y : Str} {c : Addr}, (∀ p ∈ acc, p.2 < h.objs.size) → (∀ x y c, (x, c) ∈ acc → (y, c) ∈ acc → x = y) →
    (x, c) ∈ cellsFrom h.objs.size names acc → (y, c) ∈ cellsFrom h.objs.size names acc → x = y
  | [], _, _, _, _, _, _, hi, h1, h2 => hi _ _ _ h1 h2
  | (n, k) :: r, h, acc, x, y, c, hl, hi, h1, h2 => by
    unfold cellsFrom at h1 h2
    split at h1
    · rename_i hk
      rw [if_pos hk] at h2
      rw [← Heap.size_push h { cls := .type "cell", data := .cell none }] at h1 h2
      refine cells_inj (h := h.push _) (fun p hp => ?_) (fun x y c a b => ?_) h1 h2
      · rw [Heap.size_push]
        rcases List.mem_cons.mp hp with rfl | hp
        · exact Nat.lt_succ_self _
        · exact Nat.lt_succ_of_lt (hl p hp)
      · rcases List.mem_cons.mp a with e | a <;> rcases List.mem_cons.mp b with e' | b
        · cases e; cases e'; rfl
        · cases e; exact absurd (hl _ b) (Nat.lt_irrefl _)
        · cases e'; exact absurd (hl _ a) (Nat.lt_irrefl _)
        · exact hi _ _ _ a b
    · rename_i hk
      rw [if_neg hk] at h2
      exact cells_inj hl hi h1 h2
theorem newEnv_comp {M : Model} {A : Around} {E : Value → Shared → Prop} {s : Shared} {scope : Scope} {globals : Addr} {closure : List (Str × Addr)} {qual : Str} {func : Option Addr} {code : Value} {around : Env} {builtins : Addr} {Q : Env → Shared → Prop}
    (h : Q (newEnv scope s.heap.objs.size globals (cellsFrom (s.heap.objs.size + 1) scope.names closure) qual func code (some around) builtins)
      { s with heap := pushCells (s.heap.push { cls := .type "dict", data := .dict #[] }) scope.names }) :
    wpAny M A (newFunctionEnv scope globals closure [] qual func code (some around) builtins) Q E s := by
  simp only [newFunctionEnv, Option.isSome_some, if_true]
  refine wpAny_bind (wpAny_alloc ?_)
  refine wpAny_bind (wpAny_layCells _ (fun n k c => rfl) scope.names closure _ _ ?_)
  rw [show ({ s with heap := s.heap.push { cls := .type "dict", data := .dict #[] } } : Shared).heap.objs.size = s.heap.objs.size + 1 from Heap.size_push ..]
  rw [List.forIn_nil]
  exact wpAny_bind (wpAny_pure (wpAny_pure h))
theorem lookup_relS {sc : Scope} : ∀ {names : List (Str × NameKind)} {x : Str} {k : NameKind},
    (names.map fun (n, k) => if (k == NameKind.free && sc.kind == .function && sc.names.lookup n == some .cell) then (n, NameKind.cell) else (n, k)).lookup x = some k →
    ∃ k', names.lookup x = some k' ∧ (k = k' ∨ (k' = .free ∧ k = .cell))
  | [], _, _, h => by simp at h
  | (n, k₀) :: r, x, k, h => by
    have ih := @lookup_relS sc r x k
    have h' : List.lookup x ((if (k₀ == NameKind.free && sc.kind == .function && sc.names.lookup n == some .cell) = true then (n, NameKind.cell) else (n, k₀)) :: (r.map _)) = some k := h
    cases hx : x == n with
    | true =>
      simp only [List.lookup_cons, hx]
      by_cases hc : (k₀ == NameKind.free && sc.kind == .function && sc.names.lookup n == some .cell) = true
      · rw [if_pos hc] at h'
        simp only [List.lookup_cons, hx] at h'
        cases h'
        simp only [Bool.and_eq_true, beq_iff_eq] at hc
        exact ⟨k₀, rfl, .inr ⟨hc.1.1, rfl⟩⟩
      · rw [if_neg hc] at h'
        simp only [List.lookup_cons, hx] at h'
        cases h'
        exact ⟨_, rfl, .inl rfl⟩
    | false =>
      simp only [List.lookup_cons, hx]
      by_cases hc : (k₀ == NameKind.free && sc.kind == .function && sc.names.lookup n == some .cell) = true
      · rw [if_pos hc] at h'
        simp only [List.lookup_cons, hx] at h'
        exact ih h'
      · rw [if_neg hc] at h'
        simp only [List.lookup_cons, hx] at h'
        exact ih h'
structure BlkOk (N : List Str) (sc scope : Scope) (own : List (Str × Nat)) : Prop where
  kind : scope.kind = .function
  uniq : ∀ y ∈ scope.names, scope.names.lookup y.1 = some y.2
  ix : ∀ p ∈ own, N[p.2]? = some p.1
  free : ∀ y ∈ scope.names, y.2 = .free → sc.names.lookup y.1 = some .cell ∨ sc.names.lookup y.1 = some .free
  own : ∀ y ∈ scope.names, y.2 = .local ∨ y.2 = .cell → y.1 ∈ own.map (·.1) ∨ y.1 ∉ N
noncomputable def wipe (σ : St) : List Nat → St
  | [] => σ
  | v :: vs => (wipe σ vs).set v none
theorem wipe_length (σ : St) : ∀ vs : List Nat, (wipe σ vs).length = σ.length
  | [] => rfl
  | v :: vs => by unfold wipe; rw [List.length_set, wipe_length σ vs]
theorem wipe_some {σ : St} {i : Nat} {x : V} : ∀ {vs : List Nat}, (wipe σ vs)[i]? = some (some x) → σ[i]? = some (some x) ∧ i ∉ vs
  | [], h => ⟨h, by simp⟩
  | v :: vs, h => by
    unfold wipe at h
    by_cases hi : v = i
    · subst hi
      by_cases hv : v < (wipe σ vs).length
      · rw [List.getElem?_set_self hv] at h; cases h
      · rw [List.getElem?_eq_none (by simpa using hv)] at h; cases h
    · rw [List.getElem?_set_ne hi] at h
      obtain ⟨h1, h2⟩ := wipe_some h
      exact ⟨h1, by simp only [List.mem_cons, not_or]; exact ⟨fun e => hi e.symm, h2⟩⟩
noncomputable abbrev Cx.blk (X : Cx) (s : Shared) (H : Hp) (scope : Scope) (cenv : Env) (fp : List Addr) : Cx := { X with s_0 := s, H_0 := H, env := cenv, outer := X.stack, ex := fp, fn := fun x => scope.names.lookup x == some .cell, pn := [], xe := fun _ _ => False }
section
variable {X : Cx} {pins : List (Addr × Obj)} {σ : St} {H : Hp} {s : Shared}
theorem block_start {scope : Scope} {own : List (Str × Nat)} {fp : List Addr} (I : Inv X pins σ H s) (ok : BlkOk X.N X.env.scope scope own) (hN : X.N.Nodup) (hfp : ∀ b ∈ fp, FpOk X pins H b ∧ b < s.heap.objs.size) :
    Inv (X.blk s H scope (compEnvC scope (cellsFrom (s.heap.objs.size + 1) scope.names (cloFrom X.env.cells scope.names [])) s.heap.objs.size X.env) fp) [] (wipe σ (own.map (·.2))) H { s with heap := pushCells (s.heap.push { cls := .type "dict", data := .dict #[] }) scope.names } := by
  have hfree : ∀ y ∈ scope.names, y.2 = .free → ∃ c, X.env.cells.lookup y.1 = some c := fun y hy e => by
    rcases ok.free y hy e with k | k
    · exact I.ok.has _ (.inl k)
    · exact I.ok.has _ (.inr k)
  generalize hcenv : compEnvC scope (cellsFrom (s.heap.objs.size + 1) scope.names (cloFrom X.env.cells scope.names [])) s.heap.objs.size X.env = cenv
  have kp : ∀ b o, s.heap.get? b = some o → (pushCells (s.heap.push { cls := .type "dict", data := .dict #[] }) scope.names).get? b = some o := fun b o e => pushCells_keeps _ _ _ _ (Heap.get?_push_of_some _ e)
  have hL : cenv.locals = s.heap.objs.size := by rw [← hcenv]; rfl
  have hcl : cenv.cells = cellsFrom (s.heap.objs.size + 1) scope.names (cloFrom X.env.cells scope.names []) := by rw [← hcenv]; rfl
  have hsc : cenv.scope = relS scope X.env.scope := by rw [← hcenv]; rfl
  rw [← Heap.size_push s.heap { cls := .type "dict", data := .dict #[] }] at hcl
  have cm : ∀ {y c}, (y, c) ∈ cloFrom X.env.cells scope.names [] → X.env.cells.lookup y = some c ∧ c < s.heap.objs.size := fun {y c} hm => by
    rcases cloFrom_mem hm with hm | ⟨h1, rfl⟩
    · cases hm
    · obtain ⟨c, hc⟩ := hfree _ h1 rfl
      rw [hc]
      obtain ⟨w, z⟩ := I.cell _ _ hc
      exact ⟨rfl, z.lt⟩
  have mem : ∀ {y c}, cenv.cells.lookup y = some c → (X.env.cells.lookup y = some c ∧ c < s.heap.objs.size) ∨ (s.heap.objs.size + 1 ≤ c ∧ CellAt (pushCells (s.heap.push { cls := .type "dict", data := .dict #[] }) scope.names) c none) := fun {y c} e => by
    rw [hcl] at e
    rcases cells_mem (PySem.mem_of_lookup e) with hm | ⟨_, h2, h3⟩
    · exact .inl (cm hm)
    · rw [Heap.size_push] at h2; exact .inr ⟨h2, h3⟩
  have look : ∀ {y}, scope.names.lookup y = some .free → ∃ c, cenv.cells.lookup y = some c ∧ X.env.cells.lookup y = some c := fun {y} hl => by
    have hy : (y, NameKind.free) ∈ scope.names := PySem.mem_of_lookup hl
    obtain ⟨c', e'⟩ := mem_lookup (cells_acc (names := scope.names) (n := (s.heap.push { cls := .type "dict", data := .dict #[] }).objs.size) (cloFrom_has (cells := X.env.cells) (acc := []) hy))
    rw [← hcl] at e'
    refine ⟨c', e', ?_⟩
    rw [hcl] at e'
    rcases cells_mem (PySem.mem_of_lookup e') with hm | ⟨h1, _, _⟩
    · exact (cm hm).1
    · have := ok.uniq _ h1
      rw [hl] at this; cases this
  have okB : (X.blk s H scope cenv fp).Ok := by
    refine ⟨I.ok.mod, by show cenv.scope.kind = _; rw [hsc]; exact ok.kind, by show cenv.globals = _; rw [← hcenv]; exact I.ok.glob, by show cenv.builtins = _; rw [← hcenv]; exact I.ok.blt, by show s.heap.objs.size ≤ cenv.locals; rw [hL]; exact Nat.le_refl _,
      fun y z c e1 e2 => ?_, fun y hy => ?_, fun y c z e => ?_, I.ok.hd, I.ok.frames, .inl rfl, fun b hb => ⟨?_, fun y c e z => ?_⟩, I.bs, Nat.le_trans I.ok.bsz I.sz, fun b o e hb => ?_, fun b hb z => ?_, I.stack, I.stkFree⟩
    · have e1 : cenv.cells.lookup y = some c := e1
      have e2 : cenv.cells.lookup z = some c := e2
      rw [hcl] at e1 e2
      refine cells_inj (fun p hp => ?_) (fun y z c a b => I.ok.inj y z c (cm a).1 (cm b).1) (PySem.mem_of_lookup e1) (PySem.mem_of_lookup e2)
      rw [Heap.size_push]
      exact Nat.lt_succ_of_lt (cm (y := p.1) (c := p.2) hp).2
    · show ∃ c, cenv.cells.lookup y = some c
      have key : ∀ k, cenv.kindOf y = some k → (k = .cell ∨ k = .free) → ∃ c, cenv.cells.lookup y = some c := fun k hk hk' => by
        unfold Env.kindOf at hk
        rw [hsc] at hk
        obtain ⟨k', e, r⟩ := lookup_relS hk
        have : k' = .cell ∨ k' = .free := by
          rcases r with rfl | ⟨rfl, _⟩
          · exact hk'
          · exact .inr rfl
        rcases this with rfl | rfl
        · obtain ⟨c, hm⟩ := cells_has (n := (s.heap.push { cls := .type "dict", data := .dict #[] }).objs.size) (acc := cloFrom X.env.cells scope.names []) (PySem.mem_of_lookup e)
          obtain ⟨c', e'⟩ := mem_lookup hm
          exact ⟨c', by rw [hcl]; exact e'⟩
        · obtain ⟨c, h1, _⟩ := look e
          exact ⟨c, h1⟩
      rcases hy with hy | hy
      · exact key _ hy (.inl rfl)
      · exact key _ hy (.inr rfl)
    · have z : (scope.names.lookup y == some NameKind.cell) = true := z
      have z : scope.names.lookup y = some .cell := by simpa using z
      have e : cenv.cells.lookup y = some c := e
      rw [hcl] at e
      rcases cells_mem (PySem.mem_of_lookup e) with hm | ⟨_, h2, _⟩
      · rcases cloFrom_mem hm with hm | ⟨h1, _⟩
        · cases hm
        · have q := ok.uniq _ h1
          rw [z] at q; cases q
      · rw [Heap.size_push] at h2
        exact Nat.le_of_succ_le h2
    · show b ≠ cenv.locals
      rw [hL]; exact Nat.ne_of_lt (hfp b hb).2
    · have e : cenv.cells.lookup y = some c := e
      rcases mem e with ⟨h1, _⟩ | ⟨h1, _⟩
      · exact (hfp b hb).1.2.2.2.2.1 y c h1 z
      · have h2 : s.heap.objs.size + 1 ≤ b := by rw [← z]; exact h1
        exact absurd (Nat.lt_of_lt_of_le (hfp b hb).2 (Nat.le_of_succ_le h2)) (Nat.lt_irrefl _)
    · rcases (hfp b hb).1.2.2.2.1 with z | z
      · exact I.ok.noex b o e z
      · exact absurd (Nat.lt_of_lt_of_le (Heap.lt_size e) (Nat.le_trans I.ok.bsz z)) (Nat.lt_irrefl _)
    · rcases List.mem_cons.mp (I.stkSub b z) with z | z
      · exact (hfp b hb).1.2.1 z
      · exact (hfp b hb).1.2.2.1 z
  refine ⟨okB, rfl, I.bare, Un.kept kp, ⟨fun _ => none, ?_, fun i y av e1 e2 e3 => ?_⟩, fun y c e => ?_, ?_, fun y c e => ?_, fun p hp => ?_, I.hok.kept kp, by rw [wipe_length]; exact I.len⟩
  · show Heap.Ns _ cenv.locals _
    rw [hL]
    exact Heap.Ns.keeps (Heap.Ns.new ..) fun b o e => pushCells_keeps _ _ _ _ e
  · obtain ⟨e2, hne⟩ := wipe_some e2
    have hfr : scope.names.lookup y = some .free ∧ (cenv.kindOf y = some .cell ∨ cenv.kindOf y = some .free) := by
      have key : ∀ k, cenv.scope.names.lookup y = some k → k = .local ∨ k = .cell ∨ k = .free → scope.names.lookup y = some .free ∧ (cenv.kindOf y = some .cell ∨ cenv.kindOf y = some .free) := fun k hk hk' => by
        have hk0 := hk
        rw [hsc] at hk
        obtain ⟨k', e, r⟩ := lookup_relS hk
        have no : ¬ (k' = .local ∨ k' = .cell) := fun hh => by
          rcases ok.own _ (PySem.mem_of_lookup e) hh with e' | e'
          · obtain ⟨p, hp, hpy⟩ := List.mem_map.mp e'
            have e3 := ok.ix p hp
            have : p.1 = y := hpy
            rw [this] at e3
            exact hne (List.mem_map.mpr ⟨p, hp, nodup_ix hN e3 e1⟩)
          · exact e' (List.mem_of_getElem? e1)
        rcases r with rfl | ⟨rfl, rfl⟩
        · rcases hk' with rfl | rfl | rfl
          · exact absurd (.inl rfl) no
          · exact absurd (.inr rfl) no
          · exact ⟨e, .inr hk0⟩
        · exact ⟨e, .inl hk0⟩
      have e3 : Vis cenv.scope y := e3
      rcases e3 with e3 | e3 | e3
      · exact key _ e3 (.inl rfl)
      · exact key _ e3 (.inr (.inl rfl))
      · exact key _ e3 (.inr (.inr rfl))
    obtain ⟨m, hn, hl⟩ := I.loc
    have hvis : Vis X.env.scope y := (ok.free _ (PySem.mem_of_lookup hfr.1) rfl).elim (fun k => .inr (.inl k)) (fun k => .inr (.inr k))
    obtain ⟨w, r, q⟩ := hl i y av e1 e2 hvis
    refine ⟨w, r, .inr ⟨hfr.2, ?_⟩⟩
    obtain ⟨c, h1, h2⟩ := look hfr.1
    rcases q with ⟨k, _⟩ | ⟨_, c', e', z⟩
    · have k : X.env.scope.names.lookup y = some .local := k
      rcases ok.free _ (PySem.mem_of_lookup hfr.1) rfl with k' | k' <;> rw [show X.env.scope.names.lookup y = _ from k'] at k <;> cases k
    · rw [h2] at e'; cases e'
      exact ⟨c, h1, z.keeps kp⟩
  · have e : cenv.cells.lookup y = some c := e
    rcases mem e with ⟨h1, _⟩ | ⟨_, z⟩
    · obtain ⟨w, z⟩ := I.cell y c h1
      exact ⟨w, z.keeps kp⟩
    · exact ⟨_, z⟩
  · show H cenv.locals = none
    rw [hL]; exact I.hok.fresh (Nat.le_refl _)
  · have e : cenv.cells.lookup y = some c := e
    rcases mem e with ⟨h1, _⟩ | ⟨h1, _⟩
    · exact I.freeC y c h1
    · exact I.hok.fresh (Nat.le_of_succ_le h1)
  · exact absurd (show p ∈ ([] : List (Addr × Obj)) ++ [] from hp) (by simp)
theorem app_ok {E : Value → Shared → Prop} {D : Addr} {xs : List V} {y : V} {v : Value} {Q : Value → Shared → Prop} (I : Inv X pins σ H s) (hD : H D = some (.lst xs)) (hz : xs.length < sizeLine) (r : RelV y v)
    (h : ∀ s', Inv X pins σ (upd H D (.lst (xs ++ [y]))) s' → Q .none s') : wpAny (model X.prog X.w) X.A (call (.builtin "list.append") [.ref D, v]) Q E s := by
  obtain ⟨hz', its, n, ri, e⟩ := I.hok D _ hD
  have hl := ri.length
  refine append_at (hsz := by rw [List.size_toArray]; omega) e fun h' sb ho' => ?_
  refine h { s with heap := h' } (I.write (t' := s.toks) (by rw [hD]; trivial) (.inl rfl) (fun b u hb q => (sb.2 b hb).trans q) ⟨_, ho'⟩ ⟨by rw [List.length_append]; exact hz, its ++ [v], n + 1, ri.append (.cons r .nil), ?_⟩)
  rw [ho']
  simp
noncomputable def PTs (X : Cx) (ifs : List Expr) (t : TT) : Prop :=
  ∀ (pins : List (Addr × Obj)) (s : Shared) (σ : St) (H : Hp) (Q : Bool → Hp → Prop), Inv X pins σ H s → t σ H Q →
    wpAny (model X.prog X.w) X.A (forIn ifs true fun c r => if r = true then do let ok ← isTrue c X.env (eval c X.env); pure (ForInStep.yield ok) else pure (ForInStep.yield r)) (TP X pins σ Q) X.xe s
noncomputable def tYes : TT := fun _ H Q => Q true H
theorem pts_nil : PTs X [] tYes := fun _ _ _ H _ I h => wpAny_tests_nil ⟨H, I, h⟩
theorem pts_one {c : Expr} {t : TT} (h : PT X c t) : PTs X [c] t := fun pins s σ H Q I hw => wpAny_tests_one (h pins s σ H Q I hw)
end
theorem thnF {α : Type} {t : Sem α} {Q Q' : α → Shared → Prop} {M : Model} {A : Around} {E : Value → Shared → Prop} {s : Shared} (h : wpAny M A t Q (fun _ _ => False) s) (hQ : ∀ a s, Q a s → Q' a s) : wpAny M A t Q' E s := wpAny_mono h hQ fun _ _ z => False.elim z
theorem compLoop_any {prog : Program} {w : World} {A : Around} {R : Result → Shared → Prop} {s : Shared} {elt target iter : Expr} {ifs : List Expr} {scope : Scope} {pos : Pos} {it acc : Value} {env : Env} (I : Nat → Shared → Prop)
    (turn : ∀ n s, I n s → wpAny (model prog w) A (pyNext it) (fun r s₁ => match r with
      | none => R (.ok .next) s₁
      | some v => wpAny (model prog w) A (letOwnedTupleGo target it v) (fun _ s₁' => wpAny (model prog w) A (assign target env v) (fun _ s₂ =>
          wpAny (model prog w) A (forIn ifs true fun c r => if r = true then do let ok ← isTrue c env (eval c env); pure (ForInStep.yield ok) else pure (ForInStep.yield r)) (fun ok s₃ =>
            if ok = true then wpAny (model prog w) A (eval elt env) (fun x s₄ =>
              wpAny (model prog w) A (call (.builtin "list.append") [acc, x]) (fun _ s₅ => ∃ m, m < n ∧ I m s₅) (notedBy (model prog w) A env fun e s' => R (.error e) s') s₄) (notedBy (model prog w) A env fun e s' => R (.error e) s') s₃
            else ∃ m, m < n ∧ I m s₃) (notedBy (model prog w) A env fun e s' => R (.error e) s') s₂) (notedBy (model prog w) A env fun e s' => R (.error e) s') s₁') (notedBy (model prog w) A env fun e s' => R (.error e) s') s₁) (notedBy (model prog w) A env fun e s' => R (.error e) s') s)
    (n : Nat) (h : I n s) :
    codeAny (model prog w) A (.compLoop (.ListComp elt [⟨target, iter, ifs, 0⟩] scope pos) 0 it acc env) R s := by
  refine codeAny_loop rfl I (fun n s hI => ?_) n h
  show wpAny _ A ((compTurn (.ListComp elt [⟨target, iter, ifs, 0⟩] scope pos) 0 it acc env).onRaise (fun x => do noteFrame x env; theTreesLotGoes x)) _ _ s
  refine wpAny_noted ?_
  rw [compTurn_list]
  refine wpAny_bind (wpAny_standAt (wpAny_bind (wpAny_mono (turn n s hI) (fun r s₁ h₁ => ?_) fun _ _ h' => h')))
  cases r with
  | none => exact wpAny_pure h₁
  | some v =>
    refine wpAny_bind (wpAny_mono h₁ (fun _ s₁' h₁' => ?_) fun _ _ h' => h')
    refine wpAny_bind (wpAny_mono h₁' (fun _ s₂ h₂ => wpAny_bind (wpAny_mono h₂ (fun ok s₃ h₃ => ?_) fun _ _ h' => h')) fun _ _ h' => h')
    cases ok with
    | false => exact wpAny_pure ⟨rfl, h₃⟩
    | true =>
      exact wpAny_bind (wpAny_bind (wpAny_mono h₃ (fun x s₄ h₄ => wpAny_bind (wpAny_mono h₄ (fun _ s₅ h₅ => wpAny_pure (wpAny_pure ⟨rfl, h₅⟩)) fun _ _ h' => h')) fun _ _ h' => h'))
section
variable {X : Cx}
noncomputable def tLc (wi : TI) (g : TG) (tt : TT) (te : TE) (vs : List Nat) : TE := fun σ H Q => wi σ H fun J H1 => ∀ D, H1 D = none → ∃ W : Nat → Nat → Hp → Prop, (∃ m, W 0 m (upd H1 D (.lst []))) ∧ ∀ i m H, W i m H →
  (J.stop i H ∧ Q (.ref D) H) ∨ (J.go i H ∧ ∃ Nx : Hp → Prop, (∀ H', Nx H' → ∃ m', m' < m ∧ W (i + 1) m' H') ∧ ∀ x H', J.yld i H x H' → g x (wipe σ vs) H' fun σ2 H2 => wipe σ2 vs = wipe σ vs ∧ tt σ2 H2 fun b H3 =>
    if b = true then te σ2 H3 fun y H4 => ∃ acc, H4 D = some (.lst acc) ∧ acc.length < sizeLine ∧ Nx (upd H4 D (.lst (acc ++ [y]))) else Nx H3)
theorem lc_core {pins : List (Addr × Obj)} {s : Shared} {σ : St} {H : Hp} {Q : VK} {elt tg iter : Expr} {ifs : List Expr} {scope : Scope} {own : List (Str × Nat)} {pos pos' : Pos} {wi : TI} {g : TG} {tt : TT} {te : TE} {use : Option (Value → Sem Unit)} {Qf : Value → Shared → Prop}
    (hc : X.calm = true) (hN : X.N.Nodup) (I : Inv X pins σ H s) (hi : PI X tg iter wi) (ok : BlkOk X.N X.env.scope scope own)
    (hg : ∀ (s : Shared) (H : Hp) (C : Addr) (cl : List (Str × Addr)) (fp : List Addr), PG (X.blk s H scope (compEnvC scope cl C X.env) fp) tg g) (ht : ∀ (s : Shared) (H : Hp) (C : Addr) (cl : List (Str × Addr)) (fp : List Addr), PTs (X.blk s H scope (compEnvC scope cl C X.env) fp) ifs tt)
    (he : ∀ (s : Shared) (H : Hp) (C : Addr) (cl : List (Str × Addr)) (fp : List Addr), PE (X.blk s H scope (compEnvC scope cl C X.env) fp) elt te) (hs : ∀ x, foldedSetIterable iter X.env x = pure x)
    (h : tLc wi g tt te (own.map (·.2)) σ H Q)
    (hRR : ∀ D C s' m H', Inv X pins σ H' s' → Q (.ref D) H' → s'.heap.Ns C m → FpOk X pins H' C → compPost (model X.prog X.w) X.A X.xe use Qf (.ref D) C (.ok .next) s') :
    wpAny (model X.prog X.w) X.A (comprehension (.ListComp elt [⟨tg, iter, ifs, 0⟩] scope pos) scope X.env pos' (newList []) false (eval iter X.env) use) Qf X.xe s := by
  have hfree : ∀ y ∈ scope.names, y.2 = .free → ∃ c, X.env.cells.lookup y.1 = some c := fun y hy e => by
    rcases ok.free y hy e with k | k
    · exact I.ok.has _ (.inl k)
    · exact I.ok.has _ (.inr k)
  refine wpAny_comprehension_free (use := use) rfl hs (closure_ok hfree) ok.kind (fun y hy e => by rw [ok.uniq y hy, e])
    (thn (hi pins s σ H _ I h) fun xv s1 hx => thn hx fun itv s2 h2 => ?_)
  obtain ⟨it, fp, tn, J, H2, e, I2, T, st2, f2, q⟩ := h2
  subst e
  refine wpAny_newObj_type (newEnv_comp ?_) (by show 0 ≤ sizeLine; decide)
  generalize hD : s2.heap.objs.size = D
  have hDn : H2 D = none := I2.hok.fresh (Nat.le_of_eq hD)
  obtain ⟨W, ⟨m0, w0⟩, turn⟩ := q D hDn
  generalize hs3 : ({ s2 with heap := s2.heap.push { cls := .type "list", data := .seq ([] : List Value).toArray } } : Shared) = s3
  have I3 : Inv X pins σ (upd H2 D (.lst [])) s3 := by
    rw [← hs3]
    refine I2.laid (t' := s2.toks) (fun b o e => Heap.get?_push_of_some _ e) (Nat.le_of_eq hD) ⟨Nat.zero_le _, [], 0, .nil, ?_⟩
    rw [← hD]
    exact Heap.get?_push_size _ rfl
  have h3 : s3.heap = s2.heap.push { cls := .type "list", data := .seq ([] : List Value).toArray } := by rw [← hs3]
  have sz : ∀ b ∈ fp, b < s2.heap.objs.size := fun b hb => by
    obtain ⟨o, e, _⟩ := T.obj _ _ st2 b hb
    exact Heap.lt_size e
  have f3 : ∀ b ∈ fp, FpOk X pins (upd H2 D (.lst [])) b ∧ b < s3.heap.objs.size := fun b hb => by
    have hlt := sz b hb
    refine ⟨⟨?_, (f2 b hb).2⟩, by rw [h3, Heap.size_push]; exact Nat.lt_succ_of_lt hlt⟩
    rw [upd_ne (by rw [← hD]; exact Nat.ne_of_lt hlt)]
    exact (f2 b hb).1
  have st3 : tn 0 s3.heap := T.keep _ _ _ st2 fun b _ o e => by rw [h3]; exact Heap.get?_push_of_some _ e
  have I4 := block_start I3 ok hN f3
  have pg := hg s3 (upd H2 D (.lst [])) s3.heap.objs.size (cellsFrom (s3.heap.objs.size + 1) scope.names (cloFrom X.env.cells scope.names [])) fp
  have pt := ht s3 (upd H2 D (.lst [])) s3.heap.objs.size (cellsFrom (s3.heap.objs.size + 1) scope.names (cloFrom X.env.cells scope.names [])) fp
  have pe := he s3 (upd H2 D (.lst [])) s3.heap.objs.size (cellsFrom (s3.heap.objs.size + 1) scope.names (cloFrom X.env.cells scope.names [])) fp
  show codeAny _ _ (.compStart (.ListComp elt [⟨tg, iter, ifs, 0⟩] scope pos) 0 (.ref it) (.ref D) (compEnvC scope (cellsFrom (s3.heap.objs.size + 1) scope.names (cloFrom X.env.cells scope.names [])) s3.heap.objs.size X.env)) (compPost (model X.prog X.w) X.A X.xe use Qf (.ref D) s3.heap.objs.size) { s3 with heap := pushCells (s3.heap.push { cls := .type "dict", data := .dict #[] }) scope.names }
  have nfp : ∀ b ∈ fp, (upd H2 D (.lst [])) b = none := fun b hb => (f3 b hb).1.1
  generalize hce : compEnvC scope (cellsFrom (s3.heap.objs.size + 1) scope.names (cloFrom X.env.cells scope.names [])) s3.heap.objs.size X.env = ce at I4 pg pt pe ⊢
  have cL : ce.locals = s3.heap.objs.size := by subst hce; rfl
  generalize hH3 : upd H2 D (.lst []) = H3 at I3 I4 pg pt pe w0 nfp f3
  generalize hs4 : ({ s3 with heap := pushCells (s3.heap.push { cls := .type "dict", data := .dict #[] }) scope.names } : Shared) = s4 at I4 ⊢
  have st4 : tn 0 s4.heap := T.keep _ _ _ st3 fun b _ o e => by rw [← hs4]; exact pushCells_keeps _ _ _ _ (Heap.get?_push_of_some _ e)
  have stat : ∀ {σ' : St} {H' : Hp} {s' : Shared}, Inv (X.blk s3 H3 scope ce fp) [] σ' H' s' → (∀ b ∈ fp, H' b = none) → ∀ b ∈ fp, FpOk (X.blk s3 H3 scope ce fp) [] H' b := fun {σ' H' s'} I' hn b hb =>
    ⟨hn b hb, (I'.ok.exf b hb).1, I'.ok.exfs b hb, .inl hb, fun x c e => (I'.ok.exf b hb).2 x c e, fun p hp => absurd (show p ∈ ([] : List (Addr × Obj)) ++ [] from hp) (by simp)⟩
  have loop : codeAny (model X.prog X.w) X.A (.compLoop (.ListComp elt [⟨tg, iter, ifs, 0⟩] scope pos) 0 (.ref it) (.ref D) ce) (compPost (model X.prog X.w) X.A X.xe use Qf (.ref D) s3.heap.objs.size) s4 := by
    refine compLoop_any (fun n s' => ∃ i H', Inv (X.blk s3 H3 scope ce fp) [] (wipe σ (own.map (·.2))) H' s' ∧ tn i s'.heap ∧ (∀ b ∈ fp, H' b = none) ∧ W i n H') ?_ m0 ⟨0, H3, I4, st4, nfp, w0⟩
    rintro n s5 ⟨i, H5, I5, st5, n5, w5⟩
    rcases turn i n H5 w5 with ⟨stop, qq⟩ | ⟨go, Nx, hNx, step⟩
    · have td := T.done (X.blk s3 H3 scope ce fp) rfl rfl rfl hc i [] s5 _ H5 (fun _ _ => False) I5 (stat I5 n5) st5 stop
      refine thnF td fun r s6 ⟨hr, I6⟩ => ?_
      subst hr
      have I7 : Inv X pins σ H5 s6 := I3.call' (ch := fp) I6.os I6.base I6.hok I6.bare fun b hb => ⟨(f3 b hb).1.2.2.2.1, (f3 b hb).1.2.1, (f3 b hb).1.2.2.2.2.1, (f3 b hb).1.2.2.2.2.2⟩
      have nC : H5 s3.heap.objs.size = none := by
        have z : H5 ce.locals = none := I6.free
        rw [cL] at z
        exact z
      obtain ⟨m, hn, _⟩ := I6.loc
      have hn : s6.heap.Ns ce.locals m := hn
      rw [cL] at hn
      exact hRR D s3.heap.objs.size s6 m H5 I7 qq hn (I3.fpOk (Nat.le_refl _) nC)
    · have ti := T.item (X.blk s3 H3 scope ce fp) rfl rfl rfl hc i [] s5 _ H5 (fun _ _ => False) I5 (stat I5 n5) st5 go
      refine thnF ti fun r s6 ⟨u, hr, h6⟩ => ?_
      subst hr
      refine thnF h6 fun _ s7 ⟨x, H7, I7, r7, y7, st7, n7⟩ => ?_
      have I7' := I7.pinned (stat I7 n7) (T.obj _ _ st7)
      refine thnF (pg _ s7 _ H7 x u _ I7' r7 (step x H7 y7)) fun _ s8 ⟨σ8, H8, I8, hw8, q8⟩ => ?_
      refine thnF (pt _ s8 σ8 H8 _ I8 q8) fun b s9 ⟨H9, I9, q9⟩ => ?_
      have fin : ∀ {s' : Shared} {H' : Hp}, Inv (X.blk s3 H3 scope ce fp) ([] ++ pinsAt fp s7.heap) σ8 H' s' → Nx H' → ∃ m, m < n ∧ ∃ i H', Inv (X.blk s3 H3 scope ce fp) [] (wipe σ (own.map (·.2))) H' s' ∧ tn i s'.heap ∧ (∀ b ∈ fp, H' b = none) ∧ W i m H' := fun {s' H'} I' nx => by
        obtain ⟨m', hm, w'⟩ := hNx H' nx
        have pin' : ∀ b ∈ fp, ∀ o, s7.heap.get? b = some o → s'.heap.get? b = some o ∧ H' b = none := fun b hb o e =>
          let z := I'.pin (b, o) (List.mem_append_right _ (List.mem_append_right _ (mem_pinsAt hb e)))
          ⟨z.1, z.2.1⟩
        have hl : (wipe σ (own.map (·.2))).length = σ8.length := by rw [← hw8, wipe_length]
        refine ⟨m', hm, i + 1, H', (I'.unpinned (pins := [])).weak hl (fun j v e => ?_), T.keep _ _ _ st7 fun b hb o e => (pin' b hb o e).1, fun b hb => ?_, w'⟩
        · rw [← hw8] at e
          exact (wipe_some e).1
        · obtain ⟨o, e, _⟩ := T.obj _ _ st7 b hb
          exact (pin' b hb o e).2
      cases b with
      | false =>
        simp only [Bool.false_eq_true, if_false] at q9 ⊢
        exact fin I9 q9
      | true =>
        simp only [if_true] at q9 ⊢
        refine thnF (pe _ s9 σ8 H9 _ I9 q9) fun z s10 ⟨yv, H10, I10, r10, acc, hD10, hz10, nx⟩ => ?_
        exact app_ok (X := X.blk s3 H3 scope ce fp) I10 hD10 hz10 r10 fun s11 I11 => fin I11 nx
  exact codeAny_compStart_list loop (T.self X.A 0 _ _ _ st4 loop)
theorem pe_lc {elt tg iter : Expr} {ifs : List Expr} {scope : Scope} {own : List (Str × Nat)} {pos : Pos} {wi : TI} {g : TG} {tt : TT} {te : TE} (hc : X.calm = true) (hN : X.N.Nodup) (hi : PI X tg iter wi) (ok : BlkOk X.N X.env.scope scope own)
    (hg : ∀ (s : Shared) (H : Hp) (C : Addr) (cl : List (Str × Addr)) (fp : List Addr), PG (X.blk s H scope (compEnvC scope cl C X.env) fp) tg g) (ht : ∀ (s : Shared) (H : Hp) (C : Addr) (cl : List (Str × Addr)) (fp : List Addr), PTs (X.blk s H scope (compEnvC scope cl C X.env) fp) ifs tt)
    (he : ∀ (s : Shared) (H : Hp) (C : Addr) (cl : List (Str × Addr)) (fp : List Addr), PE (X.blk s H scope (compEnvC scope cl C X.env) fp) elt te) (hs : ∀ x, foldedSetIterable iter X.env x = pure x := by intro _; rfl) :
    PE X (.ListComp elt [⟨tg, iter, ifs, 0⟩] scope pos) (tLc wi g tt te (own.map (·.2))) := by
  intro pins s σ H Q I h
  rw [eval_ListComp]
  refine lc_core hc hN I hi ok hg ht he hs h fun D C s' m H' I' q hn f => ⟨m, hn, fun h'' sb => ?_⟩
  obtain ⟨f0, f1, f2, f3, f4, f5⟩ := f
  exact ⟨.ref D, H', I'.turned (t' := s'.toks) (fun b o hb e => (sb.2 b hb).trans e) f0 f1 f3 f4 f5, rfl, q⟩
theorem ps_setLc {i : Nat} {y : Str} {py : Pos} {elt tg iter : Expr} {ifs : List Expr} {scope : Scope} {own : List (Str × Nat)} {pos spos : Pos} {wi : TI} {g : TG} {tt : TT} {te : TE} (hc : X.calm = true) (hN : X.N.Nodup) (hy : X.N[i]? = some y) (hyl : X.env.scope.names.lookup y = some .local)
    (hsw : swapsWith (.ListComp elt [⟨tg, iter, ifs, 0⟩] scope pos) (some (.Name y py)) spos.line X.env = pure true) (hi : PI X tg iter wi) (ok : BlkOk X.N X.env.scope scope own)
    (hg : ∀ (s : Shared) (H : Hp) (C : Addr) (cl : List (Str × Addr)) (fp : List Addr), PG (X.blk s H scope (compEnvC scope cl C X.env) fp) tg g) (ht : ∀ (s : Shared) (H : Hp) (C : Addr) (cl : List (Str × Addr)) (fp : List Addr), PTs (X.blk s H scope (compEnvC scope cl C X.env) fp) ifs tt)
    (he : ∀ (s : Shared) (H : Hp) (C : Addr) (cl : List (Str × Addr)) (fp : List Addr), PE (X.blk s H scope (compEnvC scope cl C X.env) fp) elt te) (hs : ∀ x, foldedSetIterable iter X.env x = pure x := by intro _; rfl) :
    PS X (.Assign [.Name y py] (.ListComp elt [⟨tg, iter, ifs, 0⟩] scope pos) spos) (tAsg (tLc wi g tt te (own.map (·.2))) (gName i)) := by
  intro pins s σ H D I h
  rw [exec_Assign_Name_used _ _ _ _ hsw]
  refine wpAny_bind (wpAny_standAt (wpAny_bind ?_))
  show wpAny _ X.A (do let _ ← comprehension (.ListComp elt [⟨tg, iter, ifs, 0⟩] scope pos) scope X.env (firstIterPos [⟨tg, iter, ifs, 0⟩] pos) (newList []) false (eval iter X.env) (some (assign (.Name y py) X.env))) _ _ s
  have h : tLc wi g tt te (own.map (·.2)) σ H (fun x H1 => gName i x σ H1 D.nx) := h
  refine wpAny_bind (thn (lc_core (Qf := fun _ s' => SP X pins D .next s') hc hN I hi ok hg ht he hs h fun L C s' m H' I' q hn f => ?_) fun _ s' hq => wpAny_pure (wpAny_pure hq))
  show wpAny _ _ (assign (.Name y py) X.env (.ref L)) _ _ _
  refine wpAny_assign_Name (store_ok2 (v := V.ref L) I' hN hy (.inl hyl) rfl (fun s2 I2 ⟨a, sb, ha⟩ => ?_) (.inr hyl))
  obtain ⟨f0, f1, f2, f3, f4, f5⟩ := f
  have haC : C ≠ a := by
    rcases ha with z | z
    · rw [z]; exact f1
    · exact fun e => f4 y a z e.symm
  refine ⟨m, hn.sameBut sb haC, fun h3 sb3 => ?_⟩
  exact ⟨_, H', I2.turned (t' := s2.toks) (fun b o hb e => (sb3.2 b hb).trans e) f0 f1 f3 f4 f5, q⟩
theorem sw_true {elt : Expr} {gs : List Comprehension} {scope : Scope} {pos py : Pos} {y : Str} {l : Nat} {env : Env} (hk : env.scope.kind = .function) (hy : env.scope.names.lookup y = some .local) (hl : (py.line == pos.line) = true)
    (ha : (scope.names.any fun (n, k) => n == y && (k == .local || k == .cell)) = false) : swapsWith (.ListComp elt gs scope pos) (some (.Name y py)) l env = pure true := by
  have ky : env.kindOf y = some .local := hy
  have hb : env.blockKind = .function := by unfold Env.blockKind; rw [hk]; rfl
  unfold swapsWith
  simp only [hb, ky, ha, Expr.pos, hl]
  rfl
end
theorem lc_list {K : PySem.W.Frag} {a : Addr} {xs : List V} {g : TG} {tt : TT} {te : TE} {vs : List Nat} {σ : St} {H1 : Hp} {D : Addr} {Qd : Hp → Prop} (Pv : Nat → Hp → Prop) (h0 : Pv 0 (upd H1 D (.lst []))) (hl : ∀ i H, i ≤ xs.length → Pv i H → SqL K H a xs)
    (hs : ∀ i x H, xs[i]? = some x → Pv i H → g x (wipe σ vs) H fun σ2 H2 => wipe σ2 vs = wipe σ vs ∧ tt σ2 H2 fun b H3 =>
      if b = true then te σ2 H3 fun y H4 => ∃ acc, H4 D = some (.lst acc) ∧ acc.length < sizeLine ∧ Pv (i + 1) (upd H4 D (.lst (acc ++ [y]))) else Pv (i + 1) H3) (hd : ∀ H, Pv xs.length H → Qd H) :
    ∃ W : Nat → Nat → Hp → Prop, (∃ m, W 0 m (upd H1 D (.lst []))) ∧ ∀ i m H, W i m H →
      ((Itl K a).stop i H ∧ Qd H) ∨ ((Itl K a).go i H ∧ ∃ Nx : Hp → Prop, (∀ H', Nx H' → ∃ m', m' < m ∧ W (i + 1) m' H') ∧ ∀ x H', (Itl K a).yld i H x H' → g x (wipe σ vs) H' fun σ2 H2 => wipe σ2 vs = wipe σ vs ∧ tt σ2 H2 fun b H3 =>
        if b = true then te σ2 H3 fun y H4 => ∃ acc, H4 D = some (.lst acc) ∧ acc.length < sizeLine ∧ Nx (upd H4 D (.lst (acc ++ [y]))) else Nx H3) := by
  refine ⟨fun i m H => m = xs.length - i ∧ i ≤ xs.length ∧ Pv i H, ⟨xs.length, by simp, Nat.zero_le _, h0⟩, ?_⟩
  rintro i m H ⟨rfl, hi, p⟩
  have q := hl i H hi p
  by_cases hlt : i < xs.length
  · refine .inr ⟨⟨xs, xs[i], q, by simp [hlt]⟩, Pv (i + 1), fun H' p' => ⟨xs.length - (i + 1), by omega, rfl, hlt, p'⟩, fun x H' y => ?_⟩
    obtain ⟨e, y⟩ := y
    subst e
    exact hs i x _ (y xs q) p
  · have e : i = xs.length := by omega
    subst e
    exact .inl ⟨⟨xs, q, Nat.le_refl _⟩, hd H p⟩
noncomputable def blkC (N : List Str) (sc scope : Scope) (own : List (Str × Nat)) : Bool :=
  (match scope.kind with | .function => true | _ => false) && (scope.names.all fun y => decide (scope.names.lookup y.1 = some y.2)) && (own.all fun p => decide (N[p.2]? = some p.1)) &&
    (scope.names.all fun y => match y.2 with
      | .free => (match sc.names.lookup y.1 with | some .cell => true | some .free => true | _ => false)
      | .local => decide (y.1 ∈ own.map (·.1)) || decide (y.1 ∉ N)
      | .cell => decide (y.1 ∈ own.map (·.1)) || decide (y.1 ∉ N)
      | _ => true)
theorem blkOk_by {N : List Str} {sc scope : Scope} {own : List (Str × Nat)} (h : blkC N sc scope own = true) : BlkOk N sc scope own := by
  unfold blkC at h
  simp only [Bool.and_eq_true, List.all_eq_true, decide_eq_true_eq] at h
  obtain ⟨⟨⟨h1, h2⟩, h3⟩, h4⟩ := h
  refine ⟨?_, h2, h3, fun y hy e => ?_, fun y hy e => ?_⟩
  · split at h1
    · assumption
    · cases h1
  · have q := h4 y hy
    simp only [e] at q
    split at q <;> first | exact .inl (by assumption) | exact .inr (by assumption) | cases q
  · have q := h4 y hy
    rcases e with e | e <;> (simp only [e, Bool.or_eq_true, decide_eq_true_eq] at q; exact q)
end L2
namespace L2
open PySem PySem.Spec PyProof.Rows
section
variable {prog : Program} {w : World} {A : Around} {R : Result → Shared → Prop} {s : Shared} {elt t0 i0 t1 i1 : Expr} {ifs0 ifs1 : List Expr} {scope : Scope} {pos : Pos} {it acc : Value} {env : Env}
end
section
variable {X : Cx}
end
end L2
namespace L2
open PySem PySem.Spec PyProof.Rows
section
variable {κ : Type} [DecidableEq κ]
end
section
variable {P : Program} {w : World} {H : Hp} {h : Heap} {a : Addr}
end
section
variable {X : Cx} {pins : List (Addr × Obj)} {σ : St} {H : Hp} {s : Shared} {a : Addr} {y v : V} {u r : Value} {o : Option V} {A : Around} {E : Value → Shared → Prop}
end
section
variable {X : Cx} {pins : List (Addr × Obj)} {σ : St} {H : Hp} {s : Shared} {a : Addr} {kvs : List (Key × V)} {k : Key} {u : Value} {A : Around} {E : Value → Shared → Prop}
end
section
variable {X : Cx} {o i e value : Expr} {pos pos' tpos : Pos} {td ty tv : TE}
end
section
variable {X : Cx} {pos : Pos}
end
section
variable {X : Cx} {pins : List (Addr × Obj)} {σ : St} {H : Hp} {s : Shared} {a : Addr} {y d : V} {u r : Value} {o : Option V} {A : Around} {E : Value → Shared → Prop}
end
section
variable {X : Cx} {o e f : Expr} {apos cpos : Pos} {td ty tx : TE}
end
section
variable {X : Cx} {pins : List (Addr × Obj)} {σ : St} {H : Hp} {s : Shared} {a : Addr} {kvs : List (Key × V)} {A : Around} {E : Value → Shared → Prop}
end
section
variable {X : Cx} {pins : List (Addr × Obj)} {σ : St} {H : Hp} {s : Shared} {a : Addr} {y : V} {u : Value} {A : Around} {E : Value → Shared → Prop}
end
end L2
namespace L2
open PySem PySem.Spec PyProof.Rows
section
variable {prog : Program} {w : World} {A : Around} {E : Value → Shared → Prop}
end
section
variable {X : Cx}
end
end L2
namespace L2
open PySem PySem.Spec PyProof.Rows
theorem boot_reversed5 : bootBuiltins "reversed" = some (.type "reversed") := by decide +kernel
section
variable {X : Cx} {pins : List (Addr × Obj)} {σ : St} {H : Hp} {s : Shared} {h' : Heap}
end
section
variable {X : Cx}
end
section
variable {X : Cx} {tg : Expr}
end
section
variable {X : Cx} {tg : Expr}
end
section
variable {prog : Program} {w : World} {A : Around} {E : Value → Shared → Prop} {s : Shared}
end
section
variable {X : Cx} {pins : List (Addr × Obj)} {σ : St} {H : Hp} {s : Shared} {d : Addr} {o : Obj}
end
section
variable {P : Program} {w : World} {K : PySem.W.Frag} {tg : Expr} {d : Addr} {o : Obj} {es : Array DictEntry} {ep : Nat}
end
section
variable {X : Cx} {tg e : Expr} {td : TE} {apos cpos : Pos}
end
end L2
section 
namespace Bits
open PySem PyProof.Rows
end Bits
end 
section 
namespace TL
open PySem PySem.Builtin PySem.Builtin.Str PySem.StrLaws
end TL
end 
namespace L2
open PySem PySem.Spec PyProof.Rows
section
variable {X : Cx} {pins : List (Addr × Obj)} {σ : St} {H : Hp} {s : Shared} {Q : VK}
end
section
variable {X : Cx}
end
section
variable {X : Cx} {o e : Expr} {to te : TE}
end
end L2
namespace L2
open PySem PySem.Spec PyProof.Rows
section
variable {X : Cx}
end
end L2
namespace Att
open PySem PySem.W PySem.Calls PyProof.Rows
section
variable {prog : Program} {w : World} {A : Around} {E : Value → Shared → Prop} {s : Shared} {K : Frag}
end
end Att
namespace L2
open PySem PySem.Spec PyProof.Rows
end L2
namespace L2
open PySem PySem.Spec PyProof.Rows
noncomputable abbrev KOf {K : PySem.W.Frag} {h : Heap} (_ : K.In h) : PySem.W.Frag := K
end L2
namespace L2
open PySem PySem.Spec PyProof.Rows
noncomputable def inClass (s : Stmt) (j : Nat) : Stmt := match s with
  | .ClassDef _ _ _ body _ _ _ _ _ _ _ => body.getD j (.Pass ⟨0, 0, 0, 0⟩)
  | _ => .Pass ⟨0, 0, 0, 0⟩
noncomputable def defArgs (s : Stmt) : Arguments := match s with
  | .FunctionDef _ a _ _ _ _ _ _ _ _ => a
  | _ => { posonlyargs := [], args := [], vararg := none, kwonlyargs := [], kw_defaults := [], kwarg := none, defaults := [] }
noncomputable def defBody (s : Stmt) : List Stmt := match s with
  | .FunctionDef _ _ b _ _ _ _ _ _ _ => b
  | _ => []
noncomputable def defScope (s : Stmt) : Scope := match s with
  | .FunctionDef _ _ _ _ _ _ sc _ _ _ => sc
  | _ => { kind := .function, names := [], isGenerator := false, isCoroutine := false }
noncomputable abbrev CX0 : CXT := fun _ _ _ _ _ _ => False
noncomputable abbrev E0 : XK := fun _ _ _ => False
theorem pass0 {X : Cx} : Passes CX0 X E0 := fun _ _ _ _ _ _ _ h => h.elim
structure Fun (K : PySem.W.Frag) (x qual : Str) (st : Stmt) (f : Addr) (fd : FuncData) : Prop where
  ex : ∃ (oc : Value) (od : Option Addr) (kV doc pm : Value) (an : Option Addr) (cdv ct : Value) (osl : Array (Option Value)),
    fd = PySem.W.fnOf x qual (defArgs st) (defBody st) (defScope st) .none kV doc pm an cdv ct ∧ K.lookup f = some ⟨oc, od, .func fd, osl⟩ ∧ PySem.W.codeIn K cdv qual = true
  kp : PySem.W.keepIn K (.ref f) = true
section
variable {P : Program} {w : World} {K : PySem.W.Frag} {mg : Str → Option Value} {base : Heap}
theorem Fun.ok {x qual : Str} {st : Stmt} {f : Addr} {fd : FuncData} {N ps : List Str} {k : Nat} {sp : Sp} (F : Fun K x qual st f fd) (S : FnScope N ps (defScope st)) (len : ∀ vs H Q E, sp vs H Q E → vs.length = ps.length)
    (hbody : ∀ (cdv : Value) (A : Around) (outer : List Env) (s : Shared) (H : Hp) (vs : List V) (Q : VK) (E : XK), Room k (A.deeper (envOfC qual (defScope st) s.heap.objs.size f cdv)) → sp vs H Q E →
      ∃ t, PSs (cxOf CX0 P w K mg base N qual (defScope st) f cdv A outer s H E).nox (defBody st) t ∧ t { nx := fun _ H' => Q .non H', rt := Q } (start N vs) H) : FnOk P w K mg base CX0 (k + 1) f fd ps sp := by
  obtain ⟨oc, od, kV, doc, pm, an, cdv, ct, osl, rfl, lk, hcd⟩ := F.ex
  refine fn_of lk hcd S len fun A outer s H vs Q E hr hsp => ?_
  obtain ⟨t, h, q⟩ := hbody cdv A outer s H vs Q E hr hsp
  exact ⟨t, h.nox, q⟩
theorem Fun.binds {x qual : Str} {st : Stmt} {f : Addr} {fd : FuncData} {ps : List Str} (F : Fun K x qual st f fd)
    (h : ∀ (kV doc pm : Value) (an : Option Addr) (cdv ct : Value) (us : List Value), us.length = ps.length → bindArgs (PySem.W.fnOf x qual (defArgs st) (defBody st) (defScope st) .none kV doc pm an cdv ct) ⟨us, []⟩ = pure (ps.zip us)) : Binds K fd ps [] := by
  obtain ⟨oc, od, kV, doc, pm, an, cdv, ct, osl, rfl, lk, hcd⟩ := F.ex
  exact .all (h kV doc pm an cdv ct)
theorem fun_mk {x qual : Str} {st : Stmt} {f : Addr} {oc : Value} {od an : Option Addr} {osl : Array (Option Value)} {kV doc pm cdv ct : Value} (l : K.lookup f = some ⟨oc, od, .func (PySem.W.fnOf x qual (defArgs st) (defBody st) (defScope st) .none kV doc pm an cdv ct), osl⟩)
    (c : PySem.W.codeIn K cdv qual = true) (k : PySem.W.keepIn K (.ref f) = true) : Fun K x qual st f (PySem.W.fnOf x qual (defArgs st) (defBody st) (defScope st) .none kV doc pm an cdv ct) := ⟨⟨oc, od, kV, doc, pm, an, cdv, ct, osl, rfl, l, c⟩, k⟩
end
section
variable {X : Cx}
theorem pv (i : Nat) {x : Str} {pos : Pos} (hN : X.N[i]? = some x := by rfl) (hv : Vis X.env.scope x := by first | exact Or.inl rfl | exact Or.inr (Or.inl rfl) | exact Or.inr (Or.inr rfl)) (hd : (x == ("__debug__" : Str)) = false := by decide)
    (hcd : (x == ("__classdict__" : Str)) = false := by decide) : PE X (.Name x pos) (tVar i) := pe_var hN hv hd hcd
end
theorem iteF {A B : Prop} (h : B) : if false = true then A else B := by
  rw [if_neg Bool.false_ne_true]
  exact h
theorem iteT {A B : Prop} (h : A) : if true = true then A else B := by
  rw [if_pos rfl]
  exact h
theorem ite2 {c A B : Prop} [Decidable c] (h1 : c → A) (h2 : ¬ c → B) : if c then A else B := by
  by_cases h : c
  · rw [if_pos h]
    exact h1 h
  · rw [if_neg h]
    exact h2 h
noncomputable def Same (H H' : Hp) : Prop := ∀ b o, H b = some o → H' b = some o
theorem Same.refl (H : Hp) : Same H H := fun _ _ h => h
theorem Same.trans {H H1 H2 : Hp} (a : Same H H1) (b : Same H1 H2) : Same H H2 := fun c o h => b c o (a c o h)
theorem Same.free {H H' : Hp} (e : Same H H') {l : Addr} (h : H' l = Option.none) : H l = Option.none := by
  cases q : H l with
  | none => rfl
  | some o =>
    rw [e l o q] at h
    cases h
theorem Same.seq {K : PySem.W.Frag} {H H' : Hp} {a : Addr} {xs : List V} (e : Same H H') (h : SqL K H a xs) : SqL K H' a xs := by
  rcases h with (h | ⟨o, h⟩) | h
  · exact .inl (.inl (e _ _ h))
  · exact .inl (.inr ⟨o, e _ _ h⟩)
  · exact .inr h
section
variable {κ : Type} [DecidableEq κ]
end
theorem at_of {xs : List V} {z : Int} {j : Nat} {v : V} (e : z = (j : Int)) (h : xs[j]? = some v) : atI xs z = some v := by
  rw [e]
  exact atI_nat h
end L2
section
namespace L2
open PySem PySem.Spec PyProof.Rows
open PySem.W (WData Codec OpenSpec Well WellAll ReadsW ReadsAllW)
mutual
/-- x stands for the datum d, lists and tuples all the way -/
inductive Dw (K : PySem.W.Frag) (H : Hp) : V → WData → Prop
  | non : Dw K H .non .none
  | bl (b : Bool) : Dw K H (.bl b) (.bool b)
  | int (i : Int) : Dw K H (.int i) (.int i)
  | str (x : Str) : Dw K H (.str x) (.str x)
  | byt (b : Array UInt8) : Dw K H (.byt b) (.bytes b.toList)
  | lst {a : Addr} {xs : List V} {ds : List WData} : SqL K H a xs → DwAll K H xs ds → Dw K H (.ref a) (.list ds)
  | tup {a : Addr} {xs : List V} {ds : List WData} : SqT K H a xs → DwAll K H xs ds → Dw K H (.ref a) (.tuple ds)
inductive DwAll (K : PySem.W.Frag) (H : Hp) : List V → List WData → Prop
  | nil : DwAll K H [] []
  | cons {v : V} {vs : List V} {d : WData} {ds : List WData} : Dw K H v d → DwAll K H vs ds → DwAll K H (v :: vs) (d :: ds)
end
theorem dw_ints {K : PySem.W.Frag} {H : Hp} : ∀ ns : List Int, DwAll K H (ns.map V.int) (ns.map WData.int)
  | [] => .nil
  | n :: r => .cons (.int n) (dw_ints r)
theorem ints_dw {K : PySem.W.Frag} {H : Hp} : ∀ (ns : List Int) (xs : List V), DwAll K H xs (ns.map WData.int) → xs = ns.map V.int
  | [], xs, h => by
    cases h
    rfl
  | n :: r, xs, h => by
    cases h with
    | cons h1 h2 =>
      cases h1
      rw [ints_dw r _ h2] <;> rfl
section
variable {P : Program} {w : World} {K : PySem.W.Frag} {H : Hp} {h : Heap} {R : PySem.W.WRecords} {cl : Str → Option Addr}
theorem sqL_at {a : Addr} {xs : List V} (hok : HOk P w H h) (KX : K.In h) (q : SqL K H a xs) : ∃ (its : List Value) (o : Obj) (n : Nat), Vals xs its ∧ h.get? a = some o ∧ o.cls = .type "list" ∧ o.data = .seq its.toArray n := by
  rcases q with q | ⟨o, its, n, e, hc, _, hd, _, hv⟩
  · obtain ⟨_, its, n, hv, e⟩ := (show ObjOk P w H h a (.lst xs) from q.ok hok)
    exact ⟨its, _, n, hv, e, rfl, rfl⟩
  · exact ⟨its.toList, o, n, hv, KX _ _ e, hc, by simp [hd]⟩
theorem sqT_at {a : Addr} {xs : List V} (hok : HOk P w H h) (KX : K.In h) (q : SqT K H a xs) : ∃ (its : List Value) (o : Obj) (n : Nat), Vals xs its ∧ h.get? a = some o ∧ o.cls = .type "tuple" ∧ o.data = .seq its.toArray n := by
  rcases q with q | ⟨o, its, n, e, hc, hd, _, hv⟩
  · obtain ⟨_, its, hv, o, e, hc, n, hd⟩ := (show ObjOk P w H h a (.tup xs) from q.ok hok)
    exact ⟨its, o, n, hv, e, hc, hd⟩
  · exact ⟨its.toList, o, n, hv, KX _ _ e, hc, by simp [hd]⟩
mutual
theorem Dw.reads (hok : HOk P w H h) (KX : K.In h) : ∀ (d : WData) (v : V) (u : Value), Dw K H v d → RelV v u → ∃ as, ReadsW R cl h u d as
  | .none, _, _, x, r => by
    cases x
    cases r
    exact ⟨_, ReadsW.none⟩
  | .bool b, _, _, x, r => by
    cases x
    cases r
    exact ⟨_, ReadsW.bool b⟩
  | .int i, _, _, x, r => by
    cases x
    obtain ⟨t, rfl⟩ := r
    exact ⟨_, ReadsW.int i t⟩
  | .str s, _, _, x, r => by
    cases x
    obtain ⟨t, rfl⟩ := r
    exact ⟨_, ReadsW.str s t⟩
  | .bytes b, _, _, x, r => by
    cases x
    obtain ⟨t, rfl⟩ := r
    exact ⟨_, ReadsW.bytes _ t⟩
  | .list ds, _, _, x, r => by
    cases x with
    | lst hs ha =>
      cases r
      obtain ⟨its, o, n, rv, ho, hc, hd⟩ := sqL_at hok KX hs
      obtain ⟨as, hr⟩ := Dw.readsAll hok KX ds _ its ha rv
      exact ⟨_, ReadsW.list ho hc hd hr⟩
  | .tuple ds, _, _, x, r => by
    cases x with
    | tup hs ha =>
      cases r
      obtain ⟨its, o, n, rv, ho, hc, hd⟩ := sqT_at hok KX hs
      obtain ⟨as, hr⟩ := Dw.readsAll hok KX ds _ its ha rv
      exact ⟨_, ReadsW.tuple ho hc hd hr⟩
  | .float _, _, _, x, _ => by cases x
  | .dict _, _, _, x, _ => by cases x
  | .bytearray _, _, _, x, _ => by cases x
  | .set _, _, _, x, _ => by cases x
  | .frozenset _, _, _, x, _ => by cases x
  | .obj _ _, _, _, x, _ => by cases x
theorem Dw.readsAll (hok : HOk P w H h) (KX : K.In h) : ∀ (ds : List WData) (vs : List V) (us : List Value), DwAll K H vs ds → Vals vs us → ∃ as, ReadsAllW R cl h us ds as
  | [], _, _, x, r => by
    cases x
    cases r
    exact ⟨_, ReadsAllW.nil⟩
  | d :: ds, _, _, x, r => by
    cases x with
    | cons h1 h2 =>
      cases r with
      | cons r1 r2 =>
        obtain ⟨as, q1⟩ := Dw.reads hok KX d _ _ h1 r1
        obtain ⟨bs, q2⟩ := Dw.readsAll hok KX ds _ _ h2 r2
        exact ⟨_, ReadsAllW.cons q1 q2⟩
end
end
mutual
/-- data that a codec tells -/
noncomputable def plW : WData → Bool
  | .none => true
  | .bool _ => true
  | .int _ => true
  | .str _ => true
  | .bytes _ => true
  | .list xs => plWs xs
  | .tuple xs => plWs xs
  | _ => false
noncomputable def plWs : List WData → Bool
  | [] => true
  | x :: r => plW x && plWs r
end
theorem plWs_map {α : Type} {f : α → WData} (h : ∀ a, plW (f a) = true) : ∀ l : List α, plWs (l.map f) = true
  | [] => rfl
  | x :: r => by
    show (plW (f x) && plWs (r.map f)) = true
    rw [h x, plWs_map h r] <;> rfl
theorem pl_enc : ∀ (c : Codec) (a : c.denote), plW (c.enc a) = true
  | .unit, _ => rfl
  | .bool, _ => rfl
  | .int _ _, _ => rfl
  | .nat _ _, _ => rfl
  | .u8, _ => rfl
  | .bytes _ _, _ => rfl
  | .text _ _ _ _, _ => rfl
  | .list _ _ c, a => plWs_map (fun x => pl_enc c x) a
  | .pair c d, a => by
    show (plW (c.enc a.1) && (plW (d.enc a.2) && true)) = true
    rw [pl_enc c a.1, pl_enc d a.2] <;> rfl
  | .triple c d e, a => by
    show (plW (c.enc a.1) && (plW (d.enc a.2.1) && (plW (e.enc a.2.2) && true))) = true
    rw [pl_enc c a.1, pl_enc d a.2.1, pl_enc e a.2.2] <;> rfl
  | .option c, none => rfl
  | .option c, some x => pl_enc c x
theorem pl_encAll : ∀ (cs : List Codec) (a : Codec.denoteAll cs), plWs (Codec.encAll cs a) = true
  | [], _ => rfl
  | c :: cs, a => by
    show (plW (c.enc a.1) && plWs (Codec.encAll cs a.2)) = true
    rw [pl_enc c a.1, pl_encAll cs a.2] <;> rfl
theorem weight_mem : ∀ {xs : List WData} {d : WData}, d ∈ xs → d.weight ≤ WData.weightAll xs
  | [], d, h => absurd h (by simp)
  | x :: r, d, h => by
    show d.weight ≤ x.weight + 1 + WData.weightAll r
    rcases List.mem_cons.mp h with e | m
    · rw [e]
      omega
    · have z := weight_mem m
      omega
noncomputable def toV : Value → V
  | .none => .non
  | .bool b => .bl b
  | .int i _ => .int i
  | .str x _ => .str x
  | .bytes b _ => .byt b
  | .ref a => .ref a
  | _ => .non
noncomputable def OkU (A : List Addr) : Value → Prop
  | .none => True
  | .bool _ => True
  | .int _ _ => True
  | .str _ _ => True
  | .bytes _ _ => True
  | .ref a => a ∈ A
  | _ => False
theorem OkU.mono {A B : List Addr} (h : ∀ a ∈ A, a ∈ B) : ∀ {u : Value}, OkU A u → OkU B u := fun {u} x => by
  cases u with
  | ref a => exact h a x
  | none => trivial
  | bool b => trivial
  | int i t => trivial
  | str s t => trivial
  | bytes b t => trivial
  | _ => exact False.elim x
theorem relV_toV {A : List Addr} {u : Value} (x : OkU A u) : RelV (toV u) u := by
  cases u with
  | ref a => rfl
  | none => rfl
  | bool b => rfl
  | int i t => exact ⟨t, rfl⟩
  | str s t => exact ⟨t, rfl⟩
  | bytes b t => exact ⟨t, rfl⟩
  | _ => exact False.elim x
theorem vals_toV {A : List Addr} : ∀ {vs : List Value}, (∀ u ∈ vs, OkU A u) → Vals (vs.map toV) vs
  | [], _ => .nil
  | u :: r, h => .cons (relV_toV (h u (List.mem_cons_self ..))) (vals_toV fun x hx => h x (List.mem_cons_of_mem _ hx))
noncomputable def ArgOb (h : Heap) (A : List Addr) (a : Addr) : Prop := ∃ vs : List Value, vs.length ≤ sizeLine ∧ (∀ u ∈ vs, OkU A u) ∧
  (h.get? a = some { cls := .type "list", data := .seq vs.toArray } ∨ h.get? a = some { cls := .type "tuple", data := .seq vs.toArray })
theorem ArgOb.mono {h : Heap} {A B : List Addr} {a : Addr} (k : ∀ a ∈ A, a ∈ B) (x : ArgOb h A a) : ArgOb h B a := by
  obtain ⟨vs, h1, h2, h3⟩ := x
  exact ⟨vs, h1, fun u hu => (h2 u hu).mono k, h3⟩
theorem wellAll_len {P : Params} {h : Heap} : ∀ {vs : List Value} {ds : List WData}, WellAll P h vs ds → vs.length = ds.length
  | _, _, .nil => rfl
  | _, _, .cons _ b => by
    show _ + 1 = _ + 1
    rw [wellAll_len b]
theorem well_list {P : Params} {h : Heap} {v : Value} {ds : List WData} (x : Well P h v (.list ds)) : ∃ (a : Addr) (vs : List Value), v = .ref a ∧ h.get? a = some { cls := .type "list", data := .seq vs.toArray } ∧ WellAll P h vs ds := by
  cases x with
  | list ho hall => exact ⟨_, _, rfl, ho, hall⟩
theorem well_tuple {P : Params} {h : Heap} {v : Value} {ds : List WData} (x : Well P h v (.tuple ds)) : ∃ (a : Addr) (vs : List Value), v = .ref a ∧ h.get? a = some { cls := .type "tuple", data := .seq vs.toArray } ∧ WellAll P h vs ds := by
  cases x with
  | tuple ho hall => exact ⟨_, _, rfl, ho, hall⟩
theorem well_cons {P : Params} {h : Heap} {us : List Value} {d : WData} {ds : List WData} (x : WellAll P h us (d :: ds)) : ∃ (v : Value) (vs : List Value), us = v :: vs ∧ Well P h v d ∧ WellAll P h vs ds := by
  cases x with
  | cons a b => exact ⟨_, _, rfl, a, b⟩
theorem line_of {n : Nat} (h : n ≤ 1048576) : n ≤ sizeLine := Nat.le_trans h (by decide)
section
variable {P : Params} {h : Heap}
mutual
theorem area_one : ∀ (d : WData) (v : Value), Well P h v d → plW d = true → d.weight ≤ 1048576 → ∃ A : List Addr, OkU A v ∧ ∀ a ∈ A, ArgOb h A a
  | .none, _, x, _, _ => by
    cases x
    exact ⟨[], trivial, fun a m => absurd m (by simp)⟩
  | .bool b, _, x, _, _ => by
    cases x
    exact ⟨[], trivial, fun a m => absurd m (by simp)⟩
  | .int i, _, x, _, _ => by
    cases x
    exact ⟨[], trivial, fun a m => absurd m (by simp)⟩
  | .str s, _, x, _, _ => by
    cases x
    exact ⟨[], trivial, fun a m => absurd m (by simp)⟩
  | .bytes b, _, x, _, _ => by
    cases x
    exact ⟨[], trivial, fun a m => absurd m (by simp)⟩
  | .list ds, _, x, p, z => by
    obtain ⟨a, vs, rfl, ho, hall⟩ := well_list x
    have z2 : WData.weightAll ds ≤ 1048576 := z
    obtain ⟨A, h1, h2⟩ := area_all ds _ hall p fun d hd => Nat.le_trans (weight_mem hd) z2
    have k : ∀ b ∈ A, b ∈ a :: A := fun b hb => List.mem_cons_of_mem _ hb
    refine ⟨a :: A, List.mem_cons_self .., fun b hb => ?_⟩
    rcases List.mem_cons.mp hb with e | m
    · rw [e]
      exact ⟨vs, line_of (by rw [wellAll_len hall]; exact Nat.le_trans (PySem.W.length_le_weightAllW ds) z2), fun u hu => (h1 u hu).mono k, .inl ho⟩
    · exact (h2 b m).mono k
  | .tuple ds, _, x, p, z => by
    obtain ⟨a, vs, rfl, ho, hall⟩ := well_tuple x
    have z2 : WData.weightAll ds ≤ 1048576 := z
    obtain ⟨A, h1, h2⟩ := area_all ds _ hall p fun d hd => Nat.le_trans (weight_mem hd) z2
    have k : ∀ b ∈ A, b ∈ a :: A := fun b hb => List.mem_cons_of_mem _ hb
    refine ⟨a :: A, List.mem_cons_self .., fun b hb => ?_⟩
    rcases List.mem_cons.mp hb with e | m
    · rw [e]
      exact ⟨vs, line_of (by rw [wellAll_len hall]; exact Nat.le_trans (PySem.W.length_le_weightAllW ds) z2), fun u hu => (h1 u hu).mono k, .inr ho⟩
    · exact (h2 b m).mono k
  | .float _, _, _, p, _ => Bool.noConfusion (show false = true from p)
  | .dict _, _, _, p, _ => Bool.noConfusion (show false = true from p)
  | .bytearray _, _, _, p, _ => Bool.noConfusion (show false = true from p)
  | .set _, _, _, p, _ => Bool.noConfusion (show false = true from p)
  | .frozenset _, _, _, p, _ => Bool.noConfusion (show false = true from p)
  | .obj _ _, _, _, p, _ => Bool.noConfusion (show false = true from p)
theorem area_all : ∀ (ds : List WData) (vs : List Value), WellAll P h vs ds → plWs ds = true → (∀ d ∈ ds, d.weight ≤ 1048576) → ∃ A : List Addr, (∀ u ∈ vs, OkU A u) ∧ ∀ a ∈ A, ArgOb h A a
  | [], _, x, _, _ => by
    cases x
    exact ⟨[], fun u m => absurd m (by simp), fun a m => absurd m (by simp)⟩
  | d :: ds, _, x, p, z => by
    obtain ⟨v, vs, rfl, x1, x2⟩ := well_cons x
    have q : plW d = true ∧ plWs ds = true := Bool.and_eq_true_iff.mp p
    obtain ⟨A, a1, a2⟩ := area_one d v x1 q.1 (z d (List.mem_cons_self ..))
    obtain ⟨B, b1, b2⟩ := area_all ds vs x2 q.2 fun e he => z e (List.mem_cons_of_mem _ he)
    have kA : ∀ b ∈ A, b ∈ A ++ B := fun b hb => List.mem_append.mpr (.inl hb)
    have kB : ∀ b ∈ B, b ∈ A ++ B := fun b hb => List.mem_append.mpr (.inr hb)
    refine ⟨A ++ B, fun u hu => ?_, fun b hb => ?_⟩
    · rcases List.mem_cons.mp hu with e | m
      · rw [e]
        exact a1.mono kA
      · exact (b1 u m).mono kB
    · rcases List.mem_append.mp hb with m | m
      · exact (a2 b m).mono kA
      · exact (b2 b m).mono kB
end
end
noncomputable def hoOf (o : Obj) : Option HO := match o.data with
  | .seq vs _ => if (o.cls == Value.type "list") = true then some (.frz o (.lst (vs.toList.map toV))) else some (.frz o (.tup (vs.toList.map toV)))
  | _ => none
noncomputable def argH (K : PySem.W.Frag) (h : Heap) (A : List Addr) : Hp := fun b => if b ∈ A then (if (K.lookup b).isNone = true then (h.get? b).bind hoOf else none) else none
noncomputable def OnlyF (H : Hp) : Prop := ∀ b, H b = none ∨ ∃ o u, H b = some (.frz o u)
theorem hoOf_lst (vs : List Value) : hoOf { cls := .type "list", data := .seq vs.toArray } = some (.frz { cls := .type "list", data := .seq vs.toArray } (.lst (vs.map toV))) := by
  show (if (Value.type "list" == Value.type "list") = true then some (HO.frz { cls := .type "list", data := .seq vs.toArray } (.lst (vs.toArray.toList.map toV))) else some (HO.frz { cls := .type "list", data := .seq vs.toArray } (.tup (vs.toArray.toList.map toV)))) = _
  rw [if_pos (beq_self_eq_true _)]
theorem hoOf_tup (vs : List Value) : hoOf { cls := .type "tuple", data := .seq vs.toArray } = some (.frz { cls := .type "tuple", data := .seq vs.toArray } (.tup (vs.map toV))) := by
  show (if (Value.type "tuple" == Value.type "list") = true then some (HO.frz { cls := .type "tuple", data := .seq vs.toArray } (.lst (vs.toArray.toList.map toV))) else some (HO.frz { cls := .type "tuple", data := .seq vs.toArray } (.tup (vs.toArray.toList.map toV)))) = _
  rw [if_neg (by decide)]
section
variable {P : Program} {w : World} {K : PySem.W.Frag} {h : Heap} {A : List Addr}
theorem argH_at {b : Addr} {o : Obj} (hb : b ∈ A) (hk : K.lookup b = none) (e : h.get? b = some o) : argH K h A b = hoOf o := by
  unfold argH
  rw [if_pos hb, hk, if_pos (show (none : Option Obj).isNone = true from rfl), e] <;> rfl
theorem of_argH {b : Addr} {u : HO} (q : argH K h A b = some u) : b ∈ A ∧ K.lookup b = none := by
  unfold argH at q
  by_cases hb : b ∈ A
  · rw [if_pos hb] at q
    cases hk : K.lookup b with
    | none => exact ⟨hb, rfl⟩
    | some o =>
      rw [hk, if_neg (by simp)] at q
      cases q
  · rw [if_neg hb] at q
    cases q
theorem argH_is (ar : ∀ a ∈ A, ArgOb h A a) {b : Addr} {u : HO} (q : argH K h A b = some u) : K.lookup b = none ∧ ∃ vs : List Value, vs.length ≤ sizeLine ∧ (∀ u ∈ vs, OkU A u) ∧
    ((h.get? b = some { cls := .type "list", data := .seq vs.toArray } ∧ u = .frz { cls := .type "list", data := .seq vs.toArray } (.lst (vs.map toV))) ∨
     (h.get? b = some { cls := .type "tuple", data := .seq vs.toArray } ∧ u = .frz { cls := .type "tuple", data := .seq vs.toArray } (.tup (vs.map toV)))) := by
  obtain ⟨hb, hk⟩ := of_argH q
  obtain ⟨vs, h1, h2, h3⟩ := ar b hb
  refine ⟨hk, vs, h1, h2, ?_⟩
  rcases h3 with e | e
  · rw [argH_at hb hk e, hoOf_lst] at q
    exact .inl ⟨e, (Option.some.inj q).symm⟩
  · rw [argH_at hb hk e, hoOf_tup] at q
    exact .inr ⟨e, (Option.some.inj q).symm⟩
theorem argH_only (ar : ∀ a ∈ A, ArgOb h A a) : OnlyF (argH K h A) := fun b => by
  cases q : argH K h A b with
  | none => exact .inl rfl
  | some u =>
    obtain ⟨_, vs, _, _, ⟨_, e⟩ | ⟨_, e⟩⟩ := argH_is ar q
    · exact .inr ⟨_, _, by rw [e]⟩
    · exact .inr ⟨_, _, by rw [e]⟩
theorem argH_ok (ar : ∀ a ∈ A, ArgOb h A a) : HOk P w (argH K h A) h := fun b u q => by
  obtain ⟨_, vs, h1, h2, ⟨e, rfl⟩ | ⟨e, rfl⟩⟩ := argH_is ar q
  · exact ⟨e, by rw [List.length_map]; exact h1, vs, _, vals_toV h2, e⟩
  · exact ⟨e, by rw [List.length_map]; exact h1, vs, vals_toV h2, _, e, rfl, _, rfl⟩
theorem seq_inj {c c' : Value} {vs us : List Value} (e : (some { cls := c, data := .seq vs.toArray } : Option Obj) = some { cls := c', data := .seq us.toArray }) : c = c' ∧ vs = us := by
  have e1 := Option.some.inj e
  have e2 : c = c' := congrArg Obj.cls e1
  have e3 : Data.seq vs.toArray = Data.seq us.toArray := congrArg Obj.data e1
  injection e3 with e4
  refine ⟨e2, ?_⟩
  have e5 := congrArg Array.toList e4
  simpa using e5
theorem argL (KX : K.In h) (ar : ∀ a ∈ A, ArgOb h A a) {a : Addr} {vs : List Value} (ha : a ∈ A) (e : h.get? a = some { cls := .type "list", data := .seq vs.toArray }) : (∀ u ∈ vs, OkU A u) ∧ SqL K (argH K h A) a (vs.map toV) := by
  obtain ⟨us, h1, h2, h3⟩ := ar a ha
  have hu : us = vs := by
    rcases h3 with q | q
    · rw [e] at q
      exact (seq_inj q).2.symm
    · rw [e] at q
      exact absurd (Value.type.inj (seq_inj q).1) (by decide)
  subst hu
  refine ⟨h2, ?_⟩
  cases hk : K.lookup a with
  | none => exact .inl (.inr ⟨_, by rw [argH_at ha hk e, hoOf_lst]⟩)
  | some o =>
    have e2 := KX a o hk
    rw [e] at e2
    obtain rfl := Option.some.inj e2
    exact .inr ⟨_, us.toArray, _, hk, rfl, rfl, rfl, by rw [List.size_toArray]; exact h1, by simpa using vals_toV h2⟩
theorem argT (KX : K.In h) (ar : ∀ a ∈ A, ArgOb h A a) {a : Addr} {vs : List Value} (ha : a ∈ A) (e : h.get? a = some { cls := .type "tuple", data := .seq vs.toArray }) : (∀ u ∈ vs, OkU A u) ∧ SqT K (argH K h A) a (vs.map toV) := by
  obtain ⟨us, h1, h2, h3⟩ := ar a ha
  have hu : us = vs := by
    rcases h3 with q | q
    · rw [e] at q
      exact absurd (Value.type.inj (seq_inj q).1) (by decide)
    · rw [e] at q
      exact (seq_inj q).2.symm
  subst hu
  refine ⟨h2, ?_⟩
  cases hk : K.lookup a with
  | none => exact .inl (.inr ⟨_, by rw [argH_at ha hk e, hoOf_tup]⟩)
  | some o =>
    have e2 := KX a o hk
    rw [e] at e2
    obtain rfl := Option.some.inj e2
    exact .inr ⟨_, us.toArray, _, hk, rfl, rfl, by rw [List.size_toArray]; exact h1, by simpa using vals_toV h2⟩
mutual
theorem dw_one {Pm : Params} (KX : K.In h) (ar : ∀ a ∈ A, ArgOb h A a) : ∀ (d : WData) (v : Value), Well Pm h v d → plW d = true → OkU A v → Dw K (argH K h A) (toV v) d
  | .none, _, x, _, _ => by
    cases x
    exact .non
  | .bool b, _, x, _, _ => by
    cases x
    exact .bl b
  | .int i, _, x, _, _ => by
    cases x
    exact .int i
  | .str s, _, x, _, _ => by
    cases x
    exact .str s
  | .bytes b, _, x, _, _ => by
    cases x
    have z := Dw.byt (K := K) (H := argH K h A) b.toArray
    exact z
  | .list ds, _, x, p, hu => by
    obtain ⟨a, vs, rfl, ho, hall⟩ := well_list x
    obtain ⟨h2, hs⟩ := argL KX ar hu ho
    exact .lst hs (dw_all KX ar ds _ hall p h2)
  | .tuple ds, _, x, p, hu => by
    obtain ⟨a, vs, rfl, ho, hall⟩ := well_tuple x
    obtain ⟨h2, hs⟩ := argT KX ar hu ho
    exact .tup hs (dw_all KX ar ds _ hall p h2)
  | .float _, _, _, p, _ => Bool.noConfusion (show false = true from p)
  | .dict _, _, _, p, _ => Bool.noConfusion (show false = true from p)
  | .bytearray _, _, _, p, _ => Bool.noConfusion (show false = true from p)
  | .set _, _, _, p, _ => Bool.noConfusion (show false = true from p)
  | .frozenset _, _, _, p, _ => Bool.noConfusion (show false = true from p)
  | .obj _ _, _, _, p, _ => Bool.noConfusion (show false = true from p)
theorem dw_all {Pm : Params} (KX : K.In h) (ar : ∀ a ∈ A, ArgOb h A a) : ∀ (ds : List WData) (vs : List Value), WellAll Pm h vs ds → plWs ds = true → (∀ u ∈ vs, OkU A u) → DwAll K (argH K h A) (vs.map toV) ds
  | [], _, x, _, _ => by
    cases x
    exact .nil
  | d :: ds, _, x, p, hu => by
    obtain ⟨v, vs, rfl, x1, x2⟩ := well_cons x
    have q : plW d = true ∧ plWs ds = true := Bool.and_eq_true_iff.mp p
    exact .cons (dw_one KX ar d v x1 q.1 (hu _ (List.mem_cons_self ..))) (dw_all KX ar ds vs x2 q.2 fun u m => hu u (List.mem_cons_of_mem _ m))
end
end
theorem spec_call {P : Program} {w : World} {K : PySem.W.Frag} {mg mb : Str → Option Value} {CX : CXT} {k : Nat} {fa : Addr} {fd : FuncData} {ps : List Str} {sp : Sp} {s₁ : Shared} {vals : List Value} {ds : List WData} {R : PySem.W.WRecords} {cl : Str → Option Addr} {d0 : WData}
    (KX : K.In s₁.heap) (hns : s₁.heap.Ns mainGlobals mg) (hb : s₁.heap.Ns builtinsNs mb) (hbb : ∀ x : Str, x ≠ "__name__" → mb x = bootBuiltins x) (hlim : s₁.heap.NoLimit) (hg : s₁.gens = #[])
    (hwl : WellAll w.params s₁.heap vals ds) (hpl : plWs ds = true) (hwt : ∀ d ∈ ds, d.weight ≤ 1048576) (hr : Room k callerA)
    (F : ∀ base : Heap, K.In base → base.Ns mainGlobals mg → FnOk P w K mg base CX k fa fd ps sp) (hbind : ∀ (s : Shared) (us : List Value), us.length = ps.length → BindsTo s fd ⟨us, []⟩ (ps.zip us)) (hlen : ds.length = ps.length)
    (hsp : ∀ (H : Hp) (xs : List V), OnlyF H → DwAll K H xs ds → sp xs H (fun v H' => Dw K H' v d0) fun _ _ _ => False)
    (hCX : ∀ H e s', CX [] H s₁ (fun _ _ _ => False) e s' → False) :
    codeAny (model P w) callerA (.call (.ref fa) ⟨vals, []⟩) (fun r s' => ∃ u as, r = .ok (.ret u) ∧ ReadsW R cl s'.heap u d0 as ∧ OldK s₁.heap s'.heap ∧ s'.os = s₁.os ∧ AllBare s'.gens) s₁ := by
  obtain ⟨A, ho, ar⟩ := area_all ds vals hwl hpl hwt
  have hO : OnlyF (argH K s₁.heap A) := argH_only ar
  have hok : HOk P w (argH K s₁.heap A) s₁.heap := argH_ok ar
  have hS := dw_all KX ar ds vals hwl hpl ho
  have hV := vals_toV ho
  have hK : ∀ b u, argH K s₁.heap A b = some u → K.lookup b = none := fun b u q => (argH_is ar q).1
  have noA : ∀ {b : Addr} {o : Obj} {es : Array DictEntry} {ep : Nat}, s₁.heap.get? b = some o → o.data = .dict es ep → argH K s₁.heap A b = none := fun {b o es ep} e d => by
    cases q : argH K s₁.heap A b with
    | none => rfl
    | some u =>
      obtain ⟨_, vs, _, _, ⟨e2, _⟩ | ⟨e2, _⟩⟩ := argH_is ar q
      · rw [e2] at e
        cases e
        have d' : Data.seq vs.toArray _ = Data.dict es ep := d
        cases d'
      · rw [e2] at e
        cases e
        have d' : Data.seq vs.toArray _ = Data.dict es ep := d
        cases d'
  generalize argH K s₁.heap A = H at hO hok hS hK noA
  have base_of : ∀ {b : Addr} {o : Obj}, s₁.heap.get? b = some o → H b = none → (hidT s₁.heap H).get? b = some o := fun e n => hidT_get e n
  have nsK : ∀ {b : Addr} {m : Str → Option Value}, s₁.heap.Ns b m → (hidT s₁.heap H).Ns b m := fun {b m} ⟨o, es, ep, e, d, r⟩ => ⟨o, es, ep, base_of e (noA e d), d, r⟩
  have nK : ∀ b o, K.lookup b = some o → H b = none := fun b o e => by
    cases q : H b with
    | none => rfl
    | some u =>
      rw [hK b u q] at e
      cases e
  have hKb : K.In (hidT s₁.heap H) := fun b o e => base_of (KX b o e) (nK b o e)
  have hM : Mod K mg (hidT s₁.heap H) := ⟨hKb, nsK hns, ⟨mb, nsK hb, hbb⟩, let ⟨mc, h1, h2⟩ := hlim; ⟨mc, nsK h1, h2⟩⟩
  have e0 : Env0 P w K mg (hidT s₁.heap H) callerA [] s₁ H := ⟨rfl, hM, fun b o e => of_hidT e, Nat.le_of_eq (hidT_size _ _), trivial, fun b hb => absurd (show b ∈ ([] : List Addr) from hb) (by simp), hok, .of_eq hg⟩
  have hl : vals.length = ps.length := by rw [wellAll_len hwl]; exact hlen
  refine codeAny_mono ((F _ hKb (nsK hns)).run callerA [] s₁ H ⟨vals, []⟩ vals (vals.map toV) _ _ hr e0 (hbind s₁ vals hl) hV (hsp H _ hO hS)) fun r s' x => ?_
  cases r with
  | error e => exact (hCX H e s' x).elim
  | ok fl =>
    cases fl with
    | next => exact False.elim x
    | brk => exact False.elim x
    | cont => exact False.elim x
    | ret u =>
      obtain ⟨v, H', os, bare, un, hok', r', q⟩ := x
      have kept : ∀ b o, s₁.heap.get? b = some o → s'.heap.get? b = some o := fun b o e => by
        cases q2 : H b with
        | none => exact un.keep b o e q2 (by intro z; exact absurd (show b ∈ ([] : List Addr) from z) (by simp)) (by simp)
        | some u2 =>
          rcases hO b with z | ⟨ob, u3, z⟩
          · rw [q2] at z
            cases z
          · have z2 := un.frzs b ob _ z
            obtain ⟨e1, _⟩ := hok b _ z
            obtain ⟨e2, _⟩ := hok' b _ z2
            rw [e] at e1
            cases e1
            exact e2
      have KX' : K.In s'.heap := fun b o e => kept b o (KX b o e)
      obtain ⟨as, hrd⟩ := Dw.reads (R := R) (cl := cl) hok' KX' d0 v u q r'
      exact ⟨u, as, rfl, hrd, OldK.of_keep kept, os, bare⟩
theorem layable_weight {ds : List WData} (h : WData.layableAll ds = true) : ∀ d ∈ ds, d.weight ≤ 1048576 := fun d hd =>
  (PySem.W.layableW_iff.mp (List.all_eq_true.mp h d hd)).2.2
theorem encAll_len : ∀ (cs : List Codec) (a : Codec.denoteAll cs), (Codec.encAll cs a).length = cs.length
  | [], _ => rfl
  | c :: cs, a => by
    show (Codec.encAll cs a.2).length + 1 = cs.length + 1
    rw [encAll_len cs a.2]
theorem walk_spec {r : OpenSpec} {k : Nat} {q : Program} {loose : List Str} {XP : (Str → Option Value) → Heap → Prop} {YP : World → Heap → Prop} {d : DefRec} {K : Params → PySem.W.Frag} {CX : World → CXT} {ps : List Str} {sp : World → Sp}
    (hwell : r.wellSaid = true) (hdf : d.params.defaults = []) (hlen : r.args.length = ps.length) (hr : Room k callerA)
    (hY : ∀ (w : World) (h : Heap), YP w h → (K w.params).In h)
    (F : ∀ (w : World) (mg : Str → Option Value) (fa : Addr) (h : Heap), YP w h → (K w.params).In h → h.Ns mainGlobals mg → mg d.name = some (.ref fa) →
      ∃ fd : FuncData, (∀ (s : Shared) (us : List Value), us.length = ps.length → BindsTo s fd ⟨us, []⟩ (ps.zip us)) ∧
        ∀ base : Heap, (K w.params).In base → base.Ns mainGlobals mg → FnOk r.prog w (K w.params) mg base (CX w) k fa fd ps (sp w))
    (hsp : ∀ (w : World) (H : Hp) (xs : List V) (a : Codec.denoteAll r.args), OnlyF H → Codec.withinAll r.args a = true → Codec.app r.args r.asked a = true → DwAll (K w.params) H xs (Codec.encAll r.args a) →
      sp w xs H (fun v H' => Dw (K w.params) H' v (r.ret.enc (Codec.app r.args r.f a))) fun _ _ _ => False)
    (hCX : ∀ (w : World) (H : Hp) (s : Shared) (e : Value) (s' : Shared), CX w [] H s (fun _ _ _ => False) e s' → False) :
    PySem.W.WalkOS q loose XP YP r d [] (fun f vs => PySem.call f vs) := by
  intro w s_0 s₁ mg mb G Y fa o pm cd doc dV kV ho hd hcd hD hmg hg args vals as hpre hlay hrd hwl hlo
  obtain ⟨a, e1, e2⟩ := PySem.W.os_pre_some hpre
  obtain ⟨e3, hwi⟩ := Codec.encAll_of_decAll r.args args a e1
  subst e3
  have KX := hY w _ Y
  obtain ⟨fd, hb, hF⟩ := F w mg fa _ Y KX G.T.g hmg
  refine PySem.W.enter_call (codeAny_mono (spec_call (R := []) (cl := classAt s_0.heap) (d0 := r.ret.enc (Codec.app r.args r.f a)) KX G.T.g G.T.b G.T.builtins G.T.nolimit hg hwl (pl_encAll _ _) (layable_weight hlay) hr hF hb (by rw [encAll_len]; exact hlen)
    (fun H xs hO hS => hsp w H xs a hO hwi e2 hS) fun H e s' => hCX w H s₁ e s') fun r' s' hq => ?_)
  obtain ⟨u, as', rfl, h1, h2, h3, h4⟩ := hq
  exact ⟨.inl ⟨u, _, as', rfl, fun _ => rfl, h1, (OpenSpec.post_iff hwell hwi _ _).mpr rfl, fun z => Bool.noConfusion (show false = true from z)⟩, h2, h3, h4⟩
theorem walk_specK {r : OpenSpec} {k : Nat} {q : Program} {loose : List Str} {XP : (Str → Option Value) → Heap → Prop} {YP : World → Heap → Prop} {d : DefRec} {K : Params → PySem.W.Frag} {CX : CXT} {ps : List Str} {sp : PySem.W.Frag → Sp}
    (hwell : r.wellSaid = true) (hdf : d.params.defaults = []) (hlen : r.args.length = ps.length) (hr : Room k callerA)
    (hY : ∀ (w : World) (h : Heap), YP w h → (K w.params).In h)
    (F : ∀ (w : World) (mg : Str → Option Value) (fa : Addr) (h : Heap), YP w h → (K w.params).In h → h.Ns mainGlobals mg → mg d.name = some (.ref fa) →
      ∃ fd : FuncData, (∀ (s : Shared) (us : List Value), us.length = ps.length → BindsTo s fd ⟨us, []⟩ (ps.zip us)) ∧
        ∀ base : Heap, (K w.params).In base → base.Ns mainGlobals mg → FnOk r.prog w (K w.params) mg base CX k fa fd ps (sp (K w.params)))
    (hsp : ∀ (K : PySem.W.Frag) (H : Hp) (xs : List V) (a : Codec.denoteAll r.args), OnlyF H → Codec.withinAll r.args a = true → Codec.app r.args r.asked a = true → DwAll K H xs (Codec.encAll r.args a) →
      sp K xs H (fun v H' => Dw K H' v (r.ret.enc (Codec.app r.args r.f a))) fun _ _ _ => False)
    (hCX : ∀ (H : Hp) (s : Shared) (e : Value) (s' : Shared), CX [] H s (fun _ _ _ => False) e s' → False) :
    PySem.W.WalkOS q loose XP YP r d [] (fun f vs => PySem.call f vs) :=
  walk_spec (K := K) (CX := fun _ => CX) (sp := fun w => sp (K w.params)) hwell hdf hlen hr hY F (fun w H xs a h1 h2 h3 h4 => hsp (K w.params) H xs a h1 h2 h3 h4) fun _ H s e s' => hCX H s e s'
end L2
end
end
section
namespace Ts
structure T where
  things : Nat
  kids : List T
  turns : Bool
mutual
noncomputable def T.same : T → T → Bool
  | .mk a b c, .mk a' b' c' => Nat.beq a a' && (c == c' && T.sames b b')
noncomputable def T.sames : List T → List T → Bool
  | [], [] => true
  | x :: r, y :: q => T.same x y && T.sames r q
  | _, _ => false
end
mutual
theorem T.eq_of_same : ∀ (x y : T), T.same x y = true → x = y
  | .mk a b c, .mk a' b' c', h => by
    simp only [T.same, Bool.and_eq_true] at h
    obtain ⟨h1, h2, h3⟩ := h
    have e1 := Nat.eq_of_beq_eq_true h1
    have e2 : c = c' := by simpa using h2
    have e3 := T.eq_of_sames b b' h3
    rw [e1, e2, e3]
theorem T.eq_of_sames : ∀ (x y : List T), T.sames x y = true → x = y
  | [], [], _ => rfl
  | x :: r, y :: q, h => by
    simp only [T.sames, Bool.and_eq_true] at h
    rw [T.eq_of_same x y h.1, T.eq_of_sames r q h.2]
  | [], _ :: _, h => by simp [T.sames] at h
  | _ :: _, [], h => by simp [T.sames] at h
end
noncomputable def isEmpty (k : T) (w : Nat) : Bool := Nat.beq (Nat.land k.things w) 0
noncomputable def isFull (k : T) (w : Nat) : Bool := Nat.beq (Nat.land k.things w) k.things
noncomputable def isWhole (k : T) (w : Nat) : Bool := isEmpty k w || isFull k w
noncomputable def emptyKnots (ks : List T) (w : Nat) : List T := ks.filter fun k => isEmpty k w
noncomputable def fullKnots (ks : List T) (w : Nat) : List T := ks.filter fun k => isFull k w
noncomputable def partedKnots (ks : List T) (w : Nat) : List T := ks.filter fun k => !isWhole k w
noncomputable def orAll (ks : List T) : Nat := ks.foldl (fun a k => Nat.lor a k.things) 0
noncomputable def knotOver (bl : List T) (tu : Bool) : T := .mk (orAll bl) bl tu
noncomputable def oneOr (tu : Bool) (bl : List T) : T := match bl with
  | [k] => k
  | bl => knotOver bl tu
noncomputable def freeKnot (bl : List T) : T := oneOr false bl
noncomputable def turningKnot (bl : List T) : T := oneOr true bl
noncomputable def asOne (ks : List T) : List T := match ks with
  | [] => []
  | ks => [freeKnot ks]
noncomputable def together (w : Nat) : List T → Bool → Bool → Bool
  | [], _, _ => true
  | k :: r, b, e => bif isEmpty k w then together w r b b else bif e then false else together w r true e
noncomputable def standsTogether (row : List T) (w : Nat) : Bool := together w row false false
noncomputable def small (l : List T) : Bool := Nat.ble l.length 100
noncomputable def capped (l : List T) : Option (List T) := bif small l then some l else none
noncomputable def joined (g : T → Option (List T)) : List T → Option (List T)
  | [] => some []
  | k :: r => match g k with
    | none => none
    | some a => match joined g r with
      | none => none
      | some b => capped (a ++ b)
noncomputable def sideFirst (bl : List T) (w : Nat) : Option (List T) := match bl.head?, bl.getLast? with
  | some a, some z => some (bif isFull a w || isEmpty z w then bl.reverse else bl)
  | _, _ => none
noncomputable def rowOf : Nat → T → Nat → Option (List T)
  | 0, _, _ => none
  | n + 1, k, w => bif isWhole k w then some [k] else bif k.turns then (match sideFirst k.kids w with
      | none => none
      | some bl => joined (fun c => rowOf n c w) bl)
    else match joined (fun c => rowOf n c w) (partedKnots k.kids w) with
      | none => none
      | some r => capped (asOne (emptyKnots k.kids w) ++ r ++ asOne (fullKnots k.kids w))
noncomputable def freeKeep (n : Nat) (bl : List T) (w : Nat) : Option (Option T) :=
  match joined (fun c => rowOf n c w) ((partedKnots bl w).take 1) with
  | none => none
  | some r1 => match joined (fun c => (rowOf n c w).map List.reverse) ((partedKnots bl w).drop 1) with
    | none => none
    | some r3 => match capped (r1 ++ asOne (fullKnots bl w) ++ r3) with
      | none => none
      | some row => bif Nat.blt bl.length 100 then some (bif standsTogether row w then some (freeKnot (emptyKnots bl w ++ [turningKnot row])) else none) else none
noncomputable def turnRow (n : Nat) (w : Nat) : List T → Bool → Option (List T)
  | [], _ => some []
  | k :: r, b => match rowOf n k w with
    | none => none
    | some p => match turnRow n w r (b || !isEmpty k w) with
      | none => none
      | some q => capped ((bif b then p.reverse else p) ++ q)
noncomputable def turnKeep (n : Nat) (bl : List T) (w : Nat) : Option (Option T) := match turnRow n w bl false with
  | none => none
  | some row => some (bif standsTogether row w then some (turningKnot row) else none)
noncomputable def keep : Nat → T → Nat → Option (Option T)
  | 0, _, _ => none
  | n + 1, k, w => bif isWhole k w then some (some k) else match k.kids.findIdx? (fun c => Nat.beq (Nat.land c.things w) w) with
    | some i => (match k.kids[i]? with
      | none => none
      | some c => match keep n c w with
        | none => none
        | some none => some none
        | some (some t) => some (some (knotOver (k.kids.take i ++ [t] ++ k.kids.drop (i + 1)) k.turns)))
    | none => bif k.turns then turnKeep n k.kids w else freeKeep n k.kids w
noncomputable def F : Nat := 6
noncomputable def keepAll : Option T → List Nat → Option (Option T)
  | t, [] => some t
  | none, _ :: _ => some none
  | some t, w :: r => match keep F t w with
    | none => none
    | some t' => keepAll t' r
noncomputable def ends (n : Nat) : List T := (List.range n).map fun i => .mk (1 <<< i) [] false
noncomputable def treeOfAll (n : Nat) : T := freeKnot (ends n)
end Ts
end
section
namespace Ts
open Kh241Neutral (rowsOf keepsB orders any_ leftOf)
open Kh241 (having without)
noncomputable def maskL : List Bool → Nat
  | [] => 0
  | b :: r => 2 * maskL r + b.toNat
theorem testBit_zero' (a : Nat) (b : Bool) : (2 * a + b.toNat).testBit 0 = b := by
  cases b <;> simp [Nat.testBit_zero] <;> omega
theorem testBit_succ' (a : Nat) (b : Bool) (i : Nat) : (2 * a + b.toNat).testBit (i + 1) = a.testBit i := by
  rw [Nat.testBit_succ]
  congr 1
  cases b <;> simp <;> omega
theorem maskL_and {α : Type} (f g : α → Bool) : ∀ l : List α, maskL (l.map fun o => f o && g o) = Nat.land (maskL (l.map f)) (maskL (l.map g))
  | [] => (Nat.zero_and 0).symm
  | a :: l => by
    show 2 * maskL (l.map fun o => f o && g o) + (f a && g a).toNat = (2 * maskL (l.map f) + (f a).toNat) &&& (2 * maskL (l.map g) + (g a).toNat)
    rw [maskL_and f g l]
    apply Nat.eq_of_testBit_eq
    intro i
    rw [Nat.testBit_and]
    cases i with
    | zero => rw [testBit_zero', testBit_zero', testBit_zero']
    | succ i =>
      rw [testBit_succ', testBit_succ', testBit_succ']
      exact Nat.testBit_and ..
theorem maskL_zero {α : Type} (f : α → Bool) : ∀ l : List α, maskL (l.map f) = 0 ↔ l.filter f = []
  | [] => ⟨fun _ => rfl, fun _ => rfl⟩
  | a :: l => by
    have ih := maskL_zero f l
    show 2 * maskL (l.map f) + (f a).toNat = 0 ↔ _
    cases e : f a with
    | true =>
      rw [List.filter_cons, if_pos e]
      constructor
      · intro h
        simp at h
      · intro h
        cases h
    | false =>
      rw [List.filter_cons, if_neg (by rw [e]; decide), ← ih]
      show 2 * maskL (l.map f) + 0 = 0 ↔ _
      omega
noncomputable def base (n : Nat) : List (List Nat) := (rowsOf n n).filter fun o => o.isPerm (List.range n)
noncomputable def mask (n : Nat) (l : List Nat) : Nat := maskL ((base n).map fun o => l.all (keepsB o))
noncomputable def maskK (n x : Nat) : Nat := maskL ((base n).map fun o => keepsB o x)
theorem orders_base (n : Nat) (l : List Nat) : orders n l = (base n).filter fun o => l.all (keepsB o) := by
  unfold orders base
  rw [List.filter_filter]
  congr 1
  funext o
  exact Bool.and_comm ..
theorem any_mask (n : Nat) (l : List Nat) : any_ n l = !(Nat.beq (mask n l) 0) := by
  unfold any_
  rw [orders_base]
  congr 1
  have h := maskL_zero (fun o => l.all (keepsB o)) (base n)
  cases e : (List.filter (fun o => l.all (keepsB o)) (base n)) with
  | nil =>
    have q : mask n l = 0 := h.mpr e
    rw [q]
    rfl
  | cons a r =>
    have q : ¬ mask n l = 0 := fun z => by
      rw [h.mp z] at e
      cases e
    show false = _
    exact (Bool.eq_false_iff.mpr fun z => q (Nat.eq_of_beq_eq_true z)).symm
theorem mask_cons (n x : Nat) (l : List Nat) : mask n (x :: l) = Nat.land (maskK n x) (mask n l) := maskL_and (fun o => keepsB o x) (fun o => l.all (keepsB o)) (base n)
theorem mask_congr {n : Nat} {l m : List Nat} (h : ∀ o, l.all (keepsB o) = m.all (keepsB o)) : mask n l = mask n m := by
  unfold mask
  congr 1
  exact List.map_congr_left fun o _ => h o
theorem mask_append (n : Nat) (l m : List Nat) : mask n (l ++ m) = Nat.land (mask n l) (mask n m) := by
  refine Eq.trans ?_ (maskL_and (fun o => l.all (keepsB o)) (fun o => m.all (keepsB o)) (base n))
  unfold mask
  congr 1
  exact List.map_congr_left fun o _ => List.all_append
theorem mask_snoc (n x : Nat) (l : List Nat) : mask n (l ++ [x]) = Nat.land (mask n l) (maskK n x) := by
  rw [mask_append]
  congr 1
  unfold mask maskK
  congr 1
  exact List.map_congr_left fun o _ => by simp
theorem without_testBit (m i j : Nat) : (without m i).testBit j = (m.testBit j && !decide (j = i)) := by
  unfold without
  cases e : m.testBit i with
  | false =>
    rw [if_neg (by decide)]
    by_cases h : j = i
    · subst h
      rw [e]
      rfl
    · rw [decide_eq_false h]
      simp
  | true =>
    rw [if_pos rfl]
    have hr : m % 2 ^ i < 2 ^ i := Nat.mod_lt _ (Nat.two_pow_pos i)
    have hm : m = 2 ^ i * (m / 2 ^ i) + m % 2 ^ i := (Nat.div_add_mod m (2 ^ i)).symm
    have ha : m / 2 ^ i % 2 = 1 := by
      have q := e
      rw [Nat.testBit_eq_decide_div_mod_eq] at q
      exact of_decide_eq_true q
    generalize m / 2 ^ i = a at hm ha
    generalize m % 2 ^ i = r at hm hr
    obtain ⟨c, rfl⟩ : ∃ c, a = 2 * c + 1 := ⟨a / 2, by omega⟩
    have h2 : m - 2 ^ i = 2 ^ i * (2 * c) + r := by
      rw [hm, Nat.mul_add, Nat.mul_one]
      omega
    rw [h2, hm, Nat.testBit_two_pow_mul_add _ hr, Nat.testBit_two_pow_mul_add _ hr]
    by_cases h : j < i
    · rw [if_pos h, if_pos h, decide_eq_false (by omega)]
      simp
    · rw [if_neg h, if_neg h]
      by_cases h' : j = i
      · subst h'
        rw [Nat.sub_self, decide_eq_true rfl]
        simp [Nat.testBit_zero]
      · rw [decide_eq_false h']
        obtain ⟨k, hk⟩ : ∃ k, j - i = k + 1 := ⟨j - i - 1, by omega⟩
        rw [hk, Nat.testBit_succ, Nat.testBit_succ]
        have q1 : 2 * c / 2 = c := by omega
        have q2 : (2 * c + 1) / 2 = c := by omega
        rw [q1, q2]
        simp
theorem leftOf_step (n : Nat) (l : List Nat) (s i j : Nat) : (leftOf n l s (i + 1)).testBit j = ((leftOf n l s i).testBit j && (!decide (j = i) || any_ n (s :: having l (without (leftOf n l s i) i)))) := by
  show (if any_ n (s :: having l (without (leftOf n l s i) i)) = true then leftOf n l s i else without (leftOf n l s i) i).testBit j = _
  cases e : any_ n (s :: having l (without (leftOf n l s i) i)) with
  | true =>
    rw [if_pos rfl]
    simp
  | false =>
    rw [if_neg (by decide), without_testBit]
    simp
theorem leftOf_rest (n : Nat) (l : List Nat) (s : Nat) : ∀ (i j : Nat), i ≤ j → (leftOf n l s i).testBit j = decide (j < l.length)
  | 0, j, _ => by
    show (2 ^ l.length - 1).testBit j = _
    exact Nat.testBit_two_pow_sub_one ..
  | i + 1, j, h => by
    rw [leftOf_step, leftOf_rest n l s i j (by omega), decide_eq_false (show ¬ j = i by omega)]
    simp
noncomputable def left (n : Nat) (l : List Nat) (s i : Nat) : List Nat := (List.range i).filter fun j => (leftOf n l s i).testBit j
theorem left_succ (n : Nat) (l : List Nat) (s i : Nat) (hi : i < l.length) : left n l s (i + 1) = left n l s i ++ (bif any_ n (s :: having l (without (leftOf n l s i) i)) then [i] else []) := by
  unfold left
  rw [List.range_succ, List.filter_append]
  congr 1
  · apply List.filter_congr
    intro j hj
    have hj : j < i := List.mem_range.mp hj
    rw [leftOf_step, decide_eq_false (show ¬ j = i by omega)]
    simp
  · rw [List.filter_cons, List.filter_nil, leftOf_step, leftOf_rest n l s i i (Nat.le_refl _), decide_eq_true hi, decide_eq_true rfl]
    cases any_ n (s :: having l (without (leftOf n l s i) i)) <;> rfl
theorem having_all (l : List Nat) (m : Nat) (q : Nat → Bool) : (having l m).all q = true ↔ ∀ (j x : Nat), l[j]? = some x → m.testBit j = true → q x = true := by
  unfold having
  rw [List.all_eq_true]
  constructor
  · intro h j x hj hm
    refine h x (List.mem_map.mpr ⟨(x, j), List.mem_filter.mpr ⟨?_, hm⟩, rfl⟩)
    exact List.mem_zipIdx_iff_getElem?.mpr hj
  · intro h x hx
    obtain ⟨⟨y, j⟩, hy, rfl⟩ := List.mem_map.mp hx
    obtain ⟨h1, h2⟩ := List.mem_filter.mp hy
    exact h j y (List.mem_zipIdx_iff_getElem?.mp h1) h2
noncomputable def els (l ns : List Nat) : List Nat := ns.map fun j => l.getD j 0
theorem mask_asked (n : Nat) (l : List Nat) (s i : Nat) (hi : i < l.length) :
    mask n (s :: having l (without (leftOf n l s i) i)) = Nat.land (mask n (s :: els l (left n l s i))) (mask n (l.drop (i + 1))) := by
  rw [← mask_append]
  refine mask_congr fun o => ?_
  rw [List.cons_append, List.all_cons, List.all_cons]
  congr 1
  rw [Bool.eq_iff_iff, having_all, List.all_append, Bool.and_eq_true, List.all_eq_true, List.all_eq_true]
  constructor
  · intro h
    constructor
    · intro x hx
      obtain ⟨j, hj, rfl⟩ := List.mem_map.mp hx
      obtain ⟨h1, h2⟩ := List.mem_filter.mp hj
      have h1 : j < i := List.mem_range.mp h1
      have hjl : j < l.length := by omega
      refine h j (l.getD j 0) ?_ ?_
      · rw [List.getD_eq_getElem?_getD, List.getElem?_eq_getElem hjl]
        rfl
      · rw [without_testBit, h2, decide_eq_false (by omega)]
        rfl
    · intro x hx
      obtain ⟨k, hk⟩ := List.getElem?_of_mem hx
      rw [List.getElem?_drop] at hk
      have hkl := (List.getElem?_eq_some_iff.mp hk).1
      refine h _ x hk ?_
      rw [without_testBit, leftOf_rest n l s i _ (by omega), decide_eq_true hkl, decide_eq_false (by omega)]
      rfl
  · rintro ⟨ha, hb⟩ j x hj hm
    have hjl := (List.getElem?_eq_some_iff.mp hj).1
    rw [without_testBit, Bool.and_eq_true] at hm
    have hne : ¬ j = i := by
      have := hm.2
      simpa using this
    by_cases hlt : j < i
    · refine ha x (List.mem_map.mpr ⟨j, List.mem_filter.mpr ⟨List.mem_range.mpr hlt, hm.1⟩, ?_⟩)
      rw [List.getD_eq_getElem?_getD, hj]
      rfl
    · refine hb x (List.mem_iff_getElem?.mpr ⟨j - (i + 1), ?_⟩)
      rw [List.getElem?_drop, show i + 1 + (j - (i + 1)) = j by omega]
      exact hj
theorem els_snoc (l ns : List Nat) (i x : Nat) (h : l[i]? = some x) : els l (ns ++ [i]) = els l ns ++ [x] := by
  unfold els
  rw [List.map_append]
  congr 1
  show [l.getD i 0] = [x]
  rw [List.getD_eq_getElem?_getD, h]
  rfl
noncomputable def orBits (ns : List Nat) : Nat := ns.foldl (fun a j => Nat.lor a (1 <<< j)) 0
theorem orBits_from (ns : List Nat) : ∀ (a j : Nat), (ns.foldl (fun a j => Nat.lor a (1 <<< j)) a).testBit j = (a.testBit j || decide (j ∈ ns)) := by
  induction ns with
  | nil => intro a j; simp
  | cons k r ih =>
    intro a j
    rw [List.foldl_cons, ih]
    have e : (Nat.lor a (1 <<< k)).testBit j = (a.testBit j || decide (j = k)) := by
      show (a ||| 1 <<< k).testBit j = _
      rw [Nat.testBit_or, Nat.one_shiftLeft, Nat.testBit_two_pow]
      congr 1
      by_cases h : k = j
      · subst h; simp
      · rw [decide_eq_false h, decide_eq_false (fun q => h q.symm)]
    rw [e, Bool.or_assoc]
    congr 1
    by_cases h : j = k
    · subst h; simp
    · simp [h]
theorem orBits_left (n : Nat) (l : List Nat) (s : Nat) : orBits (left n l s l.length) = leftOf n l s l.length := by
  apply Nat.eq_of_testBit_eq
  intro j
  unfold orBits
  rw [orBits_from, Nat.zero_testBit, Bool.false_or]
  by_cases h : j < l.length
  · cases e : (leftOf n l s l.length).testBit j with
    | true => exact decide_eq_true (List.mem_filter.mpr ⟨List.mem_range.mpr h, e⟩)
    | false =>
      refine decide_eq_false fun q => ?_
      have := (List.mem_filter.mp q).2
      rw [e] at this
      cases this
  · rw [leftOf_rest n l s l.length j (by omega), decide_eq_false h]
    exact decide_eq_false fun q => h (List.mem_range.mp (List.mem_filter.mp q).1)
end Ts
end
section
namespace Ts
noncomputable def p (l : List T) : T := knotOver l false
noncomputable def q (l : List T) : T := knotOver l true
noncomputable def l0 : T := ⟨1, [], false⟩
noncomputable def l1 : T := ⟨2, [], false⟩
noncomputable def l2 : T := ⟨4, [], false⟩
noncomputable def l3 : T := ⟨8, [], false⟩
noncomputable def l4 : T := ⟨16, [], false⟩
inductive Tb where
  | nil
  | nd (l : Tb) (m : Nat) (ts : List T) (r : Tb)
noncomputable def Tb.find : Tb → Nat → List T
  | .nil, _ => []
  | .nd l m ts r, x => bif Nat.blt x m then l.find x else bif Nat.beq x m then ts else r.find x
noncomputable def Tb.all (p : Nat → T → Bool) : Tb → Bool
  | .nil => true
  | .nd l m ts r => ts.all (p m) && (l.all p && r.all p)
noncomputable def stepOk (tb : Tb) (t : T) (m x k : Nat) : Bool := match keep F t x with
  | none => false
  | some none => Nat.beq (Nat.land m k) 0
  | some (some u) => (tb.find (Nat.land m k)).any (T.same u)
noncomputable def treeOk (tb : Tb) (ks : List (Nat × Nat)) (m : Nat) (t : T) : Bool := !(Nat.beq m 0) && ks.all fun x => stepOk tb t m x.1 x.2
noncomputable def base1 : List (List Nat) := [[0]]
noncomputable def base2 : List (List Nat) := [[0, 1], [1, 0]]
noncomputable def base3 : List (List Nat) := [[0, 1, 2], [0, 2, 1], [1, 0, 2], [1, 2, 0], [2, 0, 1], [2, 1, 0]]
noncomputable def base4 : List (List Nat) := [[0, 1, 2, 3], [0, 1, 3, 2], [0, 2, 1, 3], [0, 2, 3, 1], [0, 3, 1, 2], [0, 3, 2, 1], [1, 0, 2, 3], [1, 0, 3, 2], [1, 2, 0, 3], [1, 2, 3, 0], [1, 3, 0, 2], [1, 3, 2, 0], [2, 0, 1, 3], [2, 0, 3, 1], [2, 1, 0, 3], [2, 1, 3, 0], [2, 3, 0, 1], [2, 3, 1, 0], [3, 0, 1, 2], [3, 0, 2, 1], [3, 1, 0, 2], [3, 1, 2, 0], [3, 2, 0, 1], [3, 2, 1, 0]]
noncomputable def base5 : List (List Nat) := [[0, 1, 2, 3, 4], [0, 1, 2, 4, 3], [0, 1, 3, 2, 4], [0, 1, 3, 4, 2], [0, 1, 4, 2, 3], [0, 1, 4, 3, 2], [0, 2, 1, 3, 4], [0, 2, 1, 4, 3], [0, 2, 3, 1, 4], [0, 2, 3, 4, 1], [0, 2, 4, 1, 3], [0, 2, 4, 3, 1], [0, 3, 1, 2, 4], [0, 3, 1, 4, 2], [0, 3, 2, 1, 4], [0, 3, 2, 4, 1], [0, 3, 4, 1, 2], [0, 3, 4, 2, 1], [0, 4, 1, 2, 3], [0, 4, 1, 3, 2], [0, 4, 2, 1, 3], [0, 4, 2, 3, 1], [0, 4, 3, 1, 2], [0, 4, 3, 2, 1], [1, 0, 2, 3, 4], [1, 0, 2, 4, 3], [1, 0, 3, 2, 4], [1, 0, 3, 4, 2], [1, 0, 4, 2, 3], [1, 0, 4, 3, 2], [1, 2, 0, 3, 4], [1, 2, 0, 4, 3], [1, 2, 3, 0, 4], [1, 2, 3, 4, 0], [1, 2, 4, 0, 3], [1, 2, 4, 3, 0], [1, 3, 0, 2, 4], [1, 3, 0, 4, 2], [1, 3, 2, 0, 4], [1, 3, 2, 4, 0], [1, 3, 4, 0, 2], [1, 3, 4, 2, 0], [1, 4, 0, 2, 3], [1, 4, 0, 3, 2], [1, 4, 2, 0, 3], [1, 4, 2, 3, 0], [1, 4, 3, 0, 2], [1, 4, 3, 2, 0], [2, 0, 1, 3, 4], [2, 0, 1, 4, 3], [2, 0, 3, 1, 4], [2, 0, 3, 4, 1], [2, 0, 4, 1, 3], [2, 0, 4, 3, 1], [2, 1, 0, 3, 4], [2, 1, 0, 4, 3], [2, 1, 3, 0, 4], [2, 1, 3, 4, 0], [2, 1, 4, 0, 3], [2, 1, 4, 3, 0], [2, 3, 0, 1, 4], [2, 3, 0, 4, 1], [2, 3, 1, 0, 4], [2, 3, 1, 4, 0], [2, 3, 4, 0, 1], [2, 3, 4, 1, 0], [2, 4, 0, 1, 3], [2, 4, 0, 3, 1], [2, 4, 1, 0, 3], [2, 4, 1, 3, 0], [2, 4, 3, 0, 1], [2, 4, 3, 1, 0], [3, 0, 1, 2, 4], [3, 0, 1, 4, 2], [3, 0, 2, 1, 4], [3, 0, 2, 4, 1], [3, 0, 4, 1, 2], [3, 0, 4, 2, 1], [3, 1, 0, 2, 4], [3, 1, 0, 4, 2], [3, 1, 2, 0, 4], [3, 1, 2, 4, 0], [3, 1, 4, 0, 2], [3, 1, 4, 2, 0], [3, 2, 0, 1, 4], [3, 2, 0, 4, 1], [3, 2, 1, 0, 4], [3, 2, 1, 4, 0], [3, 2, 4, 0, 1], [3, 2, 4, 1, 0], [3, 4, 0, 1, 2], [3, 4, 0, 2, 1], [3, 4, 1, 0, 2], [3, 4, 1, 2, 0], [3, 4, 2, 0, 1], [3, 4, 2, 1, 0], [4, 0, 1, 2, 3], [4, 0, 1, 3, 2], [4, 0, 2, 1, 3], [4, 0, 2, 3, 1], [4, 0, 3, 1, 2], [4, 0, 3, 2, 1], [4, 1, 0, 2, 3], [4, 1, 0, 3, 2], [4, 1, 2, 0, 3], [4, 1, 2, 3, 0], [4, 1, 3, 0, 2], [4, 1, 3, 2, 0], [4, 2, 0, 1, 3], [4, 2, 0, 3, 1], [4, 2, 1, 0, 3], [4, 2, 1, 3, 0], [4, 2, 3, 0, 1], [4, 2, 3, 1, 0], [4, 3, 0, 1, 2], [4, 3, 0, 2, 1], [4, 3, 1, 0, 2], [4, 3, 1, 2, 0], [4, 3, 2, 0, 1], [4, 3, 2, 1, 0]]
noncomputable def ks1 : List (Nat × Nat) := [(0, 1), (1, 1)]
noncomputable def ks2 : List (Nat × Nat) := [(0, 3), (1, 3), (2, 3), (3, 3)]
noncomputable def ks3 : List (Nat × Nat) := [(0, 63), (1, 63), (2, 63), (3, 53), (4, 63), (5, 30), (6, 43), (7, 63)]
noncomputable def ks4 : List (Nat × Nat) := [(0, 16777215), (1, 16777215), (2, 16777215), (3, 14110915), (4, 16777215), (5, 7880012), (6, 11322165), (7, 16535877), (8, 16777215), (9, 911280), (10, 3324958), (11, 1569938), (12, 12782315), (13, 4796392), (14, 10652223), (15, 16777215)]
noncomputable def ks5 : List (Nat × Nat) := [(0, 1329227995784915872903807060280344575), (1, 1329227995784915872903807060280344575), (2, 1329227995784915872903807060280344575), (3, 1117981933481886365805793914679984191), (4, 1329227995784915872903807060280344575), (5, 624318908562657704837745836243816384), (6, 897034382100728194504511315139580099), (7, 1310107228360357141643266667896111299), (8, 1329227995784915872903807060280344575), (9, 72199039936298532676991903064125440), (10, 263430312796147091961419134062312780), (11, 124383303002244641532686454751244300), (12, 1012719331347116055192811692293407541), (13, 380009324916202465920689730689745664), (14, 843956055217924953869797883278807365), (15, 1329227916655002199171659674922537285), (16, 1329227995784915872903807060280344575), (17, 4995677636783665250749250273280), (18, 319463652928665851219670488442800), (19, 15456905513314827510990689271856), (20, 20444729243261461848810247349779486), (21, 974529049246492230969958987729920), (22, 3955120176413825294269955786142866), (23, 1648421149267430705717612591187090), (24, 1308458886341002635270673778549656299), (25, 62311368968266757742295979022024704), (26, 249473652994706125808925286190362600), (27, 103938640316068329423735029534105640), (28, 1012497947763871899841008273549593151), (29, 379689899538141427684670086190369280), (30, 843951113911352358821831717322489855), (31, 1329227995784915872903807060280344575)]
theorem base1_ok : base 1 = base1 := by decide +kernel
theorem base2_ok : base 2 = base2 := by decide +kernel
theorem base3_ok : base 3 = base3 := by decide +kernel
theorem base4_ok : base 4 = base4 := by decide +kernel
theorem base5_ok : base 5 = base5 := by decide +kernel
noncomputable def ksBy (n N : Nat) (bs : List (List Nat)) : List (Nat × Nat) := (List.range N).map fun x => (x, maskL (bs.map fun o => Kh241Neutral.keepsB o x))
theorem ks1_ok : ks1 = ksBy 1 2 base1 := by decide +kernel
theorem ks2_ok : ks2 = ksBy 2 4 base2 := by decide +kernel
theorem ks3_ok : ks3 = ksBy 3 8 base3 := by decide +kernel
theorem ks4_ok : ks4 = ksBy 4 16 base4 := by decide +kernel
theorem ks5_ok : ks5 = ksBy 5 32 base5 := by decide +kernel
theorem ksBy_at {n N : Nat} {bs : List (List Nat)} (h : base n = bs) {x : Nat} (hx : x < N) : (x, maskK n x) ∈ ksBy n N bs := by
  subst h
  exact List.mem_map.mpr ⟨x, List.mem_range.mpr hx, rfl⟩
theorem keepsB_zero (o : List Nat) : Kh241Neutral.keepsB o 0 = true := by
  unfold Kh241Neutral.keepsB
  simp
theorem mask_nil (n : Nat) : mask n [] = maskK n 0 := by
  unfold mask maskK
  congr 1
  exact List.map_congr_left fun o _ => by rw [keepsB_zero]; rfl
theorem all_find {pr : Nat → T → Bool} : ∀ (tb : Tb), tb.all pr = true → ∀ (m : Nat) (t : T), t ∈ tb.find m → pr m t = true
  | .nil, _, m, t, h => by simp [Tb.find] at h
  | .nd l k ts r, ha, m, t, h => by
    simp only [Tb.all, Bool.and_eq_true] at ha
    unfold Tb.find at h
    cases e1 : Nat.blt m k with
    | true =>
      rw [e1] at h
      exact all_find l ha.2.1 m t h
    | false =>
      rw [e1] at h
      cases e2 : Nat.beq m k with
      | true =>
        rw [e2] at h
        have e := Nat.eq_of_beq_eq_true e2
        subst e
        exact List.all_eq_true.mp ha.1 t h
      | false =>
        rw [e2] at h
        exact all_find r ha.2.2 m t h
theorem all_nd {pr : Nat → T → Bool} {l r : Tb} {m : Nat} {ts : List T} (h1 : ts.all (pr m) = true) (h2 : l.all pr = true) (h3 : r.all pr = true) : (Tb.nd l m ts r).all pr = true := by
  simp only [Tb.all, h1, h2, h3, Bool.and_self]
noncomputable def For (tb : Tb) : Option T → Nat → Prop
  | none, m => m = 0
  | some t, m => t ∈ tb.find m
theorem step_ok {tb : Tb} {t : T} {m x k : Nat} (h : stepOk tb t m x k = true) : ∃ o, keep F t x = some o ∧ For tb o (Nat.land m k) := by
  unfold stepOk at h
  cases e : keep F t x with
  | none => rw [e] at h; cases h
  | some o =>
    rw [e] at h
    refine ⟨o, rfl, ?_⟩
    cases o with
    | none => exact Nat.eq_of_beq_eq_true h
    | some u =>
      obtain ⟨v, hv, q⟩ := List.any_eq_true.mp h
      rw [T.eq_of_same u v q]
      exact hv
structure Closed (n : Nat) (tb : Tb) : Prop where
  start : For tb (some (treeOfAll n)) (mask n [])
  pos : ∀ (m : Nat) (t : T), t ∈ tb.find m → m ≠ 0
  step : ∀ (m : Nat) (t : T) (x : Nat), t ∈ tb.find m → x < 2 ^ n → ∃ o, keep F t x = some o ∧ For tb o (Nat.land m (maskK n x))
theorem closed_of {n N : Nat} {tb : Tb} {ks : List (Nat × Nat)} {bs : List (List Nat)} (hb : base n = bs) (hk : ks = ksBy n N bs) (hN : 2 ^ n = N) (h : tb.all (treeOk tb ks) = true) {k0 : Nat} (h0 : ks.head? = some (0, k0)) (hs : (tb.find k0).any (T.same (treeOfAll n)) = true) : Closed n tb := by
  have hp : ∀ (m : Nat) (t : T), t ∈ tb.find m → treeOk tb ks m t = true := fun m t ht => all_find tb h m t ht
  refine ⟨?_, fun m t ht e => ?_, fun m t x ht hx => ?_⟩
  · have e0 : mask n [] = k0 := by
      rw [mask_nil]
      have q := ksBy_at (N := N) hb (x := 0) (by rw [← hN]; exact Nat.two_pow_pos n)
      rw [hk] at h0
      have q2 : (ksBy n N bs).head? = some (0, maskK n 0) := by
        subst hb
        unfold ksBy
        obtain ⟨M, rfl⟩ : ∃ M, N = M + 1 := ⟨N - 1, by have := Nat.two_pow_pos n; omega⟩
        rw [List.range_succ_eq_map]
        rfl
      rw [q2] at h0
      have h0 := Option.some.inj h0
      exact congrArg Prod.snd h0
    rw [e0]
    obtain ⟨v, hv, q⟩ := List.any_eq_true.mp hs
    show treeOfAll n ∈ tb.find k0
    rw [T.eq_of_same _ v q]
    exact hv
  · have q := hp m t ht
    unfold treeOk at q
    rw [e] at q
    cases q
  · have q := hp m t ht
    unfold treeOk at q
    rw [Bool.and_eq_true] at q
    rw [hN] at hx
    have q2 := List.all_eq_true.mp q.2 (x, maskK n x) (by rw [hk]; exact ksBy_at hb hx)
    exact step_ok q2
theorem closed_all {n : Nat} {tb : Tb} (c : Closed n tb) : ∀ (ws : List Nat) (o : Option T) (l : List Nat), For tb o (mask n l) → (∀ x ∈ ws, x < 2 ^ n) → ∃ o', keepAll o ws = some o' ∧ For tb o' (mask n (l ++ ws))
  | [], o, l, h, _ => by
    refine ⟨o, ?_, ?_⟩
    · cases o <;> rfl
    · rw [List.append_nil]
      exact h
  | x :: ws, none, l, h, _ => by
    refine ⟨none, rfl, ?_⟩
    have h : mask n l = 0 := h
    show mask n (l ++ x :: ws) = 0
    rw [mask_append, h]
    exact Nat.zero_and _
  | x :: ws, some t, l, h, hx => by
    obtain ⟨o1, h1, h2⟩ := c.step _ t x h (hx x List.mem_cons_self)
    rw [← mask_snoc] at h2
    obtain ⟨o2, h3, h4⟩ := closed_all c ws o1 _ h2 fun y hy => hx y (List.mem_cons_of_mem _ hy)
    refine ⟨o2, ?_, ?_⟩
    · show (match keep F t x with | none => none | some t' => keepAll t' ws) = some o2
      rw [h1]
      exact h3
    · rw [List.append_assoc] at h4
      exact h4
theorem for_any {n : Nat} {tb : Tb} (c : Closed n tb) {o : Option T} {l : List Nat} (h : For tb o (mask n l)) : Kh241Neutral.any_ n l = o.isSome := by
  rw [any_mask]
  cases o with
  | none =>
    have h : mask n l = 0 := h
    rw [h]
    rfl
  | some t =>
    have q := c.pos _ _ h
    cases e : Nat.beq (mask n l) 0 with
    | true => exact absurd (Nat.eq_of_beq_eq_true e) q
    | false => rfl
theorem mask_perm {n : Nat} {x : Nat} {l : List Nat} : mask n (x :: l) = mask n (l ++ [x]) := by
  rw [mask_cons, mask_snoc]
  exact Nat.and_comm ..
end Ts
end
section
namespace Ts
noncomputable def tb1 : Tb := (.nd .nil 1 [l0] .nil)
noncomputable def tb2 : Tb := (.nd .nil 3 [p [l0,l1]] .nil)
noncomputable def tb3 : Tb := (.nd (.nd (.nd .nil 10 [q [l1,l2,l0],q [l0,l2,l1]] .nil) 20 [q [l2,l0,l1],q [l1,l0,l2]] (.nd .nil 30 [p [l1,p [l0,l2]]] .nil)) 33 [q [l2,l1,l0],q [l0,l1,l2]] (.nd (.nd .nil 43 [p [l0,p [l1,l2]]] .nil) 53 [p [l2,p [l0,l1]]] (.nd .nil 63 [p [l0,l1,l2]] .nil)))
noncomputable def tb4 : Tb := (.nd (.nd (.nd (.nd (.nd (.nd (.nd .nil 544 [q [l1,l2,l3,l0],q [l0,l3,l2,l1]] .nil) 2056 [q [l1,l3,l2,l0],q [l0,l2,l3,l1]] .nil) 2600 [q [l1,p [l2,l3],l0],q [l0,p [l2,l3],l1]] (.nd .nil 9216 [q [l2,l0,l3,l1],q [l1,l3,l0,l2]] .nil)) 11272 [q [p [l0,l2],l3,l1],q [l1,l3,p [l0,l2]]] (.nd (.nd .nil 32784 [q [l2,l1,l3,l0],q [l0,l3,l1,l2]] .nil) 33328 [q [p [l1,l2],l3,l0],q [l0,l3,p [l1,l2]]] (.nd .nil 42000 [p [l2,q [l1,l3,l0]],p [l2,q [l0,l3,l1]]] .nil))) 65664 [q [l2,l3,l0,l1],q [l1,l0,l3,l2]] (.nd (.nd (.nd (.nd .nil 66208 [p [l1,q [l2,l3,l0]],p [l1,q [l0,l3,l2]]] .nil) 74880 [q [l2,p [l0,l3],l1],q [l1,p [l0,l3],l2]] .nil) 131074 [q [l2,l3,l1,l0],q [l0,l1,l3,l2]] (.nd .nil 133130 [p [l0,q [l2,l3,l1]],p [l0,q [l1,l3,l2]]] .nil)) 163858 [q [l2,p [l1,l3],l0],q [l0,p [l1,l3],l2]] (.nd (.nd .nil 196738 [q [l2,l3,p [l0,l1]],q [p [l0,l1],l3,l2]] .nil) 278528 [q [l3,l0,l1,l2],q [l2,l1,l0,l3]] (.nd .nil 311312 [q [p [l0,l3],l1,l2],q [l2,l1,p [l0,l3]]] .nil)))) 344192 [p [l2,q [l3,l0,l1]],p [l2,q [l1,l0,l3]]] (.nd (.nd (.nd (.nd (.nd .nil 386192 [p [l2,p [l1,p [l0,l3]]]] .nil) 524544 [q [l3,l0,l2,l1],q [l1,l2,l0,l3]] .nil) 525088 [q [p [l0,l3],l2,l1],q [l1,l2,p [l0,l3]]] (.nd .nil 533760 [p [l1,q [l3,l0,l2]],p [l1,q [l2,l0,l3]]] .nil)) 599968 [p [l1,p [l2,p [l0,l3]]]] (.nd (.nd .nil 803072 [q [l3,l0,p [l1,l2]],q [p [l1,l2],l0,l3]] .nil) 836400 [p [p [l0,l3],p [l1,l2]],p [p [l1,l2],p [l0,l3]]] (.nd .nil 911280 [p [l1,l2,p [l0,l3]]] .nil))) 1052672 [q [l3,l1,l0,l2],q [l2,l0,l1,l3]] (.nd (.nd (.nd .nil 1061888 [q [p [l1,l3],l0,l2],q [l2,l0,p [l1,l3]]] .nil) 1183746 [p [l2,q [l3,l1,l0]],p [l2,q [l0,l1,l3]]] (.nd .nil 1225746 [p [l2,p [l0,p [l1,l3]]]] .nil)) 1331200 [q [l3,p [l0,l1],l2],q [l2,p [l0,l1],l3]] (.nd (.nd .nil 1527938 [p [l2,p [l3,p [l0,l1]]]] .nil) 1569938 [p [l2,p [l0,l1,l3]]] (.nd .nil 2097156 [q [l3,l1,l2,l0],q [l0,l2,l1,l3]] .nil))))) 2099212 [q [p [l1,l3],l2,l0],q [l0,l2,p [l1,l3]]] (.nd (.nd (.nd (.nd (.nd (.nd .nil 2129940 [p [l0,q [l3,l1,l2]],p [l0,q [l2,l1,l3]]] .nil) 2263070 [p [l0,p [l2,p [l1,l3]]]] .nil) 2621700 [p [l3,q [l1,l2,l0]],p [l3,q [l0,l2,l1]]] (.nd .nil 3149828 [q [l3,l1,p [l0,l2]],q [p [l0,l2],l1,l3]] .nil)) 3161100 [p [p [l1,l3],p [l0,l2]],p [p [l0,l2],p [l1,l3]]] (.nd (.nd .nil 3324958 [p [l0,l2,p [l1,l3]]] .nil) 4194368 [q [l3,l2,l0,l1],q [l1,l0,l2,l3]] (.nd .nil 4196424 [p [l1,q [l3,l2,l0]],p [l1,q [l0,l2,l3]]] .nil))) 4260032 [q [p [l2,l3],l0,l1],q [l1,l0,p [l2,l3]]] (.nd (.nd (.nd .nil 4262632 [p [l1,p [l0,p [l2,l3]]]] .nil) 4718912 [q [l3,p [l0,l2],l1],q [l1,p [l0,l2],l3]] (.nd .nil 4730184 [p [l1,p [l3,p [l0,l2]]]] .nil)) 4796392 [p [l1,p [l0,l2,l3]]] (.nd (.nd .nil 5247040 [p [l3,q [l2,l0,l1]],p [l3,q [l1,l0,l2]]] .nil) 7868740 [p [l3,p [l1,p [l0,l2]]]] (.nd .nil 7880012 [p [l1,l3,p [l0,l2]]] .nil)))) 8388609 [q [l3,l2,l1,l0],q [l0,l1,l2,l3]] (.nd (.nd (.nd (.nd (.nd .nil 8389153 [p [l0,q [l3,l2,l1]],p [l0,q [l1,l2,l3]]] .nil) 8519683 [q [p [l2,l3],l1,l0],q [l0,l1,p [l2,l3]]] .nil) 8522283 [p [l0,p [l1,p [l2,l3]]]] (.nd .nil 8667137 [p [l3,q [l2,l1,l0]],p [l3,q [l0,l1,l2]]] .nil)) 10485765 [q [l3,p [l1,l2],l0],q [l0,p [l1,l2],l3]] (.nd (.nd .nil 10519093 [p [l0,p [l3,p [l1,l2]]]] .nil) 10652223 [p [l0,p [l1,l2,l3]]] (.nd .nil 11288837 [p [l3,p [l0,p [l1,l2]]]] .nil))) 11322165 [p [l0,l3,p [l1,l2]]] (.nd (.nd (.nd .nil 12582977 [q [l3,l2,p [l0,l1]],q [p [l0,l1],l2,l3]] .nil) 12779715 [p [p [l2,l3],p [l0,l1]],p [p [l0,l1],p [l2,l3]]] (.nd .nil 12782315 [p [l0,l1,p [l2,l3]]] .nil)) 13914177 [p [l3,p [l2,p [l0,l1]]]] (.nd (.nd .nil 14110915 [p [l2,l3,p [l0,l1]]] .nil) 16535877 [p [l3,p [l0,l1,l2]]] (.nd .nil 16777215 [p [l0,l1,l2,l3]] .nil))))))
noncomputable def tb5aaaa : Tb := (.nd (.nd (.nd (.nd (.nd (.nd .nil 8598323200 [q [l1,l2,l3,l4,l0],q [l0,l4,l3,l2,l1]] .nil) 34359869440 [q [l1,l2,l4,l3,l0],q [l0,l3,l4,l2,l1]] (.nd .nil 42958192640 [q [l1,l2,p [l3,l4],l0],q [l0,p [l3,l4],l2,l1]] .nil)) 549757911040 [q [l1,l3,l2,l4,l0],q [l0,l4,l2,l3,l1]] (.nd (.nd .nil 558356234240 [q [l1,p [l2,l3],l4,l0],q [l0,l4,p [l2,l3],l1]] .nil) 2199023257600 [q [l1,l3,l4,l2,l0],q [l0,l2,l4,l3,l1]] (.nd .nil 2233383127040 [q [l1,q [l3,l4,l2],l0],q [l1,q [l2,l4,l3],l0],q [l0,q [l3,l4,l2],l1],q [l0,q [l2,l4,l3],l1]] .nil))) 2748781168640 [q [l1,l3,p [l2,l4],l0],q [l0,p [l2,l4],l3,l1]] (.nd (.nd (.nd .nil 35184372121600 [q [l1,l4,l2,l3,l0],q [l0,l3,l2,l4,l1]] .nil) 35218731991040 [q [l1,p [l2,l4],l3,l0],q [l0,l3,p [l2,l4],l1]] (.nd .nil 35734130032640 [q [l1,q [l4,l2,l3],l0],q [l1,q [l3,l2,l4],l0],q [l0,q [l4,l2,l3],l1],q [l0,q [l3,l2,l4],l1]] .nil)) 37967513159680 [q [l1,p [l3,p [l2,l4]],l0],q [l0,p [l3,p [l2,l4]],l1]] (.nd (.nd .nil 140737488355840 [q [l1,l4,l3,l2,l0],q [l0,l2,l3,l4,l1]] .nil) 140746086679040 [q [l1,q [l4,l3,l2],l0],q [l1,q [l2,l3,l4],l0],q [l0,q [l4,l3,l2],l1],q [l0,q [l2,l3,l4],l1]] .nil))) 142936511613440 [q [l1,p [l3,l4],l2,l0],q [l0,l2,p [l3,l4],l1]] (.nd (.nd (.nd (.nd .nil 142979469806080 [q [l1,p [l2,p [l3,l4]],l0],q [l0,p [l2,p [l3,l4]],l1]] .nil) 175921860477440 [q [l1,l4,p [l2,l3],l0],q [l0,p [l2,l3],l4,l1]] (.nd .nil 176480216711680 [q [l1,p [l4,p [l2,l3]],l0],q [l0,p [l4,p [l2,l3]],l1]] .nil)) 178713599838720 [q [l1,p [l2,l3,l4],l0],q [l0,p [l2,l3,l4],l1]] (.nd (.nd .nil 2322168557862912 [q [l2,l0,l3,l4,l1],q [l1,l4,l3,l0,l2]] .nil) 2462906046218752 [q [p [l0,l2],l3,l4,l1],q [l1,l4,l3,p [l0,l2]]] (.nd .nil 9008298766368768 [q [l2,l0,l4,l3,l1],q [l1,l3,l4,l0,l2]] .nil))) 9010497789626368 [q [p [l0,l2],l4,l3,l1],q [l1,l3,l4,p [l0,l2]]] (.nd (.nd (.nd .nil 11330467324231680 [q [l2,l0,p [l3,l4],l1],q [l1,p [l3,l4],l0,l2]] .nil) 11473403835845120 [q [p [l0,l2],p [l3,l4],l1],q [l1,p [l3,l4],p [l0,l2]]] (.nd .nil 144115188080050176 [q [l2,l1,l3,l4,l0],q [l0,l4,l3,l1,l2]] .nil)) 144115196678373376 [q [p [l1,l2],l3,l4,l0],q [l0,l4,l3,p [l1,l2]]] (.nd (.nd .nil 153123486846418944 [p [l2,q [l1,l3,l4,l0]],p [l2,q [l0,l4,l3,l1]]] .nil) 576460752303489024 [q [l2,l1,l4,l3,l0],q [l0,l3,l4,l1,l2]] .nil)))) 576460786663358464 [q [p [l1,l2],l4,l3,l0],q [l0,l3,l4,p [l1,l2]]] (.nd (.nd (.nd (.nd (.nd .nil 578782920861351936 [p [l2,q [l1,l4,l3,l0]],p [l2,q [l0,l3,l4,l1]]] .nil) 720575940383539200 [q [l2,l1,p [l3,l4],l0],q [l0,p [l3,l4],l1,l2]] (.nd .nil 720575983341731840 [q [p [l1,l2],p [l3,l4],l0],q [l0,p [l3,l4],p [l1,l2]]] .nil)) 731906407707770880 [p [l2,q [l1,p [l3,l4],l0]],p [l2,q [l0,p [l3,l4],l1]]] (.nd (.nd .nil 2305851805306716160 [q [l2,l3,l0,l4,l1],q [l1,l4,l0,l3,l2]] .nil) 2305886989678837760 [q [q [l2,l3,l0],l4,l1],q [q [l0,l3,l2],l4,l1],q [l1,l4,q [l2,l3,l0]],q [l1,l4,q [l0,l3,l2]]] (.nd .nil 2308173973864579072 [q [l2,p [l0,l3],l4,l1],q [l1,l4,p [l0,l3],l2]] .nil))) 9223372036855300096 [q [l2,l3,l1,l4,l0],q [l0,l4,l1,l3,l2]] (.nd (.nd (.nd .nil 9223372586613211136 [q [q [l2,l3,l1],l4,l0],q [q [l1,l3,l2],l4,l0],q [l0,l4,q [l2,l3,l1]],q [l0,l4,q [l1,l3,l2]]] .nil) 9367487224935350272 [q [l2,p [l1,l3],l4,l0],q [l0,l4,p [l1,l3],l2]] (.nd .nil 11529223842162016256 [q [q [l1,l4,l0],l3,l2],q [q [l0,l4,l1],l3,l2],q [l2,l3,q [l1,l4,l0]],q [l2,l3,q [l0,l4,l1]]] .nil)) 18446744074246422528 [q [l2,l3,l4,l0,l1],q [l1,l0,l4,l3,l2]] (.nd (.nd .nil 18446744082844745728 [p [l1,q [l2,l3,l4,l0]],p [l1,q [l0,l4,l3,l2]]] .nil) 18455752373012791296 [q [l2,q [l3,l4,l0],l1],q [l2,q [l0,l4,l3],l1],q [l1,q [l3,l4,l0],l2],q [l1,q [l0,l4,l3],l2]] .nil))) 20752595879553138688 [q [l2,l3,p [l0,l4],l1],q [l1,p [l0,l4],l3,l2]] (.nd (.nd (.nd (.nd .nil 36893488147419103264 [q [l2,l3,l4,l1,l0],q [l0,l1,l4,l3,l2]] .nil) 36893628884907459104 [p [l0,q [l2,l3,l4,l1]],p [l0,q [l1,l4,l3,l2]]] (.nd .nil 37469948899722592288 [q [l2,q [l3,l4,l1],l0],q [l2,q [l1,l4,l3],l0],q [l0,q [l3,l4,l1],l2],q [l0,q [l1,l4,l3],l2]] .nil)) 46116860184274403360 [q [l2,l3,p [l1,l4],l0],q [l0,p [l1,l4],l3,l2]] (.nd (.nd .nil 55340232221665525792 [q [l2,l3,l4,p [l0,l1]],q [p [l0,l1],l4,l3,l2]] .nil) 147573952727115366400 [q [l2,l4,l0,l3,l1],q [l1,l3,l0,l4,l2]] .nil)) 147573953276873277440 [q [q [l2,l4,l0],l3,l1],q [q [l0,l4,l2],l3,l1],q [l1,l3,q [l2,l4,l0]],q [l1,l3,q [l0,l4,l2]]] (.nd (.nd (.nd .nil 147582961025881735168 [q [l2,p [l0,l4],l3,l1],q [l1,l3,p [l0,l4],l2]] .nil) 149879804532422082560 [q [l2,q [l4,l0,l3],l1],q [l2,q [l3,l0,l4],l1],q [l1,q [l4,l0,l3],l2],q [l1,q [l3,l0,l4],l2]] (.nd .nil 168335556905434873856 [q [l2,p [l3,p [l0,l4]],l1],q [l1,p [l3,p [l0,l4]],l2]] .nil)) 590295810358705659904 [q [l2,l4,l1,l3,l0],q [l0,l3,l1,l4,l2]] (.nd (.nd .nil 590295845543077781504 [q [q [l2,l4,l1],l3,l0],q [q [l1,l4,l2],l3,l0],q [l0,l3,q [l2,l4,l1]],q [l0,l3,q [l1,l4,l2]]] .nil) 590872271111009148928 [q [l2,p [l1,l4],l3,l0],q [l0,l3,p [l1,l4],l2]] .nil)))))
noncomputable def tb5aaab : Tb := (.nd (.nd (.nd (.nd (.nd (.nd .nil 636989131295283552288 [q [l2,p [l3,p [l1,l4]],l0],q [l0,p [l3,p [l1,l4]],l2]] .nil) 737869763085821026304 [q [q [l1,l3,l0],l4,l2],q [q [l0,l3,l1],l4,l2],q [l2,l4,q [l1,l3,l0]],q [l2,l4,q [l0,l3,l1]]] (.nd .nil 1180591620717545521152 [q [l2,l4,l3,l0,l1],q [l1,l0,l3,l4,l2]] .nil)) 1180591620751905390592 [p [l1,q [l2,l4,l3,l0]],p [l1,q [l0,l3,l4,l2]]] (.nd (.nd .nil 1180593942886103384064 [q [l2,q [l4,l3,l0],l1],q [l2,q [l0,l3,l4],l1],q [l1,q [l4,l3,l0],l2],q [l1,q [l0,l3,l4],l2]] .nil) 1199038364791791943680 [q [l2,p [l3,l4],l0,l1],q [l1,l0,p [l3,l4],l2]] (.nd .nil 1199038364834750136320 [p [l1,q [l2,p [l3,l4],l0]],p [l1,q [l0,p [l3,l4],l2]]] .nil))) 1199049695259116175360 [q [l2,p [l0,p [l3,l4]],l1],q [l1,p [l0,p [l3,l4]],l2]] (.nd (.nd (.nd .nil 1328165573444660887552 [q [l2,l4,p [l0,l3],l1],q [l1,p [l0,l3],l4,l2]] .nil) 1330473747418525466624 [q [l2,p [l4,p [l0,l3]],l1],q [l1,p [l4,p [l0,l3]],l2]] (.nd .nil 1348929499791538257920 [q [l2,p [l0,l3,l4],l1],q [l1,p [l0,l3,l4],l2]] .nil)) 2361183241434822606856 [q [l2,l4,l3,l1,l0],q [l0,l1,l3,l4,l2]] (.nd (.nd .nil 2361183243633845864456 [p [l0,q [l2,l4,l3,l1]],p [l0,q [l1,l3,l4,l2]]] .nil) 2361327356622902657032 [q [l2,q [l4,l3,l1],l0],q [l2,q [l1,l3,l4],l0],q [l0,q [l4,l3,l1],l2],q [l0,q [l1,l3,l4],l2]] .nil))) 2398076729582241710120 [q [l2,p [l3,l4],l1,l0],q [l0,l1,p [l3,l4],l2]] (.nd (.nd (.nd (.nd .nil 2398076872518753323560 [p [l0,q [l2,p [l3,l4],l1]],p [l0,q [l1,p [l3,l4],l2]]] .nil) 2398797305522625249320 [q [l2,p [l1,p [l3,l4]],l0],q [l0,p [l1,p [l3,l4]],l2]] (.nd .nil 2951479051793528266760 [q [l2,l4,p [l1,l3],l0],q [l0,p [l1,l3],l4,l2]] .nil)) 2960846539018463617032 [q [l2,p [l4,p [l1,l3]],l0],q [l0,p [l4,p [l1,l3]],l2]] (.nd (.nd .nil 2998316487918186209320 [q [l2,p [l1,l3,l4],l0],q [l0,p [l1,l3,l4],l2]] .nil) 3541774862152368128008 [q [l2,l4,l3,p [l0,l1]],q [p [l0,l1],l3,l4,l2]] (.nd .nil 3597115094374033653800 [q [l2,p [l3,l4],p [l0,l1]],q [p [l0,l1],p [l3,l4],l2]] .nil))) 9739880870918643253248 [q [l3,l0,l1,l4,l2],q [l2,l4,l1,l0,l3]] (.nd (.nd (.nd .nil 10330176681277348913152 [q [p [l0,l3],l1,l4,l2],q [l2,l4,l1,p [l0,l3]]] .nil) 10920472491636188774400 [q [q [l3,l0,l1],l4,l2],q [q [l1,l0,l3],l4,l2],q [l2,l4,q [l3,l0,l1]],q [l2,l4,q [l1,l0,l3]]] (.nd .nil 11658342254722009800704 [q [p [l1,p [l0,l3]],l4,l2],q [l2,l4,p [l1,p [l0,l3]]]] .nil)) 37778931880549347753984 [q [l3,l0,l2,l4,l1],q [l1,l4,l2,l0,l3]] (.nd (.nd .nil 37778931915733719875584 [q [p [l0,l3],l2,l4,l1],q [l1,l4,l2,p [l0,l3]]] .nil) 37778934202717905616896 [q [q [l3,l0,l2],l4,l1],q [q [l2,l0,l3],l4,l1],q [l1,l4,q [l3,l0,l2]],q [l1,l4,q [l2,l0,l3]]] .nil)))) 37781240089707584454656 [q [p [l2,p [l0,l3]],l4,l1],q [l1,l4,p [l2,p [l0,l3]]]] (.nd (.nd (.nd (.nd (.nd .nil 47518812751467991007232 [q [q [l2,l4,l1],l0,l3],q [q [l1,l4,l2],l0,l3],q [l3,l0,q [l2,l4,l1]],q [l3,l0,q [l1,l4,l2]]] .nil) 48109108597011068788736 [p [q [l2,l4,l1],p [l0,l3]],p [q [l1,l4,l2],p [l0,l3]],p [p [l0,l3],q [l2,l4,l1]],p [p [l0,l3],q [l1,l4,l2]]] (.nd .nil 75558151956290475130880 [q [l3,l0,l4,l1,l2],q [l2,l1,l4,l0,l3]] .nil)) 75558728417042778619904 [q [p [l0,l3],l4,l1,l2],q [l2,l1,l4,p [l0,l3]]] (.nd (.nd .nil 75560457808095781847040 [p [l2,q [l3,l0,l4,l1]],p [l2,q [l1,l4,l0,l3]]] .nil) 75561036591016643198976 [p [l2,q [p [l0,l3],l4,l1]],p [l2,q [l1,l4,p [l0,l3]]]] (.nd .nil 85298032827209118384128 [q [l3,l0,p [l1,l4],l2],q [l2,p [l1,l4],l0,l3]] .nil))) 85888905098320127533056 [q [p [l0,l3],p [l1,l4],l2],q [l2,p [l1,l4],p [l0,l3]]] (.nd (.nd (.nd .nil 151115727451845826707456 [q [l3,l0,l4,l2,l1],q [l1,l2,l4,l0,l3]] .nil) 151115727451880186576896 [q [p [l0,l3],l4,l2,l1],q [l1,l2,l4,p [l0,l3]]] (.nd .nil 151263301404572942073856 [p [l1,q [l3,l0,l4,l2]],p [l1,q [l2,l4,l0,l3]]] .nil)) 152443893025324847464448 [p [l1,q [p [l0,l3],l4,l2]],p [l1,q [l2,l4,p [l0,l3]]]] (.nd (.nd .nil 188894659332395174461440 [q [l3,l0,p [l2,l4],l1],q [l1,p [l2,l4],l0,l3]] .nil) 188894659367613906452480 [q [p [l0,l3],p [l2,l4],l1],q [l1,p [l2,l4],p [l0,l3]]] .nil))) 226673879408136301838336 [q [l3,l0,l4,p [l1,l2]],q [p [l1,l2],l4,l0,l3]] (.nd (.nd (.nd (.nd .nil 226674455868922965196800 [q [p [l0,l3],l4,p [l1,l2]],q [p [l1,l2],l4,p [l0,l3]]] .nil) 604536696783609425559552 [q [l3,l1,l0,l4,l2],q [l2,l4,l0,l1,l3]] (.nd .nil 604684270736336540925952 [q [p [l1,l3],l0,l4,l2],q [l2,l4,l0,p [l1,l3]]] .nil)) 606897880025044248166408 [q [q [l3,l1,l0],l4,l2],q [q [l0,l1,l3],l4,l2],q [l2,l4,q [l3,l1,l0]],q [l2,l4,q [l0,l1,l3]]] (.nd (.nd .nil 607635749788130069192712 [q [p [l0,p [l1,l3]],l4,l2],q [l2,l4,p [l0,p [l1,l3]]]] .nil) 614276577654528068812800 [q [l3,p [l0,l1],l4,l2],q [l2,l4,p [l0,l1],l3]] .nil)) 617818352516680436940808 [q [p [l3,p [l0,l1]],l4,l2],q [l2,l4,p [l3,p [l0,l1]]]] (.nd (.nd (.nd .nil 618556222279766257967112 [q [p [l0,l1,l3],l4,l2],q [l2,l4,p [l0,l1,l3]]] .nil) 2417851639229258350460928 [q [l3,l1,l2,l4,l0],q [l0,l4,l2,l1,l3]] (.nd .nil 2417851639229808108371968 [q [p [l1,l3],l2,l4,l0],q [l0,l4,l2,p [l1,l3]]] .nil)) 2417851783344446430511104 [q [q [l3,l1,l2],l4,l0],q [q [l2,l1,l3],l4,l0],q [l0,l4,q [l3,l1,l2]],q [l0,l4,q [l2,l1,l3]]] (.nd (.nd .nil 2417861006717033043722240 [q [p [l2,p [l1,l3]],l4,l0],q [l0,l4,p [l2,p [l1,l3]]]] .nil) 2568967366681104177168384 [p [l3,q [l1,l2,l4,l0]],p [l3,q [l0,l4,l2,l1]]] .nil)))))
noncomputable def tb5aaba : Tb := (.nd (.nd (.nd (.nd (.nd (.nd .nil 3022535909966144649297920 [p [q [l2,l4,l0],p [l1,l3]],p [q [l0,l4,l2],p [l1,l3]],p [p [l1,l3],q [l2,l4,l0]],p [p [l1,l3],q [l0,l4,l2]]] .nil) 4835703282962116326195200 [q [l3,l1,l4,l0,l2],q [l2,l0,l4,l1,l3]] (.nd .nil 4835703291970415092563968 [q [p [l1,l3],l4,l0,l2],q [l2,l0,l4,p [l1,l3]]] .nil)) 4835712506334153181495296 [p [l2,q [l3,l1,l4,l0]],p [l2,q [l0,l4,l1,l3]]] (.nd (.nd .nil 4835712659457640027914240 [p [l2,q [p [l1,l3],l4,l0]],p [l2,q [l0,l4,p [l1,l3]]]] .nil) 4911261434918406801326080 [q [l3,q [l1,l4,l0],l2],q [l3,q [l0,l4,l1],l2],q [l2,q [l1,l4,l0],l3],q [l2,q [l0,l4,l1],l3]] (.nd .nil 4911272964142248963342336 [p [l2,p [l3,q [l1,l4,l0]]],p [l2,p [l3,q [l0,l4,l1]]]] .nil))) 5440239979745725751754752 [q [l3,l1,p [l0,l4],l2],q [l2,p [l0,l4],l1,l3]] (.nd (.nd (.nd .nil 5440387562706751633489920 [q [p [l1,l3],p [l0,l4],l2],q [l2,p [l0,l4],p [l1,l3]]] .nil) 9671406556917033397650432 [q [l3,l1,l4,l2,l0],q [l0,l2,l4,l1,l3]] (.nd .nil 9671406556919232420908032 [q [p [l1,l3],l4,l2,l0],q [l0,l2,l4,p [l1,l3]]] .nil)) 9671996852727392103310336 [p [l0,q [l3,l1,l4,l2]],p [l0,q [l2,l4,l1,l3]]] (.nd (.nd .nil 9674358035971025949174792 [p [l0,q [p [l1,l3],l4,l2]],p [l0,q [l2,l4,p [l1,l3]]]] .nil) 9709185488797582745404416 [p [l3,q [l1,l4,l2,l0]],p [l3,q [l0,l2,l4,l1]]] .nil))) 12089258196146291748111360 [q [l3,l1,p [l2,l4],l0],q [l0,p [l2,l4],l1,l3]] (.nd (.nd (.nd (.nd .nil 12089258196149040529280000 [q [p [l1,l3],p [l2,l4],l0],q [l0,p [l2,l4],p [l1,l3]]] .nil) 12278152855478686922572800 [p [l3,q [l1,p [l2,l4],l0]],p [l3,q [l0,p [l2,l4],l1]]] (.nd .nil 14507109839879149723845632 [q [l3,l1,l4,p [l0,l2]],q [p [l0,l2],l4,l1,l3]] .nil)) 14507109848889647513472000 [q [p [l1,l3],l4,p [l0,l2]],q [p [l0,l2],l4,p [l1,l3]]] (.nd (.nd .nil 38685626227672531637108736 [q [l3,l2,l0,l4,l1],q [l1,l4,l0,l2,l3]] .nil) 38685626227813269125464576 [q [q [l3,l2,l0],l4,l1],q [q [l0,l2,l3],l4,l1],q [l1,l4,q [l3,l2,l0]],q [l1,l4,q [l0,l2,l3]]] (.nd .nil 38685628533524336943824896 [q [p [l2,l3],l0,l4,l1],q [l1,l4,l0,p [l2,l3]]] .nil))) 38685628533700258804302336 [q [p [l0,p [l2,l3]],l4,l1],q [l1,l4,p [l0,p [l2,l3]]]] (.nd (.nd (.nd .nil 38723405159553080984862720 [q [l3,p [l0,l2],l4,l1],q [l1,l4,p [l0,l2],l3]] .nil) 38723405162015987031081472 [q [p [l3,p [l0,l2]],l4,l1],q [l1,l4,p [l3,p [l0,l2]]]] (.nd .nil 38723407467902976709919232 [q [p [l0,l2,l3],l4,l1],q [l1,l4,p [l0,l2,l3]]] .nil)) 43521329510634647963303936 [p [l3,q [l2,l0,l4,l1]],p [l3,q [l1,l4,l0,l2]]] (.nd (.nd .nil 53230514999432230708708352 [p [l3,q [p [l0,l2],l4,l1]],p [l3,q [l1,l4,p [l0,l2]]]] .nil) 154742504910672534362652672 [q [l3,l2,l1,l4,l0],q [l0,l4,l1,l2,l3]] .nil)))) 154742504910672542960975872 [q [q [l3,l2,l1],l4,l0],q [q [l1,l2,l3],l4,l0],q [l0,l4,q [l3,l2,l1]],q [l0,l4,q [l1,l2,l3]]] (.nd (.nd (.nd (.nd (.nd .nil 154742514134044571217952768 [q [p [l2,l3],l1,l4,l0],q [l0,l4,l1,p [l2,l3]]] .nil) 154742514134045129574187008 [q [p [l1,p [l2,l3]],l4,l0],q [l0,l4,p [l1,p [l2,l3]]]] (.nd .nil 154818063062628824837783552 [p [l3,q [l2,l1,l4,l0]],p [l3,q [l0,l4,l1,l2]]] .nil)) 157160356549901792713113600 [q [l3,p [l1,l2],l4,l0],q [l0,l4,p [l1,l2],l3]] (.nd (.nd .nil 157160356694016989391486976 [q [p [l3,p [l1,l2]],l4,l0],q [l0,l4,p [l3,p [l1,l2]]]] .nil) 157160365917389576004698112 [q [p [l1,l2,l3],l4,l0],q [l0,l4,p [l1,l2,l3]]] (.nd .nil 157387030429309929014951936 [p [l3,q [p [l1,l2],l4,l0]],p [l3,q [l0,l4,p [l1,l2]]]] .nil))) 193428131138345065999761408 [q [q [l1,l4,l0],l2,l3],q [q [l0,l4,l1],l2,l3],q [l3,l2,q [l1,l4,l0]],q [l3,l2,q [l0,l4,l1]]] (.nd (.nd (.nd .nil 193428142667568908161777664 [p [q [l1,l4,l0],p [l2,l3]],p [q [l0,l4,l1],p [l2,l3]],p [p [l2,l3],q [l1,l4,l0]],p [p [l2,l3],q [l0,l4,l1]]] .nil) 198339392573263472801087488 [p [l3,p [l2,q [l1,l4,l0]]],p [l3,p [l2,q [l0,l4,l1]]]] (.nd .nil 198339404102487314963103744 [p [l2,l3,q [l1,l4,l0]],p [l2,l3,q [l0,l4,l1]]] .nil)) 309485009821345068993216512 [q [l3,l2,l4,l0,l1],q [l1,l0,l4,l2,l3]] (.nd (.nd .nil 309485009821345618751127552 [p [l1,q [l3,l2,l4,l0]],p [l1,q [l0,l4,l2,l3]]] .nil) 309485028268089143239639040 [q [p [l2,l3],l4,l0,l1],q [l1,l0,l4,p [l2,l3]]] .nil))) 309485028268089701595873280 [p [l1,q [p [l2,l3],l4,l0]],p [l1,q [l0,l4,p [l2,l3]]]] (.nd (.nd (.nd (.nd .nil 309636125548796914819923968 [q [l3,q [l2,l4,l0],l1],q [l3,q [l0,l4,l2],l1],q [l1,q [l2,l4,l0],l3],q [l1,q [l0,l4,l2],l3]] .nil) 309636273122750191693201408 [p [l1,p [l3,q [l2,l4,l0]]],p [l1,p [l3,q [l0,l4,l2]]]] (.nd .nil 310089546518128678418776064 [p [l3,q [l2,l4,l0,l1]],p [l3,q [l1,l0,l4,l2]]] .nil)) 312658513884809782595944448 [p [l3,p [l1,q [l2,l4,l0]]],p [l3,p [l1,q [l0,l4,l2]]]] (.nd (.nd .nil 312658661458763059469221888 [p [l1,l3,q [l2,l4,l0]],p [l1,l3,q [l0,l4,l2]]] .nil) 348170636049017600630325248 [q [l3,l2,p [l0,l4],l1],q [l1,p [l0,l4],l2,l3]] .nil)) 348170656801613480183463936 [q [p [l2,l3],p [l0,l4],l1],q [l1,p [l0,l4],p [l2,l3]]] (.nd (.nd (.nd .nil 353610876028763326382080000 [p [l3,q [l2,p [l0,l4],l1]],p [l3,q [l1,p [l0,l4],l2]]] .nil) 618970019642690137449562128 [q [l3,l2,l4,l1,l0],q [l0,l1,l4,l2,l3]] (.nd .nil 618970019642725321821683728 [p [l0,q [l3,l2,l4,l1]],p [l0,q [l1,l4,l2,l3]]] .nil)) 618970056536178284868665392 [q [p [l2,l3],l4,l1,l0],q [l0,l1,l4,p [l2,l3]]] (.nd (.nd .nil 618970056536354206729142832 [p [l0,q [p [l2,l3],l4,l1]],p [l0,q [l1,l4,p [l2,l3]]]] .nil) 618979759523561056092815376 [p [l3,q [l2,l4,l1,l0]],p [l3,q [l0,l1,l4,l2]]] .nil)))))
noncomputable def tb5aabb : Tb := (.nd (.nd (.nd (.nd (.nd (.nd .nil 628642016495452713924994064 [p [l0,p [l3,q [l2,l4,l1]]],p [l0,p [l3,q [l1,l4,l2]]]] .nil) 628688945012358638838219792 [p [l3,p [l0,q [l2,l4,l1]]],p [l3,p [l0,q [l1,l4,l2]]]] (.nd .nil 628689535308204181916001296 [p [l0,l3,q [l2,l4,l1]],p [l0,l3,q [l1,l4,l2]]] .nil)) 773712524553362671812214800 [q [l3,l2,p [l1,l4],l0],q [l0,p [l1,l4],l2,l3]] (.nd (.nd .nil 773712570670222856086618160 [q [p [l2,l3],p [l1,l4],l0],q [l0,p [l1,l4],p [l2,l3]]] .nil) 773797822586189880930598928 [p [l3,q [l2,p [l1,l4],l0]],p [l3,q [l0,p [l1,l4],l2]]] (.nd .nil 928455029464035206442778640 [q [l3,l2,l4,p [l0,l1]],q [p [l0,l1],l4,l2,l3]] .nil))) 928455084804267428108304432 [q [p [l2,l3],l4,p [l0,l1]],q [p [l0,l1],l4,p [l2,l3]]] (.nd (.nd (.nd .nil 929069306041689734511591440 [p [l3,q [l2,l4,p [l0,l1]]],p [l3,q [p [l0,l1],l4,l2]]] .nil) 1237940039321409071918088192 [q [l3,l4,l0,l1,l2],q [l2,l1,l0,l4,l3]] (.nd .nil 1237940039465524259998138368 [q [q [l3,l4,l0],l1,l2],q [q [l0,l4,l3],l1,l2],q [l2,l1,q [l3,l4,l0]],q [l2,l1,q [l0,l4,l3]]] .nil)) 1237940057768153146164510720 [p [l2,q [l3,l4,l0,l1]],p [l2,q [l1,l0,l4,l3]]] (.nd (.nd .nil 1237940057921276633010929664 [p [l2,p [l1,q [l3,l4,l0]]],p [l2,p [l1,q [l0,l4,l3]]]] .nil) 1238015597473365362393219072 [q [l3,p [l0,l4],l1,l2],q [l2,l1,p [l0,l4],l3]] .nil))) 1238015618225961241946357760 [p [l2,q [l3,p [l0,l4],l1]],p [l2,q [l1,p [l0,l4],l3]]] (.nd (.nd (.nd (.nd .nil 1238544576018192681343647744 [q [l3,q [l4,l0,l1],l2],q [l3,q [l1,l0,l4],l2],q [l2,q [l4,l0,l1],l3],q [l2,q [l1,l0,l4],l3]] .nil) 1243455837453111088144973824 [q [l3,p [l1,p [l0,l4]],l2],q [l2,p [l1,p [l0,l4]],l3]] (.nd .nil 2475880078570760551945732096 [q [l3,l4,l0,l2,l1],q [l1,l2,l0,l4,l3]] .nil)) 2475880078570760560544055296 [q [q [l3,l4,l0],l2,l1],q [q [l0,l4,l3],l2,l1],q [l1,l2,q [l3,l4,l0]],q [l1,l2,q [l0,l4,l3]]] (.nd (.nd .nil 2475880078579768850712100864 [p [l1,q [l3,l4,l0,l2]],p [l1,q [l2,l0,l4,l3]]] .nil) 2475880097026512933556846592 [p [l1,p [l2,q [l3,l4,l0]]],p [l1,p [l2,q [l0,l4,l3]]]] (.nd .nil 2476031194298212397772439552 [q [l3,p [l0,l4],l2,l1],q [l1,l2,p [l0,l4],l3]] .nil))) 2476031341881173423654174720 [p [l1,q [l3,p [l0,l4],l2]],p [l1,q [l2,p [l0,l4],l3]]] (.nd (.nd (.nd .nil 2514565704798433083582840832 [q [l3,q [l4,l0,l2],l1],q [l3,q [l2,l0,l4],l1],q [l1,q [l4,l0,l2],l3],q [l1,q [l2,l0,l4],l3]] .nil) 2824201830347229998402764800 [q [l3,p [l2,p [l0,l4]],l1],q [l1,p [l2,p [l0,l4]],l3]] (.nd .nil 3713820117892169623863820288 [q [l3,l4,l0,p [l1,l2]],q [p [l1,l2],l0,l4,l3]] .nil)) 3713820118036284820542193664 [p [q [l3,l4,l0],p [l1,l2]],p [q [l0,l4,l3],p [l1,l2]],p [p [l1,l2],q [l3,l4,l0]],p [p [l1,l2],q [l0,l4,l3]]] (.nd (.nd .nil 3713820136492037193554984960 [p [l1,l2,q [l3,l4,l0]],p [l1,l2,q [l0,l4,l3]]] .nil) 3714046791771577760165658624 [q [l3,p [l0,l4],p [l1,l2]],q [p [l1,l2],p [l0,l4],l3]] .nil)))) 4951760157142084049549918208 [q [l3,l4,l1,l0,l2],q [l2,l0,l1,l4,l3]] (.nd (.nd (.nd (.nd (.nd .nil 4951760157144406218107781120 [q [q [l3,l4,l1],l0,l2],q [q [l1,l4,l3],l0,l2],q [l2,l0,q [l3,l4,l1]],q [l2,l0,q [l1,l4,l3]]] .nil) 4951760194035572196969021472 [p [l2,q [l3,l4,l1,l0]],p [l2,q [l0,l1,l4,l3]]] (.nd .nil 4951760194614355117830373408 [p [l2,p [l0,q [l3,l4,l1]]],p [l2,p [l0,q [l1,l4,l3]]]] .nil)) 4951769897022954968193171456 [q [l3,q [l4,l1,l0],l2],q [l3,q [l0,l1,l4],l2],q [l2,q [l4,l1,l0],l3],q [l2,q [l0,l1,l4],l3]] (.nd (.nd .nil 4956595860425046165876113408 [q [l3,p [l1,l4],l0,l2],q [l2,l0,p [l1,l4],l3]] .nil) 4956595906541906350150516768 [p [l2,q [l3,p [l1,l4],l0]],p [l2,q [l0,p [l1,l4],l3]]] (.nd .nil 4956681158457873374994497536 [q [l3,p [l0,p [l1,l4]],l2],q [l2,p [l0,p [l1,l4]],l3]] .nil))) 6189700196463493121468006400 [q [l3,l4,p [l0,l1],l2],q [l2,p [l0,l1],l4,l3]] (.nd (.nd (.nd .nil 6189700251803725343133532192 [p [l2,q [l3,l4,p [l0,l1]]],p [l2,q [p [l0,l1],l4,l3]]] .nil) 6190314473041147649536819200 [q [l3,p [l4,p [l0,l1]],l2],q [l2,p [l4,p [l0,l1]],l3]] (.nd .nil 6195225734476066056338145280 [q [l3,p [l0,l1,l4],l2],q [l2,p [l0,l1,l4],l3]] .nil)) 9903520314283042199192993920 [q [l3,l4,l1,l2,l0],q [l0,l2,l1,l4,l3]] (.nd (.nd .nil 9903520314283182936681349760 [q [q [l3,l4,l1],l2,l0],q [q [l1,l4,l3],l2,l0],q [l0,l2,q [l3,l4,l1]],q [l0,l2,q [l1,l4,l3]]] .nil) 9903520314859502951496482944 [p [l0,q [l3,l4,l1,l2]],p [l0,q [l2,l1,l4,l3]]] .nil))) 9903520351753131836403942048 [p [l0,p [l2,q [l3,l4,l1]]],p [l0,p [l2,q [l1,l4,l3]]]] (.nd (.nd (.nd (.nd .nil 9913191720839959232590644352 [q [l3,p [l1,l4],l2,l0],q [l0,l2,p [l1,l4],l3]] .nil) 9913192311712230343599793280 [p [l0,q [l3,p [l1,l4],l2]],p [l0,q [l2,p [l1,l4],l3]]] (.nd .nil 10058262819193714733555646592 [q [l3,q [l4,l1,l2],l0],q [l3,q [l2,l1,l4],l0],q [l0,q [l4,l1,l2],l3],q [l0,q [l2,l1,l4],l3]] .nil)) 10686904245393321904402859152 [q [l3,p [l2,p [l1,l4]],l0],q [l0,p [l2,p [l1,l4]],l3]] (.nd (.nd .nil 12379400392853802751138726016 [q [l3,l4,q [l1,l2,l0]],q [l3,l4,q [l0,l2,l1]],q [q [l1,l2,l0],l4,l3],q [q [l0,l2,l1],l4,l3]] .nil) 14855280471425126248742912128 [q [l3,l4,l1,p [l0,l2]],q [p [l0,l2],l1,l4,l3]] .nil)) 14855280471427589154789130880 [p [q [l3,l4,l1],p [l0,l2]],p [q [l1,l4,l3],p [l0,l2]],p [p [l0,l2],q [l3,l4,l1]],p [p [l0,l2],q [l1,l4,l3]]] (.nd (.nd (.nd .nil 14855280508897538054511723168 [p [l0,l2,q [l3,l4,l1]],p [l0,l2,q [l1,l4,l3]]] .nil) 14869787581265005398466757760 [q [l3,p [l1,l4],p [l0,l2]],q [p [l0,l2],p [l1,l4],l3]] (.nd .nil 19807040628566084398419542016 [q [l3,l4,l2,l0,l1],q [l1,l0,l2,l4,l3]] .nil)) 19807040628566086597442799616 [p [l1,q [l3,l4,l2,l0]],p [l1,q [l0,l2,l4,l3]]] (.nd (.nd .nil 19807041809157705115965063168 [q [q [l3,l4,l2],l0,l1],q [q [l2,l4,l3],l0,l1],q [l1,l0,q [l3,l4,l2]],q [l1,l0,q [l2,l4,l3]]] .nil) 19807041809157707349348190208 [p [l1,p [l0,q [l3,l4,l2]]],p [l1,p [l0,q [l2,l4,l3]]]] .nil)))))
noncomputable def tb5abaa : Tb := (.nd (.nd (.nd (.nd (.nd (.nd .nil 20116525638387429467412758528 [q [l3,p [l2,l4],l0,l1],q [l1,l0,p [l2,l4],l3]] .nil) 20116525638387432216193927168 [p [l1,q [l3,p [l2,l4],l0]],p [l1,q [l0,p [l2,l4],l3]]] (.nd .nil 20116714533046761862587219968 [q [l3,p [l0,p [l2,l4]],l1],q [l1,p [l0,p [l2,l4]],l3]] .nil)) 22282920707136844950365274112 [q [l3,l4,p [l0,l2],l1],q [l1,p [l0,l2],l4,l3]] (.nd (.nd .nil 22282920707145855448154900480 [p [l1,q [l3,l4,p [l0,l2]]],p [l1,q [p [l0,l2],l4,l3]]] .nil) 22321644112296398031350136832 [q [l3,p [l4,p [l0,l2]],l1],q [l1,p [l4,p [l0,l2]],l3]] (.nd .nil 22631280237845194946170060800 [q [l3,p [l0,l2,l4],l1],q [l1,p [l0,l2,l4],l3]] .nil))) 24758800785708168447969460224 [q [l3,l4,q [l2,l0,l1]],q [l3,l4,q [l1,l0,l2]],q [q [l2,l0,l1],l4,l3],q [q [l1,l0,l2],l4,l3]] (.nd (.nd (.nd .nil 37138201178561971199108186240 [q [l3,l4,p [l1,p [l0,l2]]],q [p [l1,p [l0,l2]],l4,l3]] .nil) 39614081257132168796771975170 [q [l3,l4,l2,l1,l0],q [l0,l1,l2,l4,l3]] (.nd .nil 39614081257132168831131844610 [p [l0,q [l3,l4,l2,l1]],p [l0,q [l1,l2,l4,l3]]] .nil)) 39614083618315410231594582026 [q [q [l3,l4,l2],l1,l0],q [q [l2,l4,l3],l1,l0],q [l0,l1,q [l3,l4,l2]],q [l0,l1,q [l2,l4,l3]]] (.nd (.nd .nil 39614083618315412464977709066 [p [l0,p [l1,q [l3,l4,l2]]],p [l0,p [l1,q [l2,l4,l3]]]] .nil) 39616499108771398055122436098 [q [l3,q [l4,l2,l1],l0],q [l3,q [l1,l2,l4],l0],q [l0,q [l4,l2,l1],l3],q [l0,q [l1,l2,l4],l3]] .nil))) 40233051276774858934221537298 [q [l3,p [l2,l4],l1,l0],q [l0,l1,p [l2,l4],l3]] (.nd (.nd (.nd (.nd .nil 40233051276774894152953528338 [p [l0,q [l3,p [l2,l4],l1]],p [l0,q [l1,p [l2,l4],l3]]] .nil) 40245140534971005225969648658 [q [l3,p [l1,p [l2,l4]],l0],q [l0,p [l1,p [l2,l4]],l3]] (.nd .nil 40852021296453577868690063362 [q [l3,l4,q [l2,l1,l0]],q [l3,l4,q [l0,l1,l2]],q [q [l2,l1,l0],l4,l3],q [q [l0,l1,l2],l4,l3]] .nil)) 49517601571415210995964969090 [q [l3,l4,p [l1,l2],l0],q [l0,p [l1,l2],l4,l3]] (.nd (.nd .nil 49517601571991671782628327554 [p [l0,q [l3,l4,p [l1,l2]]],p [l0,q [p [l1,l2],l4,l3]]] .nil) 49674761927965112788678082690 [q [l3,p [l4,p [l1,l2]],l0],q [l0,p [l4,p [l1,l2]],l3]] (.nd .nil 50303403354164719959525295250 [q [l3,p [l1,l2,l4],l0],q [l0,p [l1,l2,l4],l3]] .nil))) 53231421689307380619828789378 [q [l3,l4,p [l0,p [l1,l2]]],q [p [l0,p [l1,l2]],l4,l3]] (.nd (.nd (.nd .nil 59421121885698253195191517186 [q [l3,l4,l2,p [l0,l1]],q [p [l0,l1],l2,l4,l3]] .nil) 59421125427473115347559645194 [p [q [l3,l4,l2],p [l0,l1]],p [q [l2,l4,l3],p [l0,l1]],p [p [l0,l1],q [l3,l4,l2]],p [p [l0,l1],q [l2,l4,l3]]] (.nd .nil 59421125427473117580942772234 [p [l0,l1,q [l3,l4,l2]],p [l0,l1,q [l2,l4,l3]]] .nil)) 60349576915162288401634295826 [q [l3,p [l2,l4],p [l0,l1]],q [p [l0,l1],p [l2,l4],l3]] (.nd (.nd .nil 65610822082161746316659523586 [q [l3,l4,p [l2,p [l0,l1]]],q [p [l2,p [l0,l1]],l4,l3]] .nil) 77990222475015549067798249602 [q [l3,l4,p [l0,l1,l2]],q [p [l0,l1,l2],l4,l3]] .nil)))) 79305533766719673860725145600 [q [l4,l0,l1,l2,l3],q [l3,l2,l1,l0,l4]] (.nd (.nd (.nd (.nd (.nd .nil 79460276271630346395087798272 [q [p [l0,l4],l1,l2,l3],q [l3,l2,l1,p [l0,l4]]] .nil) 79615018776541018929718362112 [q [q [l4,l0,l1],l2,l3],q [q [l1,l0,l4],l2,l3],q [l3,l2,q [l4,l0,l1]],q [l3,l2,q [l1,l0,l4]]] (.nd .nil 79808446907679363995718123520 [q [p [l1,p [l0,l4]],l2,l3],q [l3,l2,p [l1,p [l0,l4]]]] .nil)) 80543473806041082932643233792 [p [l3,q [l4,l0,l1,l2]],p [l3,q [l2,l1,l0,l4]]] (.nd (.nd .nil 80698291869103711757481017344 [p [l3,q [p [l0,l4],l1,l2]],p [l3,q [l2,l1,p [l0,l4]]]] .nil) 80853563352559211611062009856 [p [l3,p [l2,q [l4,l0,l1]]],p [l3,p [l2,q [l1,l0,l4]]]] (.nd .nil 81051902745132475083863097344 [p [l3,p [l2,p [l1,p [l0,l4]]]]] .nil))) 158456325033140361205515288576 [q [l4,l0,l1,l3,l2],q [l2,l3,l1,l0,l4]] (.nd (.nd (.nd .nil 158456325042363733242370588672 [q [p [l0,l4],l1,l3,l2],q [l2,l3,l1,p [l0,l4]]] .nil) 158456325051587105279761711104 [q [q [l4,l0,l1],l3,l2],q [q [l1,l0,l4],l3,l2],q [l2,l3,q [l4,l0,l1]],q [l2,l3,q [l1,l0,l4]]] (.nd .nil 158456325063116329121923727360 [q [p [l1,p [l0,l4]],l3,l2],q [l2,l3,p [l1,p [l0,l4]]]] .nil)) 158456929569837144814940848128 [p [l2,q [l4,l0,l1,l3]],p [l2,q [l3,l1,l0,l4]]] (.nd (.nd .nil 158461765282343478968122343424 [p [l2,q [p [l0,l4],l1,l3]],p [l2,q [l3,l1,p [l0,l4]]]] .nil) 159694869627605297961105358848 [p [l2,p [l3,q [l4,l0,l1]]],p [l2,p [l3,q [l1,l0,l4]]]] .nil))) 159699780900569440210068701184 [p [l2,p [l3,p [l1,p [l0,l4]]]]] (.nd (.nd (.nd (.nd .nil 237761858799860035066240434176 [q [l4,l0,l1,p [l2,l3]],q [p [l2,l3],l1,l0,l4]] .nil) 237916601313994079637458386944 [q [p [l0,l4],l1,p [l2,l3]],q [p [l2,l3],l1,p [l0,l4]]] (.nd .nil 238071343828128124209480073216 [p [q [l4,l0,l1],p [l2,l3]],p [q [l1,l0,l4],p [l2,l3]],p [p [l2,l3],q [l4,l0,l1]],p [p [l2,l3],q [l1,l0,l4]]] .nil)) 238264771970795693117641850880 [p [p [l1,p [l0,l4]],p [l2,l3]],p [p [l2,l3],p [l1,p [l0,l4]]]] (.nd (.nd .nil 239309888404146316890823720960 [p [l2,l3,q [l4,l0,l1]],p [l2,l3,q [l1,l0,l4]]] .nil) 239508227808248804205786824704 [p [l2,l3,p [l1,p [l0,l4]]]] .nil)) 316913858982876965003350507520 [q [l4,l0,l2,l1,l3],q [l3,l1,l2,l0,l4]] (.nd (.nd (.nd .nil 316916276834516194261700968448 [q [p [l0,l4],l2,l1,l3],q [l3,l1,l2,p [l0,l4]]] .nil) 316918694686159927119676702720 [q [q [l4,l0,l2],l1,l3],q [q [l2,l0,l4],l1,l3],q [l3,l1,q [l4,l0,l2]],q [l3,l1,q [l2,l0,l4]]] (.nd .nil 316921717074495939987452723200 [q [p [l2,p [l0,l4]],l1,l3],q [l3,l1,p [l2,p [l0,l4]]]] .nil)) 319389739061447725555296239616 [p [l3,q [l4,l0,l2,l1]],p [l3,q [l1,l2,l0,l4]]] (.nd (.nd .nil 319392308028814406659473408000 [p [l3,q [p [l0,l4],l2,l1]],p [l3,q [l1,l2,p [l0,l4]]]] .nil) 319433260390958360203259543552 [p [l3,p [l1,q [l4,l0,l2]]],p [l3,p [l1,q [l2,l0,l4]]]] .nil)))))
noncomputable def tb5abab : Tb := (.nd (.nd (.nd (.nd (.nd (.nd .nil 396219392749596638864075653120 [q [l4,l0,p [l1,l2],l3],q [l3,p [l1,l2],l0,l4]] .nil) 396376553106146540656788766720 [q [p [l0,l4],p [l1,l2],l3],q [l3,p [l1,l2],p [l0,l4]]] (.nd .nil 399933212867488808487939473408 [p [l3,q [l4,l0,p [l1,l2]]],p [l3,q [p [l1,l2],l0,l4]]] .nil)) 400090599897918118416954425344 [p [l3,p [p [l0,l4],p [l1,l2]]],p [l3,p [p [l1,l2],p [l0,l4]]]] (.nd (.nd .nil 400444210773946881743336505344 [p [l3,p [l1,l2,p [l0,l4]]]] .nil) 633825300114114701023229509632 [q [l4,l0,l2,l3,l1],q [l1,l3,l2,l0,l4]] (.nd .nil 633825300114114701572987420672 [q [p [l0,l4],l2,l3,l1],q [l1,l3,l2,p [l0,l4]]] .nil))) 633825300114123709321995878400 [q [q [l4,l0,l2],l3,l1],q [q [l2,l0,l4],l3,l1],q [l1,l3,q [l4,l0,l2]],q [l1,l3,q [l2,l0,l4]]] (.nd (.nd (.nd .nil 633825300261697662598869155840 [q [p [l2,p [l0,l4]],l3,l1],q [l1,l3,p [l2,p [l0,l4]]]] .nil) 633863985740342373554866618368 [p [l1,q [l4,l0,l2,l3]],p [l1,q [l3,l2,l0,l4]]] (.nd .nil 634173470750163719173617745920 [p [l1,q [p [l0,l4],l2,l3]],p [l1,q [l3,l2,p [l0,l4]]]] .nil)) 636339865818922142405578719232 [p [l1,p [l3,q [l4,l0,l2]]],p [l1,p [l3,q [l2,l0,l4]]]] (.nd (.nd .nil 636649502092044892597271920640 [p [l1,p [l3,p [l2,p [l0,l4]]]]] .nil) 792281625147255062228744798208 [q [l4,l0,q [l2,l3,l1]],q [l4,l0,q [l1,l3,l2]],q [q [l2,l3,l1],l0,l4],q [q [l1,l3,l2],l0,l4]] .nil))) 792281625156478434815358009344 [p [p [l0,l4],q [l2,l3,l1]],p [p [l0,l4],q [l1,l3,l2]],p [q [l2,l3,l1],p [l0,l4]],p [q [l1,l3,l2],p [l0,l4]]] (.nd (.nd (.nd (.nd .nil 950739159096991666026580017152 [q [l4,l0,l2,p [l1,l3]],q [p [l1,l3],l2,l0,l4]] .nil) 950741576948630895834688389120 [q [p [l0,l4],l2,p [l1,l3]],q [p [l1,l3],l2,p [l0,l4]]] (.nd .nil 950743994800283636441672581120 [p [q [l4,l0,l2],p [l1,l3]],p [q [l2,l0,l4],p [l1,l3]],p [p [l1,l3],q [l4,l0,l2]],p [p [l1,l3],q [l2,l0,l4]]] .nil)) 950747017336193602586321879040 [p [p [l2,p [l0,l4]],p [l1,l3]],p [p [l1,l3],p [l2,p [l0,l4]]]] (.nd (.nd .nil 953258560505082069525255421952 [p [l1,l3,q [l4,l0,l2]],p [l1,l3,q [l2,l0,l4]]] .nil) 953571219166540832584724643840 [p [l1,l3,p [l2,p [l0,l4]]]] (.nd .nil 1267650600228301459090741133312 [q [l4,l0,l3,l1,l2],q [l2,l1,l3,l0,l4]] .nil))) 1267650600228445574278821183488 [q [p [l0,l4],l3,l1,l2],q [l2,l1,l3,p [l0,l4]]] (.nd (.nd (.nd .nil 1267650600375875411817856499712 [p [l2,q [l4,l0,l3,l1]],p [l2,q [l1,l3,l0,l4]]] .nil) 1267650600376028535304702918656 [p [l2,q [p [l0,l4],l3,l1]],p [l2,q [l1,l3,p [l0,l4]]]] (.nd .nil 1267650675786453415381216264192 [q [q [l4,l0,l3],l1,l2],q [q [l3,l0,l4],l1,l2],q [l2,l1,q [l4,l0,l3]],q [l2,l1,q [l3,l0,l4]]] .nil)) 1267650675936333219913638346752 [p [l2,p [l1,q [l4,l0,l3]]],p [l2,p [l1,q [l3,l0,l4]]]] (.nd (.nd .nil 1268888615825918939641214402560 [q [p [l3,p [l0,l4]],l1,l2],q [l2,l1,p [l3,p [l0,l4]]]] .nil) 1268888615994254496546649276416 [p [l2,p [l1,p [l3,p [l0,l4]]]]] .nil)))) 1426106925261441820296256421888 [q [l4,l0,p [l1,l3],l2],q [l2,p [l1,l3],l0,l4]] (.nd (.nd (.nd (.nd (.nd .nil 1426106925270809307521191772160 [q [p [l0,l4],p [l1,l3],l2],q [l2,p [l1,l3],p [l0,l4]]] .nil) 1426107529945712556632797347840 [p [l2,q [l4,l0,p [l1,l3]]],p [l2,q [p [l1,l3],l0,l4]]] (.nd .nil 1426112365658372014272825262080 [p [l2,p [p [l0,l4],p [l1,l3]]],p [l2,p [p [l1,l3],p [l0,l4]]]] .nil)) 1427350381276597975514771619840 [p [l2,p [l1,l3,p [l0,l4]]]] (.nd (.nd .nil 1584564459211178424094091640832 [q [l4,l0,q [l3,l1,l2]],q [l4,l0,q [l2,l1,l3]],q [q [l3,l1,l2],l0,l4],q [q [l2,l1,l3],l0,l4]] .nil) 1584566877062961768540522151936 [p [p [l0,l4],q [l3,l1,l2]],p [p [l0,l4],q [l2,l1,l3]],p [q [l3,l1,l2],p [l0,l4]],p [q [l2,l1,l3],p [l0,l4]]] (.nd .nil 2376846084358433486322836439040 [q [l4,l0,p [l2,p [l1,l3]]],q [p [l2,p [l1,l3]],l0,l4]] .nil))) 2376848502219440203355880161280 [p [p [l0,l4],p [l2,p [l1,l3]]],p [p [l2,p [l1,l3]],p [l0,l4]]] (.nd (.nd (.nd .nil 2376853942607002910107513651200 [p [l2,p [l0,l4],p [l1,l3]],p [l2,p [l1,l3],p [l0,l4]]] .nil) 2535301200456458802997701378048 [q [l4,l0,l3,l2,l1],q [l1,l2,l3,l0,l4]] (.nd .nil 2535301200456458803006299701248 [q [p [l0,l4],l3,l2,l1],q [l1,l2,l3,p [l0,l4]]] .nil)) 2535301200458764654803008094208 [p [l1,q [l4,l0,l3,l2]],p [l1,q [l2,l3,l0,l4]]] (.nd (.nd .nil 2535301200477211398885852839936 [p [l1,q [p [l0,l4],l3,l2]],p [l1,q [l2,l3,p [l0,l4]]]] .nil) 2535301351572186254843528085504 [q [q [l4,l0,l3],l2,l1],q [q [l3,l0,l4],l2,l1],q [l1,l2,q [l4,l0,l3]],q [l1,l2,q [l3,l0,l4]]] .nil))) 2535301351722066059375950168064 [p [l1,p [l2,q [l4,l0,l3]]],p [l1,p [l2,q [l3,l0,l4]]]] (.nd (.nd (.nd (.nd .nil 2537777231650757015404072140800 [q [p [l3,p [l0,l4]],l2,l1],q [l1,l2,p [l3,p [l0,l4]]]] .nil) 2537777231819092572309507014656 [p [l1,p [l2,p [l3,p [l0,l4]]]]] (.nd .nil 2614606734223178476858426523648 [q [l4,l0,q [l3,l2,l1]],q [l4,l0,q [l1,l2,l3]],q [q [l3,l2,l1],l0,l4],q [q [l1,l2,l3],l0,l4]] .nil)) 2614761476728089149401387499520 [p [p [l0,l4],q [l3,l2,l1]],p [p [l0,l4],q [l1,l2,l3]],p [q [l3,l2,l1],p [l0,l4]],p [q [l1,l2,l3],p [l0,l4]]] (.nd (.nd .nil 3169126500570573504020930887680 [q [l4,l0,p [l2,l3],l1],q [l1,p [l2,l3],l0,l4]] .nil) 3169126500570573504579287121920 [q [p [l0,l4],p [l2,l3],l1],q [l1,p [l2,l3],p [l0,l4]]] .nil)) 3169165186199107028357874712576 [p [l1,q [l4,l0,p [l2,l3]]],p [l1,q [p [l2,l3],l0,l4]]] (.nd (.nd (.nd .nil 3169474671227375118059470585856 [p [l1,p [p [l0,l4],p [l2,l3]]],p [l1,p [p [l2,l3],p [l0,l4]]]] .nil) 3171950702569256291483124760576 [p [l1,p [l2,l3,p [l0,l4]]]] (.nd .nil 3406888359370433539087171321856 [q [l4,l0,p [l1,p [l2,l3]]],q [p [l1,p [l2,l3]],l0,l4]] .nil)) 3407043101884567584216745508864 [p [p [l0,l4],p [l1,p [l2,l3]]],p [p [l1,p [l2,l3]],p [l0,l4]]] (.nd (.nd .nil 3407391272541369197696928972800 [p [l1,p [l0,l4],p [l2,l3]],p [l1,p [l2,l3],p [l0,l4]]] .nil) 3802951800684760262088442511360 [q [l4,l0,l3,p [l1,l2]],q [p [l1,l2],l3,l0,l4]] .nil)))))
noncomputable def tb5abba : Tb := (.nd (.nd (.nd (.nd (.nd (.nd .nil 3802952027358639670224744349696 [p [q [l4,l0,l3],p [l1,l2]],p [q [l3,l0,l4],p [l1,l2]],p [p [l1,l2],q [l4,l0,l3]],p [p [l1,l2],q [l3,l0,l4]]] .nil) 3802952027508519474757166432256 [p [l1,l2,q [l4,l0,l3]],p [l1,l2,q [l3,l0,l4]]] (.nd .nil 3806665847476675955045286543360 [p [p [l3,p [l0,l4]],p [l1,l2]],p [p [l1,l2],p [l3,p [l0,l4]]]] .nil)) 3806665847645011511950721417216 [p [l1,l2,p [l3,p [l0,l4]]]] (.nd (.nd .nil 4199171193434356900952518164480 [q [l4,l0,p [l3,p [l1,l2]]],q [p [l3,p [l1,l2]],l0,l4]] .nil) 4199328353791050917941909651456 [p [p [l0,l4],p [l3,p [l1,l2]]],p [p [l3,p [l1,l2]],p [l0,l4]]] (.nd .nil 4203042400582822495702075310080 [p [l3,p [l0,l4],p [l1,l2]],p [l3,p [l1,l2],p [l0,l4]]] .nil))) 4991452818581611963181262962688 [q [l4,l0,p [l1,l2,l3]],q [p [l1,l2,l3],l0,l4]] (.nd (.nd (.nd .nil 4991609978947529352757267660800 [p [p [l0,l4],p [l1,l2,l3]],p [p [l1,l2,l3],p [l0,l4]]] .nil) 4995677636783665250749250273280 [p [l1,l2,l3,p [l0,l4]]] (.nd .nil 5070621743726031440053608120320 [q [l4,l1,l0,l2,l3],q [l3,l2,l0,l1,l4]] .nil)) 5070660429352259112585245229056 [q [p [l1,l4],l0,l2,l3],q [l3,l2,l0,p [l1,l4]]] (.nd (.nd .nil 5071240713745674130191057682448 [q [q [l4,l1,l0],l2,l3],q [q [l0,l1,l4],l2,l3],q [l3,l2,q [l4,l1,l0]],q [l3,l2,q [l0,l1,l4]]] .nil) 5071434141876812475257057443856 [q [p [l0,p [l1,l4]],l2,l3],q [l3,l2,p [l0,p [l1,l4]]]] .nil))) 5075573503883173524103158038528 [p [l3,q [l4,l1,l0,l2]],p [l3,q [l2,l0,l1,l4]]] (.nd (.nd (.nd (.nd .nil 5075617025212684158751121342464 [p [l3,q [p [l1,l4],l0,l2]],p [l3,q [l2,l0,p [l1,l4]]]] .nil) 5076192483642697085159250853904 [p [l3,p [l2,q [l4,l1,l0]]],p [l3,p [l2,q [l0,l1,l4]]]] (.nd .nil 5076390823035270348632051941392 [p [l3,p [l2,p [l0,p [l1,l4]]]]] .nil)) 5149927277492751113914333265920 [q [l4,p [l0,l1],l2,l3],q [l3,l2,p [l0,l1],l4]] (.nd (.nd .nil 5150855732522215149120776044560 [q [p [l4,p [l0,l1]],l2,l3],q [l3,l2,p [l4,p [l0,l1]]]] .nil) 5151049160653353494186775805968 [q [p [l0,l1,l4],l2,l3],q [l3,l2,p [l0,l1,l4]]] (.nd .nil 5156116977689214607035801272320 [p [l3,q [l4,p [l0,l1],l2]],p [l3,q [l2,p [l0,l1],l4]]] .nil))) 5157046046995256296770312863760 [p [l3,p [l2,p [l4,p [l0,l1]]]]] (.nd (.nd (.nd .nil 5157244386387829560243113951248 [p [l3,p [l2,p [l0,l1,l4]]]] .nil) 10141204801826988133478232489984 [q [l4,l1,l0,l3,l2],q [l2,l3,l0,l1,l4]] (.nd .nil 10141204801829293985283539206144 [q [p [l1,l4],l0,l3,l2],q [l2,l3,l0,p [l1,l4]]] .nil)) 10141204801863881621625651593248 [q [q [l4,l1,l0],l3,l2],q [q [l0,l1,l4],l3,l2],q [l2,l3,q [l4,l1,l0]],q [l2,l3,q [l0,l1,l4]]] (.nd (.nd .nil 10141204801875410845467813609504 [q [p [l0,p [l1,l4]],l3,l2],q [l2,l3,p [l0,p [l1,l4]]]] .nil) 10141204811566869004396875743232 [p [l2,q [l4,l1,l0,l3]],p [l2,q [l3,l0,l1,l4]]] .nil)))) 10141204887127326812492657590272 [p [l2,q [p [l1,l4],l0,l3]],p [l2,q [l3,l0,p [l1,l4]]]] (.nd (.nd (.nd (.nd (.nd .nil 10146156571760904576593844764704 [p [l2,p [l3,q [l4,l1,l0]]],p [l2,p [l3,q [l0,l1,l4]]]] .nil) 10146161483033868718842808107040 [p [l2,p [l3,p [l0,p [l1,l4]]]]] (.nd .nil 10299661126860128494683747778560 [q [l4,p [l0,l1],l3,l2],q [l2,l3,p [l0,l1],l4]] .nil)) 10299661126915468726905413304352 [q [p [l4,p [l0,l1]],l3,l2],q [l2,l3,p [l4,p [l0,l1]]]] (.nd (.nd .nil 10299661126926997950747575320608 [q [p [l0,l1,l4],l3,l2],q [l2,l3,p [l0,l1,l4]]] .nil) 10299661741136706149211816591360 [p [l2,q [l4,p [l0,l1],l3]],p [l2,q [l3,p [l0,l1],l4]]] (.nd .nil 10305851441388509874554950123552 [p [l2,p [l3,p [l4,p [l0,l1]]]]] .nil))) 10305856352661474016803913465888 [p [l2,p [l3,p [l0,l1,l4]]]] (.nd (.nd (.nd .nil 15211826545553019573531840610304 [q [l4,l1,l0,p [l2,l3]],q [p [l2,l3],l0,l1,l4]] .nil) 15211865231181553097868784435200 [q [p [l1,l4],l0,p [l2,l3]],q [p [l2,l3],l0,p [l1,l4]]] (.nd .nil 15212445515609555751816709275696 [p [q [l4,l1,l0],p [l2,l3]],p [q [l0,l1,l4],p [l2,l3]],p [p [l2,l3],q [l4,l1,l0]],p [p [l2,l3],q [l0,l1,l4]]] .nil)) 15212638943752223320724871053360 [p [p [l0,p [l1,l4]],p [l2,l3]],p [p [l2,l3],p [l0,p [l1,l4]]]] (.nd (.nd .nil 15217397285506578706784902447152 [p [l2,l3,q [l4,l1,l0]],p [l2,l3,q [l0,l1,l4]]] .nil) 15217595624910681194099865550896 [p [l2,l3,p [l0,p [l1,l4]]]] .nil))) 15449588404352879608598081044480 [q [l4,p [l0,l1],p [l2,l3]],q [p [l2,l3],p [l0,l1],l4]] (.nd (.nd (.nd (.nd .nil 15450516859437683876026189348912 [p [p [l4,p [l0,l1]],p [l2,l3]],p [p [l2,l3],p [l4,p [l0,l1]]]] .nil) 15450710287580351444934351126576 [p [p [l0,l1,l4],p [l2,l3]],p [p [l2,l3],p [l0,l1,l4]]] (.nd .nil 15456707173910725023675726168112 [p [l2,l3,p [l4,p [l0,l1]]]] .nil)) 15456905513314827510990689271856 [p [l2,l3,p [l0,l1,l4]]] (.nd (.nd .nil 20282409622541136355425832140800 [q [l4,l1,l2,l0,l3],q [l3,l0,l2,l1,l4]] .nil) 20282409660320068235975179894784 [q [p [l1,l4],l2,l0,l3],q [l3,l0,l2,p [l1,l4]]] .nil)) 20282409698099288311716307271680 [q [q [l4,l1,l2],l0,l3],q [q [l2,l1,l4],l0,l3],q [l3,l0,q [l4,l1,l2]],q [l3,l0,q [l2,l1,l4]]] (.nd (.nd (.nd .nil 20282409745618101063184298278912 [q [p [l2,p [l1,l4]],l0,l3],q [l3,l0,p [l2,p [l1,l4]]]] .nil) 20292313142855419397625025134720 [p [l3,q [l4,l1,l2,l0]],p [l3,q [l0,l2,l1,l4]]] (.nd .nil 20292322852040908195207770539136 [p [l3,q [p [l1,l4],l2,l0]],p [l3,q [l0,l2,p [l1,l4]]]] .nil)) 20292467960918482026449862918272 [p [l3,p [l0,q [l4,l1,l2]]],p [l3,p [l0,q [l2,l1,l4]]]] (.nd (.nd .nil 20293096649863494385088701138064 [p [l3,p [l0,p [l2,p [l1,l4]]]]] .nil) 20599323481524013320429182648320 [q [l4,q [l1,l2,l0],l3],q [l4,q [l0,l2,l1],l3],q [l3,q [l1,l2,l0],l4],q [l3,q [l0,l2,l1],l4]] .nil)))))
noncomputable def tb5abbb : Tb := (.nd (.nd (.nd (.nd (.nd (.nd .nil 25353031366267167795479440261120 [q [l4,l1,p [l0,l2],l3],q [l3,p [l0,l2],l1,l4]] .nil) 25353070089672327348560425123840 [q [p [l1,l4],p [l0,l2],l3],q [l3,p [l0,l2],p [l1,l4]]] (.nd .nil 25367886646738592921728183173248 [p [l3,q [l4,l1,p [l0,l2]]],p [l3,q [p [l0,l2],l1,l4]]] .nil)) 25367939877253592353958891881600 [p [l3,p [p [l1,l4],p [l0,l2]]],p [l3,p [p [l0,l2],p [l1,l4]]]] (.nd (.nd .nil 25368713675076178543839822480528 [p [l3,p [l0,l2,p [l1,l4]]]] .nil) 40564819207303340847894502588416 [q [l4,l1,l2,l3,l0],q [l0,l3,l2,l1,l4]] (.nd .nil 40564819207303340883078874710016 [q [p [l1,l4],l2,l3,l0],q [l0,l3,l2,p [l1,l4]]] .nil))) 40564819207303917308646806077440 [q [q [l4,l1,l2],l3,l0],q [q [l2,l1,l4],l3,l0],q [l0,l3,q [l4,l1,l2]],q [l0,l3,q [l2,l1,l4]]] (.nd (.nd (.nd .nil 40564819207894213154189883858944 [q [p [l2,p [l1,l4]],l3,l0],q [l0,l3,p [l2,p [l1,l4]]]] .nil) 40564973949808251520428865241088 [p [l0,q [l4,l1,l2,l3]],p [l0,q [l3,l2,l1,l4]]] (.nd .nil 40565592919827894245750686924816 [p [l0,q [p [l1,l4],l2,l3]],p [l0,q [l3,l2,p [l1,l4]]]] .nil)) 40574877470123111023380361724032 [p [l0,p [l3,q [l4,l1,l2]]],p [l0,p [l3,q [l2,l1,l4]]]] (.nd (.nd .nil 40575506112139606476094286718096 [p [l0,p [l3,p [l2,p [l1,l4]]]]] .nil) 43100120407759799650892203966464 [p [l4,q [l1,l2,l3,l0]],p [l4,q [l0,l3,l2,l1]]] .nil))) 50706024009130328981372735078400 [q [l4,l1,q [l2,l3,l0]],q [l4,l1,q [l0,l3,l2]],q [q [l2,l3,l0],l1,l4],q [q [l0,l3,l2],l1,l4]] (.nd (.nd (.nd (.nd .nil 50706024009132634868362413916160 [p [p [l1,l4],q [l2,l3,l0]],p [p [l1,l4],q [l0,l3,l2]],p [q [l2,l3,l0],p [l1,l4]],p [q [l0,l3,l2],p [l1,l4]]] .nil) 60847228829844477203320334729216 [q [l4,l1,l2,p [l0,l3]],q [p [l0,l3],l2,l1,l4]] (.nd .nil 60847228867623409119054054604800 [q [p [l1,l4],l2,p [l0,l3]],q [p [l0,l3],l2,p [l1,l4]]] .nil)) 60847228905403205620363113349120 [p [q [l4,l1,l2],p [l0,l3]],p [q [l2,l1,l4],p [l0,l3]],p [p [l0,l3],q [l4,l1,l2]],p [p [l0,l3],q [l2,l1,l4]]] (.nd (.nd .nil 60847228953512314217374182137856 [p [p [l2,p [l1,l4]],p [l0,l3]],p [p [l0,l3],p [l2,p [l1,l4]]]] .nil) 60857287168222399335096668995712 [p [l0,l3,q [l4,l1,l2]],p [l0,l3,q [l2,l1,l4]]] .nil)) 60857915857757707539278584997008 [p [l0,l3,p [l2,p [l1,l4]]]] (.nd (.nd (.nd .nil 81129638414606682821688911986688 [q [l4,l1,l3,l0,l2],q [l2,l0,l3,l1,l4]] .nil) 81129638414606685143857469849600 [q [p [l1,l4],l3,l0,l2],q [l2,l0,l3,p [l1,l4]]] (.nd .nil 81129638415196978632047617646592 [p [l2,q [l4,l1,l3,l0]],p [l2,q [l0,l3,l1,l4]]] .nil)) 81129638415197557414968478998528 [p [l2,q [p [l1,l4],l3,l0]],p [l2,q [l0,l3,p [l1,l4]]]] (.nd (.nd .nil 81129643250309965783805238181888 [q [q [l4,l1,l3],l0,l2],q [q [l3,l1,l4],l0,l2],q [l2,l0,q [l4,l1,l3]],q [l2,l0,q [l3,l1,l4]]] .nil) 81129643250909484966200799141888 [p [l2,p [l0,q [l4,l1,l3]]],p [l2,p [l0,q [l3,l1,l4]]]] .nil)))) 81134595010467110190023345963008 [q [p [l3,p [l1,l4]],l0,l2],q [l2,l0,p [l3,p [l1,l4]]]] (.nd (.nd (.nd (.nd (.nd .nil 81134595011104099321318629515296 [p [l2,p [l0,p [l3,p [l1,l4]]]]] .nil) 82397289014834984280779653120000 [q [l4,q [l1,l3,l0],l2],q [l4,q [l0,l3,l1],l2],q [l2,q [l1,l3,l0],l4],q [l2,q [l0,l3,l1],l4]] (.nd .nil 82397289015572854043865474146304 [p [l2,p [l4,q [l1,l3,l0]]],p [l2,p [l4,q [l0,l3,l1]]]] .nil)) 91270843216433670955167144476672 [q [l4,l1,p [l0,l3],l2],q [l2,p [l0,l3],l1,l4]] (.nd (.nd .nil 91270843216435979129141009055744 [q [p [l1,l4],p [l0,l3],l2],q [l2,p [l0,l3],p [l1,l4]]] .nil) 91270843226763847636444493389824 [p [l2,q [l4,l1,p [l0,l3]]],p [l2,q [p [l0,l3],l1,l4]]] (.nd .nil 91270843302324884227461136588800 [p [l2,p [p [l1,l4],p [l0,l3]]],p [l2,p [p [l0,l3],p [l1,l4]]]] .nil))) 91275799898231426133811287105568 [p [l2,p [l0,l3,p [l1,l4]]]] (.nd (.nd (.nd .nil 101412048037147819177114744127488 [q [l4,l1,q [l3,l0,l2]],q [l4,l1,q [l2,l0,l3]],q [q [l3,l0,l2],l1,l4],q [q [l2,l0,l3],l1,l4]] .nil) 101412048074926753379832649744384 [p [p [l1,l4],q [l3,l0,l2]],p [p [l1,l4],q [l2,l0,l3]],p [q [l3,l0,l2],p [l1,l4]],p [q [l2,l0,l3],p [l1,l4]]] (.nd .nil 152118072046278148158487479205888 [q [l4,l1,p [l2,p [l0,l3]]],q [p [l2,p [l0,l3]],l1,l4]] .nil)) 152118072084059388248195063660544 [p [p [l1,l4],p [l2,p [l0,l3]]],p [p [l2,p [l0,l3]],p [l1,l4]]] (.nd (.nd .nil 152118072169948293346515191193600 [p [l2,p [l1,l4],p [l0,l3]],p [l2,p [l0,l3],p [l1,l4]]] .nil) 162259276829213363391578010288384 [q [l4,l1,l3,l2,l0],q [l0,l2,l3,l1,l4]] .nil))) 162259276829213363532315498644224 [q [p [l1,l4],l3,l2,l0],q [l0,l2,l3,p [l1,l4]]] (.nd (.nd (.nd (.nd .nil 162259276829222586763614865588480 [p [l0,q [l4,l1,l3,l2]],p [l0,q [l2,l3,l1,l4]]] .nil) 162259276829259480392499773047584 [p [l0,q [p [l1,l4],l3,l2]],p [l0,q [l2,l3,p [l1,l4]]]] (.nd .nil 162259286500619920308611407938816 [q [q [l4,l1,l3],l2,l0],q [q [l3,l1,l4],l2,l0],q [l0,l2,q [l4,l1,l3]],q [l0,l2,q [l3,l1,l4]]] .nil)) 162259286501219439491006968898816 [p [l0,p [l2,q [l4,l1,l3]]],p [l0,p [l2,q [l3,l1,l4]]]] (.nd (.nd .nil 162269190020934203491548089288576 [q [p [l3,p [l1,l4]],l2,l0],q [l0,l2,p [l3,p [l1,l4]]]] .nil) 162269190021571192622843372840864 [p [l0,p [l2,p [l3,p [l1,l4]]]]] .nil)) 162893102129327478092601239798016 [p [l4,q [l1,l3,l2,l0]],p [l4,q [l0,l2,l3,l1]]] (.nd (.nd (.nd .nil 167329898572939394831631618408704 [q [l4,l1,q [l3,l2,l0]],q [l4,l1,q [l0,l2,l3]],q [q [l3,l2,l0],l1,l4],q [q [l0,l2,l3],l1,l4]] .nil) 167329937258565622644900743873280 [p [p [l1,l4],q [l3,l2,l0]],p [p [l1,l4],q [l0,l2,l3]],p [q [l3,l2,l0],p [l1,l4]],p [q [l0,l2,l3],p [l1,l4]]] (.nd .nil 202824096036516704239472512876800 [q [l4,l1,p [l2,l3],l0],q [l0,p [l2,l3],l1,l4]] .nil)) 202824096036516704415394373354240 [q [p [l1,l4],p [l2,l3],l0],q [l0,p [l2,l3],p [l1,l4]]] (.nd (.nd .nil 202824250779030838284043730829568 [p [l0,q [l4,l1,p [l2,l3]]],p [l0,q [p [l2,l3],l1,l4]]] .nil) 202824869749087374638250459972400 [p [l0,p [p [l1,l4],p [l2,l3]]],p [l0,p [p [l2,l3],p [l1,l4]]]] .nil)))))
noncomputable def tb5baaa : Tb := (.nd (.nd (.nd (.nd (.nd (.nd .nil 205993222537087277743493443764480 [p [l4,q [l1,p [l2,l3],l0]],p [l4,q [l0,p [l2,l3],l1]]] .nil) 218035922582069723813004353487104 [q [l4,l1,p [l0,p [l2,l3]]],q [p [l0,p [l2,l3]],l1,l4]] (.nd .nil 218035961267698257513263157789440 [p [p [l1,l4],p [l0,p [l2,l3]]],p [p [l0,p [l2,l3]],p [l1,l4]]] .nil)) 218036734980268927736119244407600 [p [l0,p [l1,l4],p [l2,l3]],p [l0,p [l2,l3],p [l1,l4]]] (.nd (.nd .nil 243388915243820046213266922275072 [q [l4,l1,l3,p [l0,l2]],q [p [l0,l2],l3,l1,l4]] .nil) 243388915243820048676172968493824 [q [p [l1,l4],l3,p [l0,l2]],q [p [l0,l2],l3,p [l1,l4]]] (.nd .nil 243388929750929886092416646120704 [p [q [l4,l1,l3],p [l0,l2]],p [q [l3,l1,l4],p [l0,l2]],p [p [l0,l2],q [l4,l1,l3]],p [p [l0,l2],q [l3,l1,l4]]] .nil))) 243388929751529405274812207080704 [p [l0,l2,q [l4,l1,l3]],p [l0,l2,q [l3,l1,l4]]] (.nd (.nd (.nd .nil 243403785031401313681571435251584 [p [p [l3,p [l1,l4]],p [l0,l2]],p [p [l0,l2],p [l3,p [l1,l4]]]] .nil) 243403785032038302812866718803872 [p [l0,l2,p [l3,p [l1,l4]]]] (.nd .nil 268741946610087214008746362536192 [q [l4,l1,p [l3,p [l0,l2]]],q [p [l3,p [l0,l2]],l1,l4]] .nil)) 268741985333492376024733393617664 [p [p [l1,l4],p [l3,p [l0,l2]]],p [p [l3,p [l0,l2]],p [l1,l4]]] (.nd (.nd .nil 268756855121073641030131860375424 [p [l3,p [l1,l4],p [l0,l2]],p [l3,p [l0,l2],p [l1,l4]]] .nil) 319447970619217542990119097614592 [q [l4,l1,p [l0,l2,l3]],q [p [l0,l2,l3],l1,l4]] .nil))) 319448009342625010893095807533824 [p [p [l1,l4],p [l0,l2,l3]],p [p [l0,l2,l3],p [l1,l4]]] (.nd (.nd (.nd (.nd .nil 319463652928665851219670488442800 [p [l0,l2,l3,p [l1,l4]]] .nil) 324518553960658181686813314252800 [q [l4,l2,l0,l1,l3],q [l3,l1,l0,l2,l4]] (.nd .nil 324518554565194878470422739812352 [q [p [l2,l4],l0,l1,l3],q [l3,l1,l0,p [l2,l4]]] .nil)) 324518563632064738603846711903232 [q [q [l4,l2,l0],l1,l3],q [q [l0,l2,l4],l1,l3],q [l3,l1,q [l4,l2,l0]],q [l3,l1,q [l0,l2,l4]]] (.nd (.nd .nil 324518566654453074616714487923712 [q [p [l0,p [l2,l4]],l1,l3],q [l3,l1,p [l0,p [l2,l4]]]] .nil) 324538361001286747771211733794816 [p [l3,q [l4,l2,l0,l1]],p [l3,q [l1,l0,l2,l4]]] (.nd .nil 324538370710472236568794479199232 [p [l3,p [l1,q [l4,l2,l0]]],p [l3,p [l1,q [l0,l2,l4]]]] .nil))) 324538671090833265899890152570880 [p [l3,q [p [l2,l4],l0,l1]],p [l3,q [l1,l0,p [l2,l4]]]] (.nd (.nd (.nd .nil 324538683368986121378577075143680 [p [l3,p [l1,p [l0,p [l2,l4]]]]] .nil) 324835467819641058651816664760320 [q [l4,p [l0,l2],l1,l3],q [l3,l1,p [l0,l2],l4]] (.nd .nil 324835482326750898530966388605952 [q [p [l4,p [l0,l2]],l1,l3],q [l3,l1,p [l4,p [l0,l2]]]] .nil)) 324835485349139234543834164626432 [q [p [l0,l2,l4],l1,l3],q [l3,l1,p [l0,l2,l4]]] (.nd (.nd .nil 324857750740348195496767030034432 [p [l3,q [l4,p [l0,l2],l1]],p [l3,q [l1,p [l0,l2],l4]]] .nil) 324857803970863194928997738742784 [p [l3,p [l1,p [l4,p [l0,l2]]]]] .nil)))) 324858116629377079738780334687232 [p [l3,p [l1,p [l0,l2,l4]]]] (.nd (.nd (.nd (.nd (.nd .nil 329589175704384213126866922373120 [q [l4,q [l2,l0,l1],l3],q [l4,q [l1,l0,l2],l3],q [l3,q [l2,l0,l1],l4],q [l3,q [l1,l0,l2],l4]] .nil) 329613934505169921295314891833344 [p [l3,p [l4,q [l2,l0,l1]]],p [l3,p [l4,q [l1,l0,l2]]]] (.nd .nil 350188499185908226447296105021440 [q [l4,p [l1,p [l0,l2]],l3],q [l3,p [l1,p [l0,l2]],l4]] .nil)) 350225637387086788418495213207680 [p [l3,p [l4,p [l1,p [l0,l2]]]]] (.nd (.nd .nil 350225690617601787850725921916032 [p [l3,p [l1,l4,p [l0,l2]]]] .nil) 649037107316853453566380760629248 [q [l4,l2,l0,l3,l1],q [l1,l3,l0,l2,l4]] (.nd .nil 649037107316853453568579783886848 [q [q [l4,l2,l0],l3,l1],q [q [l0,l2,l4],l3,l1],q [l1,l3,q [l4,l2,l0]],q [l1,l3,q [l0,l2,l4]]] .nil))) 649037107317001027519107875995648 [q [p [l2,l4],l0,l3,l1],q [l1,l3,l0,p [l2,l4]]] (.nd (.nd (.nd .nil 649037107317001027521856657164288 [q [p [l0,p [l2,l4]],l3,l1],q [l1,l3,p [l0,p [l2,l4]]]] .nil) 649037107354632385446930108383232 [p [l1,q [l4,l2,l0,l3]],p [l1,q [l3,l0,l2,l4]]] (.nd .nil 649037107505895686851503050457088 [p [l1,q [p [l2,l4],l0,l3]],p [l1,q [l3,l0,p [l2,l4]]]] .nil)) 649056914395260951533527551182848 [p [l1,p [l3,q [l4,l2,l0]]],p [l1,p [l3,q [l0,l2,l4]]]] (.nd (.nd .nil 649057224031534074283719244384256 [p [l1,p [l3,p [l0,p [l2,l4]]]]] .nil) 649670932616967568267403990138880 [q [l4,p [l0,l2],l3,l1],q [l1,l3,p [l0,l2],l4]] .nil))) 649670932616967577277901779765248 [q [p [l4,p [l0,l2]],l3,l1],q [l1,l3,p [l4,p [l0,l2]]]] (.nd (.nd (.nd (.nd .nil 649670932617115151231178653042688 [q [p [l0,l2,l4],l3,l1],q [l1,l3,p [l0,l2,l4]]] .nil) 649670971340372727820484975001600 [p [l1,q [l4,p [l0,l2],l3]],p [l1,q [l3,p [l0,l2],l4]]] (.nd .nil 649693254261079873675933129902080 [p [l1,p [l3,p [l4,p [l0,l2]]]]] .nil)) 649693563897352996426124823103488 [p [l1,p [l3,p [l0,l2,l4]]]] (.nd (.nd .nil 730166745731460136388069672615936 [p [l4,q [l2,l0,l3,l1]],p [l4,q [l1,l3,l0,l2]]] .nil) 893059847860787614480670912413952 [p [l4,q [p [l0,l2],l3,l1]],p [l4,q [l1,l3,p [l0,l2]]]] .nil)) 973555661277511635253194074882048 [q [l4,l2,l0,p [l1,l3]],q [p [l1,l3],l0,l2,l4]] (.nd (.nd (.nd .nil 973555661882195905989530615808000 [q [p [l2,l4],l0,p [l1,l3]],q [p [l1,l3],l0,p [l2,l4]]] .nil) 973555670948918192172426495790080 [p [q [l4,l2,l0],p [l1,l3]],p [q [l0,l2,l4],p [l1,l3]],p [p [l1,l3],q [l4,l2,l0]],p [p [l1,l3],q [l0,l2,l4]]] (.nd .nil 973555673971454102138571145088000 [p [p [l0,p [l2,l4]],p [l1,l3]],p [p [l1,l3],p [l0,p [l2,l4]]]] .nil)) 973575478027325690137374263086080 [p [l1,l3,q [l4,l2,l0]],p [l1,l3,q [l0,l2,l4]]] (.nd (.nd .nil 973575790685987148900433732307968 [p [l1,l3,p [l0,p [l2,l4]]]] .nil) 974506400436608626919220654899200 [q [l4,p [l0,l2],p [l1,l3]],q [p [l1,l3],p [l0,l2],l4]] .nil)))))
noncomputable def tb5baab : Tb := (.nd (.nd (.nd (.nd (.nd (.nd .nil 974506417966254385775012817669120 [p [p [l0,l2,l4],p [l1,l3]],p [p [l1,l3],p [l0,l2,l4]]] .nil) 974528736587830772206899518508032 [p [l1,l3,p [l4,p [l0,l2]]]] (.nd .nil 974529049246492230969958987729920 [p [l1,l3,p [l0,l2,l4]]] .nil)) 1298074214638429273615493727518720 [q [l4,l2,l1,l0,l3],q [l3,l0,l1,l2,l4]] (.nd (.nd .nil 1298074214648169154486412370771968 [q [p [l2,l4],l1,l0,l3],q [l3,l0,l1,p [l2,l4]]] .nil) 1298074214789545001067339554226176 [q [q [l4,l2,l1],l0,l3],q [q [l1,l2,l4],l0,l3],q [l3,l0,q [l4,l2,l1]],q [l3,l0,q [l1,l2,l4]]] (.nd .nil 1298074214837063813818807545233408 [q [p [l1,p [l2,l4]],l0,l3],q [l3,l0,p [l1,p [l2,l4]]]] .nil))) 1298113828719686405784290499493890 [p [l3,q [l4,l2,l1,l0]],p [l3,q [l0,l1,l2,l4]]] (.nd (.nd (.nd .nil 1298113831288653772465394676662274 [p [l3,p [l0,q [l4,l2,l1]]],p [l3,p [l0,q [l1,l2,l4]]]] .nil) 1298114447699445929345346592309266 [p [l3,q [p [l2,l4],l1,l0]],p [l3,q [l0,l1,p [l2,l4]]]] (.nd .nil 1298114459977598784824033514882066 [p [l3,p [l0,p [l1,p [l2,l4]]]]] .nil)) 1298153520172195993289354452664320 [q [l4,q [l2,l1,l0],l3],q [l4,q [l0,l1,l2],l3],q [l3,q [l2,l1,l0],l4],q [l3,q [l0,l1,l2],l4]] (.nd (.nd .nil 1298194372193492446867223142727682 [p [l3,p [l4,q [l2,l1,l0]]],p [l3,p [l4,q [l0,l1,l2]]]] .nil) 1318356624260970409970919559659520 [q [l4,p [l1,l2],l0,l3],q [l3,l0,p [l1,l2],l4]] .nil))) 1318356624487644289379055861497856 [q [p [l4,p [l1,l2]],l0,l3],q [l3,l0,p [l4,p [l1,l2]]]] (.nd (.nd (.nd (.nd .nil 1318356624535163102130523852505088 [q [p [l1,l2,l4],l0,l3],q [l3,l0,p [l1,l2,l4]]] .nil) 1318406141862541825181915524628610 [p [l3,q [l4,p [l1,l2],l0]],p [l3,q [l0,p [l1,l2],l4]]] (.nd .nil 1318406299249572254491844539580546 [p [l3,p [l0,p [l4,p [l1,l2]]]]] .nil)) 1318406927938517266850483377800338 [p [l3,p [l0,p [l1,l2,l4]]]] (.nd (.nd .nil 1318752843653720006609783635312640 [q [l4,p [l0,p [l1,l2]],l3],q [l3,p [l0,p [l1,l2]],l4]] .nil) 1318806075075409313990403464102018 [p [l3,p [l4,p [l0,p [l1,l2]]]]] (.nd .nil 1318806232462439743300332479053954 [p [l3,p [l0,l4,p [l1,l2]]]] .nil))) 1622592768599087455302307041771520 [q [l4,l2,p [l0,l1],l3],q [l3,p [l0,l1],l2,l4]] (.nd (.nd (.nd .nil 1622592769213364032956835110584320 [q [p [l2,l4],p [l0,l1],l3],q [l3,p [l0,l1],p [l2,l4]]] .nil) 1622652189720973153555502233288706 [p [l3,q [l4,l2,p [l0,l1]]],p [l3,q [p [l0,l1],l2,l4]]] (.nd .nil 1622653118790279195245236744880146 [p [l3,p [p [l2,l4],p [l0,l1]]],p [l3,p [p [l0,l1],p [l2,l4]]]] .nil)) 1622653131068432050723923667452946 [p [l3,p [l0,l1,p [l2,l4]]]] (.nd (.nd .nil 1627742695876580206416221375037440 [q [l4,p [l2,p [l0,l1]],l3],q [l3,p [l2,p [l0,l1]],l4]] .nil) 1627808306698662368162538034561026 [p [l3,p [l4,p [l2,p [l0,l1]]]]] .nil)))) 1627809235767968409852272546152466 [p [l3,p [l2,l4,p [l0,l1]]]] (.nd (.nd (.nd (.nd (.nd .nil 1648342019358104219736650557685760 [q [l4,p [l0,l1,l2],l3],q [l3,p [l0,l1,l2],l4]] .nil) 1648420009580579235285718355935362 [p [l3,p [l4,p [l0,l1,l2]]]] (.nd .nil 1648421149267430705717612591187090 [p [l3,p [l0,l1,l2,l4]]] .nil)) 2596148429267413814265248164614144 [q [l4,l2,l1,l3,l0],q [l0,l3,l1,l2,l4]] (.nd (.nd .nil 2596148429267413814265282524483584 [q [q [l4,l2,l1],l3,l0],q [q [l1,l2,l4],l3,l0],q [l0,l3,q [l4,l2,l1]],q [l0,l3,q [l1,l2,l4]]] .nil) 2596148429268004110075606870274048 [q [p [l2,l4],l1,l3,l0],q [l0,l3,l1,p [l2,l4]]] (.nd .nil 2596148429268004110110825602265088 [q [p [l1,p [l2,l4]],l3,l0],q [l0,l3,p [l1,p [l2,l4]]]] .nil))) 2596148431685265453494506515075072 [p [l0,q [l4,l2,l1,l3]],p [l0,q [l3,l1,l2,l4]]] (.nd (.nd (.nd .nil 2596148441357262306221898618385408 [p [l0,q [p [l2,l4],l1,l3]],p [l0,q [l3,l1,p [l2,l4]]]] .nil) 2596188045766522585663337646919682 [p [l0,p [l3,q [l4,l2,l1]]],p [l0,p [l3,q [l1,l2,l4]]]] (.nd .nil 2596188674408539081116051571913746 [p [l0,p [l3,p [l1,p [l2,l4]]]]] .nil)) 2597416079867642115724338905747456 [p [l4,q [l2,l1,l3,l0]],p [l4,q [l0,l3,l1,l2]]] (.nd (.nd .nil 2636713248474717155113142667202560 [q [l4,p [l1,l2],l3,l0],q [l0,l3,p [l1,l2],l4]] .nil) 2636713248474717731573929330561024 [q [p [l4,p [l1,l2]],l3,l0],q [l0,l3,p [l4,p [l1,l2]]]] .nil))) 2636713248475308027419472408342528 [q [p [l1,l2,l4],l3,l0],q [l0,l3,p [l1,l2,l4]]] (.nd (.nd (.nd (.nd .nil 2636713405635073705014935380316160 [p [l0,q [l4,p [l1,l2],l3]],p [l0,q [l3,p [l1,l2],l4]]] .nil) 2636762923236645696686718008643714 [p [l0,p [l3,p [l4,p [l1,l2]]]]] (.nd .nil 2636763551878662192139431933637778 [p [l0,p [l3,p [l1,l2,l4]]]] .nil)) 2640516200275401915375231109713920 [p [l4,q [p [l1,l2],l3,l0]],p [l4,q [l0,l3,p [l1,l2]]]] (.nd (.nd .nil 3245185536584267267831628925243392 [q [l4,l2,q [l1,l3,l0]],q [l4,l2,q [l0,l3,l1]],q [q [l1,l3,l0],l2,l4],q [q [l0,l3,l1],l2,l4]] .nil) 3245185536585005137594714746269696 [p [p [l2,l4],q [l1,l3,l0]],p [p [l2,l4],q [l0,l3,l1]],p [q [l1,l3,l0],p [l2,l4]],p [q [l0,l3,l1],p [l2,l4]]] .nil)) 3327582825599102252112408578363392 [p [l4,p [l2,q [l1,l3,l0]]],p [l4,p [l2,q [l0,l3,l1]]]] (.nd (.nd (.nd .nil 3327582825599840121875494399389696 [p [l2,l4,q [l1,l3,l0]],p [l2,l4,q [l0,l3,l1]]] .nil) 3894222643905843087880741892132864 [q [l4,l2,l1,p [l0,l3]],q [p [l0,l3],l1,l2,l4]] (.nd .nil 3894222643916173264562019241046016 [q [p [l2,l4],l1,p [l0,l3]],q [p [l0,l3],l1,p [l2,l4]]] .nil)) 3894222644056958815332622078709760 [p [q [l4,l2,l1],p [l0,l3]],p [q [l1,l2,l4],p [l0,l3]],p [p [l0,l3],q [l4,l2,l1]],p [p [l0,l3],q [l1,l2,l4]]] (.nd (.nd .nil 3894222644105067923929633147498496 [p [p [l1,p [l2,l4]],p [l0,l3]],p [p [l0,l3],p [l1,p [l2,l4]]]] .nil) 3894262260556067586730677201145858 [p [l0,l3,q [l4,l2,l1]],p [l0,l3,q [l1,l2,l4]]] .nil)))))
noncomputable def tb5baba : Tb := (.nd (.nd (.nd (.nd (.nd (.nd .nil 3955069872735687565084062226862080 [q [l4,p [l1,l2],p [l0,l3]],q [p [l0,l3],p [l1,l2],l4]] .nil) 3955069872962362020952985192058880 [p [p [l4,p [l1,l2]],p [l0,l3]],p [p [l0,l3],p [l4,p [l1,l2]]]] (.nd .nil 3955069873010471129549996260847616 [p [p [l1,l2,l4],p [l0,l3]],p [p [l0,l3],p [l1,l2,l4]]] .nil)) 3955119547724289986065773870141570 [p [l0,l3,p [l4,p [l1,l2]]]] (.nd (.nd .nil 3955120176413825294269955786142866 [p [l0,l3,p [l1,l2,l4]]] .nil) 5192296858534827628530496396328960 [q [l4,l2,l3,l0,l1],q [l1,l0,l3,l2,l4]] (.nd .nil 5192296858534827628565680768450560 [p [l1,q [l4,l2,l3,l0]],p [l1,q [l0,l3,l2,l4]]] .nil))) 5192296858536008220151213941850112 [q [p [l2,l4],l3,l0,l1],q [l1,l0,l3,p [l2,l4]]] (.nd (.nd (.nd .nil 5192296858536008220186432673841152 [p [l1,q [p [l2,l4],l3,l0]],p [l1,q [l0,l3,p [l2,l4]]]] .nil) 5192297168019837449875565389545472 [q [q [l4,l2,l3],l0,l1],q [q [l3,l2,l4],l0,l1],q [l1,l0,q [l4,l2,l3]],q [l1,l0,q [l3,l2,l4]]] (.nd .nil 5192297168019837449911299519578112 [p [l1,p [l0,q [l4,l2,l3]]],p [l1,p [l0,q [l3,l2,l4]]]] .nil)) 5192316975061646607580681354608640 [q [p [l3,p [l2,l4]],l0,l1],q [l1,l0,p [l3,p [l2,l4]]]] (.nd (.nd .nil 5192316975061646607618648867768320 [p [l1,p [l0,p [l3,p [l2,l4]]]]] .nil) 5194832159735284087333494097707008 [q [l4,q [l2,l3,l0],l1],q [l4,q [l0,l3,l2],l1],q [l1,q [l2,l3,l0],l4],q [l1,q [l0,l3,l2],l4]] .nil))) 5194832159735286393220483776544768 [p [l1,p [l4,q [l2,l3,l0]]],p [l1,p [l4,q [l0,l3,l2]]]] (.nd (.nd (.nd (.nd .nil 5202438063336654616663974628818944 [p [l4,q [l2,l3,l0,l1]],p [l4,q [l1,l0,l3,l2]]] .nil) 5245538183744414416314866832785408 [p [l4,p [l1,q [l2,l3,l0]]],p [l4,p [l1,q [l0,l3,l2]]]] (.nd .nil 5245538183744416722201856511623168 [p [l1,l4,q [l2,l3,l0]],p [l1,l4,q [l0,l3,l2]]] .nil)) 5841333965851681082096877156958208 [q [l4,l2,p [l0,l3],l1],q [l1,p [l0,l3],l2,l4]] (.nd (.nd .nil 5841333965853009247670321817845760 [q [p [l2,l4],p [l0,l3],l1],q [l1,p [l0,l3],p [l2,l4]]] .nil) 5841333965889460014012610876833792 [p [l1,q [l4,l2,p [l0,l3]]],p [l1,q [p [l0,l3],l2,l4]]] (.nd .nil 5841333966041903907037935724298240 [p [l1,p [p [l2,l4],p [l0,l3]]],p [l1,p [p [l0,l3],p [l2,l4]]]] .nil))) 5841354082567542294470151918225408 [p [l1,p [l0,l3,p [l2,l4]]]] (.nd (.nd (.nd .nil 5932604809068114753052044301434880 [p [l4,q [l2,p [l0,l3],l1]],p [l4,q [l1,p [l0,l3],l2]]] .nil) 6490371073173256902145990123847680 [q [l4,l2,q [l3,l0,l1]],q [l4,l2,q [l1,l0,l3]],q [q [l3,l0,l1],l2,l4],q [q [l1,l0,l3],l2,l4]] (.nd .nil 6490371073184177374637626312622080 [p [p [l2,l4],q [l3,l0,l1]],p [p [l2,l4],q [l1,l0,l3]],p [q [l3,l0,l1],p [l2,l4]],p [q [l1,l0,l3],p [l2,l4]]] .nil)) 9735556609757524169977619049091072 [q [l4,l2,p [l1,p [l0,l3]]],q [p [l1,p [l0,l3]],l2,l4]] (.nd (.nd .nil 9735556609769182512232341058891776 [p [p [l2,l4],p [l1,p [l0,l3]]],p [p [l1,p [l0,l3]],p [l2,l4]]] .nil) 9735556609958077171599954965344256 [p [l1,p [l2,l4],p [l0,l3]],p [l1,p [l0,l3],p [l2,l4]]] .nil)))) 10384593717069655257060992658440196 [q [l4,l2,l3,l1,l0],q [l0,l1,l3,l2,l4]] (.nd (.nd (.nd (.nd (.nd .nil 10384593717069655257061542416351236 [p [l0,q [l4,l2,l3,l1]],p [l0,q [l1,l3,l2,l4]]] .nil) 10384593717072016440302427481047052 [q [p [l2,l4],l3,l1,l0],q [l0,l1,l3,p [l2,l4]]] (.nd .nil 10384593717072016440305176262215692 [p [l0,q [p [l2,l4],l3,l1]],p [l0,q [l1,l3,p [l2,l4]]]] .nil)) 10384594336039674899751130108002324 [q [q [l4,l2,l3],l1,l0],q [q [l3,l2,l4],l1,l0],q [l0,l1,q [l4,l2,l3]],q [l0,l1,q [l3,l2,l4]]] (.nd (.nd .nil 10384594336039674899786864238034964 [p [l0,p [l1,q [l4,l2,l3]]],p [l0,p [l1,q [l3,l2,l4]]]] .nil) 10384633950123293215161361702584350 [q [p [l3,p [l2,l4]],l1,l0],q [l0,l1,p [l3,p [l2,l4]]]] (.nd .nil 10384633950123293215199329215744030 [p [l0,p [l1,p [l3,p [l2,l4]]]]] .nil))) 10384752173394688397422198173728772 [p [l4,q [l2,l3,l1,l0]],p [l4,q [l0,l1,l3,l2]]] (.nd (.nd (.nd .nil 10546852993898868620452570668728580 [q [l4,q [l2,l3,l1],l0],q [l4,q [l1,l3,l2],l0],q [l0,q [l2,l3,l1],l4],q [l0,q [l1,l3,l2],l4]] .nil) 10546852993898877843825157281939716 [p [l0,p [l4,q [l2,l3,l1]]],p [l0,p [l4,q [l1,l3,l2]]]] (.nd .nil 10547645275524015875514799413526788 [p [l4,p [l0,q [l2,l3,l1]]],p [l4,p [l0,q [l1,l3,l2]]]] .nil)) 10547645275524025098887386026737924 [p [l0,l4,q [l2,l3,l1]],p [l0,l4,q [l1,l3,l2]]] (.nd (.nd .nil 10709112271030313438747805972692996 [q [l4,l2,q [l3,l1,l0]],q [l4,l2,q [l0,l1,l3]],q [q [l3,l1,l0],l2,l4],q [q [l0,l1,l3],l2,l4]] .nil) 10709112271637211318772850220859404 [p [p [l2,l4],q [l3,l1,l0]],p [p [l2,l4],q [l0,l1,l3]],p [q [l3,l1,l0],p [l2,l4]],p [q [l0,l1,l3],p [l2,l4]]] .nil))) 12980742146337069071326240823054340 [q [l4,l2,p [l1,l3],l0],q [l0,p [l1,l3],l2,l4]] (.nd (.nd (.nd (.nd .nil 12980742146340020550378034351321100 [q [p [l2,l4],p [l1,l3],l0],q [l0,p [l1,l3],p [l2,l4]]] .nil) 12980742148754920710556048931426308 [p [l0,q [l4,l2,p [l1,l3]]],p [l0,q [p [l1,l3],l2,l4]]] (.nd .nil 12980742158429278746527074880601100 [p [l0,p [p [l2,l4],p [l1,l3]]],p [l0,p [p [l1,l3],p [l2,l4]]]] .nil)) 12980782391480555521421227834129438 [p [l0,p [l1,l3,p [l2,l4]]]] (.nd (.nd .nil 12982168253262330513146537079476228 [p [l4,q [l2,p [l1,l3],l0]],p [l4,q [l0,p [l1,l3],l2]]] .nil) 13954297807614580706579434897936388 [q [l4,l2,p [l0,p [l1,l3]]],q [p [l0,p [l1,l3]],l2,l4]] .nil)) 13954297808222216456367564967129100 [p [p [l2,l4],p [l0,p [l1,l3]]],p [p [l0,p [l1,l3]],p [l2,l4]]] (.nd (.nd (.nd .nil 13954297820311474652516605496409100 [p [l0,p [l2,l4],p [l1,l3]],p [l0,p [l1,l3],p [l2,l4]]] .nil) 15576890575604482885591489054769156 [q [l4,l2,l3,p [l0,l1]],q [p [l0,l1],l3,l2,l4]] (.nd .nil 15576890575608024660453641422897164 [q [p [l2,l4],l3,p [l0,l1]],q [p [l0,l1],l3,p [l2,l4]]] .nil)) 15576891504059512349626695497547796 [p [q [l4,l2,l3],p [l0,l1]],p [q [l3,l2,l4],p [l0,l1]],p [p [l0,l1],q [l4,l2,l3]],p [p [l0,l1],q [l3,l2,l4]]] (.nd (.nd .nil 15576891504059512349662429627580436 [p [l0,l1,q [l4,l2,l3]],p [l0,l1,q [l3,l2,l4]]] .nil) 15576950925184939822742043057192990 [p [p [l3,p [l2,l4]],p [l0,l1]],p [p [l0,l1],p [l3,p [l2,l4]]]] .nil)))))
noncomputable def tb5babb : Tb := (.nd (.nd (.nd (.nd (.nd (.nd .nil 15587190236731343014086172802547716 [p [l4,q [l2,l3,p [l0,l1]]],p [l4,q [p [l0,l1],l3,l2]]] .nil) 17199483344203570340893796096540676 [q [l4,l2,p [l3,p [l0,l1]]],q [p [l3,p [l0,l1]],l2,l4]] (.nd .nil 17199483344821388693410476533481484 [p [p [l2,l4],p [l3,p [l0,l1]]],p [p [l3,p [l0,l1]],p [l2,l4]]] .nil)) 17199543694398303855698878167777310 [p [l3,p [l2,l4],p [l0,l1]],p [l3,p [l0,l1],p [l2,l4]]] (.nd (.nd .nil 20444668880787837608725425021784068 [q [l4,l2,p [l0,l1,l3]],q [p [l0,l1,l3],l2,l4]] .nil) 20444668881406393831005191279751180 [p [p [l2,l4],p [l0,l1,l3]],p [p [l0,l1,l3],p [l2,l4]]] (.nd .nil 20444729243261461848810247349779486 [p [l0,l1,l3,p [l2,l4]]] .nil))) 20769187434139310532136383826362368 [q [l4,l3,l0,l1,l2],q [l2,l1,l0,l3,l4]] (.nd (.nd (.nd .nil 20769187434139311108597136129851392 [q [q [l4,l3,l0],l1,l2],q [q [l0,l3,l4],l1,l2],q [l2,l1,q [l4,l3,l0]],q [l2,l1,q [l0,l3,l4]]] .nil) 20769187434140491123757101371883520 [p [l2,q [l4,l3,l0,l1]],p [l2,q [l1,l0,l3,l4]]] (.nd .nil 20769187434140491702540022233235456 [p [l2,p [l1,q [l4,l3,l0]]],p [l2,p [l1,q [l0,l3,l4]]]] .nil)) 20769188672079349853545455744450560 [q [p [l3,l4],l0,l1,l2],q [l2,l1,l0,p [l3,l4]]] (.nd (.nd .nil 20769188672079350574121396127989760 [q [p [l0,p [l3,l4]],l1,l2],q [l2,l1,p [l0,p [l3,l4]]]] .nil) 20769188672080548891910247536394240 [p [l2,q [p [l3,l4],l0,l1]],p [l2,q [l1,l0,p [l3,l4]]]] .nil))) 20769188672080549623816655244165120 [p [l2,p [l1,p [l0,p [l3,l4]]]]] (.nd (.nd (.nd (.nd .nil 20770455084739538833595474567495680 [q [l4,p [l0,l3],l1,l2],q [l2,l1,p [l0,l3],l4]] .nil) 20770455084740866999168919228383232 [p [l2,q [l4,p [l0,l3],l1]],p [l2,q [l1,p [l0,l3],l4]]] (.nd .nil 20770455084815097562012517346115584 [q [p [l4,p [l0,l3]],l1,l2],q [l2,l1,p [l4,p [l0,l3]]]] .nil)) 20770455084816428035759935871582208 [p [l2,p [l1,p [l4,p [l0,l3]]]]] (.nd (.nd .nil 20770456322755137027536777344253952 [q [p [l0,l3,l4],l1,l2],q [l2,l1,p [l0,l3,l4]]] .nil) 20770456322756485957036568882511872 [p [l2,p [l1,p [l0,l3,l4]]]] (.nd .nil 20779328638941137520269862058852352 [q [l4,q [l3,l0,l1],l2],q [l4,q [l1,l0,l3],l2],q [l2,q [l3,l0,l1],l4],q [l2,q [l1,l0,l3],l4]] .nil))) 20779328638952057992761498247626752 [p [l2,p [l4,q [l3,l0,l1]]],p [l2,p [l4,q [l1,l0,l3]]]] (.nd (.nd (.nd .nil 20861725927955972504550641711972352 [q [l4,p [l1,p [l0,l3]],l2],q [l2,p [l1,p [l0,l3]],l4]] .nil) 20861725927967630846805363721773056 [p [l2,p [l4,p [l1,p [l0,l3]]]]] (.nd .nil 20861725928043191883396380364972032 [p [l2,p [l1,l4,p [l0,l3]]]] .nil)) 22067261648777739805751877553881088 [p [l4,q [l3,l0,l1,l2]],p [l4,q [l2,l1,l0,l3]]] (.nd (.nd .nil 24664677728645381921476216459628544 [p [l4,q [p [l0,l3],l1,l2]],p [l4,q [l2,l1,p [l0,l3]]]] .nil) 27269699712114394422415852182700032 [p [l4,p [l2,q [l3,l0,l1]]],p [l4,p [l2,q [l1,l0,l3]]]] .nil)))) 27269699712125314894907488371474432 [p [l2,l4,q [l3,l0,l1]],p [l2,l4,q [l1,l0,l3]]] (.nd (.nd (.nd (.nd (.nd .nil 30597282537713496674528260761063424 [p [l4,p [l2,p [l1,p [l0,l3]]]]] .nil) 30597282537725155016782982770864128 [p [l2,l4,p [l1,p [l0,l3]]]] (.nd .nil 41538374868278621028243971707502592 [q [l4,l3,l0,l2,l1],q [l1,l2,l0,l3,l4]] .nil)) 41538374868278621028244006067372032 [q [q [l4,l3,l0],l2,l1],q [q [l0,l3,l4],l2,l1],q [l1,l2,q [l4,l3,l0]],q [l1,l2,q [l0,l3,l4]]] (.nd (.nd .nil 41538374868278621030566140265365504 [p [l1,q [l4,l3,l0,l2]],p [l1,q [l2,l0,l3,l4]]] .nil) 41538374868279801622186892170756096 [p [l1,p [l2,q [l4,l3,l0]]],p [l1,p [l2,q [l0,l3,l4]]]] (.nd .nil 41538377344158699599004523653234688 [q [p [l3,l4],l0,l2,l1],q [l1,l2,l0,p [l3,l4]]] .nil))) 41538377344158699599004566611427328 [q [p [l0,p [l3,l4]],l2,l1],q [l1,l2,p [l0,p [l3,l4]]]] (.nd (.nd (.nd .nil 41538377344158699610334990977466368 [p [l1,q [p [l3,l4],l0,l2]],p [l1,q [l2,l0,p [l3,l4]]]] .nil) 41538377344159898648699825727602688 [p [l1,p [l2,p [l0,p [l3,l4]]]]] (.nd .nil 41540910169479077487046969408880640 [q [l4,p [l0,l3],l2,l1],q [l1,l2,p [l0,l3],l4]] .nil)) 41540910169479079795220943273459712 [p [l1,q [l4,p [l0,l3],l2]],p [l1,q [l2,p [l0,l3],l4]]] (.nd (.nd .nil 41540910169630193214498849595457536 [q [p [l4,p [l0,l3]],l2,l1],q [l1,l2,p [l4,p [l0,l3]]]] .nil) 41540910169631523688246268120924160 [p [l1,p [l2,p [l4,p [l0,l3]]]]] .nil))) 41540912645510271785259410139512832 [q [p [l0,l3,l4],l2,l1],q [l1,l2,p [l0,l3,l4]]] (.nd (.nd (.nd (.nd .nil 41540912645511620714759201677770752 [p [l1,p [l2,p [l0,l3,l4]]]] .nil) 41558657277901162164599397539643392 [p [l4,q [l3,l0,l2,l1]],p [l4,q [l1,l2,l0,l3]]] (.nd .nil 41601757398308921964250289743609856 [p [l4,q [p [l0,l3],l2,l1]],p [l4,q [l1,l2,p [l0,l3]]]] .nil)) 42187411975595474481810352468131840 [q [l4,q [l3,l0,l2],l1],q [l4,q [l2,l0,l3],l1],q [l1,q [l3,l0,l2],l4],q [l1,q [l2,l0,l3],l4]] (.nd (.nd .nil 42187411975633253416013070373748736 [p [l1,p [l4,q [l3,l0,l2]]],p [l1,p [l4,q [l2,l0,l3]]]] .nil) 42288824023632622300987467212259328 [p [l4,p [l1,q [l3,l0,l2]]],p [l4,p [l1,q [l2,l0,l3]]]] .nil)) 42288824023670401235190185117876224 [p [l1,l4,q [l3,l0,l2]],p [l1,l4,q [l2,l0,l3]]] (.nd (.nd (.nd .nil 47382244135330758569143846565838848 [q [l4,p [l2,p [l0,l3]],l1],q [l1,p [l2,p [l0,l3]],l4]] .nil) 47382244135368539809233554150293504 [p [l1,p [l4,p [l2,p [l0,l3]]]]] (.nd .nil 47382244135520983702258878997757952 [p [l1,p [l2,l4,p [l0,l3]]]] .nil)) 47534362207377036717302334045044736 [p [l4,p [l1,p [l2,p [l0,l3]]]]] (.nd (.nd .nil 47534362207414817957392041629499392 [p [l1,l4,p [l2,p [l0,l3]]]] .nil) 62307562302417931560380355533864960 [q [l4,l3,l0,p [l1,l2]],q [p [l1,l2],l0,l3,l4]] .nil)))))
noncomputable def tb5bbaa : Tb := (.nd (.nd (.nd (.nd (.nd (.nd .nil 62307562302419112730784028300607488 [p [l1,l2,q [l4,l3,l0]],p [l1,l2,q [l0,l3,l4]]] .nil) 62307566016238049452549979397685248 [q [p [l3,l4],l0,p [l1,l2]],q [p [l1,l2],l0,p [l3,l4]]] (.nd .nil 62307566016238050173125962739417088 [p [p [l0,p [l3,l4]],p [l1,l2]],p [p [l1,l2],p [l0,p [l3,l4]]]] .nil)) 62307566016239249222821221855592448 [p [l1,l2,p [l0,p [l3,l4]]]] (.nd (.nd .nil 62311365254218616320642443976376320 [q [l4,p [l0,l3],p [l1,l2]],q [p [l1,l2],p [l0,l3],l4]] .nil) 62311365254445290776511366941573120 [p [p [l4,p [l0,l3]],p [l1,l2]],p [p [l1,l2],p [l4,p [l0,l3]]]] (.nd .nil 62311365254446621250258785467039744 [p [l1,l2,p [l4,p [l0,l3]]]] .nil))) 62311368968265408812796187483766784 [p [p [l0,l3,l4],p [l1,l2]],p [p [l1,l2],p [l0,l3,l4]]] (.nd (.nd (.nd .nil 62311368968266757742295979022024704 [p [l1,l2,p [l0,l3,l4]]] .nil) 63625918926678901970351275093524480 [p [l4,q [l3,l0,p [l1,l2]]],p [l4,q [p [l1,l2],l0,l3]]] (.nd .nil 66266435126954303885726506203238400 [p [l4,p [p [l0,l3],p [l1,l2]]],p [l4,p [p [l1,l2],p [l0,l3]]]] .nil)) 66266435127180978341595429168435200 [p [l4,p [l0,l3],p [l1,l2]],p [l4,p [l1,l2],p [l0,l3]]] (.nd (.nd .nil 72199039936022418638778550504673280 [p [l4,p [l1,l2,p [l0,l3]]]] .nil) 72199039936298532676991903064125440 [p [l1,l2,l4,p [l0,l3]]] .nil))) 83076749736557242056769416244232192 [q [l4,l3,l1,l0,l2],q [l2,l0,l1,l3,l4]] (.nd (.nd (.nd (.nd .nil 83076749736557242065777715010600960 [q [q [l4,l3,l1],l0,l2],q [q [l1,l3,l4],l0,l2],q [l2,l0,q [l4,l3,l1]],q [l2,l0,q [l1,l3,l4]]] .nil) 83076749736559603240010851066839048 [p [l2,q [l4,l3,l1,l0]],p [l2,q [l0,l1,l3,l4]]] (.nd .nil 83076749736559603393134337913257992 [p [l2,p [l0,q [l4,l3,l1]]],p [l2,p [l0,q [l1,l3,l4]]]] .nil)) 83076754688317399198853465794150400 [q [p [l3,l4],l1,l0,l2],q [l2,l0,l1,p [l3,l4]]] (.nd (.nd .nil 83076754688317399210183933118382080 [q [p [l1,p [l3,l4]],l0,l2],q [l2,l0,p [l1,p [l3,l4]]]] .nil) 83076754688319797275583048035860520 [p [l2,q [p [l3,l4],l1,l0]],p [l2,q [l0,l1,p [l3,l4]]]] (.nd .nil 83076754688319798007489455743631400 [p [l2,p [l0,p [l1,p [l3,l4]]]]] .nil))) 83076908192882275197130621759520768 [q [l4,q [l3,l1,l0],l2],q [l4,q [l0,l1,l3],l2],q [l2,q [l3,l1,l0],l4],q [l2,q [l0,l1,l3],l4]] (.nd (.nd (.nd .nil 83076908193489173077155666007687176 [p [l2,p [l4,q [l3,l1,l0]]],p [l2,p [l4,q [l0,l1,l3]]]] .nil) 83157879374971848739591105156218880 [q [l4,p [l1,l3],l0,l2],q [l2,l0,p [l1,l3],l4]] (.nd .nil 83157879374974800218642898684485640 [p [l2,q [l4,p [l1,l3],l0]],p [l2,q [l0,p [l1,l3],l4]]] .nil)) 83157879379807552031561520248782848 [q [p [l4,p [l1,l3]],l0,l2],q [l2,l0,p [l4,p [l1,l3]]]] (.nd (.nd .nil 83157879379810512878100538712399880 [p [l2,p [l0,p [l4,p [l1,l3]]]]] .nil) 83157884331567709175967738356563968 [q [p [l1,l3,l4],l0,l2],q [l2,l0,p [l1,l3,l4]]] .nil)))) 83157884331570707492455656542773288 [p [l2,p [l0,p [l1,l3,l4]]]] (.nd (.nd (.nd (.nd (.nd .nil 83159305481897110181411401412640768 [q [l4,p [l0,p [l1,l3]],l2],q [l2,p [l0,p [l1,l3]],l4]] .nil) 83159305482504745931199531481833480 [p [l2,p [l4,p [l0,p [l1,l3]]]]] (.nd .nil 83159305487340458590657171509747720 [p [l2,p [l0,l4,p [l1,l3]]]] .nil)) 83401268290517900238456229558484992 [p [l4,q [l3,l1,l0,l2]],p [l4,q [l2,l0,l1,l3]]] (.nd (.nd .nil 84131435036249360374844299231100928 [p [l4,q [p [l1,l3],l0,l2]],p [l4,q [l2,l0,p [l1,l3]]]] .nil) 93786020463912588635878427732213764 [p [l4,p [l2,q [l3,l1,l0]]],p [l4,p [l2,q [l0,l1,l3]]]] (.nd .nil 93786020464519486515903471980380172 [p [l2,l4,q [l3,l1,l0]],p [l2,l4,q [l0,l1,l3]]] .nil))) 97113603289511690887990836310577156 [p [l4,p [l2,p [l0,p [l1,l3]]]]] (.nd (.nd (.nd .nil 97113603290119326637778966379769868 [p [l2,l4,p [l0,p [l1,l3]]]] .nil) 103845937170696552588905800070594560 [q [l4,l3,p [l0,l1],l2],q [l2,p [l0,l1],l3,l4]] (.nd .nil 103845937170700094363767952438722568 [p [l2,q [l4,l3,p [l0,l1]]],p [l2,q [p [l0,l1],l3,l4]]] .nil)) 103845943360396749052398921538600960 [q [p [l3,l4],p [l0,l1],l2],q [l2,p [l0,l1],p [l3,l4]]] (.nd (.nd .nil 103845943360400346167493295572254760 [p [l2,p [p [l3,l4],p [l0,l1]]],p [l2,p [p [l0,l1],p [l3,l4]]]] .nil) 103845943360400346899399703280025640 [p [l2,p [l0,l1,p [l3,l4]]]] .nil))) 103856236831823412717400483818373120 [q [l4,p [l3,p [l0,l1]],l2],q [l2,p [l3,p [l0,l1]],l4]] (.nd (.nd (.nd (.nd .nil 103856236832441231069917164255313928 [p [l2,p [l4,p [l3,p [l0,l1]]]]] .nil) 103856243022141482873642507388846120 [p [l2,p [l3,l4,p [l0,l1]]]] (.nd .nil 103938634120838247701681263471493120 [q [l4,p [l0,l1,l3],l2],q [l2,p [l0,l1,l3],l4]] .nil)) 103938634121456803923961029729460232 [p [l2,p [l4,p [l0,l1,l3]]]] (.nd (.nd .nil 103938640316068329423735029534105640 [p [l2,p [l0,l1,l3,l4]]] .nil) 105468529939295640044208107112366080 [p [l4,q [l3,p [l0,l1],l2]],p [l4,q [l2,p [l0,l1],l3]]] .nil)) 121055720176026983058294279914913796 [p [l4,p [l2,p [l3,p [l0,l1]]]]] (.nd (.nd (.nd .nil 121055720176644801410810960351854604 [p [l2,l4,p [l3,p [l0,l1]]]] .nil) 124383303001626085310406688493277188 [p [l4,p [l2,p [l0,l1,l3]]]] (.nd .nil 124383303002244641532686454751244300 [p [l2,l4,p [l0,l1,l3]]] .nil)) 166153499473114484112975882535043136 [q [l4,l3,l1,l2,l0],q [l0,l2,l1,l3,l4]] (.nd (.nd .nil 166153499473114484112978081558300736 [q [q [l4,l3,l1],l2,l0],q [q [l1,l3,l4],l2,l0],q [l0,l2,q [l4,l3,l1]],q [l0,l2,q [l1,l3,l4]]] .nil) 166153499473114484257091070615093312 [p [l0,q [l4,l3,l1,l2]],p [l0,q [l2,l1,l3,l4]]] .nil)))))
noncomputable def tb5bbab : Tb := (.nd (.nd (.nd (.nd (.nd (.nd .nil 166153509376634798396018081728037056 [q [p [l3,l4],l1,l2,l0],q [l0,l2,l1,p [l3,l4]]] .nil) 166153509376634798396161018239650496 [q [p [l1,p [l3,l4]],l2,l0],q [l0,l2,p [l1,p [l3,l4]]]] (.nd .nil 166153509376634799116594022111576256 [p [l0,q [p [l3,l4],l1,l2]],p [l0,q [l2,l1,p [l3,l4]]]] .nil)) 166153509376637197193466540864899816 [p [l0,p [l2,p [l1,p [l3,l4]]]]] (.nd (.nd .nil 166153816386973466989940885885550656 [p [l4,q [l3,l1,l2,l0]],p [l4,q [l0,l2,l1,l3]]] .nil) 166315758749943697476367460545331520 [q [l4,p [l1,l3],l2,l0],q [l0,l2,p [l1,l3],l4]] (.nd .nil 166315758749943706843854685480681792 [p [l0,q [l4,p [l1,l3],l2]],p [l0,q [l2,p [l1,l3],l4]]] .nil))) 166315758759615104033286692966239552 [q [p [l4,p [l1,l3]],l2,l0],q [l0,l2,p [l4,p [l1,l3]]]] (.nd (.nd (.nd .nil 166315758759618064879825711429856584 [p [l0,p [l2,p [l4,p [l1,l3]]]]] .nil) 166315768663135418316469629647589312 [q [p [l1,l3,l4],l2,l0],q [l0,l2,p [l1,l3,l4]]] (.nd .nil 166315768663138416632957547833798632 [p [l0,p [l2,p [l1,l3,l4]]]] .nil)) 166316709489102794468033487125348672 [p [l4,q [p [l1,l3],l2,l0]],p [l4,q [l0,l2,p [l1,l3]]]] (.nd (.nd .nil 168749647902381897927241130699657280 [q [l4,q [l3,l1,l2],l0],q [l4,q [l2,l1,l3],l0],q [l0,q [l3,l1,l2],l4],q [l0,q [l2,l1,l3],l4]] .nil) 168749647904799749710585577130168384 [p [l0,p [l4,q [l3,l1,l2]]],p [l0,p [l4,q [l2,l1,l3]]]] .nil))) 168751232466841109105665224791298112 [p [l4,p [l0,q [l3,l1,l2]]],p [l4,p [l0,q [l2,l1,l3]]]] (.nd (.nd (.nd (.nd .nil 168751232469258960889009671221809216 [p [l0,l4,q [l3,l1,l2]],p [l0,l4,q [l2,l1,l3]]] .nil) 179296500896280766547693701368385860 [q [l4,p [l2,p [l1,l3]],l0],q [l0,p [l2,p [l1,l3]],l4]] (.nd .nil 179296500898698627554410734412108100 [p [l0,p [l4,p [l2,p [l1,l3]]]]] .nil)) 179296500908372985590381760361282892 [p [l0,p [l2,l4,p [l1,l3]]]] (.nd (.nd .nil 179298877742365124981180024204824900 [p [l4,p [l0,p [l2,p [l1,l3]]]]] .nil) 179298877744782985987897057248547140 [p [l0,l4,p [l2,p [l1,l3]]]] (.nd .nil 207691874341393105141219854242545728 [q [l4,l3,q [l1,l2,l0]],q [l4,l3,q [l0,l2,l1]],q [q [l1,l2,l0],l3,l4],q [q [l0,l2,l1],l3,l4]] .nil))) 207691886720793497995022605381271744 [p [p [l3,l4],q [l1,l2,l0]],p [p [l3,l4],q [l0,l2,l1]],p [q [l1,l2,l0],p [l3,l4]],p [q [l0,l2,l1],p [l3,l4]]] (.nd (.nd (.nd .nil 207712473664874629154540283425194048 [p [l4,p [l3,q [l1,l2,l0]]],p [l4,p [l3,q [l0,l2,l1]]]] .nil) 207712486044275022008343034563920064 [p [l3,l4,q [l1,l2,l0]],p [l3,l4,q [l0,l2,l1]]] (.nd .nil 249230249209671726169745298779275328 [q [l4,l3,l1,p [l0,l2]],q [p [l0,l2],l1,l3,l4]] .nil)) 249230249209671726178755796568901696 [p [q [l4,l3,l1],p [l0,l2]],p [q [l1,l3,l4],p [l0,l2]],p [p [l0,l2],q [l4,l3,l1]],p [p [l0,l2],q [l1,l3,l4]]] (.nd (.nd .nil 249230249209674087506112419471558728 [p [l0,l2,q [l4,l3,l1]],p [l0,l2,q [l1,l3,l4]]] .nil) 249230264064952197594871547522187456 [q [p [l3,l4],l1,p [l0,l2]],q [p [l0,l2],l1,p [l3,l4]]] .nil)))) 249230264064952197606344951358032576 [p [p [l1,p [l3,l4]],p [l0,l2]],p [p [l0,l2],p [l1,p [l3,l4]]]] (.nd (.nd (.nd (.nd (.nd .nil 249230264064954596403650473983281896 [p [l0,l2,p [l1,p [l3,l4]]]] .nil) 249473638124915546215958565701550400 [q [l4,p [l1,l3],p [l0,l2]],q [p [l0,l2],p [l1,l3],l4]] (.nd .nil 249473638139422656064848213215022400 [p [p [l4,p [l1,l3]],p [l0,l2]],p [p [l0,l2],p [l4,p [l1,l3]]]] .nil)) 249473638139425616911387231678639432 [p [l0,l2,p [l4,p [l1,l3]]]] (.nd (.nd .nil 249473652994703127492437368004153280 [p [p [l1,l3,l4],p [l0,l2]],p [p [l0,l2],p [l1,l3,l4]]] .nil) 249473652994706125808925286190362600 [p [l0,l2,p [l1,l3,l4]]] (.nd .nil 249555084677491367228397115444035648 [p [l4,q [l3,l1,p [l0,l2]]],p [l4,q [p [l0,l2],l1,l3]]] .nil))) 250448144525352154842877786356449600 [p [l4,p [p [l1,l3],p [l0,l2]]],p [l4,p [p [l0,l2],p [l1,l3]]]] (.nd (.nd (.nd .nil 250448144539859264691767433869921600 [p [l4,p [l1,l3],p [l0,l2]],p [l4,p [l0,l2],p [l1,l3]]] .nil) 263430312778614485356024323435925828 [p [l4,p [l0,l2,p [l1,l3]]]] (.nd .nil 263430312796147091961419134062312780 [p [l0,l2,l4,p [l1,l3]]] .nil)) 332306998946228968225951765086863360 [q [l4,l3,l2,l0,l1],q [l1,l0,l2,l3,l4]] (.nd (.nd .nil 332306998946228968226092502575219200 [p [l1,q [l4,l3,l2,l0]],p [l1,q [l0,l2,l3,l4]]] .nil) 332306998946228986672695839333285888 [q [q [l4,l3,l2],l0,l1],q [q [l2,l3,l4],l0,l1],q [l1,l0,q [l4,l3,l2]],q [l1,l0,q [l2,l3,l4]]] .nil))) 332306998946228986672836585419964928 [p [l1,p [l0,q [l4,l3,l2]]],p [l1,p [l0,q [l2,l3,l4]]]] (.nd (.nd (.nd (.nd .nil 332307018753269596792036163506405376 [q [p [l3,l4],l2,l0,l1],q [l1,l0,l2,p [l3,l4]]] .nil) 332307018753269596792179100018018816 [p [l1,q [p [l3,l4],l2,l0]],p [l1,q [l0,l2,p [l3,l4]]]] (.nd .nil 332307018753270795830400955298349056 [q [p [l2,p [l3,l4]],l0,l1],q [l1,l0,p [l2,p [l3,l4]]]] .nil)) 332307018753270795830543934768155136 [p [l1,p [l0,p [l2,p [l3,l4]]]]] (.nd (.nd .nil 332307632771529082340652788316372992 [q [l4,q [l3,l2,l0],l1],q [l4,q [l0,l2,l3],l1],q [l1,q [l3,l2,l0],l4],q [l1,q [l0,l2,l3],l4]] .nil) 332307632810214708568466057441837568 [p [l1,p [l4,q [l3,l2,l0]]],p [l1,p [l4,q [l0,l2,l3]]]] .nil)) 332312069567972694257391818694983680 [p [l4,q [l3,l2,l0,l1]],p [l4,q [l1,l0,l2,l3]]] (.nd (.nd (.nd .nil 332474962670102021735484419934781696 [p [l4,p [l1,q [l3,l2,l0]]],p [l4,p [l1,q [l0,l2,l3]]]] .nil) 332474962708787647963297689060246272 [p [l1,l4,q [l3,l2,l0]],p [l1,l4,q [l0,l2,l3]]] (.nd .nil 337499295804763795854482261483192320 [q [l4,p [l2,l3],l0,l1],q [l1,l0,p [l2,l3],l4]] .nil)) 337499295804763795854658183343669760 [p [l1,q [l4,p [l2,l3],l0]],p [l1,q [l0,p [l2,l3],l4]]] (.nd (.nd .nil 337499296114248824122571404722831360 [q [p [l4,p [l2,l3]],l0,l1],q [l1,l0,p [l4,p [l2,l3]]]] .nil) 337499296114248824122747884939543040 [p [l1,p [l0,p [l4,p [l2,l3]]]]] .nil)))))
noncomputable def tb5bbba : Tb := (.nd (.nd (.nd (.nd (.nd (.nd .nil 337499315921290633280455234287733248 [p [l1,p [l0,p [l2,l3,l4]]]] .nil) 337502464931264366427986282414080000 [q [l4,p [l0,p [l2,l3]],l1],q [l1,p [l0,p [l2,l3]],l4]] (.nd .nil 337502464969949994961686541218382336 [p [l1,p [l4,p [l0,p [l2,l3]]]]] .nil)) 337502465279435023229776242814255616 [p [l1,p [l0,l4,p [l2,l3]]]] (.nd (.nd .nil 337514507631309348874055793323802624 [p [l4,q [p [l2,l3],l0,l1]],p [l4,q [l1,l0,p [l2,l3]]]] .nil) 337720500853846436151799286767567104 [p [l4,p [l1,p [l0,p [l2,l3]]]]] (.nd .nil 337720500892532064685499545571869440 [p [l1,l4,p [l0,p [l2,l3]]]] .nil))) 373845373814507589254195736794365952 [q [l4,l3,p [l0,l2],l1],q [l1,p [l0,l2],l3,l4]] (.nd (.nd (.nd .nil 373845373814507589256658642840584704 [p [l1,q [l4,l3,p [l0,l2]]],p [l1,q [p [l0,l2],l3,l4]]] .nil) 373845396097428296391040687159640064 [q [p [l3,l4],p [l0,l2],l1],q [l1,p [l0,l2],p [l3,l4]]] (.nd .nil 373845396097428296402514090995485184 [p [l1,p [p [l3,l4],p [l0,l2]]],p [l1,p [p [l0,l2],p [l3,l4]]]] .nil)) 373845396097429495440878925745621504 [p [l1,p [l0,l2,p [l3,l4]]]] (.nd (.nd .nil 373870726845873856421991216234627072 [p [l4,q [l3,p [l0,l2],l1]],p [l4,q [l1,p [l0,l2],l3]]] .nil) 374495044747124556822463140784504832 [q [l4,p [l3,p [l0,l2]],l1],q [l1,p [l3,p [l0,l2]],l4]] .nil))) 374495044785847961984479127815586304 [p [l1,p [l4,p [l3,p [l0,l2]]]]] (.nd (.nd (.nd (.nd .nil 374495067068768669130334575970486784 [p [l1,p [l3,l4,p [l0,l2]]]] .nil) 374763786693734644036471887147041024 [p [l4,p [l1,p [l3,p [l0,l2]]]]] (.nd .nil 374763786732458049198487874178122496 [p [l1,l4,p [l3,p [l0,l2]]]] .nil)) 379689876906859840909796634882211840 [q [l4,p [l0,l2,l3],l1],q [l1,p [l0,l2,l3],l4]] (.nd (.nd .nil 379689876945583248377699611592131072 [p [l1,p [l4,p [l0,l2,l3]]]] .nil) 379689899538141427684670086190369280 [p [l1,p [l0,l2,l3,l4]]] (.nd .nil 380009324877479058452786753979826432 [p [l4,p [l1,p [l0,l2,l3]]]] .nil))) 380009324916202465920689730689745664 [p [l1,l4,p [l0,l2,l3]]] (.nd (.nd (.nd .nil 415383748682786210282721181331095552 [q [l4,l3,q [l2,l0,l1]],q [l4,l3,q [l1,l0,l2]],q [q [l2,l0,l1],l3,l4],q [q [l1,l0,l2],l3,l4]] .nil) 415383773441586995990889629300555776 [p [p [l3,l4],q [l2,l0,l1]],p [p [l3,l4],q [l1,l0,l2]],p [q [l2,l0,l1],p [l3,l4]],p [q [l1,l0,l2],p [l3,l4]]] (.nd .nil 415713337858490594495848048253468672 [p [l4,p [l3,q [l2,l0,l1]]],p [l4,p [l3,q [l1,l0,l2]]]] .nil)) 415713362617291380204016496222928896 [p [l3,l4,q [l2,l0,l1]],p [l3,l4,q [l1,l0,l2]]] (.nd (.nd .nil 623075623024179315423941035573641280 [q [l4,l3,p [l1,p [l0,l2]]],q [p [l1,p [l0,l2]],l3,l4]] .nil) 623075660162380493985912234681827520 [p [p [l3,l4],p [l1,p [l0,l2]]],p [p [l1,p [l0,l2]],p [l3,l4]]] .nil)))) 623075660162380493997385638517672640 [p [l1,p [l3,l4],p [l0,l2]],p [l1,p [l0,l2],p [l3,l4]]] (.nd (.nd (.nd (.nd (.nd .nil 623425811523365223650388331678662720 [p [l4,p [l3,p [l1,p [l0,l2]]]]] .nil) 623425848661566402212359530786848960 [p [l3,l4,p [l1,p [l0,l2]]]] (.nd .nil 624318871371226011264869002591076672 [p [l4,p [l1,l3,p [l0,l2]]]] .nil)) 624318908562657704837745836243816384 [p [l1,l3,l4,p [l0,l2]]] (.nd (.nd .nil 664613997892457936451903530140172289 [q [l4,l3,l2,l1,l0],q [l0,l1,l2,l3,l4]] .nil) 664613997892457936451903538738495489 [p [l0,q [l4,l3,l2,l1]],p [l0,q [l1,l2,l3,l4]]] (.nd .nil 664613997892457973345391677559275553 [q [q [l4,l3,l2],l1,l0],q [q [l2,l3,l4],l1,l0],q [l0,l1,q [l4,l3,l2]],q [l0,l1,q [l2,l3,l4]]] .nil))) 664613997892457973345532423645954593 [p [l0,p [l1,q [l4,l3,l2]]],p [l0,p [l1,q [l2,l3,l4]]]] (.nd (.nd (.nd .nil 664614037506539193584072326912147459 [q [p [l3,l4],l2,l1,l0],q [l0,l1,l2,p [l3,l4]]] .nil) 664614037506539193584072369870340099 [p [l0,q [p [l3,l4],l2,l1]],p [l0,q [l1,l2,p [l3,l4]]]] (.nd .nil 664614037506541591660801909153857579 [q [p [l2,p [l3,l4]],l1,l0],q [l0,l1,p [l2,p [l3,l4]]]] .nil)) 664614037506541591660944888623663659 [p [l0,p [l1,p [l2,p [l3,l4]]]]] (.nd (.nd .nil 664614077197991703171577390865317889 [p [l4,q [l3,l2,l1,l0]],p [l4,q [l0,l1,l2,l3]]] .nil) 664654562711665239792751424642760705 [q [l4,q [l3,l2,l1],l0],q [l4,q [l1,l2,l3],l0],q [l0,q [l3,l2,l1],l4],q [l0,q [l1,l2,l3],l4]] .nil))) 664654562866407744703423967603736577 [p [l0,p [l4,q [l3,l2,l1]]],p [l0,p [l4,q [l1,l2,l3]]]] (.nd (.nd (.nd (.nd .nil 664657177318399462971228283069284353 [p [l4,p [l0,q [l3,l2,l1]]],p [l4,p [l0,q [l1,l2,l3]]]] .nil) 664657177473141967881900826030260225 [p [l0,l4,q [l3,l2,l1]],p [l0,l4,q [l1,l2,l3]]] (.nd .nil 674998591609527591708964522798612485 [q [l4,p [l2,l3],l1,l0],q [l0,l1,p [l2,l3],l4]] .nil)) 674998591609527591708965081154846725 [p [l0,q [l4,p [l2,l3],l1]],p [l0,q [l1,p [l2,l3],l4]]] (.nd (.nd .nil 674998592228497648245142807667277877 [q [p [l4,p [l2,l3]],l1,l0],q [l0,l1,p [l4,p [l2,l3]]]] .nil) 674998592228497648245319287883989557 [p [l0,p [l1,p [l4,p [l2,l3]]]]] .nil)) 674998631842581266560553039261859903 [q [p [l2,l3,l4],l1,l0],q [l0,l1,p [l2,l3,l4]]] (.nd (.nd (.nd .nil 674998631842581266560731752861698623 [p [l0,p [l1,p [l2,l3,l4]]]] .nil) 674998829371386391568999589039046661 [p [l4,q [p [l2,l3],l1,l0]],p [l4,q [l0,l1,p [l2,l3]]]] (.nd .nil 675201415705564108413203995311489285 [q [l4,p [l1,p [l2,l3]],l0],q [l0,p [l1,p [l2,l3]],l4]] .nil)) 675201415860306622547249124885676293 [p [l0,p [l4,p [l1,p [l2,l3]]]]] (.nd (.nd .nil 675201416479276679083603331614819125 [p [l0,p [l1,l4,p [l2,l3]]]] .nil) 675204822593923478846743082482811141 [p [l4,p [l0,p [l1,p [l2,l3]]]]] .nil)))))
noncomputable def tb5bbbb : Tb := (.nd (.nd (.nd (.nd (.nd (.nd .nil 685383185326597246984039913966534657 [q [l4,l3,q [l2,l1,l0]],q [l4,l3,q [l0,l1,l2]],q [q [l2,l1,l0],l3,l4],q [q [l0,l1,l2],l3,l4]] .nil) 685383226178618543437617782656598019 [p [p [l3,l4],q [l2,l1,l0]],p [p [l3,l4],q [l0,l1,l2]],p [q [l2,l1,l0],p [l3,l4]],p [q [l0,l1,l2],p [l3,l4]]] (.nd .nil 686681338846769442977329268419198977 [p [l4,p [l3,q [l2,l1,l0]]],p [l4,p [l3,q [l0,l1,l2]]]] .nil)) 686681379698790739430907137109262339 [p [l3,l4,q [l2,l1,l0]],p [l3,l4,q [l0,l1,l2]]] (.nd (.nd .nil 830767497365572420564879412675215425 [q [l4,l3,p [l1,l2],l0],q [l0,p [l1,l2],l3,l4]] .nil) 830767497365572420708994609353588801 [p [l0,q [l4,l3,p [l1,l2]]],p [l0,q [p [l1,l2],l3,l4]]] (.nd .nil 830767546883173991980090408640184515 [q [p [l3,l4],p [l1,l2],l0],q [l0,p [l1,l2],p [l3,l4]]] .nil))) 830767546883173992700666391981916355 [p [l0,p [p [l3,l4],p [l1,l2]]],p [l0,p [p [l1,l2],p [l3,l4]]]] (.nd (.nd (.nd .nil 830767546883176390777538910735239915 [p [l0,p [l1,l2,p [l3,l4]]]] .nil) 830767893584965170161518276750868545 [p [l4,q [l3,p [l1,l2],l0]],p [l4,q [l0,p [l1,l2],l3]]] (.nd .nil 833404210614047137719992555342417985 [q [l4,p [l3,p [l1,l2]],l0],q [l0,p [l3,p [l1,l2]],l4]] .nil)) 833404210771207494414009544733904961 [p [l0,p [l4,p [l3,p [l1,l2]]]]] (.nd (.nd .nil 833404260288809066405681327362232515 [p [l0,p [l3,l4,p [l1,l2]]]] .nil) 833408409785240572076893507860582465 [p [l4,p [l0,p [l3,p [l1,l2]]]]] .nil))) 833408409942400928770910497252069441 [p [l0,l4,p [l3,p [l1,l2]]]] (.nd (.nd (.nd (.nd .nil 843951063607946006340445126011146565 [q [l4,p [l1,l2,l3],l0],q [l0,p [l1,l2,l3],l4]] .nil) 843951063765106372257834702015844677 [p [l0,p [l4,p [l1,l2,l3]]]] (.nd .nil 843951113911352358821831717322489855 [p [l0,p [l1,l2,l3,l4]]] .nil)) 843956055060764587952408307274109253 [p [l4,p [l0,p [l1,l2,l3]]]] (.nd (.nd .nil 843956055217924953869797883278807365 [p [l0,l4,p [l1,l2,l3]]] .nil) 893075059667990352125259768209080385 [q [l4,l3,p [l0,p [l1,l2]]],q [p [l0,p [l1,l2]],l3,l4]] .nil)) 893075112899412041432640388037869763 [p [p [l3,l4],p [l0,p [l1,l2]]],p [p [l0,p [l1,l2]],p [l3,l4]]] (.nd (.nd (.nd .nil 893075112899412042153216371379601603 [p [l0,p [l3,l4],p [l1,l2]],p [l0,p [l1,l2],p [l3,l4]]] .nil) 894393812511644072131869551844393025 [p [l4,p [l3,p [l0,p [l1,l2]]]]] (.nd .nil 894393865743065761439250171673182403 [p [l3,l4,p [l0,p [l1,l2]]]] .nil)) 897034328711919474047244782954106945 [p [l4,p [l0,l3,p [l1,l2]]]] (.nd (.nd .nil 897034382100728194504511315139580099 [p [l0,l3,l4,p [l1,l2]]] .nil) 996920996838686904677855295227035649 [q [l4,l3,l2,p [l0,l1]],q [p [l0,l1],l2,l3,l4]] .nil)))) 996920996838686960018087516892561441 [p [q [l4,l3,l2],p [l0,l1]],p [q [l2,l3,l4],p [l0,l1]],p [p [l0,l1],q [l4,l3,l2]],p [p [l0,l1],q [l2,l3,l4]]] (.nd (.nd (.nd (.nd (.nd .nil 996920996838686960018228262979240481 [p [l0,l1,q [l4,l3,l2]],p [l0,l1,q [l2,l3,l4]]] .nil) 996921056259808790376108490418552835 [q [p [l3,l4],l2,p [l0,l1]],q [p [l0,l1],l2,p [l3,l4]]] (.nd .nil 996921056259812387491202864452206635 [p [p [l2,p [l3,l4]],p [l0,l1]],p [p [l0,l1],p [l2,p [l3,l4]]]] .nil)) 996921056259812387491345843922012715 [p [l0,l1,p [l2,p [l3,l4]]]] (.nd (.nd .nil 996926146765964397428969209560301569 [p [l4,q [l3,l2,p [l0,l1]]],p [l4,q [p [l0,l1],l2,l3]]] .nil) 1012497887414291387563446784281804805 [q [l4,p [l2,l3],p [l0,l1]],q [p [l0,l1],p [l2,l3],l4]] (.nd .nil 1012497888342746472367714212390109237 [p [p [l4,p [l2,l3]],p [l0,l1]],p [p [l0,l1],p [l4,p [l2,l3]]]] .nil))) 1012497888342746472367890692606820917 [p [l0,l1,p [l4,p [l2,l3]]]] (.nd (.nd (.nd .nil 1012497947763871899840829559949754431 [p [p [l2,l3,l4],p [l0,l1]],p [p [l0,l1],p [l2,l3,l4]]] .nil) 1012497947763871899841008273549593151 [p [l0,l1,p [l2,l3,l4]]] (.nd .nil 1012513337002695740443055382362849285 [p [l4,p [p [l2,l3],p [l0,l1]]],p [l4,p [p [l0,l1],p [l2,l3]]]] .nil)) 1012513337931150825247322810471153717 [p [l4,p [l2,l3],p [l0,l1]],p [l4,p [l0,l1],p [l2,l3]]] (.nd (.nd .nil 1012719330225232827720798875806613765 [p [l4,p [l0,l1,p [l2,l3]]]] .nil) 1012719331347116055192811692293407541 [p [l0,l1,l4,p [l2,l3]]] .nil))) 1100766934009383457266761095297630209 [q [l4,l3,p [l2,p [l0,l1]]],q [p [l2,p [l0,l1]],l3,l4]] (.nd (.nd (.nd (.nd .nil 1100766999620205539428507411957153795 [p [p [l3,l4],p [l2,p [l0,l1]]],p [p [l2,p [l0,l1]],p [l3,l4]]] .nil) 1100766999620209136543601785990807595 [p [l2,p [l3,l4],p [l0,l1]],p [l2,p [l0,l1],p [l3,l4]]] (.nd .nil 1102394676705260037473177316672667649 [p [l4,p [l3,p [l2,p [l0,l1]]]]] .nil)) 1102394742316082119634923633332191235 [p [l3,l4,p [l2,p [l0,l1]]]] (.nd (.nd .nil 1117981866941991380487263489475215365 [p [l4,p [l2,l3,p [l0,l1]]]] .nil) 1117981933481886365805793914679984191 [p [l2,l3,l4,p [l0,l1]]] .nil)) 1308458808350776562407980949540175937 [q [l4,l3,p [l0,l1,l2]],q [p [l0,l1,l2],l3,l4]] (.nd (.nd (.nd .nil 1308458886340999037423530017338425539 [p [p [l3,l4],p [l0,l1,l2]],p [p [l0,l1,l2],p [l3,l4]]] .nil) 1308458886341002635270673778549656299 [p [l0,l1,l2,p [l3,l4]]] (.nd .nil 1310107150370134666627717600097861697 [p [l4,p [l3,p [l0,l1,l2]]]] .nil)) 1310107228360357141643266667896111299 [p [l3,l4,p [l0,l1,l2]]] (.nd (.nd .nil 1329227916655002199171659674922537285 [p [l4,p [l0,l1,l2,l3]]] .nil) 1329227995784915872903807060280344575 [p [l0,l1,l2,l3,l4]] .nil)))))
noncomputable def tb5 : Tb := (.nd (.nd (.nd (.nd tb5aaaa 599519182395560960000 [q [l2,q [l4,l1,l3],l0],q [l2,q [l3,l1,l4],l0],q [l0,q [l4,l1,l3],l2],q [l0,q [l3,l1,l4],l2]] tb5aaab) 3022388336012867776020480 [q [q [l2,l4,l0],l1,l3],q [q [l0,l4,l2],l1,l3],q [l3,l1,q [l2,l4,l0]],q [l3,l1,q [l0,l4,l2]]] (.nd tb5aaba 628641426199607170847212560 [q [l3,q [l2,l4,l1],l0],q [l3,q [l1,l4,l2],l0],q [l0,q [l2,l4,l1],l3],q [l0,q [l1,l4,l2],l3]] tb5aabb)) 19807078407497964947767296000 [q [l3,q [l4,l2,l0],l1],q [l3,q [l0,l2,l4],l1],q [l1,q [l4,l2,l0],l3],q [l1,q [l0,l2,l4],l3]] (.nd (.nd tb5abaa 319745918904843169985855488000 [p [l3,p [l1,p [l2,p [l0,l4]]]]] tb5abab) 3802951800684904377285120884736 [q [p [l0,l4],l3,p [l1,l2]],q [p [l1,l2],l3,p [l0,l4]]] (.nd tb5abba 20611702881916867123180321374336 [p [l3,p [l4,q [l1,l2,l0]]],p [l3,p [l4,q [l0,l2,l1]]]] tb5abbb))) 202834782941399086868594059765680 [p [l0,p [l2,l3,p [l1,l4]]]] (.nd (.nd (.nd tb5baaa 974506414943718475808868168371200 [p [p [l4,p [l0,l2]],p [l1,l3]],p [p [l1,l3],p [l4,p [l0,l2]]]] tb5baab) 3894262889245602894934859117147154 [p [l0,l3,p [l1,p [l2,l4]]]] (.nd tb5baba 15576950925184939822780010570352670 [p [l0,l1,p [l3,p [l2,l4]]]] tb5babb)) 62307562302417932136841142197223424 [p [q [l4,l3,l0],p [l1,l2]],p [q [l0,l3,l4],p [l1,l2]],p [p [l1,l2],q [l4,l3,l0]],p [p [l1,l2],q [l0,l3,l4]]] (.nd (.nd tb5bbaa 166153499473116845440334704460957768 [p [l0,p [l2,q [l4,l3,l1]]],p [l0,p [l2,q [l1,l3,l4]]]] tb5bbab) 337499315921290633280276520687894528 [q [p [l2,l3,l4],l0,l1],q [l1,l0,p [l2,l3,l4]]] (.nd tb5bbba 675204822748665992980788212056998149 [p [l0,l4,p [l1,p [l2,l3]]]] tb5bbbb))))
theorem c1 : tb1.all (treeOk tb1 ks1) = true := by decide +kernel
theorem c2 : tb2.all (treeOk tb2 ks2) = true := by decide +kernel
theorem c3 : tb3.all (treeOk tb3 ks3) = true := by decide +kernel
theorem c4 : tb4.all (treeOk tb4 ks4) = true := by decide +kernel
theorem c5aaaa : tb5aaaa.all (treeOk tb5 ks5) = true := by decide +kernel
theorem c5aaab : tb5aaab.all (treeOk tb5 ks5) = true := by decide +kernel
theorem c5aaba : tb5aaba.all (treeOk tb5 ks5) = true := by decide +kernel
theorem c5aabb : tb5aabb.all (treeOk tb5 ks5) = true := by decide +kernel
theorem c5abaa : tb5abaa.all (treeOk tb5 ks5) = true := by decide +kernel
theorem c5abab : tb5abab.all (treeOk tb5 ks5) = true := by decide +kernel
theorem c5abba : tb5abba.all (treeOk tb5 ks5) = true := by decide +kernel
theorem c5abbb : tb5abbb.all (treeOk tb5 ks5) = true := by decide +kernel
theorem c5baaa : tb5baaa.all (treeOk tb5 ks5) = true := by decide +kernel
theorem c5baab : tb5baab.all (treeOk tb5 ks5) = true := by decide +kernel
theorem c5baba : tb5baba.all (treeOk tb5 ks5) = true := by decide +kernel
theorem c5babb : tb5babb.all (treeOk tb5 ks5) = true := by decide +kernel
theorem c5bbaa : tb5bbaa.all (treeOk tb5 ks5) = true := by decide +kernel
theorem c5bbab : tb5bbab.all (treeOk tb5 ks5) = true := by decide +kernel
theorem c5bbba : tb5bbba.all (treeOk tb5 ks5) = true := by decide +kernel
theorem c5bbbb : tb5bbbb.all (treeOk tb5 ks5) = true := by decide +kernel
theorem c5 : tb5.all (treeOk tb5 ks5) = true := (all_nd (by decide +kernel) (all_nd (by decide +kernel) (all_nd (by decide +kernel) (all_nd (by decide +kernel) c5aaaa c5aaab) (all_nd (by decide +kernel) c5aaba c5aabb)) (all_nd (by decide +kernel) (all_nd (by decide +kernel) c5abaa c5abab) (all_nd (by decide +kernel) c5abba c5abbb))) (all_nd (by decide +kernel) (all_nd (by decide +kernel) (all_nd (by decide +kernel) c5baaa c5baab) (all_nd (by decide +kernel) c5baba c5babb)) (all_nd (by decide +kernel) (all_nd (by decide +kernel) c5bbaa c5bbab) (all_nd (by decide +kernel) c5bbba c5bbbb))))
theorem closed1 : Closed 1 tb1 := closed_of base1_ok ks1_ok rfl c1 rfl (by decide +kernel)
theorem closed2 : Closed 2 tb2 := closed_of base2_ok ks2_ok rfl c2 rfl (by decide +kernel)
theorem closed3 : Closed 3 tb3 := closed_of base3_ok ks3_ok rfl c3 rfl (by decide +kernel)
theorem closed4 : Closed 4 tb4 := closed_of base4_ok ks4_ok rfl c4 rfl (by decide +kernel)
theorem closed5 : Closed 5 tb5 := closed_of base5_ok ks5_ok rfl c5 rfl (by decide +kernel)
end Ts
end
section
namespace Ts
open Kh241Neutral (orders keepsB)
open Kh241 (isBetween three)
noncomputable def fact : Nat → Nat
  | 0 => 1
  | n + 1 => fact n * (n + 1)
noncomputable def mulAll (g : T → Option Nat) : Nat → List T → Option Nat
  | a, [] => some a
  | a, k :: r => match g k with
    | none => none
    | some b => bif Nat.ble b 1000000 then mulAll g (a * b) r else none
noncomputable def howMany : Nat → T → Option Nat
  | 0, _ => none
  | n + 1, k => bif Nat.ble k.kids.length 10 then mulAll (howMany n) (bif k.turns then 2 else fact k.kids.length) k.kids else none
noncomputable def insIx (v : List Nat) (i : Nat) : List Nat → List Nat
  | [] => [i]
  | j :: r => bif Nat.blt (v.getD j 0) (v.getD i 0) then j :: insIx v i r else i :: j :: r
noncomputable def ixSort (v : List Nat) : List Nat := (List.range v.length).foldr (insIx v) []
noncomputable def distinct : List Nat → Bool
  | [] => true
  | a :: r => r.all (fun b => !(Nat.beq a b)) && distinct r
noncomputable def headsOf : List (List Nat) → Option (List Nat)
  | [] => some []
  | [] :: _ => none
  | (h :: _) :: q => match headsOf q with
    | none => none
    | some t => some (h :: t)
noncomputable def fewHeads (v : List Nat) : Bool := Nat.ble 2 v.length && (Nat.ble v.length 5 && (v.all (fun x => Nat.blt x 5) && distinct v))
noncomputable def sortRows (rows : List (List Nat)) : Option (List (List Nat)) := match headsOf rows with
  | none => none
  | some v => bif fewHeads v then some ((ixSort v).map fun i => rows.getD i []) else none
noncomputable def rowsF (g : T → Option (List Nat)) : List T → Option (List (List Nat))
  | [] => some []
  | k :: r => match g k with
    | none => none
    | some a => match rowsF g r with
      | none => none
      | some b => some (a :: b)
noncomputable def setRows (tu : Bool) (rows : List (List Nat)) : Option (List (List Nat)) := bif tu then
    (match rows.getLast?.bind List.head?, rows.head?.bind List.head? with
    | some z, some a => some (bif Nat.blt z a then rows.reverse else rows)
    | _, _ => none)
  else sortRows rows
noncomputable def firstOrder : Nat → T → Option (List Nat)
  | 0, _ => none
  | n + 1, k => match k.kids with
    | [] => bif Nat.beq k.things 0 then none else some [Nat.log2 k.things]
    | c :: ks => match rowsF (firstOrder n) (c :: ks) with
      | none => none
      | some rows => match setRows k.turns rows with
        | none => none
        | some rs => bif Nat.ble rs.flatten.length 100 then some rs.flatten else none
noncomputable def lowest : Nat → T → Nat → Option T
  | 0, _, _ => none
  | n + 1, k, w => match k.kids.find? (fun c => Nat.beq (Nat.land c.things w) w) with
    | some c => lowest n c w
    | none => some k
noncomputable def hasT (c : T) (x : Nat) : Bool := !(Nat.beq (Nat.land (c.things / 2 ^ x) 1) 0)
noncomputable def placeOf (k : T) (x : Nat) : Option Nat := k.kids.findIdx? fun c => hasT c x
noncomputable def surely (tu : Bool) (i j l : Nat) : Nat := bif Nat.beq i l then 0 else bif Nat.beq i j || (Nat.beq j l || !tu) then 2 else bif Nat.blt i j == Nat.blt j l then 1 else 0
noncomputable def three3 (a b c : Nat) : Nat := Nat.lor (Nat.lor (1 <<< a) (1 <<< b)) (1 <<< c)
noncomputable def between (t : T) (a b c : Nat) : Option Nat := match lowest F t (three3 a b c) with
  | none => none
  | some k => match placeOf k a, placeOf k b, placeOf k c with
    | some i, some j, some l => some (surely k.turns i j l)
    | _, _, _ => none
noncomputable def filt : Nat → List (List Nat) → List (List Nat)
  | _, [] => []
  | m, o :: r => bif Nat.beq (m % 2) 1 then o :: filt (m / 2) r else filt (m / 2) r
theorem filt_maskL (f : List Nat → Bool) : ∀ l : List (List Nat), filt (maskL (l.map f)) l = l.filter f
  | [] => rfl
  | o :: r => by
    have ih := filt_maskL f r
    rw [List.filter_cons]
    cases e : f o with
    | true =>
      have e1 : maskL ((o :: r).map f) = 2 * maskL (r.map f) + 1 := by
        show 2 * maskL (r.map f) + (f o).toNat = _
        rw [e]
        rfl
      rw [e1]
      have a1 : (2 * maskL (r.map f) + 1) % 2 = 1 := by omega
      have a2 : (2 * maskL (r.map f) + 1) / 2 = maskL (r.map f) := by omega
      show (bif Nat.beq ((2 * maskL (r.map f) + 1) % 2) 1 then o :: filt ((2 * maskL (r.map f) + 1) / 2) r else filt ((2 * maskL (r.map f) + 1) / 2) r) = _
      rw [a1, a2, ih]
      rfl
    | false =>
      have e1 : maskL ((o :: r).map f) = 2 * maskL (r.map f) := by
        show 2 * maskL (r.map f) + (f o).toNat = _
        rw [e]
        rfl
      rw [e1]
      have a1 : (2 * maskL (r.map f)) % 2 = 0 := by omega
      have a2 : (2 * maskL (r.map f)) / 2 = maskL (r.map f) := by omega
      show (bif Nat.beq ((2 * maskL (r.map f)) % 2) 1 then o :: filt ((2 * maskL (r.map f)) / 2) r else filt ((2 * maskL (r.map f)) / 2) r) = _
      rw [a1, a2, ih]
      rfl
theorem orders_filt (n : Nat) (l : List Nat) : orders n l = filt (mask n l) (base n) := by
  rw [orders_base]
  exact (filt_maskL _ _).symm
noncomputable def maskB (n a b c : Nat) : Nat := maskL ((base n).map fun o => isBetween o a b c)
theorem maskL_le {α : Type} (f g : α → Bool) : ∀ l : List α, Nat.land (maskL (l.map f)) (maskL (l.map g)) = maskL (l.map f) ↔ (l.filter f).all g = true
  | [] => ⟨fun _ => rfl, fun _ => Nat.zero_and 0⟩
  | a :: l => by
    have ih := maskL_le f g l
    rw [← maskL_and] at ih ⊢
    show 2 * maskL (l.map fun o => f o && g o) + (f a && g a).toNat = 2 * maskL (l.map f) + (f a).toNat ↔ _
    rw [List.filter_cons]
    cases e : f a with
    | true =>
      cases e2 : g a with
      | true =>
        rw [if_pos rfl, List.all_cons, e2]
        show 2 * maskL (l.map fun o => f o && g o) + 1 = 2 * maskL (l.map f) + 1 ↔ (l.filter f).all g = true
        rw [← ih]
        omega
      | false =>
        rw [if_pos rfl, List.all_cons, e2]
        show 2 * maskL (l.map fun o => f o && g o) + 0 = 2 * maskL (l.map f) + 1 ↔ false = true
        constructor
        · intro h; omega
        · intro h; cases h
    | false =>
      rw [if_neg (by decide), ← ih]
      show 2 * maskL (l.map fun o => f o && g o) + 0 = 2 * maskL (l.map f) + 0 ↔ _
      omega
theorem maskL_any {α : Type} (f g : α → Bool) (l : List α) : Nat.land (maskL (l.map f)) (maskL (l.map g)) = 0 ↔ (l.filter f).any g = false := by
  rw [← maskL_and, maskL_zero]
  constructor
  · intro h
    refine List.any_eq_false.mpr fun x hx => ?_
    have hx := List.mem_filter.mp hx
    intro hg
    have : x ∈ l.filter fun o => f o && g o := List.mem_filter.mpr ⟨hx.1, by rw [hx.2, hg]; rfl⟩
    rw [h] at this
    cases this
  · intro h
    refine List.filter_eq_nil_iff.mpr fun x hx hg => ?_
    rw [Bool.and_eq_true] at hg
    exact List.any_eq_false.mp h x (List.mem_filter.mpr ⟨hx, hg.1⟩) hg.2
noncomputable def sureBy (m B : Nat) : Nat := bif Nat.beq (Nat.land m B) m then 1 else bif Nat.beq (Nat.land m B) 0 then 0 else 2
theorem sureBy_orders (n : Nat) (l : List Nat) (a b c : Nat) : sureBy (mask n l) (maskB n a b c) = if (orders n l).all (fun o => isBetween o a b c) = true then 1 else if (orders n l).any (fun o => isBetween o a b c) = true then 2 else 0 := by
  have h1 := maskL_le (fun o => l.all (keepsB o)) (fun o => isBetween o a b c) (base n)
  have h2 := maskL_any (fun o => l.all (keepsB o)) (fun o => isBetween o a b c) (base n)
  rw [← orders_base] at h1 h2
  have h1 : Nat.land (mask n l) (maskB n a b c) = mask n l ↔ (orders n l).all (fun o => isBetween o a b c) = true := h1
  have h2 : Nat.land (mask n l) (maskB n a b c) = 0 ↔ (orders n l).any (fun o => isBetween o a b c) = false := h2
  unfold sureBy
  by_cases e1 : (orders n l).all (fun o => isBetween o a b c) = true
  · rw [if_pos e1, h1.mpr e1, Nat.beq_refl]
    rfl
  · rw [if_neg e1]
    have q1 : Nat.beq (Nat.land (mask n l) (maskB n a b c)) (mask n l) = false := Bool.eq_false_iff.mpr fun z => e1 (h1.mp (Nat.eq_of_beq_eq_true z))
    rw [q1]
    cases e2 : (orders n l).any (fun o => isBetween o a b c) with
    | true =>
      rw [if_pos rfl]
      have q2 : Nat.beq (Nat.land (mask n l) (maskB n a b c)) 0 = false := Bool.eq_false_iff.mpr fun z => by
        have z := h2.mp (Nat.eq_of_beq_eq_true z)
        rw [e2] at z
        cases z
      rw [q2]
      rfl
    | false =>
      rw [if_neg (by decide), h2.mpr e2]
      rfl
structure ReadOk (n m : Nat) (t : T) : Prop where
  many : howMany F t = some (filt m (base n)).length
  first : ∃ o r, filt m (base n) = o :: r ∧ firstOrder F t = some o
  betw : ∀ a b c, three n a b c = true → between t a b c = some (sureBy m (maskB n a b c))
structure Full (n : Nat) (tb : Tb) : Prop extends Closed n tb where
  reads : ∀ (m : Nat) (t : T), t ∈ tb.find m → ReadOk n m t
noncomputable def eqO (o : Option Nat) (k : Nat) : Bool := match o with
  | none => false
  | some a => Nat.beq a k
noncomputable def eqL : List Nat → List Nat → Bool
  | [], [] => true
  | a :: r, b :: q => Nat.beq a b && eqL r q
  | _, _ => false
theorem eqO_is {o : Option Nat} {k : Nat} (h : eqO o k = true) : o = some k := by
  cases o with
  | none => cases h
  | some a => exact congrArg some (Nat.eq_of_beq_eq_true h)
theorem eqL_is : ∀ {a b : List Nat}, eqL a b = true → a = b
  | [], [], _ => rfl
  | [], _ :: _, h => by cases h
  | _ :: _, [], h => by cases h
  | a :: r, b :: q, h => by
    have h : (Nat.beq a b && eqL r q) = true := h
    rw [Bool.and_eq_true] at h
    rw [Nat.eq_of_beq_eq_true h.1, eqL_is h.2]
noncomputable def firstOk (o : Option (List Nat)) : List (List Nat) → Bool
  | [] => false
  | x :: _ => match o with
    | none => false
    | some y => eqL y x
noncomputable def readB (bs : List (List Nat)) (ts : List (Nat × Nat × Nat × Nat)) (m : Nat) (t : T) : Bool :=
  eqO (howMany F t) (filt m bs).length && (firstOk (firstOrder F t) (filt m bs) && ts.all fun e => eqO (between t e.1 e.2.1 e.2.2.1) (sureBy m e.2.2.2))
noncomputable def tsBy (n : Nat) (bs : List (List Nat)) : List (Nat × Nat × Nat × Nat) :=
  ((List.range n).flatMap fun a => (List.range n).flatMap fun b => (List.range n).filterMap fun c => bif three n a b c then some (a, b, c, maskL (bs.map fun o => isBetween o a b c)) else none)
theorem tsBy_mem {n : Nat} {bs : List (List Nat)} (hb : base n = bs) {a b c : Nat} (h : three n a b c = true) : (a, b, c, maskB n a b c) ∈ tsBy n bs := by
  subst hb
  have h' := h
  unfold three at h'
  rw [Bool.and_eq_true, Bool.and_eq_true, Bool.and_eq_true] at h'
  refine List.mem_flatMap.mpr ⟨a, List.mem_range.mpr (of_decide_eq_true h'.1), List.mem_flatMap.mpr ⟨b, List.mem_range.mpr (of_decide_eq_true h'.2.1), List.mem_filterMap.mpr ⟨c, List.mem_range.mpr (of_decide_eq_true h'.2.2.1), ?_⟩⟩⟩
  rw [h]
  rfl
theorem full_of {n : Nat} {tb : Tb} {bs : List (List Nat)} {ts : List (Nat × Nat × Nat × Nat)} (hc : Closed n tb) (hb : base n = bs) (ht : ts = tsBy n bs) (h : tb.all (readB bs ts) = true) : Full n tb := by
  refine ⟨hc, fun m t hm => ?_⟩
  have q := all_find tb h m t hm
  unfold readB at q
  rw [Bool.and_eq_true, Bool.and_eq_true] at q
  obtain ⟨q1, q2, q3⟩ := q
  rw [← hb] at q1 q2
  refine ⟨eqO_is q1, ?_, fun a b c hab => ?_⟩
  · cases e : filt m (base n) with
    | nil => rw [e] at q2; cases q2
    | cons o r =>
      rw [e] at q2
      refine ⟨o, r, rfl, ?_⟩
      cases e2 : firstOrder F t with
      | none => rw [e2] at q2; cases q2
      | some y =>
        rw [e2] at q2
        rw [eqL_is q2]
  · have z := List.all_eq_true.mp q3 (a, b, c, maskB n a b c) (by rw [ht]; exact tsBy_mem hb hab)
    exact eqO_is z
end Ts
end
section
namespace Ts
noncomputable def ts1 : List (Nat × Nat × Nat × Nat) := []
theorem ts1_ok : ts1 = tsBy 1 base1 := by decide +kernel
noncomputable def ts2 : List (Nat × Nat × Nat × Nat) := []
theorem ts2_ok : ts2 = tsBy 2 base2 := by decide +kernel
noncomputable def ts3 : List (Nat × Nat × Nat × Nat) := [(0, 1, 2, 33), (0, 2, 1, 10), (1, 0, 2, 20), (1, 2, 0, 10), (2, 0, 1, 20), (2, 1, 0, 33)]
theorem ts3_ok : ts3 = tsBy 3 base3 := by decide +kernel
noncomputable def ts4 : List (Nat × Nat × Nat × Nat) := [(0, 1, 2, 8830995), (0, 1, 3, 11669511), (0, 2, 1, 2624300), (0, 2, 3, 14682189), (0, 3, 1, 44600), (0, 3, 2, 230066), (1, 0, 2, 5321920), (1, 0, 3, 5063104), (1, 2, 0, 2624300), (1, 2, 3, 13108065), (1, 3, 0, 44600), (1, 3, 2, 208010), (2, 0, 1, 5321920), (2, 0, 3, 1864960), (2, 1, 0, 8830995), (2, 1, 3, 3461140), (2, 3, 0, 230066), (2, 3, 1, 208010), (3, 0, 1, 5063104), (3, 0, 2, 1864960), (3, 1, 0, 11669511), (3, 1, 2, 3461140), (3, 2, 0, 14682189), (3, 2, 1, 13108065)]
theorem ts4_ok : ts4 = tsBy 4 base4 := by decide +kernel
noncomputable def ts5 : List (Nat × Nat × Nat × Nat) := [(0, 1, 2, 699663548725853890846731473305546815), (0, 1, 3, 924553969309483917384048058407060735), (0, 1, 4, 928442566522068854962976725122707967), (0, 2, 1, 207918479279090262141743928530096064), (0, 2, 3, 1163242926713681810676968141530337235), (0, 2, 4, 1183742341032599669710422599142531015), (0, 3, 1, 3533576048136928131704109150763776), (0, 3, 2, 18227706437010944590201146527445036), (0, 3, 4, 1326915801090103715144530236339909453), (0, 4, 1, 210617557690051123193286144), (0, 4, 2, 1086460681399805693336166456), (0, 4, 3, 79090345035586095719424724146), (1, 0, 2, 421645967779971719915331658444701696), (1, 0, 3, 401140450427295027388054892722520064), (1, 0, 4, 400785429052229460250779211964350464), (1, 2, 0, 207918479279090262141743928530096064), (1, 2, 3, 1038527967183347338923981141388476435), (1, 2, 4, 1058907588527683848400989160268238855), (1, 3, 0, 3533576048136928131704109150763776), (1, 3, 2, 16480250084595886858311740619754284), (1, 3, 4, 1324689172810802387124043054737000525), (1, 4, 0, 210617557690051123193286144), (1, 4, 2, 982304158343339818589662776), (1, 4, 3, 78957627641743588395581670066), (2, 0, 1, 421645967779971719915331658444701696), (2, 0, 3, 147757362634223117636637772222562304), (2, 0, 4, 145485653665855521793578767801647104), (2, 1, 0, 699663548725853890846731473305546815), (2, 1, 3, 274219778516972647121514178272113856), (2, 1, 4, 270320406274927866159478081422442944), (2, 3, 0, 18227706437010944590201146527445036), (2, 3, 1, 16480250084595886858311740619754284), (2, 3, 4, 1308716299878947994358985155204875105), (2, 4, 0, 1086460681399805693336166456), (2, 4, 1, 982304158343339818589662776), (2, 4, 3, 78005574815542587404534885514), (3, 0, 1, 401140450427295027388054892722520064), (3, 0, 2, 147757362634223117636637772222562304), (3, 0, 4, 2312115604467122173181104515710976), (3, 1, 0, 924553969309483917384048058407060735), (3, 1, 2, 274219778516972647121514178272113856), (3, 1, 4, 4538744016485844036175609961673984), (3, 2, 0, 1163242926713681810676968141530337235), (3, 2, 1, 1038527967183347338923981141388476435), (3, 2, 4, 20511617900393063002234500540583956), (3, 4, 0, 79090345035586095719424724146), (3, 4, 1, 78957627641743588395581670066), (3, 4, 2, 78005574815542587404534885514), (4, 0, 1, 400785429052229460250779211964350464), (4, 0, 2, 145485653665855521793578767801647104), (4, 0, 3, 2312115604467122173181104515710976), (4, 1, 0, 928442566522068854962976725122707967), (4, 1, 2, 270320406274927866159478081422442944), (4, 1, 3, 4538744016485844036175609961673984), (4, 2, 0, 1183742341032599669710422599142531015), (4, 2, 1, 1058907588527683848400989160268238855), (4, 2, 3, 20511617900393063002234500540583956), (4, 3, 0, 1326915801090103715144530236339909453), (4, 3, 1, 1324689172810802387124043054737000525), (4, 3, 2, 1308716299878947994358985155204875105)]
theorem ts5_ok : ts5 = tsBy 5 base5 := by decide +kernel
theorem r1 : tb1.all (readB base1 ts1) = true := by decide +kernel
theorem r2 : tb2.all (readB base2 ts2) = true := by decide +kernel
theorem r3 : tb3.all (readB base3 ts3) = true := by decide +kernel
theorem r4 : tb4.all (readB base4 ts4) = true := by decide +kernel
theorem r5aaaa : tb5aaaa.all (readB base5 ts5) = true := by decide +kernel
theorem r5aaab : tb5aaab.all (readB base5 ts5) = true := by decide +kernel
theorem r5aaba : tb5aaba.all (readB base5 ts5) = true := by decide +kernel
theorem r5aabb : tb5aabb.all (readB base5 ts5) = true := by decide +kernel
theorem r5abaa : tb5abaa.all (readB base5 ts5) = true := by decide +kernel
theorem r5abab : tb5abab.all (readB base5 ts5) = true := by decide +kernel
theorem r5abba : tb5abba.all (readB base5 ts5) = true := by decide +kernel
theorem r5abbb : tb5abbb.all (readB base5 ts5) = true := by decide +kernel
theorem r5baaa : tb5baaa.all (readB base5 ts5) = true := by decide +kernel
theorem r5baab : tb5baab.all (readB base5 ts5) = true := by decide +kernel
theorem r5baba : tb5baba.all (readB base5 ts5) = true := by decide +kernel
theorem r5babb : tb5babb.all (readB base5 ts5) = true := by decide +kernel
theorem r5bbaa : tb5bbaa.all (readB base5 ts5) = true := by decide +kernel
theorem r5bbab : tb5bbab.all (readB base5 ts5) = true := by decide +kernel
theorem r5bbba : tb5bbba.all (readB base5 ts5) = true := by decide +kernel
theorem r5bbbb : tb5bbbb.all (readB base5 ts5) = true := by decide +kernel
theorem r5 : tb5.all (readB base5 ts5) = true := (all_nd (by decide +kernel) (all_nd (by decide +kernel) (all_nd (by decide +kernel) (all_nd (by decide +kernel) r5aaaa r5aaab) (all_nd (by decide +kernel) r5aaba r5aabb)) (all_nd (by decide +kernel) (all_nd (by decide +kernel) r5abaa r5abab) (all_nd (by decide +kernel) r5abba r5abbb))) (all_nd (by decide +kernel) (all_nd (by decide +kernel) (all_nd (by decide +kernel) r5baaa r5baab) (all_nd (by decide +kernel) r5baba r5babb)) (all_nd (by decide +kernel) (all_nd (by decide +kernel) r5bbaa r5bbab) (all_nd (by decide +kernel) r5bbba r5bbbb))))
theorem full (n : Nat) (h1 : 1 ≤ n) (h5 : n ≤ 5) : ∃ tb, Full n tb := by
  match n, h1, h5 with
  | 1, _, _ => exact ⟨_, full_of closed1 base1_ok ts1_ok r1⟩
  | 2, _, _ => exact ⟨_, full_of closed2 base2_ok ts2_ok r2⟩
  | 3, _, _ => exact ⟨_, full_of closed3 base3_ok ts3_ok r3⟩
  | 4, _, _ => exact ⟨_, full_of closed4 base4_ok ts4_ok r4⟩
  | 5, _, _ => exact ⟨_, full_of closed5 base5_ok ts5_ok r5⟩
end Ts
end
section
namespace Ts
open PySem PySem.Spec PyProof.Rows L2
theorem bitAnd_nat (a b : Nat) : Builtin.bitAnd (a : Int) (b : Int) = ((Nat.land a b : Nat) : Int) := by
  unfold Builtin.bitAnd
  rw [decide_eq_true (Int.natCast_nonneg a), decide_eq_true (Int.natCast_nonneg b)]
  rfl
theorem dec_int {a b : Nat} : decide (V.int (a : Int) = V.int (b : Int)) = Nat.beq a b := by
  by_cases h : a = b
  · subst h
    rw [decide_eq_true rfl, Nat.beq_refl]
  · rw [decide_eq_false (fun e => h (by injection e with e; omega))]
    exact (Bool.eq_false_iff.mpr fun e => h (Nat.eq_of_beq_eq_true e)).symm
theorem dec_and {a b c : Nat} : decide (V.int (Builtin.bitAnd (a : Int) (b : Int)) = V.int (c : Int)) = Nat.beq (Nat.land a b) c := by
  rw [bitAnd_nat, dec_int]
theorem take_snoc {α : Type} : ∀ {l : List α} {i : Nat} {x : α}, l[i]? = some x → l.take (i + 1) = l.take i ++ [x]
  | [], i, x, h => by simp at h
  | a :: l, 0, x, h => by
    have e : a = x := Option.some.inj h
    subst e
    rfl
  | a :: l, i + 1, x, h => by
    have ih := take_snoc (l := l) (i := i) (x := x) h
    show a :: l.take (i + 1) = a :: l.take i ++ [x]
    rw [ih]
    rfl
theorem same_new {H : Hp} {p : Addr} (h : H p = none) (o : HO) : Same H (upd H p o) := fun b u q => by rw [upd_ne (ne_of_none q h)]; exact q
structure Ext (G H G' H' : Hp) : Prop where
  gs : Same G G'
  gh : Same G' H'
  hs : Same H H'
  new : ∀ b o, G' b = some o → G b = some o ∨ H b = none
theorem Ext.refl {G H : Hp} (h : Same G H) : Ext G H G H := ⟨.refl _, h, .refl _, fun _ _ e => .inl e⟩
theorem Ext.trans {G H G1 H1 G2 H2 : Hp} (a : Ext G H G1 H1) (b : Ext G1 H1 G2 H2) : Ext G H G2 H2 :=
  ⟨Same.trans a.gs b.gs, b.gh, Same.trans a.hs b.hs, fun c o e => by
    rcases b.new c o e with h | h
    · exact a.new c o h
    · exact .inr (a.hs.free h)⟩
theorem Ext.alloc {G H : Hp} {l : Addr} (h : Same G H) (n : H l = none) (o : HO) : Ext G H G (upd H l o) :=
  ⟨.refl _, Same.trans h (same_new n o), same_new n o, fun _ _ e => .inl e⟩
theorem Ext.put {G H G1 H1 : Hp} {l : Addr} (a : Ext G H G1 H1) (n : H l = none) (g : G1 l = none) (o : HO) : Ext G H G1 (upd H1 l o) :=
  ⟨a.gs, fun b u e => by rw [upd_ne (ne_of_none e g)]; exact a.gh b u e, fun b u e => by rw [upd_ne (ne_of_none e n)]; exact a.hs b u e, a.new⟩
theorem Ext.rest {G H G1 H1 : Hp} {l : Addr} {o : HO} (a : Ext G H G1 H1) (n : H l = none) (g : G1 l = none) (e : H1 l = some o) : Ext G H (upd G1 l o) H1 :=
  ⟨fun b u q => by rw [upd_ne (ne_of_none (a.gs b u q) g)]; exact a.gs b u q, fun b u q => by
    by_cases hb : b = l
    · subst hb
      rw [upd_same] at q
      rw [← q]
      exact e
    · rw [upd_ne hb] at q
      exact a.gh b u q, a.hs, fun b u q => by
    by_cases hb : b = l
    · subst hb
      exact .inr n
    · rw [upd_ne hb] at q
      exact a.new b u q⟩
theorem Ext.none {G H G1 H1 : Hp} {l : Addr} {o : HO} (a : Ext G H G1 H1) (g : G l = none) (e : H l = some o) : G1 l = none := by
  cases q : G1 l with
  | none => rfl
  | some u =>
    rcases a.new l u q with h | h
    · rw [g] at h; cases h
    · rw [e] at h; cases h
noncomputable def kf (th : Nat) (l : Addr) (tu : Bool) : List (Str × V) := putF "only_turns" (.bl tu) (putF "below" (.ref l) (putF "things" (.int (th : Int)) []))
theorem kf_things (th : Nat) (l : Addr) (tu : Bool) : (kf th l tu).lookup ("things" : Str) = some (.int (th : Int)) := by
  unfold kf
  rw [lookup_putF, if_neg (by decide +kernel), lookup_putF, if_neg (by decide +kernel), lookup_putF, if_pos rfl]
theorem kf_below (th : Nat) (l : Addr) (tu : Bool) : (kf th l tu).lookup ("below" : Str) = some (.ref l) := by
  unfold kf
  rw [lookup_putF, if_neg (by decide +kernel), lookup_putF, if_pos rfl]
theorem kf_turns (th : Nat) (l : Addr) (tu : Bool) : (kf th l tu).lookup ("only_turns" : Str) = some (.bl tu) := by
  unfold kf
  rw [lookup_putF, if_pos rfl]
mutual
inductive TreeAt (C : Addr) (H : Hp) : Addr → T → Prop
  | mk {a l dx : Addr} {as : List Addr} {th : Nat} {ts : List T} {tu : Bool} : H a = some (.ins C dx (kf th l tu)) → H l = some (.lst (as.map V.ref)) → ts.length ≤ 100 → TreesAt C H as ts → TreeAt C H a (.mk th ts tu)
inductive TreesAt (C : Addr) (H : Hp) : List Addr → List T → Prop
  | nil : TreesAt C H [] []
  | cons {a : Addr} {as : List Addr} {t : T} {ts : List T} : TreeAt C H a t → TreesAt C H as ts → TreesAt C H (a :: as) (t :: ts)
end
mutual
theorem TreeAt.mono {C : Addr} {H H' : Hp} (e : Same H H') : ∀ {a : Addr} {t : T}, TreeAt C H a t → TreeAt C H' a t
  | _, _, .mk h1 h2 h3 h4 => .mk (e _ _ h1) (e _ _ h2) h3 (TreesAt.mono e h4)
theorem TreesAt.mono {C : Addr} {H H' : Hp} (e : Same H H') : ∀ {as : List Addr} {ts : List T}, TreesAt C H as ts → TreesAt C H' as ts
  | _, _, .nil => .nil
  | _, _, .cons h1 h2 => .cons (TreeAt.mono e h1) (TreesAt.mono e h2)
end
theorem TreesAt.length {C : Addr} {H : Hp} : ∀ {as : List Addr} {ts : List T}, TreesAt C H as ts → as.length = ts.length
  | _, _, .nil => rfl
  | _, _, .cons _ h => congrArg (· + 1) h.length
theorem TreesAt.append {C : Addr} {H : Hp} {bs : List Addr} {us : List T} (q : TreesAt C H bs us) : ∀ {as : List Addr} {ts : List T}, TreesAt C H as ts → TreesAt C H (as ++ bs) (ts ++ us)
  | _, _, .nil => q
  | _, _, .cons h1 h2 => .cons h1 (TreesAt.append q h2)
theorem TreesAt.one {C : Addr} {H : Hp} {a : Addr} {t : T} (h : TreeAt C H a t) : TreesAt C H [a] [t] := .cons h .nil
theorem TreesAt.reverse {C : Addr} {H : Hp} : ∀ {as : List Addr} {ts : List T}, TreesAt C H as ts → TreesAt C H as.reverse ts.reverse
  | _, _, .nil => .nil
  | _, _, .cons h1 h2 => by
    rw [List.reverse_cons, List.reverse_cons]
    exact TreesAt.append (.one h1) h2.reverse
theorem TreesAt.get {C : Addr} {H : Hp} : ∀ {as : List Addr} {ts : List T}, TreesAt C H as ts → ∀ {i : Nat} {a : Addr}, as[i]? = some a → ∃ t, ts[i]? = some t ∧ TreeAt C H a t
  | _, _, .nil, i, a, h => by simp at h
  | _, _, .cons h1 h2, 0, a, h => by
    have e := Option.some.inj h
    subst e
    exact ⟨_, rfl, h1⟩
  | _, _, .cons h1 h2, i + 1, a, h => h2.get (i := i) h
theorem TreesAt.get' {C : Addr} {H : Hp} : ∀ {as : List Addr} {ts : List T}, TreesAt C H as ts → ∀ {i : Nat} {t : T}, ts[i]? = some t → ∃ a, as[i]? = some a ∧ TreeAt C H a t
  | _, _, .nil, i, a, h => by simp at h
  | _, _, .cons h1 h2, 0, a, h => by
    have e := Option.some.inj h
    subst e
    exact ⟨_, rfl, h1⟩
  | _, _, .cons h1 h2, i + 1, a, h => h2.get' (i := i) h
theorem TreesAt.take {C : Addr} {H : Hp} : ∀ {as : List Addr} {ts : List T} (n : Nat), TreesAt C H as ts → TreesAt C H (as.take n) (ts.take n)
  | _, _, 0, _ => by rw [List.take_zero, List.take_zero]; exact .nil
  | _, _, n + 1, .nil => .nil
  | _, _, n + 1, .cons h1 h2 => .cons h1 (TreesAt.take n h2)
theorem TreesAt.drop {C : Addr} {H : Hp} : ∀ {as : List Addr} {ts : List T} (n : Nat), TreesAt C H as ts → TreesAt C H (as.drop n) (ts.drop n)
  | _, _, 0, h => h
  | _, _, n + 1, .nil => .nil
  | _, _, n + 1, .cons h1 h2 => TreesAt.drop n h2
theorem TreeAt.inv {C : Addr} {H : Hp} {a : Addr} {t : T} (h : TreeAt C H a t) : ∃ (dx l : Addr) (as : List Addr), H a = some (.ins C dx (kf t.things l t.turns)) ∧ H l = some (.lst (as.map V.ref)) ∧ t.kids.length ≤ 100 ∧ TreesAt C H as t.kids := by
  cases h with
  | mk h1 h2 h3 h4 => exact ⟨_, _, _, h1, h2, h3, h4⟩
noncomputable def top (i : Nat) : Stmt := PySem.Challenge.pw_togethersets_s01_answers.main.body.getD i (.Pass ⟨0, 0, 0, 0⟩)
structure Src (K : PySem.W.Frag) (mg : Str → Option Value) (x : Str) (st : Stmt) (ps : List Str) : Prop where
  ex : ∃ (f : Addr) (fd : FuncData), Fun K x x st f fd ∧ Binds K fd ps [] ∧ mg x = some (.ref f)
structure Def (P : Program) (w : World) (K : PySem.W.Frag) (mg : Str → Option Value) (base : Heap) (k : Nat) (x : Str) (ps : List Str) (sp : Sp) : Prop where
  ex : ∃ (f : Addr) (fd : FuncData), FnOk P w K mg base CX0 k f fd ps sp ∧ Binds K fd ps [] ∧ PySem.W.keepIn K (.ref f) = true ∧ mg x = some (.ref f)
theorem Src.ok {P : Program} {w : World} {K : PySem.W.Frag} {mg : Str → Option Value} {base : Heap} {k : Nat} {x : Str} {st : Stmt} {N ps : List Str} {sp : Sp} (S : Src K mg x st ps) (sc : FnScope N ps (defScope st)) (len : ∀ vs H Q E, sp vs H Q E → vs.length = ps.length)
    (hbody : ∀ (f : Addr) (cdv : Value) (A : Around) (outer : List Env) (s : Shared) (H : Hp) (vs : List V) (Q : VK) (E : XK), Room k (A.deeper (envOfC x (defScope st) s.heap.objs.size f cdv)) → sp vs H Q E →
      ∃ t, PSs (cxOf CX0 P w K mg base N x (defScope st) f cdv A outer s H E).nox (defBody st) t ∧ t { nx := fun _ H' => Q .non H', rt := Q } (start N vs) H) : Def P w K mg base (k + 1) x ps sp := by
  obtain ⟨f, fd, F, b, m⟩ := S.ex
  exact ⟨f, fd, F.ok sc len (hbody f), b, F.kp, m⟩
theorem pe_def {X : Cx} {k : Nat} {ps : List Str} {sp : Sp} {x : Str} {p pos : Pos} {e : Expr} {es : List Expr} {t : TA} (D : Def X.prog X.w X.K X.mg X.base k x ps sp) (hr : Room k X.A) (hg : Gl X x) (ha : PA X (e :: es) t)
    (hdb : (x == ("__debug__" : Str)) = false := by decide) (he : starEach (e :: es) X.env = (false, eval e X.env) :: starEach es X.env := by rfl) (hpl : (backTo pos (starEach es X.env)).any (·.1) = false := by rfl) :
    PE X (.Call (.Name x p) (e :: es) [] pos) (tCall sp [] E0 t) := by
  obtain ⟨f, fd, F, b, kp, m⟩ := D.ex
  exact pe_call F hr hg m kp b .nil pass0 ha hdb he hpl
structure Txt (K : PySem.W.Frag) (mg : Str → Option Value) (C : Addr) : Prop where
  cl : Cls K C
  nT : NoAttr K C "things"
  nB : NoAttr K C "below"
  nO : NoAttr K C "only_turns"
  mgC : mg "Knot" = some (.ref C)
  len : mg "len" = none
  range : mg "range" = none
  list : mg "list" = none
  reversed : mg "reversed" = none
end Ts
end
section
namespace Ts
open PySem PySem.Spec PyProof.Rows L2
noncomputable abbrev sIsEmpty : Stmt := top 16
noncomputable abbrev sIsFull : Stmt := top 17
noncomputable abbrev sIsWhole : Stmt := top 18
noncomputable abbrev sEmptyKnots : Stmt := top 19
noncomputable abbrev sFullKnots : Stmt := top 20
noncomputable abbrev sPartedKnots : Stmt := top 21
noncomputable def spAsk (C : Addr) (p : T → Nat → Bool) : Sp := fun vs H Q _ => ∃ (a : Addr) (t : T) (w : Nat), vs = [.ref a, .int (w : Int)] ∧ TreeAt C H a t ∧ Q (.bl (p t w)) H
noncomputable def spPick (C : Addr) (p : T → Nat → Bool) : Sp := fun vs H Q _ => ∃ (l : Addr) (as : List Addr) (ts : List T) (w : Nat), vs = [.ref l, .int (w : Int)] ∧ H l = some (.lst (as.map V.ref)) ∧ TreesAt C H as ts ∧ ts.length ≤ 100 ∧
  ∀ (r : Addr) (bs : List Addr), H r = none → (∀ G, TreesAt C G as ts → TreesAt C G bs (ts.filter fun t => p t w)) → Q (.ref r) (upd H r (.lst (bs.map V.ref)))
theorem spAsk_len {C : Addr} {p : T → Nat → Bool} (vs : List V) (H : Hp) (Q : VK) (E : XK) (h : spAsk C p vs H Q E) : vs.length = (["knot", "wanted"] : List Str).length := by
  obtain ⟨a, t, w, rfl, _⟩ := h
  rfl
theorem spPick_len {C : Addr} {p : T → Nat → Bool} (vs : List V) (H : Hp) (Q : VK) (E : XK) (h : spPick C p vs H Q E) : vs.length = (["knots", "wanted"] : List Str).length := by
  obtain ⟨l, as, ts, w, rfl, _⟩ := h
  rfl
section
variable {P : Program} {w : World} {K : PySem.W.Frag} {mg : Str → Option Value} {base : Heap} {C : Addr}
theorem scIE : FnScope ["knot", "wanted"] ["knot", "wanted"] (defScope sIsEmpty) := ⟨rfl, rfl, rfl, by decide +kernel, rfl, by decide +kernel, by decide +kernel⟩
theorem ok_is_empty (S : Src K mg "is_empty" sIsEmpty ["knot", "wanted"]) (T : Txt K mg C) : Def P w K mg base 1 "is_empty" ["knot", "wanted"] (spAsk C isEmpty) := by
  refine S.ok scIE spAsk_len (fun f cdv A outer s H vs Q E hr h => ?_)
  obtain ⟨a, t, x, rfl, hA, k⟩ := h
  obtain ⟨dx, l, as, h1, h2, h3, h4⟩ := hA.inv
  refine ⟨_, pss_one (ps_ret (pe_cmpR op_eq (pe_op op_and (pe_fld (pv 0) rfl) (pv 1)) pe_int (nomark _))), ?_⟩
  refine ⟨_, rfl, a, C, dx, _, _, rfl, h1, T.cl, T.nT, kf_things _ _ _, _, rfl, _, _, rfl, rfl, rfl, ?_⟩
  show Q (.bl (decide (V.int (Builtin.bitAnd (t.things : Int) (x : Int)) = V.int ((0 : Nat) : Int)))) H
  rw [dec_and]
  exact k
theorem scIF : FnScope ["knot", "wanted"] ["knot", "wanted"] (defScope sIsFull) := ⟨rfl, rfl, rfl, by decide +kernel, rfl, by decide +kernel, by decide +kernel⟩
theorem ok_is_full (S : Src K mg "is_full" sIsFull ["knot", "wanted"]) (T : Txt K mg C) : Def P w K mg base 1 "is_full" ["knot", "wanted"] (spAsk C isFull) := by
  refine S.ok scIF spAsk_len (fun f cdv A outer s H vs Q E hr h => ?_)
  obtain ⟨a, t, x, rfl, hA, k⟩ := h
  obtain ⟨dx, l, as, h1, h2, h3, h4⟩ := hA.inv
  refine ⟨_, pss_one (ps_ret (pe_cmpR op_eq (pe_op op_and (pe_fld (pv 0) rfl) (pv 1)) (pe_fld (pv 0) rfl) (nomark _))), ?_⟩
  refine ⟨_, rfl, a, C, dx, _, _, rfl, h1, T.cl, T.nT, kf_things _ _ _, _, rfl, _, _, rfl, rfl, _, rfl, a, C, dx, _, _, rfl, h1, T.cl, T.nT, kf_things _ _ _, rfl, ?_⟩
  show Q (.bl (decide (V.int (Builtin.bitAnd (t.things : Int) (x : Int)) = V.int (t.things : Int)))) H
  rw [dec_and]
  exact k
theorem scIW : FnScope ["knot", "wanted"] ["knot", "wanted"] (defScope sIsWhole) := ⟨rfl, rfl, rfl, by decide +kernel, rfl, by decide +kernel, by decide +kernel⟩
theorem ok_is_whole (S : Src K mg "is_whole" sIsWhole ["knot", "wanted"]) (T : Txt K mg C) (D1 : Def P w K mg base 1 "is_empty" ["knot", "wanted"] (spAsk C isEmpty)) (D2 : Def P w K mg base 1 "is_full" ["knot", "wanted"] (spAsk C isFull)) :
    Def P w K mg base 2 "is_whole" ["knot", "wanted"] (spAsk C isWhole) := by
  refine S.ok scIW spAsk_len (fun f cdv A outer s H vs Q E hr h => ?_)
  obtain ⟨a, t, x, rfl, hA, k⟩ := h
  refine ⟨_, pss_one (ps_ret (pe_or (pe_def D1 hr rfl (pa_cons (pv 0) (pa_cons (pv 1) pa_nil))) (pe_one (pe_def D2 hr rfl (pa_cons (pv 0) (pa_cons (pv 1) pa_nil)))))), ?_⟩
  refine ⟨_, rfl, _, rfl, a, t, x, rfl, hA, _, rfl, ?_⟩
  unfold isWhole at k
  cases e : isEmpty t x with
  | true =>
    rw [e] at k
    exact iteT k
  | false =>
    rw [e] at k
    exact iteF ⟨_, rfl, _, rfl, a, t, x, rfl, hA, k⟩
theorem lc_pick {K : PySem.W.Frag} {a : Addr} {xs : List V} {i : Nat} {tt : TT} {σ : L2.St} {H : Hp} {Q : VK} (p : V → Bool) (hl : xs.length ≤ 100) (ha : H a = some (.lst xs)) (hi : i < σ.length)
    (ht : ∀ x ∈ xs, ∀ (H' : Hp) (Q' : Bool → Hp → Prop), Same H H' → Q' (p x) H' → tt ((σ.set i none).set i (some x)) H' Q')
    (hq : ∀ D, H D = none → Q (.ref D) (upd H D (.lst (xs.filter p)))) (D : Addr) (hD : H D = none) :
    ∃ W : Nat → Nat → Hp → Prop, (∃ m, W 0 m (upd H D (.lst []))) ∧ ∀ j m H', W j m H' →
      ((Itl K a).stop j H' ∧ Q (.ref D) H') ∨ ((Itl K a).go j H' ∧ ∃ Nx : Hp → Prop, (∀ H', Nx H' → ∃ m', m' < m ∧ W (j + 1) m' H') ∧ ∀ x H'', (Itl K a).yld j H' x H'' → gName i x (wipe σ [i]) H'' fun σ2 H2 => wipe σ2 [i] = wipe σ [i] ∧ tt σ2 H2 fun b H3 =>
        if b = true then tVar i σ2 H3 fun y H4 => ∃ acc, H4 D = some (.lst acc) ∧ acc.length < sizeLine ∧ Nx (upd H4 D (.lst (acc ++ [y]))) else Nx H3) := by
  have sm : ∀ ys : List V, Same H (upd H D (.lst ys)) := fun ys => same_new hD _
  refine ⟨fun j m H' => m = xs.length - j ∧ j ≤ xs.length ∧ H' = upd H D (.lst ((xs.take j).filter p)), ⟨xs.length, rfl, Nat.zero_le _, by rw [List.take_zero]; rfl⟩, ?_⟩
  rintro j m H' ⟨rfl, hj, rfl⟩
  have q : SqL K (upd H D (.lst ((xs.take j).filter p))) a xs := SqL.of (sm _ _ _ ha)
  by_cases hlt : j < xs.length
  · refine .inr ⟨⟨xs, xs[j], q, List.getElem?_eq_getElem hlt⟩, fun H' => H' = upd H D (.lst ((xs.take (j + 1)).filter p)), fun H' e => ⟨xs.length - (j + 1), by omega, rfl, hlt, e⟩, fun x H'' y => ?_⟩
    obtain ⟨e, y⟩ := y
    subst e
    have hx := y xs q
    have et : xs.take (j + 1) = xs.take j ++ [x] := take_snoc hx
    refine ⟨?_, ?_⟩
    · show (((σ.set i none).set i (some x)).set i none) = σ.set i none
      rw [List.set_set, List.set_set]
    · refine ht x (List.mem_of_getElem? hx) _ _ (sm _) ?_
      rw [et, List.filter_append]
      cases e : p x with
      | true =>
        refine iteT ⟨x, ?_, _, upd_same, ?_, ?_⟩
        · show ((σ.set i none).set i (some x))[i]? = some (some x)
          rw [List.getElem?_set_self (by rw [List.length_set]; exact hi)]
        · have h1 : ((xs.take j).filter p).length ≤ 100 := Nat.le_trans (List.length_filter_le _ _) (by rw [List.length_take]; omega)
          exact Nat.lt_of_le_of_lt h1 (by decide)
        · rw [upd_upd, List.filter_cons, if_pos e]
          rfl
      | false =>
        refine iteF ?_
        rw [List.filter_cons, if_neg (by rw [e]; decide), List.filter_nil, List.append_nil]
  · have e : j = xs.length := by omega
    subst e
    refine .inl ⟨⟨xs, q, Nat.le_refl _⟩, ?_⟩
    rw [List.take_length]
    exact hq D hD
noncomputable def pickA (p : T → Bool) : List Addr → List T → List Addr
  | a :: as, t :: ts => if p t then a :: pickA p as ts else pickA p as ts
  | _, _ => []
theorem pickA_at {G : Hp} {p : T → Bool} : ∀ {as : List Addr} {ts : List T}, TreesAt C G as ts → TreesAt C G (pickA p as ts) (ts.filter p)
  | _, _, .nil => .nil
  | _, _, .cons (t := t) (ts := ts) (as := as) (a := a) h1 h2 => by
    show TreesAt C G (if p t = true then a :: pickA p as ts else pickA p as ts) _
    by_cases e : p t = true
    · rw [List.filter_cons, if_pos e, if_pos e]
      exact .cons h1 (pickA_at h2)
    · rw [List.filter_cons, if_neg e, if_neg e]
      exact pickA_at h2
noncomputable def treeOf (C : Addr) (H : Hp) (a : Addr) : T := open Classical in if h : ∃ t, TreeAt C H a t then h.choose else .mk 0 [] false
theorem map_ref_inj : ∀ {as bs : List Addr}, as.map V.ref = bs.map V.ref → as = bs
  | [], [], _ => rfl
  | [], _ :: _, h => by simp at h
  | _ :: _, [], h => by simp at h
  | a :: as, b :: bs, h => by
    injection h with h1 h2
    injection h1 with h1
    rw [h1, map_ref_inj h2]
mutual
theorem TreeAt.inj {H : Hp} : ∀ {a : Addr} {t u : T}, TreeAt C H a t → TreeAt C H a u → t = u
  | _, _, _, .mk (th := th) (l := l) (tu := tu) h1 h2 h3 h4, .mk (th := th') (l := l') (tu := tu') g1 g2 g3 g4 => by
    rw [h1] at g1
    injection g1 with g1
    injection g1 with _ _ e
    have e1 := (kf_things th l tu).symm.trans ((congrArg (List.lookup ("things" : Str)) e).trans (kf_things th' l' tu'))
    have e2 := (kf_below th l tu).symm.trans ((congrArg (List.lookup ("below" : Str)) e).trans (kf_below th' l' tu'))
    have e3 := (kf_turns th l tu).symm.trans ((congrArg (List.lookup ("only_turns" : Str)) e).trans (kf_turns th' l' tu'))
    injection e1 with e1
    injection e1 with e1
    injection e2 with e2
    injection e2 with e2
    injection e3 with e3
    injection e3 with e3
    subst e2 e3
    rw [h2] at g2
    injection g2 with g2
    injection g2 with g2
    have e4 := map_ref_inj g2
    subst e4
    have e5 := TreesAt.inj h4 g4
    subst e5
    have e6 : th = th' := by omega
    rw [e6]
theorem TreesAt.inj {H : Hp} : ∀ {as : List Addr} {ts us : List T}, TreesAt C H as ts → TreesAt C H as us → ts = us
  | _, _, _, .nil, .nil => rfl
  | _, _, _, .cons h1 h2, .cons g1 g2 => by rw [TreeAt.inj h1 g1, TreesAt.inj h2 g2]
end
noncomputable def askV (C : Addr) (H : Hp) (p : T → Bool) : V → Bool
  | .ref a => p (treeOf C H a)
  | _ => false
theorem askV_at {H : Hp} {p : T → Bool} {a : Addr} {t : T} (h : TreeAt C H a t) : askV C H p (.ref a) = p t := by
  have hx : ∃ t, TreeAt C H a t := ⟨t, h⟩
  show p (treeOf C H a) = p t
  unfold treeOf
  rw [dif_pos hx, TreeAt.inj hx.choose_spec h]
theorem pick_map {H : Hp} {p : T → Bool} : ∀ {as : List Addr} {ts : List T}, TreesAt C H as ts → (as.map V.ref).filter (askV C H p) = (pickA p as ts).map V.ref
  | _, _, .nil => rfl
  | _, _, .cons (t := t) (ts := ts) (as := as) (a := a) h1 h2 => by
    show List.filter (askV C H p) (V.ref a :: as.map V.ref) = List.map V.ref (if p t = true then a :: pickA p as ts else pickA p as ts)
    rw [List.filter_cons, askV_at h1, pick_map h2]
    by_cases e : p t = true
    · rw [if_pos e, if_pos e]
      rfl
    · rw [if_neg e, if_neg e]
theorem pick_reads {H : Hp} {l : Addr} {as : List Addr} {ts : List T} {x : Nat} {Q : VK} {p : T → Nat → Bool} {tt : TT} (hl : H l = some (.lst (as.map V.ref))) (ht : TreesAt C H as ts) (h1 : ts.length ≤ 100)
    (k : ∀ (r : Addr) (bs : List Addr), H r = none → (∀ G, TreesAt C G as ts → TreesAt C G bs (ts.filter fun t => p t x)) → Q (.ref r) (upd H r (.lst (bs.map V.ref))))
    (hq : ∀ (a : Addr) (t : T) (H' : Hp) (Q' : Bool → Hp → Prop), Same H H' → TreeAt C H' a t → Q' (p t x) H' → tt [some (.ref l), some (.int (x : Int)), some (.ref a)] H' Q') :
    tLc (iList K (tVar 0)) (gName 2) tt (tVar 2) [2] [some (.ref l), some (.int (x : Int)), none] H Q := by
  refine ⟨_, rfl, l, rfl, ⟨_, SqL.of hl⟩, fun D hD => ?_⟩
  refine lc_pick (askV C H fun t => p t x) (by rw [List.length_map, ht.length]; exact h1) hl (by show 2 < 3; decide) (fun v hv H' Q' sm q => ?_) (fun D' hD' => ?_) D hD
  · obtain ⟨a, ha, rfl⟩ := List.mem_map.mp hv
    obtain ⟨i, hi⟩ := List.getElem?_of_mem ha
    obtain ⟨t, _, hta⟩ := ht.get hi
    rw [askV_at hta] at q
    exact hq a t H' Q' sm (hta.mono sm) q
  · rw [pick_map ht]
    exact k D' _ hD' fun G hG => pickA_at hG
theorem scEK : FnScope ["knots", "wanted", "knot"] ["knots", "wanted"] (defScope sEmptyKnots) := ⟨rfl, rfl, rfl, by decide +kernel, rfl, by decide +kernel, by decide +kernel⟩
theorem ok_empty_knots (S : Src K mg "empty_knots" sEmptyKnots ["knots", "wanted"]) (D1 : Def P w K mg base 1 "is_empty" ["knot", "wanted"] (spAsk C isEmpty)) :
    Def P w K mg base 2 "empty_knots" ["knots", "wanted"] (spPick C isEmpty) := by
  refine S.ok scEK spPick_len (fun f cdv A outer s H vs Q E hr h => ?_)
  obtain ⟨l, as, ts, x, rfl, hl, ht, h1, k⟩ := h
  refine ⟨_, pss_one (ps_ret (pe_lc (own := [("knot", 2)]) rfl scEK.nd (pi_list (pv 0)) (blkOk_by (by show blkC ["knots", "wanted", "knot"] (defScope sEmptyKnots) _ _ = true; decide +kernel)) (fun _ _ _ _ _ => pg_name (i := 2) scEK.nd rfl (Or.inl rfl))
    (fun _ _ _ _ _ => pts_one (pt_val (pe_def D1 hr rfl (pa_cons (pv 2) (pa_cons (pv 1) pa_nil))))) (fun _ _ _ _ _ => pv 2))), ?_⟩
  exact pick_reads hl ht h1 k fun a t H' Q' sm hA q => ⟨_, rfl, _, rfl, a, t, x, rfl, hA, _, rfl, q⟩
theorem scFK : FnScope ["knots", "wanted", "knot"] ["knots", "wanted"] (defScope sFullKnots) := ⟨rfl, rfl, rfl, by decide +kernel, rfl, by decide +kernel, by decide +kernel⟩
theorem ok_full_knots (S : Src K mg "full_knots" sFullKnots ["knots", "wanted"]) (D1 : Def P w K mg base 1 "is_full" ["knot", "wanted"] (spAsk C isFull)) :
    Def P w K mg base 2 "full_knots" ["knots", "wanted"] (spPick C isFull) := by
  refine S.ok scFK spPick_len (fun f cdv A outer s H vs Q E hr h => ?_)
  obtain ⟨l, as, ts, x, rfl, hl, ht, h1, k⟩ := h
  refine ⟨_, pss_one (ps_ret (pe_lc (own := [("knot", 2)]) rfl scFK.nd (pi_list (pv 0)) (blkOk_by (by show blkC ["knots", "wanted", "knot"] (defScope sFullKnots) _ _ = true; decide +kernel)) (fun _ _ _ _ _ => pg_name (i := 2) scFK.nd rfl (Or.inl rfl))
    (fun _ _ _ _ _ => pts_one (pt_val (pe_def D1 hr rfl (pa_cons (pv 2) (pa_cons (pv 1) pa_nil))))) (fun _ _ _ _ _ => pv 2))), ?_⟩
  exact pick_reads hl ht h1 k fun a t H' Q' sm hA q => ⟨_, rfl, _, rfl, a, t, x, rfl, hA, _, rfl, q⟩
theorem scPK : FnScope ["knots", "wanted", "knot"] ["knots", "wanted"] (defScope sPartedKnots) := ⟨rfl, rfl, rfl, by decide +kernel, rfl, by decide +kernel, by decide +kernel⟩
theorem ok_parted_knots (S : Src K mg "parted_knots" sPartedKnots ["knots", "wanted"]) (D1 : Def P w K mg base 2 "is_whole" ["knot", "wanted"] (spAsk C isWhole)) :
    Def P w K mg base 3 "parted_knots" ["knots", "wanted"] (spPick C fun t x => !isWhole t x) := by
  refine S.ok scPK spPick_len (fun f cdv A outer s H vs Q E hr h => ?_)
  obtain ⟨l, as, ts, x, rfl, hl, ht, h1, k⟩ := h
  refine ⟨_, pss_one (ps_ret (pe_lc (own := [("knot", 2)]) rfl scPK.nd (pi_list (pv 0)) (blkOk_by (by show blkC ["knots", "wanted", "knot"] (defScope sPartedKnots) _ _ = true; decide +kernel)) (fun _ _ _ _ _ => pg_name (i := 2) scPK.nd rfl (Or.inl rfl))
    (fun _ _ _ _ _ => pts_one (pt_not (pt_val (pe_def D1 hr rfl (pa_cons (pv 2) (pa_cons (pv 1) pa_nil)))))) (fun _ _ _ _ _ => pv 2))), ?_⟩
  exact pick_reads (p := fun t x => !isWhole t x) hl ht h1 k fun a t H' Q' sm hA q => ⟨_, rfl, _, rfl, a, t, x, rfl, hA, _, rfl, q⟩
end
end Ts
end
section
namespace Ts
open PySem PySem.Spec PyProof.Rows L2
theorem lri_no_len : typeLookup (.type "list_reverseiterator") "__len__" = pure Option.none := by rw [typeLookup_type, builtinLookup_eq_fast]; kernel_rfl
theorem slot_lri_hint : Slot "list_reverseiterator" "__length_hint__" "list_reverseiterator.__length_hint__" :=
  .of (owner := "list_reverseiterator") (n := "__length_hint__") (by rw [typeLookup_type, builtinLookup_eq_fast]; kernel_rfl) (by decide +kernel) (by decide +kernel) (by decide +kernel)
    (by first | exact .inl (by decide +kernel) | exact .inr (by decide +kernel)) (by rw [isSubtype_type]; kernel_rfl)
section
variable {prog : Program} {w : World} {A : Around} {E : Value → Shared → Prop} {s : Shared}
theorem hint_rev {it l : Addr} {i : Int} {Q : Bool → Shared → Prop} (hit : s.heap.IsRevIter it l i) (h : Q false s) : wpAny (model prog w) A (Builtin.List.listLengthHint (.ref it)) Q E s := by
  unfold Builtin.List.listLengthHint
  refine wpAny_bind (wpAny_specialOf hit.typeIs lri_no_len ?_)
  show wpAny _ A (specialOf (Value.ref it) (Str.ofString "__length_hint__") >>= _) _ _ _
  refine wpAny_bind (wpAny_specialOf hit.typeIs slot_lri_hint.lookup ?_)
  generalize hid : ("list_reverseiterator.__length_hint__" : String) = id0
  wp_delta
  rw [show splitId id0 = some ("list_reverseiterator", "__length_hint__") from by subst hid; decide +kernel]
  subst hid
  refine wpAny_bind (wpAny_isInstance (T := "list_reverseiterator") (b := true) hit.typeIs (by rw [isSubtype_type]; kernel_rfl) ?_)
  refine wpAny_ite_split (fun hab => absurd hab (by decide)) (fun _ => ?_)
  refine wpAny_ite_split (fun _ => ?_) (fun hab => absurd (by decide +kernel) hab)
  refine wpAny_ite_split (fun hab => absurd hab (by decide +kernel)) (fun _ => ?_)
  exact wpAny_pure h
theorem extend_rev {R : Result → Shared → Prop} {it l : Addr} {items : Array Value} (hh : A.handled = none) (hit : s.heap.IsRevIter it l ((items.size : Int) - 1)) (hl : s.heap.IsList l items) (hne : l ≠ it) (hn : items.size ≤ sizeLine)
    (S : Addr) (res : Value) (c₀ : Nat) (hSI : S ≠ it) (hSl : S ≠ l) (hS : s.heap.get? S = some { cls := .type "list", data := .seq #[] c₀ })
    (hR : ∀ h' tk acc' c', (∀ b o, b ≠ S → b ≠ it → s.heap.get? b = some o → h'.get? b = some o) → h'.get? S = some { cls := .type "list", dict := none, data := .seq acc' c', slots := #[] } →
      ItemsOf (fun i v => items[items.size - 1 - i]? = some v) acc' items.size → R (.ok (.ret res)) { s with heap := h', toks := tk }) :
    wpAny (model prog w) A.in1 (Builtin.List.listExtendWith (.ref S) (.ref it) res)
      (fun fin s' => match fin with | .done f => R (.ok f) s' | .again c' => c'.quiet = true ∧ codeAny (model prog w) A c' R s') (fun e s' => R (.error e) s') s := by
  have hSf : S ∉ [it, l] := fun hm => by
    rcases List.mem_cons.mp hm with e | hm
    · exact hSI e
    · exact hSl (List.mem_singleton.mp hm)
  have W := (Walks.listRev (prog := prog) (w := w) (A := A.in1) hh it l hne items).toS
  unfold Builtin.List.listExtendWith
  refine wpAny_bind (wpAny_typeOf hit.typeIs ?_)
  have h1 : Builtin.List.listSameRef (.ref S) (.ref it) = false := by simp [Builtin.List.listSameRef, hSI]
  have h2 : (Value.type "list_reverseiterator" == Value.type "list") = false := by decide
  have h3 : (Value.type "list_reverseiterator" == Value.type "tuple") = false := by decide
  simp only [h1, h2, h3, Bool.or_false, Bool.false_eq_true, if_false]
  refine wpAny_bind (wpAny_pyIter_revIter hit ?_)
  refine wpAny_bind (wpAny_holding (hint_rev hit ?_))
  refine wpAny_ite_split (fun hab => absurd hab (by decide)) (fun _ => ?_)
  refine wpAny_pure ⟨plainId_quiet F.plain_extend_loop _, ?_⟩
  have e0 : (items.size : Int) - 1 - ((0 : Nat) : Int) = (items.size : Int) - 1 := by omega
  refine codeAny_extend_loopS W hn S hSf res items.size 0 _ #[] c₀ rfl (Nat.zero_le _) ⟨Nat.zero_le _, by rw [e0]; exact hit, hl⟩ hS (ItemsOf.nil _) fun s' acc' c' hm hS' hacc => ?_
  rw [Moved.eq_with hm]
  refine hR s'.heap s'.toks acc' c' (fun b o hb hb2 e => hm.heap b o (fun hmem => ?_) e) hS' hacc
  rcases List.mem_cons.mp hmem with e' | hmem
  · exact hb e'
  · exact hb2 (List.mem_singleton.mp hmem)
theorem list_init_rev {R : Result → Shared → Prop} {it l : Addr} {items : Array Value} (hh : A.handled = none) (hit : s.heap.IsRevIter it l ((items.size : Int) - 1)) (hl : s.heap.IsList l items) (hne : l ≠ it) (hn : items.size ≤ sizeLine)
    (S : Addr) (hSI : S ≠ it) (hSl : S ≠ l) (hS : s.heap.get? S = some { cls := .type "list", data := .seq #[] })
    (hR : ∀ h' tk acc' c', (∀ b o, b ≠ S → b ≠ it → s.heap.get? b = some o → h'.get? b = some o) → h'.get? S = some { cls := .type "list", dict := none, data := .seq acc' c', slots := #[] } →
      ItemsOf (fun i v => items[items.size - 1 - i]? = some v) acc' items.size → R (.ok (.ret .none)) { s with heap := h', toks := tk }) :
    wpAny (model prog w) A.in1 (Builtin.«list.__init__» ⟨[.ref S, .ref it], []⟩)
      (fun fin s' => match fin with | .done f => R (.ok f) s' | .again c' => c'.quiet = true ∧ codeAny (model prog w) A c' R s') (fun e s' => R (.error e) s') s := by
  show wpAny _ _ (do let old ← Builtin.List.listItems (.ref S); Builtin.List.listUpdate (.ref S) (fun _ => #[]); letGo old.toList.reverse; Builtin.List.listExtendWith (.ref S) (.ref it) .none) _ _ s
  refine wpAny_bind ?_
  unfold Builtin.List.listItems
  refine wpAny_bind (wpAny_seqItems hS rfl (wpAny_pure ?_))
  show wpAny _ _ (updateSeq S (fun _ => #[]) >>= fun _ => letGo (#[] : Array Value).toList.reverse >>= fun _ => Builtin.List.listExtendWith (.ref S) (.ref it) .none) _ _ s
  refine wpAny_bind (wpAny_updateSeq hS rfl ?_)
  have hS₂ := Heap.get?_update_self (Obj.mapSeq (fun _ => (#[] : Array Value))) hS rfl
  have oth : ∀ b o, b ≠ S → s.heap.get? b = some o → (s.heap.update S (Obj.mapSeq (fun _ => (#[] : Array Value)))).get? b = some o :=
    fun b o hb e => (Heap.get?_update_other _ _ (Ne.symm hb)).trans e
  refine wpAny_bind (wpAny_letGo ?_)
  refine extend_rev hh (hit.at fun o e => oth it o (Ne.symm hSI) e) (hl.at fun o e => oth l o (Ne.symm hSl) e) hne hn S .none _ hSI hSl hS₂ fun h' tk acc' c' hk hS' hacc => ?_
  exact hR h' tk acc' c' (fun b o hb hb2 e => hk b o hb hb2 (oth b o hb e)) hS' hacc
theorem call_list_rev {Q : Value → Shared → Prop} {it l : Addr} {items : Array Value} (hh : A.handled = none) (hit : s.heap.IsRevIter it l ((items.size : Int) - 1)) (hl : s.heap.IsList l items) (hne : l ≠ it) (hn : items.size ≤ sizeLine)
    (hQ : ∀ h' tk acc' c', (∀ b o, b ≠ it → s.heap.get? b = some o → h'.get? b = some o) → h'.get? s.heap.objs.size = some { cls := .type "list", dict := none, data := .seq acc' c', slots := #[] } →
      ItemsOf (fun i v => items[items.size - 1 - i]? = some v) acc' items.size → Q (.ref s.heap.objs.size) { s with heap := h', toks := tk }) :
    wpAny (model prog w) A (call (.type "list") [.ref it]) Q E s := by
  refine callType_codes (Q₁ := fun obj s₁ => obj = .ref s.heap.objs.size ∧ s₁ = { s with heap := s.heap.push { cls := .type "list", data := .seq #[] } }) F.called_list (F.typeCall_list_1 _) F.entry_list_init
    (code_list_new _ ⟨rfl, rfl⟩) fun obj s₁ h₁ => ?_
  obtain ⟨rfl, rfl⟩ := h₁
  have hS : (s.heap.push { cls := .type "list", data := .seq #[] }).get? s.heap.objs.size = some { cls := .type "list", data := .seq #[] } := Heap.get?_push_size _ rfl
  have li : s.heap.objs.size ≠ it := by
    obtain ⟨o, ho, _⟩ := hit
    exact Nat.ne_of_gt (Heap.lt_size ho)
  have ll : s.heap.objs.size ≠ l := by
    obtain ⟨o, ho, _⟩ := hl
    exact Nat.ne_of_gt (Heap.lt_size ho)
  refine ⟨⟨_, hS, rfl⟩, F.args_list_init_2 _ _, list_init_rev (A := A.in1) hh (hit.at fun o e => Heap.get?_push_of_some _ e) (hl.at fun o e => Heap.get?_push_of_some _ e) hne hn _ li ll hS fun h' tk acc' c' hk hS' hacc => ?_⟩
  exact ⟨rfl, hQ h' tk acc' c' (fun b o hb e => hk b o (Nat.ne_of_lt (Heap.lt_size e)) hb (Heap.get?_push_of_some _ e)) hS' hacc⟩
end
noncomputable def tRev (K : PySem.W.Frag) (ta : TA) : TE := fun σ H Q => ta σ H fun vs H1 => ∃ (a : Addr) (xs : List V), vs = [.ref a] ∧ SqL K H1 a xs ∧ ∀ l, H1 l = none → Q (.ref l) (upd H1 l (.lst xs.reverse))
theorem vals_rev {xs : List V} {its : List Value} (r : Vals xs its) {acc : Array Value} (h : ItemsOf (fun i v => its.toArray[its.toArray.size - 1 - i]? = some v) acc its.toArray.size) : Vals xs.reverse acc.toList := by
  have e : acc.toList = its.reverse := by
    apply List.ext_getElem?
    intro i
    obtain ⟨h1, h2⟩ := h
    by_cases hi : i < acc.size
    · have q := h2 i acc[i] (Array.getElem?_eq_getElem hi)
      rw [Array.getElem?_toList, Array.getElem?_eq_getElem hi, ← q]
      simp only [List.size_toArray, List.getElem?_toArray] at *
      rw [List.getElem?_reverse (by omega)]
    · rw [Array.getElem?_toList, Array.getElem?_eq_none (by omega), List.getElem?_eq_none]
      simp only [List.size_toArray] at h1
      rw [List.length_reverse]
      omega
  rw [e]
  exact r.reverse
theorem pe_listRev {X : Cx} {e : Expr} {ta : TA} {p p2 pos pos2 : Pos} (hc : X.calm = true) (hgl : Gl X "list") (hml : X.mg "list" = none) (hgr : Gl X "reversed") (hmr : X.mg "reversed" = none) (ha : PA X [e] ta)
    (hs : starEach [e] X.env = [(false, eval e X.env)] := by rfl)
    (hs2 : starEach [Expr.Call (.Name "reversed" p2) [e] [] pos2] X.env = (false, eval (Expr.Call (.Name "reversed" p2) [e] [] pos2) X.env) :: starEach [] X.env := by rfl) :
    PE X (.Call (.Name "list" p) [.Call (.Name "reversed" p2) [e] [] pos2] [] pos) (tRev X.K ta) := by
  intro pins s σ H Q I h
  refine wpAny_Call_Name_kw (ld_blt I hgl hml boot_list ?_ (by decide) (by decide))
  refine PyProof.Rows.callWith_type1 ?_ hs2 rfl
  rw [hs2]
  show wpAny _ _ (spliced ((false, eval (Expr.Call (.Name "reversed" p2) [e] [] pos2) X.env) :: backTo pos (starEach [] X.env))) _ _ s
  refine Calls.spliced_cons ?_
  refine Call_ (ld_blt I hgr hmr boot_reversed5 (PyProof.Rows.callWith_type1 (thn (ha pos2 pins s σ H _ I h) fun us s1 ⟨vs, H1, I1, r1, q1⟩ => ?_) hs rfl))
  obtain ⟨a, xs, e, hq, q⟩ := q1
  subst e
  cases r1 with
  | cons r rr =>
    cases rr
    cases r
    obtain ⟨its, rv, p', hz⟩ := I1.list hq
    have hl := rv.length
    refine call_reversed_list p'.isList (Calls.spliced_nil ?_)
    have alt : a < s1.heap.objs.size := by
      obtain ⟨o, ho, _⟩ := p'.isList
      exact Heap.lt_size ho
    refine call_list_rev (it := s1.heap.objs.size) (l := a) (items := its.toArray) (I.ok.hd hc) ⟨_, Heap.get?_push_size _ rfl, rfl, rfl⟩ (p'.isList.at fun o e => Heap.get?_push_of_some _ e) (Nat.ne_of_lt alt) (by simp only [List.size_toArray]; omega) fun h' tk acc c' hk hS hacc => ?_
    refine ⟨.ref _, upd H1 _ (.lst xs.reverse), ?_, rfl, q _ ?_⟩
    · refine I1.laid (t' := tk) (fun b u e => hk b u (Nat.ne_of_lt (Heap.lt_size e)) (Heap.get?_push_of_some _ e)) (by rw [Heap.size_push]; exact Nat.le_succ _) ?_
      exact ⟨by rw [List.length_reverse]; omega, acc.toList, c', vals_rev rv hacc, hS⟩
    · exact I1.hok.fresh (by rw [Heap.size_push]; exact Nat.le_succ _)
end Ts
end
section
namespace Ts
open PySem PySem.Spec PyProof.Rows L2
noncomputable abbrev sInit : Stmt := inClass (top 1) 0
noncomputable abbrev sSideFirst : Stmt := top 9
noncomputable abbrev sTogether : Stmt := top 10
noncomputable abbrev sOver : Stmt := top 11
noncomputable abbrev sFree : Stmt := top 12
noncomputable abbrev sTurning : Stmt := top 13
noncomputable abbrev sAsOne : Stmt := top 14
noncomputable abbrev sRound : Stmt := top 15
theorem bitOr_nat (a b : Nat) : Builtin.bitOr (a : Int) (b : Int) = ((Nat.lor a b : Nat) : Int) := by
  unfold Builtin.bitOr Builtin.bitAnd Builtin.bitNot
  have h1 : ¬ (0 : Int) ≤ -(a : Int) - 1 := by omega
  have h2 : ¬ (0 : Int) ≤ -(b : Int) - 1 := by omega
  rw [decide_eq_false h1, decide_eq_false h2]
  have e1 : (-(-(a : Int) - 1) - 1).toNat = a := by omega
  have e2 : (-(-(b : Int) - 1) - 1).toNat = b := by omega
  simp only [Builtin.bitNot, e1, e2]
  show -(-((Nat.lor a b : Nat) : Int) - 1) - 1 = _
  omega
noncomputable def spInit (C : Addr) : Sp := fun vs H Q _ => ∃ (p dx : Addr) (th : Nat) (l : Addr) (tu : Bool), vs = [.ref p, .int (th : Int), .ref l, .bl tu] ∧ H p = some (.ins C dx []) ∧ Q .non (upd H p (.ins C dx (kf th l tu)))
noncomputable def spOver (C : Addr) : Sp := fun vs H Q _ => ∃ (G : Hp) (l : Addr) (as : List Addr) (ts : List T) (tu : Bool), vs = [.ref l, .bl tu] ∧ Same G H ∧ G l = some (.lst (as.map V.ref)) ∧ TreesAt C G as ts ∧ ts.length ≤ 100 ∧
  ∀ (a : Addr) (G' H' : Hp), Ext G H G' H' → TreeAt C G' a (knotOver ts tu) → Q (.ref a) H'
noncomputable def spOne (C : Addr) (tu : Bool) : Sp := fun vs H Q _ => ∃ (G : Hp) (l : Addr) (as : List Addr) (ts : List T), vs = [.ref l] ∧ Same G H ∧ G l = some (.lst (as.map V.ref)) ∧ TreesAt C G as ts ∧ ts.length ≤ 100 ∧
  ∀ (a : Addr) (G' H' : Hp), Ext G H G' H' → TreeAt C G' a (oneOr tu ts) → Q (.ref a) H'
noncomputable def NewRow (C : Addr) (G H : Hp) (Q : VK) (us : List T) : Prop := ∀ (r : Addr) (bs : List Addr) (G' H' : Hp), Ext G H G' H' → H r = none → G' r = none → H' r = some (.lst (bs.map V.ref)) → TreesAt C G' bs us → Q (.ref r) H'
noncomputable def spAsOne (C : Addr) : Sp := fun vs H Q _ => ∃ (G : Hp) (l : Addr) (as : List Addr) (ts : List T), vs = [.ref l] ∧ Same G H ∧ G l = some (.lst (as.map V.ref)) ∧ TreesAt C G as ts ∧ ts.length ≤ 100 ∧ NewRow C G H Q (asOne ts)
noncomputable def spRound : Sp := fun vs H Q _ => ∃ (l : Addr) (xs : List V), vs = [.ref l] ∧ H l = some (.lst xs) ∧ ∀ r, H r = none → Q (.ref r) (upd H r (.lst xs.reverse))
noncomputable def spTogether (C : Addr) : Sp := fun vs H Q _ => ∃ (l : Addr) (as : List Addr) (ts : List T) (w : Nat), vs = [.ref l, .int (w : Int)] ∧ H l = some (.lst (as.map V.ref)) ∧ TreesAt C H as ts ∧ Q (.bl (standsTogether ts w)) H
noncomputable def spSide (C : Addr) : Sp := fun vs H Q _ => ∃ (l : Addr) (as : List Addr) (ts us : List T) (w : Nat), vs = [.ref l, .int (w : Int)] ∧ H l = some (.lst (as.map V.ref)) ∧ TreesAt C H as ts ∧ sideFirst ts w = some us ∧
  ∀ (r : Addr) (bs : List Addr) (H' : Hp), (∀ G, Same G H → Ext G H G H') → H' r = some (.lst (bs.map V.ref)) → (∀ G, TreesAt C G as ts → TreesAt C G bs us) → us.length = ts.length → Q (.ref r) H'
section
variable {P : Program} {w : World} {K : PySem.W.Frag} {mg : Str → Option Value} {base : Heap} {C : Addr}
theorem scI : FnScope ["self", "things", "below", "only_turns"] ["self", "things", "below", "only_turns"] (defScope sInit) := ⟨rfl, rfl, rfl, by decide +kernel, rfl, by decide +kernel, by decide +kernel⟩
theorem ok_init {f : Addr} {fd : FuncData} (F : Fun K "__init__" "Knot.__init__" sInit f fd) (T : Txt K mg C) : FnOk P w K mg base CX0 1 f fd ["self", "things", "below", "only_turns"] (spInit C) := by
  refine F.ok scI (fun vs H Q E h => ?_) (fun cdv A outer s H vs Q E hr h => ?_)
  · obtain ⟨p, dx, th, l, tu, rfl, _⟩ := h
    rfl
  · obtain ⟨p, dx, th, l, tu, rfl, hp, k⟩ := h
    refine ⟨_, pss_cons (ps_fld (pv 0) (pv 1) rfl) (pss_cons (ps_fld (pv 0) (pv 2) rfl) (pss_one (ps_fld (pv 0) (pv 3) rfl))), ?_⟩
    refine ⟨_, rfl, _, rfl, p, C, dx, [], rfl, hp, T.cl, T.nT, (by show 0 < 1000; decide), ?_⟩
    refine ⟨_, rfl, _, rfl, p, C, dx, _, rfl, upd_same, T.cl, T.nB, (by show 1 < 1000; decide), ?_⟩
    refine ⟨_, rfl, _, rfl, p, C, dx, _, rfl, upd_same, T.cl, T.nO, (by show 2 < 1000; decide), ?_⟩
    rw [upd_upd, upd_upd]
    exact k
theorem orAll_snoc {ts : List T} {i : Nat} {t : T} (h : ts[i]? = some t) : orAll (ts.take (i + 1)) = Nat.lor (orAll (ts.take i)) t.things := by
  unfold orAll
  rw [take_snoc h, List.foldl_append]
  rfl
theorem ref_at {as : List Addr} {i : Nat} {y : V} (h : (as.map V.ref)[i]? = some y) : ∃ a, as[i]? = some a ∧ y = .ref a := by
  rw [List.getElem?_map] at h
  cases e : as[i]? with
  | none => rw [e] at h; cases h
  | some z => rw [e] at h; exact ⟨z, rfl, (Option.some.inj h).symm⟩
theorem scO : FnScope ["below", "only_turns", "things", "knot"] ["below", "only_turns"] (defScope sOver) := ⟨rfl, rfl, rfl, by decide +kernel, rfl, by decide +kernel, by decide +kernel⟩
theorem ok_over {fI : Addr} {fdI : FuncData} (S : Src K mg "knot_over" sOver ["below", "only_turns"]) (T : Txt K mg C) (M : Mk K C fI) (FI : Fun K "__init__" "Knot.__init__" sInit fI fdI) (bI : Binds K fdI ["self", "things", "below", "only_turns"] []) :
    Def P w K mg base 3 "knot_over" ["below", "only_turns"] (spOver C) := by
  have GI : FnOk P w K mg base CX0 1 fI fdI ["self", "things", "below", "only_turns"] (spInit C) := ok_init FI T
  refine S.ok scO (fun vs H Q E h => ?_) (fun f cdv A outer s H vs Q E hr h => ?_)
  · obtain ⟨G, l, as, ts, tu, rfl, _⟩ := h
    rfl
  · obtain ⟨G, l, as, ts, tu, rfl, hG, hl, ht, h1, k⟩ := h
    refine ⟨_, pss_cons (ps_set (i := 2) scO.nd rfl (Or.inl rfl) pe_int) (pss_cons (ps_for PassesOwn.never rfl (pi_list (pv 0)) (pg_name (i := 3) scO.nd rfl (Or.inl rfl))
      (pss_one (ps_set (i := 2) scO.nd rfl (Or.inl rfl) (pe_op op_or (pv 2) (pe_fld (pv 3) rfl)))))
      (pss_one (ps_ret (pe_make M GI hr rfl T.mgC bI .nil pass0 (pa_cons (pv 2) (pa_cons (pv 0) (pa_cons (pv 1) pa_nil))))))), ?_⟩
    have hlH := hG _ _ hl
    refine ⟨_, rfl, l, rfl, ⟨_, SqL.of hlH⟩, for_list (K := K) (a := l) (xs := as.map V.ref) (fun i σ H' => H' = H ∧ ∃ v : Option V, σ = [some (.ref l), some (.bl tu), some (.int (orAll (ts.take i) : Nat)), v])
      ⟨rfl, none, rfl⟩ (fun i σ H' _ ⟨e, _⟩ => by rw [e]; exact SqL.of hlH) ?_ ?_⟩
    · rintro i y σ H' hi ⟨rfl, v, rfl⟩
      obtain ⟨a, ha, rfl⟩ := ref_at hi
      obtain ⟨t, ht1, ht2⟩ := ht.get ha
      obtain ⟨dx, l', as', q1, q2, q3, q4⟩ := (ht2.mono hG).inv
      refine ⟨_, rfl, _, rfl, a, C, dx, _, _, rfl, q1, T.cl, T.nT, kf_things _ _ _, _, _, rfl, rfl, ?_⟩
      refine ⟨rfl, some (.ref a), ?_⟩
      show [some (V.ref l), some (V.bl tu), some (V.int (Builtin.bitOr (orAll (ts.take i) : Nat) (t.things : Nat))), some (V.ref a)] = _
      rw [bitOr_nat, orAll_snoc ht1]
    · rintro σ H' ⟨rfl, v, rfl⟩
      refine ⟨_, rfl, _, rfl, _, rfl, fun x dx nx nd ne => ?_⟩
      refine ⟨x, dx, _, l, tu, rfl, upd_same, rfl, ?_⟩
      rw [upd_upd]
      have el : (as.map V.ref).length = ts.length := by rw [List.length_map, ht.length]
      have nl : l ≠ x := ne_of_none hlH nx
      have gx : G x = Option.none := Same.free hG nx
      have gs : Same G (upd G x (.ins C dx (kf (orAll (ts.take (as.map V.ref).length)) l tu))) := same_new gx _
      refine k x (upd G x (.ins C dx (kf (orAll (ts.take (as.map V.ref).length)) l tu))) _ ⟨gs, fun b o e => ?_, fun b o e => ?_, fun b o e => ?_⟩ ?_
      · by_cases hb : b = x
        · subst hb
          rw [upd_same] at e ⊢
          exact e
        · rw [upd_ne hb] at e
          rw [upd_ne hb, upd_ne (ne_of_none (hG _ _ e) nd)]
          exact hG _ _ e
      · rw [upd_ne (ne_of_none e nx), upd_ne (ne_of_none e nd)]
        exact e
      · by_cases hb : b = x
        · subst hb
          exact .inr nx
        · rw [upd_ne hb] at e
          exact .inl e
      · rw [el, List.take_length]
        exact .mk upd_same (by rw [upd_ne nl]; exact hl) h1 (ht.mono (same_new gx _))
theorem scF : FnScope ["below"] ["below"] (defScope sFree) := ⟨rfl, rfl, rfl, by decide +kernel, rfl, by decide +kernel, by decide +kernel⟩
theorem one_len {tu : Bool} {ts : List T} (h : ¬ ts.length = 1) : oneOr tu ts = knotOver ts tu := by
  match ts, h with
  | [], _ => rfl
  | [t], h => exact absurd rfl h
  | _ :: _ :: _, _ => rfl
theorem one_one {tu : Bool} {as : List Addr} {ts : List T} {G : Hp} (ht : TreesAt C G as ts) (h : ts.length = 1) : ∃ a, as = [a] ∧ TreeAt C G a (oneOr tu ts) := by
  match ts, h, as, ht with
  | [t], _, _, .cons h1 .nil => exact ⟨_, rfl, h1⟩
theorem ok_free (S : Src K mg "free_knot" sFree ["below"]) (T : Txt K mg C) (D1 : Def P w K mg base 3 "knot_over" ["below", "only_turns"] (spOver C)) : Def P w K mg base 4 "free_knot" ["below"] (spOne C false) := by
  refine S.ok scF (fun vs H Q E h => ?_) (fun f cdv A outer s H vs Q E hr h => ?_)
  · obtain ⟨G, l, as, ts, rfl, _⟩ := h
    rfl
  · obtain ⟨G, l, as, ts, rfl, hG, hl, ht, h1, k⟩ := h
    have hlH := hG _ _ hl
    refine ⟨_, pss_cons (ps_if (pt_cmpR op_eq (pe_callB call_len_seq rfl T.len PySem.boot_len (pa_cons (pv 0) pa_nil)) pe_int (nomark _)) (pss_one (ps_ret (pe_ix ix_list (pv 0) pe_int (fun _ _ => rfl)))) pss_nil)
      (pss_one (ps_ret (pe_def D1 hr rfl (pa_cons (pv 0) (pa_cons pe_bl pa_nil))))), ?_⟩
    have el : (as.map V.ref).length = ts.length := by rw [List.length_map, ht.length]
    refine ⟨_, rfl, l, _, rfl, .inl (SqL.of hlH), rfl, _, rfl, ?_⟩
    refine ite2 (fun c => ?_) (fun c => ?_)
    · have c' : (((as.map V.ref).length : Nat) : Int) = 1 := by
        have q := of_decide_eq_true c
        injection q
      obtain ⟨a, e, hA⟩ := one_one (tu := false) ht (by omega)
      subst e
      refine ⟨_, rfl, l, _, 0, _, rfl, rfl, SqL.of hlH, at_of (j := 0) (v := .ref a) rfl rfl, ?_⟩
      exact k a G H (.refl hG) hA
    · have c' : ¬ ts.length = 1 := fun q => c (decide_eq_true (by rw [el, q]; rfl))
      refine ⟨_, rfl, G, l, as, ts, false, rfl, hG, hl, ht, h1, fun a G' H' e hA => ?_⟩
      rw [← one_len c'] at hA
      exact k a G' H' e hA
theorem scT : FnScope ["row"] ["row"] (defScope sTurning) := ⟨rfl, rfl, rfl, by decide +kernel, rfl, by decide +kernel, by decide +kernel⟩
theorem ok_turning (S : Src K mg "turning_knot" sTurning ["row"]) (T : Txt K mg C) (D1 : Def P w K mg base 3 "knot_over" ["below", "only_turns"] (spOver C)) : Def P w K mg base 4 "turning_knot" ["row"] (spOne C true) := by
  refine S.ok scT (fun vs H Q E h => ?_) (fun f cdv A outer s H vs Q E hr h => ?_)
  · obtain ⟨G, l, as, ts, rfl, _⟩ := h
    rfl
  · obtain ⟨G, l, as, ts, rfl, hG, hl, ht, h1, k⟩ := h
    have hlH := hG _ _ hl
    refine ⟨_, pss_cons (ps_if (pt_cmpR op_eq (pe_callB call_len_seq rfl T.len PySem.boot_len (pa_cons (pv 0) pa_nil)) pe_int (nomark _)) (pss_one (ps_ret (pe_ix ix_list (pv 0) pe_int (fun _ _ => rfl)))) pss_nil)
      (pss_one (ps_ret (pe_def D1 hr rfl (pa_cons (pv 0) (pa_cons pe_bl pa_nil))))), ?_⟩
    have el : (as.map V.ref).length = ts.length := by rw [List.length_map, ht.length]
    refine ⟨_, rfl, l, _, rfl, .inl (SqL.of hlH), rfl, _, rfl, ?_⟩
    refine ite2 (fun c => ?_) (fun c => ?_)
    · have c' : (((as.map V.ref).length : Nat) : Int) = 1 := by
        have q := of_decide_eq_true c
        injection q
      obtain ⟨a, e, hA⟩ := one_one (tu := true) ht (by omega)
      subst e
      refine ⟨_, rfl, l, _, 0, _, rfl, rfl, SqL.of hlH, at_of (j := 0) (v := .ref a) rfl rfl, ?_⟩
      exact k a G H (.refl hG) hA
    · have c' : ¬ ts.length = 1 := fun q => c (decide_eq_true (by rw [el, q]; rfl))
      refine ⟨_, rfl, G, l, as, ts, true, rfl, hG, hl, ht, h1, fun a G' H' e hA => ?_⟩
      rw [← one_len c'] at hA
      exact k a G' H' e hA
theorem scA : FnScope ["knots"] ["knots"] (defScope sAsOne) := ⟨rfl, rfl, rfl, by decide +kernel, rfl, by decide +kernel, by decide +kernel⟩
theorem asOne_len {ts : List T} (h : ¬ ts.length = 0) : asOne ts = [oneOr false ts] := by
  match ts, h with
  | [], h => exact absurd rfl h
  | _ :: _, _ => rfl
theorem ok_as_one (S : Src K mg "as_one" sAsOne ["knots"]) (T : Txt K mg C) (D1 : Def P w K mg base 4 "free_knot" ["below"] (spOne C false)) : Def P w K mg base 5 "as_one" ["knots"] (spAsOne C) := by
  refine S.ok scA (fun vs H Q E h => ?_) (fun f cdv A outer s H vs Q E hr h => ?_)
  · obtain ⟨G, l, as, ts, rfl, _⟩ := h
    rfl
  · obtain ⟨G, l, as, ts, rfl, hG, hl, ht, h1, k⟩ := h
    have hlH := hG _ _ hl
    refine ⟨_, pss_cons (ps_if (pt_cmpR op_eq (pe_callB call_len_seq rfl T.len PySem.boot_len (pa_cons (pv 0) pa_nil)) pe_int (nomark _)) (pss_one (ps_ret (pe_lst pa_nil))) pss_nil)
      (pss_one (ps_ret (pe_lst (pa_cons (pe_def D1 hr rfl (pa_cons (pv 0) pa_nil)) pa_nil)))), ?_⟩
    have el : (as.map V.ref).length = ts.length := by rw [List.length_map, ht.length]
    refine ⟨_, rfl, l, _, rfl, .inl (SqL.of hlH), rfl, _, rfl, ?_⟩
    refine ite2 (fun c => ?_) (fun c => ?_)
    · have c' : (((as.map V.ref).length : Nat) : Int) = 0 := by
        have q := of_decide_eq_true c
        injection q
      have e : ts = [] := List.eq_nil_of_length_eq_zero (by omega)
      subst e
      refine ⟨(by show 0 ≤ sizeLine; decide), fun r hr' => ?_⟩
      exact k r [] G _ (.alloc hG hr' _) hr' (Same.free hG hr') upd_same .nil
    · have c' : ¬ ts.length = 0 := fun q => c (decide_eq_true (by rw [el, q]; rfl))
      refine ⟨_, rfl, G, l, as, ts, rfl, hG, hl, ht, h1, fun a G' H' e hA => ?_⟩
      refine ⟨(by show 1 ≤ sizeLine; decide), fun r hr' => ?_⟩
      refine k r [a] G' _ (e.trans (.alloc e.gh hr' _)) (e.hs.free hr') (Same.free e.gh hr') upd_same ?_
      rw [asOne_len c']
      exact .one hA
theorem scR : FnScope ["row"] ["row"] (defScope sRound) := ⟨rfl, rfl, rfl, by decide +kernel, rfl, by decide +kernel, by decide +kernel⟩
theorem ok_round (S : Src K mg "turned_round" sRound ["row"]) (T : Txt K mg C) : Def P w K mg base 1 "turned_round" ["row"] spRound := by
  refine S.ok scR (fun vs H Q E h => ?_) (fun f cdv A outer s H vs Q E hr h => ?_)
  · obtain ⟨l, xs, rfl, _⟩ := h
    rfl
  · obtain ⟨l, xs, rfl, hl, k⟩ := h
    refine ⟨_, pss_one (ps_ret (pe_listRev rfl rfl T.list rfl T.reversed (pa_cons (pv 0) pa_nil))), ?_⟩
    exact ⟨_, rfl, l, xs, rfl, SqL.of hl, k⟩
theorem scG : FnScope ["row", "wanted", "begun", "ended", "knot"] ["row", "wanted"] (defScope sTogether) := ⟨rfl, rfl, rfl, by decide +kernel, rfl, by decide +kernel, by decide +kernel⟩
theorem ok_together (S : Src K mg "stands_together" sTogether ["row", "wanted"]) (T : Txt K mg C) (D1 : Def P w K mg base 1 "is_empty" ["knot", "wanted"] (spAsk C isEmpty)) : Def P w K mg base 2 "stands_together" ["row", "wanted"] (spTogether C) := by
  refine S.ok scG (fun vs H Q E h => ?_) (fun f cdv A outer s H vs Q E hr h => ?_)
  · obtain ⟨l, as, ts, x, rfl, _⟩ := h
    rfl
  · obtain ⟨l, as, ts, x, rfl, hl, ht, k⟩ := h
    refine ⟨_, pss_cons (ps_set (i := 2) scG.nd rfl (Or.inl rfl) pe_bl) (pss_cons (ps_set (i := 3) scG.nd rfl (Or.inl rfl) pe_bl)
      (pss_cons (ps_for PassesOwn.never rfl (pi_list (pv 0)) (pg_name (i := 4) scG.nd rfl (Or.inl rfl))
        (pss_one (ps_if (pt_val (pe_def D1 hr rfl (pa_cons (pv 4) (pa_cons (pv 1) pa_nil)))) (pss_one (ps_set (i := 3) scG.nd rfl (Or.inl rfl) (pv 2)))
          (pss_one (ps_if (pt_val (pv 3)) (pss_one (ps_ret pe_bl)) (pss_one (ps_set (i := 2) scG.nd rfl (Or.inl rfl) pe_bl)))))))
      (pss_one (ps_ret pe_bl)))), ?_⟩
    refine ⟨_, rfl, l, rfl, ⟨_, SqL.of hl⟩, for_list (K := K) (a := l) (xs := as.map V.ref) (fun i σ H' => H' = H ∧ ∃ (b e : Bool) (v : Option V), σ = [some (.ref l), some (.int (x : Int)), some (.bl b), some (.bl e), v] ∧ standsTogether ts x = together x (ts.drop i) b e)
      ⟨rfl, false, false, none, rfl, rfl⟩ (fun i σ H' _ ⟨e, _⟩ => by rw [e]; exact SqL.of hl) ?_ ?_⟩
    · rintro i y σ H' hi ⟨rfl, b, e, v, rfl, hs⟩
      obtain ⟨a, ha, rfl⟩ := ref_at hi
      obtain ⟨t, ht1, ht2⟩ := ht.get ha
      have hd : ts.drop i = t :: ts.drop (i + 1) := by
        obtain ⟨h1, h2⟩ := List.getElem?_eq_some_iff.mp ht1
        rw [← h2]
        exact List.drop_eq_getElem_cons h1
      rw [hd] at hs
      refine ⟨_, rfl, _, rfl, a, t, x, rfl, ht2, _, rfl, ?_⟩
      unfold together at hs
      cases q : isEmpty t x with
      | true =>
        rw [q] at hs
        exact iteT ⟨_, rfl, rfl, b, b, some (.ref a), rfl, hs⟩
      | false =>
        rw [q] at hs
        refine iteF ⟨_, rfl, _, rfl, ?_⟩
        cases e with
        | true =>
          refine iteT ?_
          rw [hs] at k
          exact k
        | false => exact iteF ⟨rfl, true, false, some (.ref a), rfl, hs⟩
    · rintro σ H' ⟨rfl, b, e, v, rfl, hs⟩
      have el : (as.map V.ref).length = ts.length := by rw [List.length_map, ht.length]
      rw [el, List.drop_length] at hs
      rw [hs] at k
      exact k
theorem scS : FnScope ["below", "wanted"] ["below", "wanted"] (defScope sSideFirst) := ⟨rfl, rfl, rfl, by decide +kernel, rfl, by decide +kernel, by decide +kernel⟩
theorem side_ends {as : List Addr} {ts us : List T} {x : Nat} {H : Hp} (ht : TreesAt C H as ts) (h : sideFirst ts x = some us) : ∃ (a z : Addr) (t u : T), atI (as.map V.ref) 0 = some (.ref a) ∧ atI (as.map V.ref) (-1) = some (.ref z) ∧ TreeAt C H a t ∧ TreeAt C H z u ∧
    us = (bif isFull t x || isEmpty u x then ts.reverse else ts) := by
  unfold sideFirst at h
  match ts, as, ht, h with
  | t :: r, _, .cons (a := a) (as := as) h1 h2, h =>
    have ht : TreesAt C H (a :: as) (t :: r) := .cons h1 h2
    have e : (t :: r).getLast? = some ((t :: r).getLast (by simp)) := List.getLast?_eq_getLast (by simp)
    rw [e] at h
    have hx : (t :: r)[r.length]? = some ((t :: r).getLast (by simp)) := by
      rw [← e, List.getLast?_eq_getElem?]
      rfl
    obtain ⟨z, hz, hzt⟩ := ht.get' hx
    have l2 := h2.length
    refine ⟨a, z, t, _, at_of (j := 0) rfl rfl, ?_, h1, hzt, (Option.some.inj h).symm⟩
    have e2 : ixN ((a :: as).map V.ref).length (-1) = some r.length := by
      unfold ixN
      rw [List.length_map, List.length_cons, if_neg (by decide), if_pos (by omega)]
      exact congrArg some (by omega)
    unfold atI
    rw [e2]
    show ((a :: as).map V.ref)[r.length]? = _
    rw [List.getElem?_map, hz]
    rfl
theorem ok_side (S : Src K mg "empty_side_first" sSideFirst ["below", "wanted"]) (T : Txt K mg C) (D1 : Def P w K mg base 1 "is_empty" ["knot", "wanted"] (spAsk C isEmpty)) (D2 : Def P w K mg base 1 "is_full" ["knot", "wanted"] (spAsk C isFull))
    (D3 : Def P w K mg base 1 "turned_round" ["row"] spRound) : Def P w K mg base 2 "empty_side_first" ["below", "wanted"] (spSide C) := by
  refine S.ok scS (fun vs H Q E h => ?_) (fun f cdv A outer s H vs Q E hr h => ?_)
  · obtain ⟨l, as, ts, us, x, rfl, _⟩ := h
    rfl
  · obtain ⟨l, as, ts, us, x, rfl, hl, ht, hu, k⟩ := h
    refine ⟨_, pss_cons (ps_if (PW.pt (pw_or (pt_val (pe_def D2 hr rfl (pa_cons (pe_ix ix_list (pv 0) pe_int (fun _ _ => rfl)) (pa_cons (pv 1) pa_nil)))) (pw_or1 (pt_val (pe_def D1 hr rfl (pa_cons (pe_ix ix_list (pv 0) (pe_un un_neg pe_int) (fun _ _ => rfl)) (pa_cons (pv 1) pa_nil)))))))
      (pss_one (ps_ret (pe_def D3 hr rfl (pa_cons (pv 0) pa_nil)))) pss_nil) (pss_one (ps_ret (pv 0))), ?_⟩
    obtain ⟨a, z, t, u, e1, e2, hA, hZ, eu⟩ := side_ends ht hu
    have no : (isFull t x || isEmpty u x) = false → Q (.ref l) H := fun e => by
      rw [e] at eu
      have eu : us = ts := eu
      subst eu
      exact k l as H (fun G hG => .refl hG) hl (fun G hG => hG) rfl
    have yes : (isFull t x || isEmpty u x) = true → ∀ r, H r = none → Q (.ref r) (upd H r (.lst (as.map V.ref).reverse)) := fun e r hr' => by
      rw [e] at eu
      have eu : us = ts.reverse := eu
      subst eu
      exact k r as.reverse _ (fun G hG => .alloc hG hr' _) (by rw [upd_same, List.map_reverse]) (fun G hG => hG.reverse) (List.length_reverse ..)
    refine ⟨_, rfl, l, _, 0, _, rfl, rfl, SqL.of hl, e1, _, rfl, a, t, x, rfl, hA, _, rfl, ?_⟩
    cases q : isFull t x with
    | true => exact iteT (iteT ⟨_, rfl, l, _, rfl, hl, yes (by rw [q]; rfl)⟩)
    | false =>
      refine iteF ⟨_, rfl, _, rfl, l, _, -1, _, rfl, rfl, SqL.of hl, e2, _, rfl, z, u, x, rfl, hZ, _, rfl, ?_⟩
      cases q2 : isEmpty u x with
      | true => exact iteT ⟨_, rfl, l, _, rfl, hl, yes (by rw [q, q2]; rfl)⟩
      | false => exact iteF ⟨_, rfl, no (by rw [q, q2]; rfl)⟩
end
end Ts
end
section
namespace Ts
open PySem PySem.Spec PyProof.Rows L2
noncomputable abbrev sRowOf : Stmt := top 7
noncomputable abbrev sJoined : Stmt := top 8
noncomputable def spRow (C : Addr) (n : Nat) : Sp := fun vs H Q _ => ∃ (G : Hp) (a : Addr) (t : T) (x : Nat) (us : List T), vs = [.ref a, .int (x : Int)] ∧ Same G H ∧ TreeAt C G a t ∧ rowOf n t x = some us ∧ NewRow C G H Q us
noncomputable def spJoined (C : Addr) (n : Nat) : Sp := fun vs H Q _ => ∃ (G : Hp) (l : Addr) (as : List Addr) (ts : List T) (x : Nat) (us : List T), vs = [.ref l, .int (x : Int)] ∧ Same G H ∧ H l = some (.lst (as.map V.ref)) ∧ TreesAt C G as ts ∧ joined (fun c => rowOf n c x) ts = some us ∧ NewRow C G H Q us
theorem capped_some {l us : List T} (h : capped l = some us) : us = l ∧ us.length ≤ 100 := by
  unfold capped at h
  cases e : small l with
  | true =>
    rw [e] at h
    have h : l = us := Option.some.inj h
    subst h
    exact ⟨rfl, Nat.le_of_ble_eq_true e⟩
  | false =>
    rw [e] at h
    cases h
theorem joined_cons {g : T → Option (List T)} {k : T} {r us : List T} (h : joined g (k :: r) = some us) : ∃ a b, g k = some a ∧ joined g r = some b ∧ us = a ++ b ∧ us.length ≤ 100 := by
  unfold joined at h
  cases e : g k with
  | none => rw [e] at h; cases h
  | some a =>
    rw [e] at h
    cases e2 : joined g r with
    | none =>
      have h : (match joined g r with | none => none | some b => capped (a ++ b)) = some us := h
      rw [e2] at h; cases h
    | some b =>
      have h : (match joined g r with | none => none | some b => capped (a ++ b)) = some us := h
      rw [e2] at h
      obtain ⟨h1, h2⟩ := capped_some h
      exact ⟨a, b, rfl, rfl, h1, h2⟩
theorem joined_len {g : T → Option (List T)} {ts us : List T} (h : joined g ts = some us) : us.length ≤ 100 := by
  cases ts with
  | nil =>
    have h : [] = us := Option.some.inj h
    subst h
    exact Nat.zero_le _
  | cons k r =>
    obtain ⟨_, _, _, _, _, h⟩ := joined_cons h
    exact h
theorem sz100 {n : Nat} (h : n ≤ 1000) : n ≤ sizeLine := Nat.le_trans h (by decide)
section
variable {P : Program} {w : World} {K : PySem.W.Frag} {mg : Str → Option Value} {base : Heap} {C : Addr}
theorem scJ : FnScope ["knots", "wanted", "row", "knot"] ["knots", "wanted"] (defScope sJoined) := ⟨rfl, rfl, rfl, by decide +kernel, rfl, by decide +kernel, by decide +kernel⟩
theorem ok_joined {n k : Nat} (S : Src K mg "joined_rows" sJoined ["knots", "wanted"]) (D1 : Def P w K mg base k "row_of" ["knot", "wanted"] (spRow C n)) : Def P w K mg base (k + 1) "joined_rows" ["knots", "wanted"] (spJoined C n) := by
  refine S.ok scJ (fun vs H Q E h => ?_) (fun f cdv A outer s H vs Q E hr h => ?_)
  · obtain ⟨G, l, as, ts, x, us, rfl, _⟩ := h
    rfl
  obtain ⟨G, l, as, ts, x, us, rfl, hG, hl, ht, hj, kk⟩ := h
  have hlen := joined_len hj
  refine ⟨_, pss_cons (ps_set (i := 2) scJ.nd rfl (Or.inl rfl) (pe_lst pa_nil)) (pss_cons (ps_for PassesOwn.never rfl (pi_list (pv 0)) (pg_name (i := 3) scJ.nd rfl (Or.inl rfl))
      (pss_one (ps_expr (pe_bm PySem.F.plainAttrs_list PySem.F.slot_list_extend PySem.F.type_list_extend mt_extend (pv 2) (pa_cons (pe_def D1 hr rfl (pa_cons (pv 3) (pa_cons (pv 1) pa_nil))) pa_nil)))))
      (pss_one (ps_ret (pv 2)))), ?_⟩
  refine ⟨(by show 0 ≤ sizeLine; decide), fun row nrow => ?_⟩
  have x0 : Ext G H G (upd H row (.lst [])) := .alloc hG nrow _
  refine ⟨_, rfl, l, rfl, ⟨_, SqL.of (x0.hs _ _ hl)⟩, for_list (K := K) (a := l) (xs := as.map V.ref) (fun i σ H' => ∃ (G' : Hp) (bs : List Addr) (acc rest : List T) (v : Option V), σ = [some (.ref l), some (.int (x : Int)), some (.ref row), v] ∧ Ext G H G' H' ∧ G' row = none ∧
        H' row = some (.lst (bs.map V.ref)) ∧ TreesAt C G' bs acc ∧ joined (fun c => rowOf n c x) (ts.drop i) = some rest ∧ acc ++ rest = us)
      ⟨G, [], [], us, none, rfl, x0, Same.free hG nrow, upd_same, .nil, hj, rfl⟩ (fun i σ H' _ ⟨G', bs, acc, rest, v, _, e, _⟩ => SqL.of (e.hs _ _ hl)) ?_ ?_⟩
  · rintro i y σ H' hi ⟨G', bs, acc, rest, v, rfl, e, gr, hrow, hb, hjr, hap⟩
    obtain ⟨a, ha, rfl⟩ := ref_at hi
    obtain ⟨t, ht1, ht2⟩ := ht.get ha
    have hd : ts.drop i = t :: ts.drop (i + 1) := by
      obtain ⟨h1, h2⟩ := List.getElem?_eq_some_iff.mp ht1
      rw [← h2]
      exact List.drop_eq_getElem_cons h1
    rw [hd] at hjr
    obtain ⟨p, q, h1, h2, h3, h4⟩ := joined_cons hjr
    subst h3
    refine ⟨_, rfl, .inl ⟨rfl, _, SqL.of hrow⟩, _, rfl, _, rfl, G', a, t, x, p, rfl, e.gh, ht2.mono e.gs, h1, fun r cs G2 H2 e2 nr gr2 hr2 hc => ?_⟩
    have hrow2 := e2.hs _ _ hrow
    have gr3 := e2.none gr hrow
    have l1 : acc.length + p.length ≤ 100 := by
      rw [← hap, List.length_append, List.length_append] at hlen
      omega
    refine ⟨row, r, _, _, rfl, rfl, hrow2, hr2, by rw [List.length_map, List.length_map, hb.length, hc.length]; exact sz100 (by omega), ?_⟩
    refine ⟨G2, bs ++ cs, acc ++ p, q, some (.ref a), rfl, (e.trans e2).put nrow gr3 _, gr3, by rw [upd_same, List.map_append], TreesAt.append hc (hb.mono e2.gs), h2, by rw [List.append_assoc]; exact hap⟩
  · rintro σ H' ⟨G', bs, acc, rest, v, rfl, e, gr, hrow, hb, hjr, hap⟩
    have el : (as.map V.ref).length = ts.length := by rw [List.length_map, ht.length]
    rw [el, List.drop_length] at hjr
    have hr0 : [] = rest := Option.some.inj hjr
    subst hr0
    rw [List.append_nil] at hap
    subst hap
    exact ⟨_, rfl, kk row bs G' H' e nrow gr hrow hb⟩
theorem scRow : FnScope ["knot", "wanted", "row"] ["knot", "wanted"] (defScope sRowOf) := ⟨rfl, rfl, rfl, by decide +kernel, rfl, by decide +kernel, by decide +kernel⟩
theorem spRow_len {n : Nat} (vs : List V) (H : Hp) (Q : VK) (E : XK) (h : spRow C n vs H Q E) : vs.length = (["knot", "wanted"] : List Str).length := by
  obtain ⟨G, a, t, x, us, rfl, _⟩ := h
  rfl
theorem ok_row0 {k : Nat} (S : Src K mg "row_of" sRowOf ["knot", "wanted"]) : Def P w K mg base (k + 1) "row_of" ["knot", "wanted"] (spRow C 0) :=
  S.ok scRow spRow_len (fun f cdv A outer s H vs Q E hr h => by
    obtain ⟨G, a, t, x, us, _, _, _, h, _⟩ := h
    cases h)
theorem filter_len {p : T → Bool} {ts : List T} (h : ts.length ≤ 100) : (ts.filter p).length ≤ 100 := Nat.le_trans (List.length_filter_le _ _) h
theorem ok_row {n k : Nat} (S : Src K mg "row_of" sRowOf ["knot", "wanted"]) (T : Txt K mg C) (hk : 6 ≤ k) (D1 : Def P w K mg base k "joined_rows" ["knots", "wanted"] (spJoined C n))
    (Dw : Def P w K mg base 2 "is_whole" ["knot", "wanted"] (spAsk C isWhole)) (Ds : Def P w K mg base 2 "empty_side_first" ["below", "wanted"] (spSide C)) (De : Def P w K mg base 2 "empty_knots" ["knots", "wanted"] (spPick C isEmpty))
    (Df : Def P w K mg base 2 "full_knots" ["knots", "wanted"] (spPick C isFull)) (Dp : Def P w K mg base 3 "parted_knots" ["knots", "wanted"] (spPick C fun t x => !isWhole t x)) (Do : Def P w K mg base 5 "as_one" ["knots"] (spAsOne C)) :
    Def P w K mg base (k + 1) "row_of" ["knot", "wanted"] (spRow C (n + 1)) := by
  refine S.ok scRow spRow_len (fun f cdv A outer s H vs Q E hr h => ?_)
  obtain ⟨G, a, t, x, us, rfl, hG, hA, hrow, kk⟩ := h
  obtain ⟨dx, l, as, h1, h2, h3, h4⟩ := hA.inv
  have r2 : Room 2 _ := hr.mono (by omega)
  have r3 : Room 3 _ := hr.mono (by omega)
  have r5 : Room 5 _ := hr.mono (by omega)
  refine ⟨_, pss_cons (ps_if (pt_val (pe_def Dw r2 rfl (pa_cons (pv 0) (pa_cons (pv 1) pa_nil)))) (pss_one (ps_ret (pe_lst (pa_cons (pv 0) pa_nil)))) pss_nil)
    (pss_cons (ps_if (pt_val (pe_fld (pv 0) rfl)) (pss_one (ps_ret (pe_def D1 hr rfl (pa_cons (pe_def Ds r2 rfl (pa_cons (pe_fld (pv 0) rfl) (pa_cons (pv 1) pa_nil))) (pa_cons (pv 1) pa_nil))))) pss_nil)
    (pss_cons (ps_set (i := 2) scRow.nd rfl (Or.inl rfl) (pe_def Do r5 rfl (pa_cons (pe_def De r2 rfl (pa_cons (pe_fld (pv 0) rfl) (pa_cons (pv 1) pa_nil))) pa_nil)))
    (pss_cons (ps_expr (pe_bm PySem.F.plainAttrs_list PySem.F.slot_list_extend PySem.F.type_list_extend mt_extend (pv 2) (pa_cons (pe_def D1 hr rfl (pa_cons (pe_def Dp r3 rfl (pa_cons (pe_fld (pv 0) rfl) (pa_cons (pv 1) pa_nil))) (pa_cons (pv 1) pa_nil))) pa_nil)))
    (pss_cons (ps_expr (pe_bm PySem.F.plainAttrs_list PySem.F.slot_list_extend PySem.F.type_list_extend mt_extend (pv 2) (pa_cons (pe_def Do r5 rfl (pa_cons (pe_def Df r2 rfl (pa_cons (pe_fld (pv 0) rfl) (pa_cons (pv 1) pa_nil))) pa_nil)) pa_nil)))
    (pss_one (ps_ret (pv 2))))))), ?_⟩
  refine ⟨_, rfl, _, rfl, a, t, x, rfl, hA.mono hG, _, rfl, ?_⟩
  unfold rowOf at hrow
  cases e1 : isWhole t x with
  | true =>
    rw [e1] at hrow
    have hrow : [t] = us := Option.some.inj hrow
    subst hrow
    refine iteT ⟨_, rfl, (by show 1 ≤ sizeLine; decide), fun r nr => ?_⟩
    exact kk r [a] G _ (.alloc hG nr _) nr (Same.free hG nr) upd_same (.one hA)
  | false =>
    rw [e1] at hrow
    refine iteF ⟨_, rfl, a, C, dx, _, _, rfl, hG _ _ h1, T.cl, T.nO, kf_turns _ _ _, _, rfl, ?_⟩
    cases e2 : t.turns with
    | true =>
      rw [e2] at hrow
      cases e3 : sideFirst t.kids x with
      | none =>
        have hrow : (match sideFirst t.kids x with | none => none | some bl => joined (fun c => rowOf n c x) bl) = some us := hrow
        rw [e3] at hrow
        cases hrow
      | some bl =>
        have hrow : (match sideFirst t.kids x with | none => none | some bl => joined (fun c => rowOf n c x) bl) = some us := hrow
        rw [e3] at hrow
        refine iteT ⟨_, rfl, a, C, dx, _, _, rfl, hG _ _ h1, T.cl, T.nB, kf_below _ _ _, _, rfl, l, as, t.kids, bl, x, rfl, hG _ _ h2, h4.mono hG, e3, fun r bs H' ex hb tr ln => ?_⟩
        refine ⟨_, rfl, G, r, bs, bl, x, us, rfl, (ex G hG).gh, hb, tr G h4, hrow, fun r' cs G' H'' e' n' g' hh ht' => ?_⟩
        exact kk r' cs G' H'' ((ex G hG).trans e') ((ex G hG).hs.free n') g' hh ht'
    | false =>
      rw [e2] at hrow
      cases e3 : joined (fun c => rowOf n c x) (partedKnots t.kids x) with
      | none =>
        have hrow : (match joined (fun c => rowOf n c x) (partedKnots t.kids x) with | none => none | some r => capped (asOne (emptyKnots t.kids x) ++ r ++ asOne (fullKnots t.kids x))) = some us := hrow
        rw [e3] at hrow
        cases hrow
      | some rr =>
        have hrow : (match joined (fun c => rowOf n c x) (partedKnots t.kids x) with | none => none | some r => capped (asOne (emptyKnots t.kids x) ++ r ++ asOne (fullKnots t.kids x))) = some us := hrow
        rw [e3] at hrow
        obtain ⟨eu, lu⟩ := capped_some hrow
        subst eu
        have lu' : (asOne (emptyKnots t.kids x)).length + rr.length + (asOne (fullKnots t.kids x)).length ≤ 100 := by
          rw [List.length_append, List.length_append] at lu
          exact lu
        refine iteF ⟨_, rfl, a, C, dx, _, _, rfl, hG _ _ h1, T.cl, T.nB, kf_below _ _ _, _, rfl, l, as, t.kids, x, rfl, hG _ _ h2, h4.mono hG, h3, fun r1 b1 n1 t1 => ?_⟩
        have x1 : Ext G H (upd G r1 (.lst (b1.map V.ref))) (upd H r1 (.lst (b1.map V.ref))) := (Ext.alloc hG n1 _).rest n1 (Same.free hG n1) upd_same
        refine ⟨upd G r1 (.lst (b1.map V.ref)), r1, b1, emptyKnots t.kids x, rfl, x1.gh, upd_same, (t1 G h4).mono x1.gs, filter_len h3, fun row b2 G2 H2 y2 nrow grow hrow2 t2 => ?_⟩
        have x2 := x1.trans y2
        have nrow0 : H row = none := x1.hs.free nrow
        refine ⟨_, rfl, .inl ⟨rfl, _, SqL.of hrow2⟩, _, rfl, a, C, dx, _, _, rfl, x2.hs _ _ (hG _ _ h1), T.cl, T.nB, kf_below _ _ _, _, rfl, l, as, t.kids, x, rfl, x2.hs _ _ (hG _ _ h2), h4.mono (Same.trans x2.gs x2.gh), h3, fun r3 b3 n3 t3 => ?_⟩
        have x3 : Ext G H G2 (upd H2 r3 (.lst (b3.map V.ref))) := x2.trans (.alloc x2.gh n3 _)
        have nr3 : row ≠ r3 := ne_of_none hrow2 n3
        refine ⟨_, rfl, G2, r3, b3, partedKnots t.kids x, x, rr, rfl, x3.gh, upd_same, t3 G2 (h4.mono x2.gs), e3, fun r4 b4 G4 H4 y4 n4 g4 hr4 t4 => ?_⟩
        have x4 := x3.trans y4
        have hrow3 : (upd H2 r3 (.lst (b3.map V.ref))) row = some (.lst (b2.map V.ref)) := by rw [upd_ne nr3]; exact hrow2
        have hrow4 := y4.hs _ _ hrow3
        have grow4 : G4 row = none := y4.none grow hrow3
        refine ⟨row, r4, _, _, rfl, rfl, hrow4, hr4, by rw [List.length_map, List.length_map, t2.length, t4.length]; exact sz100 (by omega), ?_⟩
        have x5 : Ext G H G4 (upd H4 row (.lst (b2.map V.ref ++ b4.map V.ref))) := x4.put nrow0 grow4 _
        refine ⟨_, rfl, .inl ⟨rfl, _, SqL.of upd_same⟩, _, rfl, a, C, dx, _, _, rfl, x5.hs _ _ (hG _ _ h1), T.cl, T.nB, kf_below _ _ _, _, rfl, l, as, t.kids, x, rfl, x5.hs _ _ (hG _ _ h2), h4.mono (Same.trans x5.gs x5.gh), h3, fun r6 b6 n6 t6 => ?_⟩
        have nr6 : row ≠ r6 := ne_of_none upd_same n6
        have n60 := x5.hs.free n6
        have x6 : Ext G H (upd G4 r6 (.lst (b6.map V.ref))) (upd (upd H4 row (.lst (b2.map V.ref ++ b4.map V.ref))) r6 (.lst (b6.map V.ref))) := (x5.trans (.alloc x5.gh n6 _)).rest n60 (Same.free x5.gh n6) upd_same
        have gs6 : Same G4 (upd G4 r6 (.lst (b6.map V.ref))) := same_new (Same.free x5.gh n6) _
        refine ⟨upd G4 r6 (.lst (b6.map V.ref)), r6, b6, fullKnots t.kids x, rfl, x6.gh, upd_same, (t6 G4 (h4.mono x5.gs)).mono gs6, filter_len h3, fun r7 b7 G7 H7 y7 n7 g7 hr7 t7 => ?_⟩
        have hrow6 : (upd (upd H4 row (.lst (b2.map V.ref ++ b4.map V.ref))) r6 (.lst (b6.map V.ref))) row = some (.lst (b2.map V.ref ++ b4.map V.ref)) := by rw [upd_ne nr6]; exact upd_same
        have grow6 : (upd G4 r6 (.lst (b6.map V.ref))) row = none := by rw [upd_ne nr6]; exact grow4
        have hrow7 := y7.hs _ _ hrow6
        have grow7 := y7.none grow6 hrow6
        refine ⟨row, r7, _, _, rfl, rfl, hrow7, hr7, by rw [List.length_append, List.length_map, List.length_map, List.length_map, t2.length, t4.length, t7.length]; exact sz100 (by omega), ?_⟩
        have x7 := (x6.trans y7).put nrow0 grow7 (.lst (b2.map V.ref ++ b4.map V.ref ++ b7.map V.ref))
        refine ⟨_, rfl, kk row (b2 ++ b4 ++ b7) G7 _ x7 nrow0 grow7 (by rw [upd_same, List.map_append, List.map_append]) ?_⟩
        exact TreesAt.append t7 (TreesAt.append (t4.mono (Same.trans gs6 y7.gs)) (t2.mono (Same.trans y4.gs (Same.trans gs6 y7.gs))))
end
end Ts
end
section
namespace Ts
open PySem PySem.Spec PyProof.Rows L2
noncomputable abbrev sKeeping : Stmt := top 4
noncomputable abbrev sFreeKeep : Stmt := top 5
noncomputable abbrev sTurnKeep : Stmt := top 6
noncomputable def NewTree (C : Addr) (G H : Hp) (Q : VK) : Option T → Prop
  | none => ∀ (G' H' : Hp), Ext G H G' H' → Q .non H'
  | some t => ∀ (a : Addr) (G' H' : Hp), Ext G H G' H' → TreeAt C G' a t → Q (.ref a) H'
noncomputable def spKeepList (C : Addr) (g : List T → Nat → Option (Option T)) : Sp := fun vs H Q _ => ∃ (G : Hp) (l : Addr) (as : List Addr) (ts : List T) (x : Nat) (o : Option T), vs = [.ref l, .int (x : Int)] ∧ Same G H ∧ H l = some (.lst (as.map V.ref)) ∧ TreesAt C G as ts ∧ ts.length ≤ 100 ∧ g ts x = some o ∧ NewTree C G H Q o
noncomputable def spKeep (C : Addr) (n : Nat) : Sp := fun vs H Q _ => ∃ (G : Hp) (a : Addr) (t : T) (x : Nat) (o : Option T), vs = [.ref a, .int (x : Int)] ∧ Same G H ∧ TreeAt C G a t ∧ keep n t x = some o ∧ NewTree C G H Q o
theorem turnRow_cons {n x : Nat} {k : T} {r us : List T} {b : Bool} (h : turnRow n x (k :: r) b = some us) : ∃ p q, rowOf n k x = some p ∧ turnRow n x r (b || !isEmpty k x) = some q ∧ us = (bif b then p.reverse else p) ++ q ∧ us.length ≤ 100 := by
  unfold turnRow at h
  cases e : rowOf n k x with
  | none => rw [e] at h; cases h
  | some p =>
    rw [e] at h
    have h : (match turnRow n x r (b || !isEmpty k x) with | none => none | some q => capped ((bif b then p.reverse else p) ++ q)) = some us := h
    cases e2 : turnRow n x r (b || !isEmpty k x) with
    | none => rw [e2] at h; cases h
    | some q =>
      rw [e2] at h
      obtain ⟨h1, h2⟩ := capped_some h
      exact ⟨p, q, rfl, rfl, h1, h2⟩
theorem turnRow_len {n x : Nat} {b : Bool} {ts us : List T} (h : turnRow n x ts b = some us) : us.length ≤ 100 := by
  cases ts with
  | nil =>
    have h : [] = us := Option.some.inj h
    subst h
    exact Nat.zero_le _
  | cons k r =>
    obtain ⟨_, _, _, _, _, h⟩ := turnRow_cons h
    exact h
theorem cut_to (xs : List V) (k : Nat) : cutV xs none (some (k : Int)) = xs.take k := by
  unfold cutV
  rw [HT.sIx_none, HT.sIx_nat, List.drop_zero, Nat.sub_zero]
  by_cases h : k ≤ xs.length
  · rw [Nat.min_eq_left h]
  · rw [Nat.min_eq_right (by omega), List.take_length, List.take_of_length_le (by omega)]
theorem cut_from (xs : List V) (k : Nat) : cutV xs (some (k : Int)) none = xs.drop k := by
  unfold cutV
  rw [HT.sIx_none, HT.sIx_nat]
  by_cases h : k ≤ xs.length
  · rw [Nat.min_eq_left h, List.take_of_length_le (by rw [List.length_drop]; exact Nat.le_refl _)]
  · rw [Nat.min_eq_right (by omega), List.drop_length, List.drop_eq_nil_of_le (by omega)]
    exact List.take_nil
section
variable {P : Program} {w : World} {K : PySem.W.Frag} {mg : Str → Option Value} {base : Heap} {C : Addr}
theorem scTK : FnScope ["below", "wanted", "row", "begun", "knot", "pieces"] ["below", "wanted"] (defScope sTurnKeep) := ⟨rfl, rfl, rfl, by decide +kernel, rfl, by decide +kernel, by decide +kernel⟩
theorem spKeepList_len {g : List T → Nat → Option (Option T)} (vs : List V) (H : Hp) (Q : VK) (E : XK) (h : spKeepList C g vs H Q E) : vs.length = (["below", "wanted"] : List Str).length := by
  obtain ⟨G, l, as, ts, x, o, rfl, _⟩ := h
  rfl
theorem ok_turn_keep {n k : Nat} (S : Src K mg "turning_knot_keeping" sTurnKeep ["below", "wanted"]) (T : Txt K mg C) (hk : 6 ≤ k) (D1 : Def P w K mg base k "row_of" ["knot", "wanted"] (spRow C n))
    (De : Def P w K mg base 1 "is_empty" ["knot", "wanted"] (spAsk C isEmpty)) (Dr : Def P w K mg base 1 "turned_round" ["row"] spRound) (Ds : Def P w K mg base 2 "stands_together" ["row", "wanted"] (spTogether C))
    (Dt : Def P w K mg base 4 "turning_knot" ["row"] (spOne C true)) : Def P w K mg base (k + 1) "turning_knot_keeping" ["below", "wanted"] (spKeepList C (turnKeep n)) := by
  refine S.ok scTK spKeepList_len (fun f cdv A outer s H vs Q E hr h => ?_)
  obtain ⟨G, l, as, ts, x, o, rfl, hG, hl, ht, hts, hj, kk⟩ := h
  have r1 : Room 1 _ := hr.mono (by omega)
  have r2 : Room 2 _ := hr.mono (by omega)
  have r4 : Room 4 _ := hr.mono (by omega)
  unfold turnKeep at hj
  cases ej : turnRow n x ts false with
  | none => rw [ej] at hj; cases hj
  | some us =>
  rw [ej] at hj
  have hj : (bif standsTogether us x then some (turningKnot us) else none) = o := Option.some.inj hj
  have hlen := turnRow_len ej
  refine ⟨_, pss_cons (ps_set (i := 2) scTK.nd rfl (Or.inl rfl) (pe_lst pa_nil)) (pss_cons (ps_set (i := 3) scTK.nd rfl (Or.inl rfl) pe_bl)
    (pss_cons (ps_for PassesOwn.never rfl (pi_list (pv 0)) (pg_name (i := 4) scTK.nd rfl (Or.inl rfl))
      (pss_cons (ps_set (i := 5) scTK.nd rfl (Or.inl rfl) (pe_def D1 hr rfl (pa_cons (pv 4) (pa_cons (pv 1) pa_nil))))
      (pss_cons (ps_if (pt_val (pv 3)) (pss_one (ps_set (i := 5) scTK.nd rfl (Or.inl rfl) (pe_def Dr r1 rfl (pa_cons (pv 5) pa_nil)))) pss_nil)
      (pss_cons (ps_expr (pe_bm PySem.F.plainAttrs_list PySem.F.slot_list_extend PySem.F.type_list_extend mt_extend (pv 2) (pa_cons (pv 5) pa_nil)))
      (pss_one (ps_set (i := 3) scTK.nd rfl (Or.inl rfl) (pe_or (pv 3) (pe_one (pe_not (pe_def De r1 rfl (pa_cons (pv 4) (pa_cons (pv 1) pa_nil))))))))))))
    (pss_cons (ps_if (pt_not (pt_val (pe_def Ds r2 rfl (pa_cons (pv 2) (pa_cons (pv 1) pa_nil))))) (pss_one (ps_ret pe_non)) pss_nil)
    (pss_one (ps_ret (pe_def Dt r4 rfl (pa_cons (pv 2) pa_nil))))))), ?_⟩
  refine ⟨(by show 0 ≤ sizeLine; decide), fun row nrow => ?_⟩
  have x0 : Ext G H G (upd H row (.lst [])) := .alloc hG nrow _
  refine ⟨_, rfl, l, rfl, ⟨_, SqL.of (x0.hs _ _ hl)⟩, for_list (K := K) (a := l) (xs := as.map V.ref) (fun i σ H' => ∃ (G' : Hp) (bs : List Addr) (acc rest : List Ts.T) (b : Bool) (v v2 : Option V), σ = [some (.ref l), some (.int (x : Int)), some (.ref row), some (.bl b), v, v2] ∧ Ext G H G' H' ∧ G' row = none ∧
        H' row = some (.lst (bs.map V.ref)) ∧ TreesAt C G' bs acc ∧ turnRow n x (ts.drop i) b = some rest ∧ acc ++ rest = us)
      ⟨G, [], [], us, false, none, none, rfl, x0, Same.free hG nrow, upd_same, .nil, ej, rfl⟩ (fun i σ H' _ ⟨G', bs, acc, rest, b, v, v2, _, e, _⟩ => SqL.of (e.hs _ _ hl)) ?_ ?_⟩
  · rintro i y σ H' hi ⟨G', bs, acc, rest, b, v, v2, rfl, e, gr, hrow, hb, hjr, hap⟩
    obtain ⟨a, ha, rfl⟩ := ref_at hi
    obtain ⟨t, ht1, ht2⟩ := ht.get ha
    have hd : ts.drop i = t :: ts.drop (i + 1) := by
      obtain ⟨h1, h2⟩ := List.getElem?_eq_some_iff.mp ht1
      rw [← h2]
      exact List.drop_eq_getElem_cons h1
    rw [hd] at hjr
    obtain ⟨p, q, h1, h2, h3, h4⟩ := turnRow_cons hjr
    subst h3
    refine ⟨_, rfl, _, rfl, G', a, t, x, p, rfl, e.gh, ht2.mono e.gs, h1, fun r cs G2 H2 e2 nr gr2 hr2 hc => ?_⟩
    have gr3 := e2.none gr hrow
    have lp : (bif b then p.reverse else p).length = p.length := by
      cases b
      · rfl
      · exact List.length_reverse ..
    have l1 : acc.length + p.length ≤ 100 := by
      rw [← hap, List.length_append, List.length_append, lp] at hlen
      omega
    have x2 := e.trans e2
    refine ⟨_, rfl, _, rfl, ?_⟩
    cases b with
    | true =>
      refine iteT ⟨_, rfl, r, _, rfl, hr2, fun r' nr' => ?_⟩
      obtain ⟨cs', H3, e3, x3, s3, hr3, hc3⟩ : ∃ (cs' : List Addr) (H3 : Hp), upd H2 r' (.lst (cs.map V.ref).reverse) = H3 ∧ Ext G H G2 H3 ∧ Same H2 H3 ∧ H3 r' = some (.lst (cs'.map V.ref)) ∧ TreesAt C G2 cs' p.reverse :=
        ⟨cs.reverse, _, rfl, x2.trans (.alloc x2.gh nr' _), same_new nr' _, by rw [upd_same, List.map_reverse], hc.reverse⟩
      rw [e3]
      have hrow3 := s3 _ _ (e2.hs _ _ hrow)
      refine ⟨_, rfl, .inl ⟨rfl, _, SqL.of hrow3⟩, _, rfl, row, r', _, _, rfl, rfl, hrow3, hr3, by rw [List.length_map, List.length_map, hb.length, hc3.length, List.length_reverse]; exact sz100 (by omega), ?_⟩
      have x4 := x3.put nrow gr3 (.lst (bs.map V.ref ++ cs'.map V.ref))
      refine ⟨_, rfl, _, rfl, iteT ?_⟩
      exact ⟨G2, bs ++ cs', _, q, true, some (.ref a), some (.ref r'), rfl, x4, gr3, by rw [upd_same, List.map_append], TreesAt.append hc3 (hb.mono e2.gs), h2, by rw [List.append_assoc]; exact hap⟩
    | false =>
      refine iteF ?_
      obtain ⟨r', cs', H3, er, e3, x3, s3, hr3, hc3⟩ : ∃ (r' : Addr) (cs' : List Addr) (H3 : Hp), r = r' ∧ H2 = H3 ∧ Ext G H G2 H3 ∧ Same H2 H3 ∧ H3 r' = some (.lst (cs'.map V.ref)) ∧ TreesAt C G2 cs' p :=
        ⟨r, cs, _, rfl, rfl, x2, .refl _, hr2, hc⟩
      subst er e3
      have hrow3 := s3 _ _ (e2.hs _ _ hrow)
      refine ⟨_, rfl, .inl ⟨rfl, _, SqL.of hrow3⟩, _, rfl, row, r, _, _, rfl, rfl, hrow3, hr3, by rw [List.length_map, List.length_map, hb.length, hc3.length]; exact sz100 (by omega), ?_⟩
      have x4 := x3.put nrow gr3 (.lst (bs.map V.ref ++ cs'.map V.ref))
      refine ⟨_, rfl, _, rfl, iteF ⟨_, rfl, _, rfl, a, t, x, rfl, ht2.mono (Same.trans x4.gs x4.gh), _, rfl, ?_⟩⟩
      exact ⟨G2, bs ++ cs', _, q, _, some (.ref a), some (.ref r), rfl, x4, gr3, by rw [upd_same, List.map_append], TreesAt.append hc3 (hb.mono e2.gs), h2, by rw [List.append_assoc]; exact hap⟩
  · rintro σ H' ⟨G', bs, acc, rest, b, v, v2, rfl, e, gr, hrow, hb, hjr, hap⟩
    have el : (as.map V.ref).length = ts.length := by rw [List.length_map, ht.length]
    rw [el, List.drop_length] at hjr
    have hr0 : [] = rest := Option.some.inj hjr
    subst hr0
    rw [List.append_nil] at hap
    subst hap
    refine ⟨_, rfl, _, rfl, row, bs, acc, x, rfl, hrow, hb.mono e.gh, _, rfl, ?_⟩
    cases es : standsTogether acc x with
    | false =>
      rw [es] at hj
      have hj : none = o := hj
      subst hj
      exact iteT (kk G' H' e)
    | true =>
      rw [es] at hj
      have hj : some (turningKnot acc) = o := hj
      subst hj
      have x2 := e.rest nrow gr hrow
      have s2 : Same G' (upd G' row (.lst (bs.map V.ref))) := same_new gr _
      exact iteF ⟨_, rfl, _, row, bs, acc, rfl, x2.gh, upd_same, hb.mono s2, hlen, fun a' G3 H3 e3 hA => kk a' G3 H3 (x2.trans e3) hA⟩
end
end Ts
end
section
namespace Ts
open PySem PySem.Spec PyProof.Rows L2
section
variable {P : Program} {w : World} {K : PySem.W.Frag} {mg : Str → Option Value} {base : Heap} {C : Addr}
theorem scFr : FnScope ["below", "wanted", "row", "parted", "knot"] ["below", "wanted"] (defScope sFreeKeep) := ⟨rfl, rfl, rfl, by decide +kernel, rfl, by decide +kernel, by decide +kernel⟩
theorem freeKeep_some {n x : Nat} {bl : List T} {o : Option T} (h : freeKeep n bl x = some o) : ∃ r1 r3 row, joined (fun c => rowOf n c x) ((partedKnots bl x).take 1) = some r1 ∧ joined (fun c => (rowOf n c x).map List.reverse) ((partedKnots bl x).drop 1) = some r3 ∧
    row = r1 ++ asOne (fullKnots bl x) ++ r3 ∧ row.length ≤ 100 ∧ bl.length < 100 ∧ o = (bif standsTogether row x then some (freeKnot (emptyKnots bl x ++ [turningKnot row])) else none) := by
  unfold freeKeep at h
  cases e1 : joined (fun c => rowOf n c x) ((partedKnots bl x).take 1) with
  | none => rw [e1] at h; cases h
  | some r1 =>
    rw [e1] at h
    cases e2 : joined (fun c => (rowOf n c x).map List.reverse) ((partedKnots bl x).drop 1) with
    | none =>
      have h : (match joined (fun c => (rowOf n c x).map List.reverse) ((partedKnots bl x).drop 1) with
        | none => none
        | some r3 => match capped (r1 ++ asOne (fullKnots bl x) ++ r3) with
          | none => none
          | some row => bif Nat.blt bl.length 100 then some (bif standsTogether row x then some (freeKnot (emptyKnots bl x ++ [turningKnot row])) else none) else none) = some o := h
      rw [e2] at h; cases h
    | some r3 =>
      have h : (match joined (fun c => (rowOf n c x).map List.reverse) ((partedKnots bl x).drop 1) with
        | none => none
        | some r3 => match capped (r1 ++ asOne (fullKnots bl x) ++ r3) with
          | none => none
          | some row => bif Nat.blt bl.length 100 then some (bif standsTogether row x then some (freeKnot (emptyKnots bl x ++ [turningKnot row])) else none) else none) = some o := h
      rw [e2] at h
      have h : (match capped (r1 ++ asOne (fullKnots bl x) ++ r3) with
          | none => none
          | some row => bif Nat.blt bl.length 100 then some (bif standsTogether row x then some (freeKnot (emptyKnots bl x ++ [turningKnot row])) else none) else none) = some o := h
      cases e3 : capped (r1 ++ asOne (fullKnots bl x) ++ r3) with
      | none => rw [e3] at h; cases h
      | some row =>
        rw [e3] at h
        have h : (bif Nat.blt bl.length 100 then some (bif standsTogether row x then some (freeKnot (emptyKnots bl x ++ [turningKnot row])) else none) else none) = some o := h
        cases e4 : Nat.blt bl.length 100 with
        | false => rw [e4] at h; cases h
        | true =>
          rw [e4] at h
          obtain ⟨h1, h2⟩ := capped_some e3
          refine ⟨r1, r3, row, rfl, rfl, h1, h2, ?_, (Option.some.inj h).symm⟩
          exact Nat.le_of_ble_eq_true e4
theorem ok_free_keep {n k : Nat} (S : Src K mg "free_knot_keeping" sFreeKeep ["below", "wanted"]) (T : Txt K mg C) (hk : 6 ≤ k) (D1 : Def P w K mg base k "row_of" ["knot", "wanted"] (spRow C n))
    (Dr : Def P w K mg base 1 "turned_round" ["row"] spRound) (Ds : Def P w K mg base 2 "stands_together" ["row", "wanted"] (spTogether C))
    (De : Def P w K mg base 2 "empty_knots" ["knots", "wanted"] (spPick C isEmpty)) (Df : Def P w K mg base 2 "full_knots" ["knots", "wanted"] (spPick C isFull)) (Dp : Def P w K mg base 3 "parted_knots" ["knots", "wanted"] (spPick C fun t x => !isWhole t x))
    (Do : Def P w K mg base 5 "as_one" ["knots"] (spAsOne C)) (Dt : Def P w K mg base 4 "turning_knot" ["row"] (spOne C true)) (Dfr : Def P w K mg base 4 "free_knot" ["below"] (spOne C false)) :
    Def P w K mg base (k + 1) "free_knot_keeping" ["below", "wanted"] (spKeepList C (freeKeep n)) := by
  refine S.ok scFr spKeepList_len (fun f cdv A outer s H vs Q E hr h => ?_)
  obtain ⟨G, l, as, ts, x, o, rfl, hG, hl, ht, hts, hj, kk⟩ := h
  have r1 : Room 1 _ := hr.mono (by omega)
  have r2 : Room 2 _ := hr.mono (by omega)
  have r3 : Room 3 _ := hr.mono (by omega)
  have r4 : Room 4 _ := hr.mono (by omega)
  have r5 : Room 5 _ := hr.mono (by omega)
  obtain ⟨u1, u3, row, hj1, hj3, hrow, hlen, hbl, ho⟩ := freeKeep_some hj
  have lens : u1.length + (asOne (fullKnots ts x)).length + u3.length ≤ 100 := by
    rw [hrow, List.length_append, List.length_append] at hlen
    exact hlen
  refine ⟨_, pss_cons (ps_set (i := 2) scFr.nd rfl (Or.inl rfl) (pe_lst pa_nil))
    (pss_cons (ps_set (i := 3) scFr.nd rfl (Or.inl rfl) (pe_def Dp r3 rfl (pa_cons (pv 0) (pa_cons (pv 1) pa_nil))))
    (pss_cons (ps_for PassesOwn.never rfl (pi_list (pe_slice sl_list (pv 3) po_none (po_some pe_int))) (pg_name (i := 4) scFr.nd rfl (Or.inl rfl))
      (pss_one (ps_expr (pe_bm PySem.F.plainAttrs_list PySem.F.slot_list_extend PySem.F.type_list_extend mt_extend (pv 2) (pa_cons (pe_def D1 hr rfl (pa_cons (pv 4) (pa_cons (pv 1) pa_nil))) pa_nil)))))
    (pss_cons (ps_expr (pe_bm PySem.F.plainAttrs_list PySem.F.slot_list_extend PySem.F.type_list_extend mt_extend (pv 2) (pa_cons (pe_def Do r5 rfl (pa_cons (pe_def Df r2 rfl (pa_cons (pv 0) (pa_cons (pv 1) pa_nil))) pa_nil)) pa_nil)))
    (pss_cons (ps_for PassesOwn.never rfl (pi_list (pe_slice sl_list (pv 3) (po_some pe_int) po_none)) (pg_name (i := 4) scFr.nd rfl (Or.inl rfl))
      (pss_one (ps_expr (pe_bm PySem.F.plainAttrs_list PySem.F.slot_list_extend PySem.F.type_list_extend mt_extend (pv 2) (pa_cons (pe_def Dr r1 rfl (pa_cons (pe_def D1 hr rfl (pa_cons (pv 4) (pa_cons (pv 1) pa_nil))) pa_nil)) pa_nil)))))
    (pss_cons (ps_if (pt_not (pt_val (pe_def Ds r2 rfl (pa_cons (pv 2) (pa_cons (pv 1) pa_nil))))) (pss_one (ps_ret pe_non)) pss_nil)
    (pss_one (ps_ret (pe_def Dfr r4 rfl (pa_cons (pe_op op_cat (pe_def De r2 rfl (pa_cons (pv 0) (pa_cons (pv 1) pa_nil))) (pe_lst (pa_cons (pe_def Dt r4 rfl (pa_cons (pv 2) pa_nil)) pa_nil))) pa_nil))))))))), ?_⟩
  refine ⟨(by show 0 ≤ sizeLine; decide), fun row' nrow => ?_⟩
  have x0 : Ext G H G (upd H row' (.lst [])) := .alloc hG nrow _
  refine ⟨_, rfl, _, rfl, l, as, ts, x, rfl, x0.hs _ _ hl, ht.mono x0.gh, hts, fun pl bp npl tp => ?_⟩
  have x1 : Ext G H G (upd (upd H row' (.lst [])) pl (.lst (bp.map V.ref))) := x0.trans (.alloc x0.gh npl _)
  have np0 : H pl = none := x0.hs.free npl
  have npr : row' ≠ pl := ne_of_none upd_same npl
  have tpG := tp G ht
  have lp : (partedKnots ts x).length ≤ 100 := filter_len hts
  refine ⟨_, rfl, _, rfl, pl, _, rfl, SqL.of upd_same, fun c1 nc1 => ?_⟩
  have ec1 : cutV (bp.map V.ref) none (some (1 : Int)) = (bp.take 1).map V.ref := by
    rw [show (1 : Int) = ((1 : Nat) : Int) from rfl, cut_to, List.map_take]
  rw [ec1]
  have x2 := x1.trans (.alloc x1.gh nc1 (.lst ((bp.take 1).map V.ref)))
  have nc0 : H c1 = none := x1.hs.free nc1
  have nc1r : row' ≠ c1 := ne_of_none (show (upd (upd H row' (.lst [])) pl (.lst (bp.map V.ref))) row' = some (.lst []) by rw [upd_ne npr]; exact upd_same) nc1
  have tp1 : TreesAt C G (bp.take 1) ((partedKnots ts x).take 1) := tpG.take 1
  refine ⟨c1, rfl, ⟨_, SqL.of upd_same⟩, for_list (K := K) (a := c1) (xs := (bp.take 1).map V.ref) (fun i σ H' => ∃ (G' : Hp) (bs : List Addr) (acc rest : List Ts.T) (v : Option V), σ = [some (.ref l), some (.int (x : Int)), some (.ref row'), some (.ref pl), v] ∧ Ext G H G' H' ∧ G' row' = none ∧
        H' row' = some (.lst (bs.map V.ref)) ∧ H' pl = some (.lst (bp.map V.ref)) ∧ H' c1 = some (.lst ((bp.take 1).map V.ref)) ∧ TreesAt C G' bs acc ∧ joined (fun c => rowOf n c x) (((partedKnots ts x).take 1).drop i) = some rest ∧ acc ++ rest = u1)
      ⟨G, [], [], u1, none, rfl, x2, Same.free hG nrow, by rw [upd_ne nc1r, upd_ne npr]; exact upd_same, by rw [upd_ne (ne_of_none upd_same nc1)]; exact upd_same, upd_same, .nil, hj1, rfl⟩ (fun i σ H' _ ⟨G', bs, acc, rest, v, _, e, _, _, _, hc, _⟩ => SqL.of hc) ?_ ?_⟩
  · rintro i y σ H' hi ⟨G', bs, acc, rest, v, rfl, e, gr, hrow', hpl, hc1, hb, hjr, hap⟩
    obtain ⟨a, ha, rfl⟩ := ref_at hi
    obtain ⟨t, ht1, ht2⟩ := tp1.get ha
    have hd : ((partedKnots ts x).take 1).drop i = t :: ((partedKnots ts x).take 1).drop (i + 1) := by
      obtain ⟨h1, h2⟩ := List.getElem?_eq_some_iff.mp ht1
      rw [← h2]
      exact List.drop_eq_getElem_cons h1
    rw [hd] at hjr
    obtain ⟨p, q, h1, h2, h3, h4⟩ := joined_cons hjr
    subst h3
    refine ⟨_, rfl, .inl ⟨rfl, _, SqL.of hrow'⟩, _, rfl, _, rfl, G', a, t, x, p, rfl, e.gh, ht2.mono e.gs, h1, fun r cs G2 H2 e2 nr gr2 hr2 hc => ?_⟩
    have hrow2 := e2.hs _ _ hrow'
    have gr3 := e2.none gr hrow'
    have l1 : acc.length + p.length ≤ 100 := by
      rw [← hap, List.length_append, List.length_append] at lens
      omega
    have d1 : pl ≠ row' := fun q => npr q.symm
    have d2 : c1 ≠ row' := fun q => nc1r q.symm
    refine ⟨row', r, _, _, rfl, rfl, hrow2, hr2, by rw [List.length_map, List.length_map, hb.length, hc.length]; exact sz100 (by omega), ?_⟩
    refine ⟨G2, bs ++ cs, acc ++ p, q, some (.ref a), rfl, (e.trans e2).put nrow gr3 _, gr3, by rw [upd_same, List.map_append], by rw [upd_ne d1]; exact e2.hs _ _ hpl, by rw [upd_ne d2]; exact e2.hs _ _ hc1, TreesAt.append hc (hb.mono e2.gs), h2, by rw [List.append_assoc]; exact hap⟩
  · rintro σ H' ⟨G', bs, acc, rest, v, rfl, e, gr, hrow', hpl, hc1, hb, hjr, hap⟩
    have el : ((bp.take 1).map V.ref).length = ((partedKnots ts x).take 1).length := by rw [List.length_map, tp1.length]
    rw [el, List.drop_length] at hjr
    have hr0 : [] = rest := Option.some.inj hjr
    subst hr0
    rw [List.append_nil] at hap
    subst hap
    refine ⟨_, rfl, .inl ⟨rfl, _, SqL.of hrow'⟩, _, rfl, _, rfl, l, as, ts, x, rfl, e.hs _ _ hl, ht.mono (Same.trans e.gs e.gh), hts, fun r6 b6 n6 t6 => ?_⟩
    have n60 := e.hs.free n6
    have nr6 : row' ≠ r6 := ne_of_none hrow' n6
    have x6 : Ext G H (upd G' r6 (.lst (b6.map V.ref))) (upd H' r6 (.lst (b6.map V.ref))) := (e.trans (.alloc e.gh n6 _)).rest n60 (Same.free e.gh n6) upd_same
    have gs6 : Same G' (upd G' r6 (.lst (b6.map V.ref))) := same_new (Same.free e.gh n6) _
    refine ⟨upd G' r6 (.lst (b6.map V.ref)), r6, b6, fullKnots ts x, rfl, x6.gh, upd_same, (t6 G' (ht.mono e.gs)).mono gs6, filter_len hts, fun r7 b7 G7 H7 y7 n7 g7 hr7 t7 => ?_⟩
    have hrow6 : (upd H' r6 (.lst (b6.map V.ref))) row' = some (.lst (bs.map V.ref)) := by rw [upd_ne nr6]; exact hrow'
    have grow6 : (upd G' r6 (.lst (b6.map V.ref))) row' = none := by rw [upd_ne nr6]; exact gr
    have hrow7 := y7.hs _ _ hrow6
    have grow7 := y7.none grow6 hrow6
    refine ⟨row', r7, _, _, rfl, rfl, hrow7, hr7, by rw [List.length_map, List.length_map, hb.length, t7.length]; exact sz100 (by omega), ?_⟩
    have x7 := (x6.trans y7).put nrow grow7 (.lst (bs.map V.ref ++ b7.map V.ref))
    have d1 : pl ≠ row' := fun q => npr q.symm
    have hpl7 : (upd H7 row' (.lst (bs.map V.ref ++ b7.map V.ref))) pl = some (.lst (bp.map V.ref)) := by
      rw [upd_ne d1]
      refine y7.hs _ _ ?_
      rw [upd_ne (ne_of_none hpl n6)]
      exact hpl
    have tb7 : TreesAt C G7 (bs ++ b7) (acc ++ asOne (fullKnots ts x)) := TreesAt.append t7 (hb.mono (Same.trans gs6 y7.gs))
    refine ⟨_, rfl, _, rfl, pl, _, rfl, SqL.of hpl7, fun c2 nc2 => ?_⟩
    have ec2 : cutV (bp.map V.ref) (some (1 : Int)) none = (bp.drop 1).map V.ref := by
      rw [show (1 : Int) = ((1 : Nat) : Int) from rfl, cut_from, List.map_drop]
    rw [ec2]
    have x8 := x7.trans (.alloc x7.gh nc2 (.lst ((bp.drop 1).map V.ref)))
    have nc2r : row' ≠ c2 := ne_of_none upd_same nc2
    have tp2 : TreesAt C G (bp.drop 1) ((partedKnots ts x).drop 1) := tpG.drop 1
    refine ⟨c2, rfl, ⟨_, SqL.of upd_same⟩, for_list (K := K) (a := c2) (xs := (bp.drop 1).map V.ref) (fun i σ H' => ∃ (G' : Hp) (bs' : List Addr) (acc' rest : List Ts.T) (v : Option V), σ = [some (.ref l), some (.int (x : Int)), some (.ref row'), some (.ref pl), v] ∧ Ext G H G' H' ∧ G' row' = none ∧
          H' row' = some (.lst (bs'.map V.ref)) ∧ H' c2 = some (.lst ((bp.drop 1).map V.ref)) ∧ TreesAt C G' bs' acc' ∧ joined (fun c => (rowOf n c x).map List.reverse) (((partedKnots ts x).drop 1).drop i) = some rest ∧ acc' ++ rest = acc ++ asOne (fullKnots ts x) ++ u3)
        ⟨G7, bs ++ b7, acc ++ asOne (fullKnots ts x), u3, v, rfl, x8, grow7, by rw [upd_ne nc2r, upd_same, List.map_append], upd_same, tb7, hj3, rfl⟩ (fun i σ H' _ ⟨G', bs, acc, rest, v, _, e, _, _, hc, _⟩ => SqL.of hc) ?_ ?_⟩
    · rintro i y σ H8 hi ⟨G8, bs8, acc8, rest8, v8, rfl, e8, gr8, hrow8, hc8, hb8, hjr8, hap8⟩
      obtain ⟨a, ha, rfl⟩ := ref_at hi
      obtain ⟨t, ht1, ht2⟩ := tp2.get ha
      have hd : ((partedKnots ts x).drop 1).drop i = t :: ((partedKnots ts x).drop 1).drop (i + 1) := by
        obtain ⟨h1, h2⟩ := List.getElem?_eq_some_iff.mp ht1
        rw [← h2]
        exact List.drop_eq_getElem_cons h1
      rw [hd] at hjr8
      obtain ⟨p, q, h1, h2, h3, h4⟩ := joined_cons hjr8
      subst h3
      obtain ⟨p', hp', rfl⟩ : ∃ p', rowOf n t x = some p' ∧ p = p'.reverse := by
        cases e9 : rowOf n t x with
        | none => rw [e9] at h1; cases h1
        | some p' => rw [e9] at h1; exact ⟨p', rfl, (Option.some.inj h1).symm⟩
      refine ⟨_, rfl, .inl ⟨rfl, _, SqL.of hrow8⟩, _, rfl, _, rfl, G8, a, t, x, p', rfl, e8.gh, ht2.mono e8.gs, hp', fun r cs G2 H2 e2 nr gr2 hr2 hc => ?_⟩
      refine ⟨r, _, rfl, hr2, fun r' nr' => ?_⟩
      have hrow2 := e2.hs _ _ hrow8
      have gr3 := e2.none gr8 hrow8
      have l1 : acc8.length + p'.length ≤ 100 := by
        have q1 := congrArg List.length hap8
        rw [List.length_append, List.length_append, List.length_append, List.length_append, List.length_reverse] at q1
        omega
      have d2 : c2 ≠ row' := fun q => nc2r q.symm
      have dr : row' ≠ r' := ne_of_none hrow2 nr'
      have dc : c2 ≠ r' := ne_of_none (e2.hs _ _ hc8) nr'
      have x9 : Ext G H G2 (upd H2 r' (.lst (cs.map V.ref).reverse)) := (e8.trans e2).trans (.alloc e2.gh nr' _)
      refine ⟨row', r', _, _, rfl, rfl, by rw [upd_ne dr]; exact hrow2, upd_same, by rw [List.length_map, List.length_reverse, List.length_map, hb8.length, hc.length]; exact sz100 (by omega), ?_⟩
      refine ⟨G2, bs8 ++ cs.reverse, acc8 ++ p'.reverse, q, some (.ref a), rfl, x9.put nrow gr3 _, gr3, by rw [upd_same, List.map_append, List.map_reverse], by rw [upd_ne d2, upd_ne dc]; exact e2.hs _ _ hc8, TreesAt.append hc.reverse (hb8.mono e2.gs), h2, by rw [List.append_assoc]; exact hap8⟩
    · rintro σ H8 ⟨G8, bs8, acc8, rest8, v8, rfl, e8, gr8, hrow8, hc8, hb8, hjr8, hap8⟩
      have el2 : ((bp.drop 1).map V.ref).length = ((partedKnots ts x).drop 1).length := by rw [List.length_map, tp2.length]
      rw [el2, List.drop_length] at hjr8
      have hr0 : [] = rest8 := Option.some.inj hjr8
      subst hr0
      rw [List.append_nil] at hap8
      have hacc : acc8 = row := hap8.trans hrow.symm
      subst hacc
      refine ⟨_, rfl, _, rfl, row', bs8, acc8, x, rfl, hrow8, hb8.mono e8.gh, _, rfl, ?_⟩
      cases es : standsTogether acc8 x with
      | false =>
        rw [es] at ho
        have ho : o = none := ho
        subst ho
        exact iteT (kk G8 H8 e8)
      | true =>
        rw [es] at ho
        have ho : o = some (freeKnot (emptyKnots ts x ++ [turningKnot acc8])) := ho
        subst ho
        refine iteF ⟨_, rfl, _, rfl, l, as, ts, x, rfl, e8.hs _ _ hl, ht.mono (Same.trans e8.gs e8.gh), hts, fun re be nre te => ?_⟩
        have y1 := e8.trans (.alloc e8.gh nre (.lst (be.map V.ref)))
        have dre : row' ≠ re := ne_of_none hrow8 nre
        have y2 := y1.rest nrow gr8 (show (upd H8 re (.lst (be.map V.ref))) row' = some (.lst (bs8.map V.ref)) by rw [upd_ne dre]; exact hrow8)
        have s2 : Same G8 (upd G8 row' (.lst (bs8.map V.ref))) := same_new gr8 _
        refine ⟨_, rfl, _, row', bs8, acc8, rfl, y2.gh, upd_same, hb8.mono s2, hlen, fun at' G9 H9 e9 hA => ?_⟩
        refine ⟨(by show 1 ≤ sizeLine; decide), fun rt nrt => ?_⟩
        have y3 := (y2.trans e9).trans (.alloc e9.gh nrt (.lst [.ref at']))
        have hre : (upd H9 rt (.lst [.ref at'])) re = some (.lst (be.map V.ref)) := by
          have q := e9.hs _ _ (show (upd H8 re (.lst (be.map V.ref))) re = some (.lst (be.map V.ref)) from upd_same)
          rw [upd_ne (ne_of_none q nrt)]
          exact q
        have teG : TreesAt C G9 be (emptyKnots ts x) := te G9 (ht.mono (Same.trans y2.gs e9.gs))
        have le : (emptyKnots ts x).length ≤ ts.length := List.length_filter_le _ _
        refine ⟨re, rt, _, _, rfl, rfl, hre, upd_same, by rw [List.length_map, teG.length]; exact sz100 (by simp only [List.length_cons, List.length_nil]; omega), fun rf nrf => ?_⟩
        have gf : G9 rf = none := Same.free y3.gh nrf
        have y4 := (y3.trans (.alloc y3.gh nrf (.lst (be.map V.ref ++ [.ref at'])))).rest (y3.hs.free nrf) gf upd_same
        have s4 : Same G9 (upd G9 rf (.lst (be.map V.ref ++ [.ref at']))) := same_new gf _
        refine ⟨_, rf, be ++ [at'], emptyKnots ts x ++ [turningKnot acc8], rfl, y4.gh, by rw [upd_same, List.map_append]; rfl, (TreesAt.append (.one hA) teG).mono s4, by rw [List.length_append]; simp only [List.length_cons, List.length_nil]; omega, fun a' G3 H3 e3 hA' => ?_⟩
        exact kk a' G3 H3 (y4.trans e3) hA'
end
end Ts
end
section
namespace Ts
open PySem PySem.Spec PyProof.Rows L2
noncomputable abbrev sTreeAll : Stmt := top 2
noncomputable abbrev sKeepAll : Stmt := top 3
noncomputable def OptAt (C : Addr) (G : Hp) : V → Option T → Prop
  | .non, none => True
  | .ref a, some t => TreeAt C G a t
  | _, _ => False
theorem OptAt.mono {C : Addr} {G G' : Hp} (e : Same G G') {v : V} {o : Option T} (h : OptAt C G v o) : OptAt C G' v o := by
  cases v with
  | non => cases o with
    | none => trivial
    | some t => exact h
  | ref a => cases o with
    | none => exact h
    | some t => exact TreeAt.mono e h
  | _ => exact h.elim
noncomputable def intsV (ws : List Nat) : List V := ws.map fun (x : Nat) => V.int (x : Int)
noncomputable def spKeepAll (C : Addr) : Sp := fun vs H Q _ => ∃ (G : Hp) (v : V) (o : Option T) (l : Addr) (ws : List Nat) (o' : Option T), vs = [v, .ref l] ∧ Same G H ∧ OptAt C G v o ∧ H l = some (.lst (intsV ws)) ∧ keepAll o ws = some o' ∧ NewTree C G H Q o'
noncomputable def spTreeAll (C : Addr) : Sp := fun vs H Q _ => ∃ (G : Hp) (n : Nat), vs = [.int (n : Int)] ∧ Same G H ∧ n ≤ 100 ∧ NewTree C G H Q (some (treeOfAll n))
section
variable {P : Program} {w : World} {K : PySem.W.Frag} {mg : Str → Option Value} {base : Heap} {C : Addr}
theorem scK : FnScope ["knot", "wanted", "below", "place", "kept"] ["knot", "wanted"] (defScope sKeeping) := ⟨rfl, rfl, rfl, by decide +kernel, rfl, by decide +kernel, by decide +kernel⟩
theorem spKeep_len {n : Nat} (vs : List V) (H : Hp) (Q : VK) (E : XK) (h : spKeep C n vs H Q E) : vs.length = (["knot", "wanted"] : List Str).length := by
  obtain ⟨G, a, t, x, us, rfl, _⟩ := h
  rfl
theorem ok_keep0 {k : Nat} (S : Src K mg "tree_keeping" sKeeping ["knot", "wanted"]) : Def P w K mg base (k + 1) "tree_keeping" ["knot", "wanted"] (spKeep C 0) :=
  S.ok scK spKeep_len (fun f cdv A outer s H vs Q E hr h => by
    obtain ⟨G, a, t, x, us, _, _, _, h, _⟩ := h
    cases h)
theorem findIdx_first {p : T → Bool} : ∀ {ts : List T} {i : Nat} {t : T}, ts[i]? = some t → p t = true → (∀ j u, j < i → ts[j]? = some u → p u = false) → ts.findIdx? p = some i
  | [], i, t, h, _, _ => by simp at h
  | u :: ts, 0, t, h, hp, _ => by
    have e := Option.some.inj h
    subst e
    rw [List.findIdx?_cons, hp]
    rfl
  | u :: ts, i + 1, t, h, hp, hn => by
    have e := hn 0 u (Nat.succ_pos _) rfl
    rw [List.findIdx?_cons, e]
    have ih := findIdx_first (ts := ts) (i := i) (t := t) h hp fun j v hj hv => hn (j + 1) v (Nat.succ_lt_succ hj) hv
    rw [ih]
    rfl
theorem findIdx_none {p : T → Bool} : ∀ {ts : List T}, (∀ (j : Nat) (u : T), ts[j]? = some u → p u = false) → ts.findIdx? p = none
  | [], _ => rfl
  | u :: ts, hn => by
    have e := hn 0 u rfl
    rw [List.findIdx?_cons, e, findIdx_none fun j v hv => hn (j + 1) v hv]
    rfl
theorem ok_keep {n k : Nat} (S : Src K mg "tree_keeping" sKeeping ["knot", "wanted"]) (T : Txt K mg C) (hk : 6 ≤ k) (D1 : Def P w K mg base k "tree_keeping" ["knot", "wanted"] (spKeep C n))
    (Dw : Def P w K mg base 2 "is_whole" ["knot", "wanted"] (spAsk C isWhole)) (Do : Def P w K mg base 3 "knot_over" ["below", "only_turns"] (spOver C))
    (Dt : Def P w K mg base k "turning_knot_keeping" ["below", "wanted"] (spKeepList C (turnKeep n))) (Df : Def P w K mg base k "free_knot_keeping" ["below", "wanted"] (spKeepList C (freeKeep n))) :
    Def P w K mg base (k + 1) "tree_keeping" ["knot", "wanted"] (spKeep C (n + 1)) := by
  refine S.ok scK spKeep_len (fun f cdv A outer s H vs Q E hr h => ?_)
  obtain ⟨G, a, t, x, o, rfl, hG, hA, hkeep, kk⟩ := h
  obtain ⟨dx, l, as, h1, h2, h3, h4⟩ := hA.inv
  have r2 : Room 2 _ := hr.mono (by omega)
  have r3 : Room 3 _ := hr.mono (by omega)
  have h1H := hG _ _ h1
  have h2H := hG _ _ h2
  refine ⟨_, pss_cons (ps_if (pt_val (pe_def Dw r2 rfl (pa_cons (pv 0) (pa_cons (pv 1) pa_nil)))) (pss_one (ps_ret (pv 0))) pss_nil)
    (pss_cons (ps_set (i := 2) scK.nd rfl (Or.inl rfl) (pe_fld (pv 0) rfl))
    (pss_cons (ps_for PassesOwn.never rfl (pi_range1 rfl T.range (pa_cons (pe_callB call_len_seq rfl T.len PySem.boot_len (pa_cons (pv 2) pa_nil)) pa_nil)) (pg_name (i := 3) scK.nd rfl (Or.inl rfl))
      (pss_one (ps_if (pt_cmpR op_eq (pe_op op_and (pe_fld (pe_ix ix_list (pv 2) (pv 3) (fun _ _ => rfl)) rfl) (pv 1)) (pv 1) (nomark _))
        (pss_cons (ps_set (i := 4) scK.nd rfl (Or.inl rfl) (pe_def D1 hr rfl (pa_cons (pe_ix ix_list (pv 2) (pv 3) (fun _ _ => rfl)) (pa_cons (pv 1) pa_nil))))
        (pss_cons (ps_if (pt_cmpR op_isN (pv 4) pe_non (nomark _)) (pss_one (ps_ret pe_non)) pss_nil)
        (pss_one (ps_ret (pe_def Do r3 rfl (pa_cons (pe_op op_cat (pe_op op_cat (pe_slice sl_list (pv 2) po_none (po_some (pv 3))) (pe_lst (pa_cons (pv 4) pa_nil))) (pe_slice sl_list (pv 2) (po_some (pe_op op_add (pv 3) pe_int)) po_none)) (pa_cons (pe_fld (pv 0) rfl) pa_nil)))))))
        pss_nil)))
    (pss_cons (ps_if (pt_val (pe_fld (pv 0) rfl)) (pss_one (ps_ret (pe_def Dt hr rfl (pa_cons (pv 2) (pa_cons (pv 1) pa_nil))))) pss_nil)
    (pss_one (ps_ret (pe_def Df hr rfl (pa_cons (pv 2) (pa_cons (pv 1) pa_nil)))))))), ?_⟩
  refine ⟨_, rfl, _, rfl, a, t, x, rfl, hA.mono hG, _, rfl, ?_⟩
  unfold keep at hkeep
  cases e1 : isWhole t x with
  | true =>
    rw [e1] at hkeep
    have hkeep : some t = o := Option.some.inj hkeep
    subst hkeep
    exact iteT ⟨_, rfl, kk a G H (.refl hG) hA⟩
  | false =>
    rw [e1] at hkeep
    have hkeep : (match t.kids.findIdx? (fun c => Nat.beq (Nat.land c.things x) x) with
    | some i => (match t.kids[i]? with
      | none => none
      | some c => match keep n c x with
        | none => none
        | some none => some none
        | some (some u) => some (some (knotOver (t.kids.take i ++ [u] ++ t.kids.drop (i + 1)) t.turns)))
    | none => bif t.turns then turnKeep n t.kids x else freeKeep n t.kids x) = some o := hkeep
    have el : (as.map V.ref).length = t.kids.length := by rw [List.length_map, h4.length]
    have en : (((as.map V.ref).length : Nat) : Int).toNat = t.kids.length := by omega
    refine iteF ⟨_, rfl, a, C, dx, _, _, rfl, h1H, T.cl, T.nB, kf_below _ _ _, ?_⟩
    refine ⟨_, rfl, l, _, rfl, .inl (SqL.of h2H), _, rfl, by omega, by omega, ?_⟩
    refine for_range (lo := 0) (n := (((as.map V.ref).length : Nat) : Int).toNat) (fun i σ H' => H' = H ∧ ∃ v : Option V, σ = [some (.ref a), some (.int (x : Int)), some (.ref l), v, none] ∧ ∀ j u, j < i → t.kids[j]? = some u → Nat.beq (Nat.land u.things x) x = false)
      ⟨rfl, none, rfl, fun j u hj => absurd hj (Nat.not_lt_zero _)⟩ ?_ ?_
    · rintro i σ H' hi ⟨rfl, v, rfl, hno⟩
      have hi' : i < t.kids.length := by omega
      have hti : t.kids[i]? = some t.kids[i] := List.getElem?_eq_getElem hi'
      obtain ⟨c, hc, hcA⟩ := h4.get' hti
      generalize t.kids[i] = u at hti hcA
      obtain ⟨dc, lc, asc, g1, g2, g3, g4⟩ := (hcA.mono hG).inv
      have hat : atI (as.map V.ref) (0 + (i : Int)) = some (.ref c) := at_of (j := i) (by omega) (by rw [List.getElem?_map, hc]; rfl)
      refine ⟨_, rfl, _, rfl, l, _, _, _, rfl, rfl, SqL.of h2H, hat, c, C, dc, _, _, rfl, g1, T.cl, T.nT, kf_things _ _ _, _, rfl, _, _, rfl, rfl, _, rfl, rfl, _, rfl, ?_⟩
      have ed : decide (V.int (Builtin.bitAnd (u.things : Int) (x : Int)) = V.int (x : Int)) = Nat.beq (Nat.land u.things x) x := dec_and
      refine ite2 (fun cc => ?_) (fun cc => ?_)
      · have hp : Nat.beq (Nat.land u.things x) x = true := ed.symm.trans cc
        have hf := findIdx_first (p := fun c : Ts.T => Nat.beq (Nat.land c.things x) x) hti hp hno
        rw [hf] at hkeep
        have hkeep : (match t.kids[i]? with
          | none => none
          | some c => match keep n c x with
            | none => none
            | some none => some none
            | some (some u) => some (some (knotOver (t.kids.take i ++ [u] ++ t.kids.drop (i + 1)) t.turns))) = some o := hkeep
        rw [hti] at hkeep
        have hkeep : (match keep n u x with
            | none => none
            | some none => some none
            | some (some u) => some (some (knotOver (t.kids.take i ++ [u] ++ t.kids.drop (i + 1)) t.turns))) = some o := hkeep
        cases ek : keep n u x with
        | none => rw [ek] at hkeep; cases hkeep
        | some o1 =>
          rw [ek] at hkeep
          refine ⟨_, rfl, _, rfl, l, _, _, _, rfl, rfl, SqL.of h2H, hat, _, rfl, G, c, u, x, o1, rfl, hG, hcA, ek, ?_⟩
          cases o1 with
          | none =>
            have hkeep : none = o := Option.some.inj hkeep
            subst hkeep
            intro G' H' e'
            exact ⟨_, rfl, rfl, _, rfl, iteT (kk G' H' e')⟩
          | some u' =>
            have hkeep : some (knotOver (t.kids.take i ++ [u'] ++ t.kids.drop (i + 1)) t.turns) = o := Option.some.inj hkeep
            subst hkeep
            intro b G1 H1 y1 hB
            refine ⟨_, rfl, rfl, _, rfl, iteF ?_⟩
            refine ⟨_, rfl, _, rfl, _, rfl, l, _, rfl, SqL.of (y1.hs _ _ h2H), fun p1 n1 => ?_⟩
            have ec1 : cutV (as.map V.ref) none (some (0 + (i : Int))) = (as.take i).map V.ref := by
              rw [show (0 + (i : Int)) = ((i : Nat) : Int) by omega, cut_to, List.map_take]
            rw [ec1]
            have y2 := y1.trans (.alloc y1.gh n1 (.lst ((as.take i).map V.ref)))
            refine ⟨_, rfl, (by show 1 ≤ sizeLine; decide), fun p2 n2 => ?_⟩
            have y3 := y2.trans (.alloc y2.gh n2 (.lst [.ref b]))
            have d12 : p1 ≠ p2 := ne_of_none upd_same n2
            have la : as.length ≤ 100 := by rw [h4.length]; exact h3
            have l1 : (as.take i).length ≤ 100 := by rw [List.length_take]; omega
            refine ⟨p1, p2, _, _, rfl, rfl, by rw [upd_ne d12]; exact upd_same, upd_same, by rw [List.length_map]; exact sz100 (by simp only [List.length_cons, List.length_nil]; omega), fun p3 n3 => ?_⟩
            have y4 := y3.trans (.alloc y3.gh n3 (.lst ((as.take i).map V.ref ++ [.ref b])))
            refine ⟨_, rfl, _, rfl, _, _, rfl, rfl, _, rfl, l, _, rfl, SqL.of (y4.hs _ _ h2H), fun p4 n4 => ?_⟩
            have ec2 : cutV (as.map V.ref) (some (0 + (i : Int) + 1)) none = (as.drop (i + 1)).map V.ref := by
              rw [show (0 + (i : Int) + 1) = ((i + 1 : Nat) : Int) by omega, cut_from, List.map_drop]
            rw [ec2]
            have y5 := y4.trans (.alloc y4.gh n4 (.lst ((as.drop (i + 1)).map V.ref)))
            have d34 : p3 ≠ p4 := ne_of_none upd_same n4
            have l2 : (as.drop (i + 1)).length = as.length - (i + 1) := List.length_drop ..
            have l0 : (as.take i).length = i := by
              rw [List.length_take]
              have := h4.length
              omega
            refine ⟨p3, p4, _, _, rfl, rfl, by rw [upd_ne d34]; exact upd_same, upd_same, by rw [List.length_append, List.length_map, List.length_map]; exact sz100 (by simp only [List.length_cons, List.length_nil]; omega), fun p5 n5 => ?_⟩
            have g5 : G1 p5 = none := Same.free y5.gh n5
            have y6 := (y5.trans (.alloc y5.gh n5 (.lst ((as.take i).map V.ref ++ [.ref b] ++ (as.drop (i + 1)).map V.ref)))).rest (y5.hs.free n5) g5 upd_same
            have s6 : Same G1 (upd G1 p5 (.lst ((as.take i).map V.ref ++ [.ref b] ++ (as.drop (i + 1)).map V.ref))) := same_new g5 _
            have tt : TreesAt C G1 (as.take i ++ [b] ++ as.drop (i + 1)) (t.kids.take i ++ [u'] ++ t.kids.drop (i + 1)) :=
              TreesAt.append ((h4.mono y1.gs).drop (i + 1)) (TreesAt.append (.one hB) ((h4.mono y1.gs).take i))
            refine ⟨_, rfl, a, C, dx, _, _, rfl, y6.hs _ _ h1H, T.cl, T.nO, kf_turns _ _ _, ?_⟩
            refine ⟨_, p5, as.take i ++ [b] ++ as.drop (i + 1), _, t.turns, rfl, y6.gh, by rw [upd_same, List.map_append, List.map_append]; rfl, tt.mono s6, ?_, fun a' G7 H7 y7 hA' => kk a' G7 H7 (y6.trans y7) hA'⟩
            rw [← tt.length, List.length_append, List.length_append, l0, l2]
            have := h4.length
            simp only [List.length_cons, List.length_nil]
            omega
      · have hp : Nat.beq (Nat.land u.things x) x = false := by
          cases q : Nat.beq (Nat.land u.things x) x with
          | false => rfl
          | true => exact absurd (ed.trans q) cc
        refine ⟨rfl, some (.int (0 + (i : Int))), rfl, fun j u' hj hu' => ?_⟩
        rcases Nat.lt_succ_iff_lt_or_eq.mp hj with hj | rfl
        · exact hno j u' hj hu'
        · rw [hti] at hu'
          cases hu'
          exact hp
    · rintro σ H' ⟨rfl, v, rfl, hno⟩
      have hf := findIdx_none (p := fun c : Ts.T => Nat.beq (Nat.land c.things x) x) (ts := t.kids) fun j u hu => hno j u (by
        have := (List.getElem?_eq_some_iff.mp hu).1
        omega) hu
      rw [hf] at hkeep
      have hkeep : (bif t.turns then turnKeep n t.kids x else freeKeep n t.kids x) = some o := hkeep
      refine ⟨_, rfl, a, C, dx, _, _, rfl, h1H, T.cl, T.nO, kf_turns _ _ _, _, rfl, ?_⟩
      cases et : t.turns with
      | true =>
        rw [et] at hkeep
        exact iteT ⟨_, rfl, _, rfl, G, l, as, t.kids, x, o, rfl, hG, h2H, h4, h3, hkeep, kk⟩
      | false =>
        rw [et] at hkeep
        exact iteF ⟨_, rfl, _, rfl, G, l, as, t.kids, x, o, rfl, hG, h2H, h4, h3, hkeep, kk⟩
theorem scKA : FnScope ["tree", "told", "wanted"] ["tree", "told"] (defScope sKeepAll) := ⟨rfl, rfl, rfl, by decide +kernel, rfl, by decide +kernel, by decide +kernel⟩
theorem int_at {ws : List Nat} {i : Nat} {y : V} (h : (intsV ws)[i]? = some y) : ∃ x : Nat, ws[i]? = some x ∧ y = .int (x : Int) := by
  unfold intsV at h
  rw [List.getElem?_map] at h
  cases e : ws[i]? with
  | none => rw [e] at h; cases h
  | some z => rw [e] at h; exact ⟨z, rfl, (Option.some.inj h).symm⟩
theorem ok_keep_all {k : Nat} (S : Src K mg "tree_keeping_all" sKeepAll ["tree", "told"]) (D1 : Def P w K mg base k "tree_keeping" ["knot", "wanted"] (spKeep C F)) : Def P w K mg base (k + 1) "tree_keeping_all" ["tree", "told"] (spKeepAll C) := by
  refine S.ok scKA (fun vs H Q E h => ?_) (fun f cdv A outer s H vs Q E hr h => ?_)
  · obtain ⟨G, v, o, l, ws, o', rfl, _⟩ := h
    rfl
  obtain ⟨G, v, o, l, ws, o', rfl, hG, hv, hl, hk, kk⟩ := h
  refine ⟨_, pss_cons (ps_for PassesOwn.never rfl (pi_list (pv 1)) (pg_name (i := 2) scKA.nd rfl (Or.inl rfl))
      (pss_cons (ps_if (pt_cmpR op_isN (pv 0) pe_non (nomark _)) (pss_one (ps_ret pe_non)) pss_nil)
      (pss_one (ps_set (i := 0) scKA.nd rfl (Or.inl rfl) (pe_def D1 hr rfl (pa_cons (pv 0) (pa_cons (pv 2) pa_nil)))))))
    (pss_one (ps_ret (pv 0))), ?_⟩
  refine ⟨_, rfl, l, rfl, ⟨_, SqL.of hl⟩, for_list (K := K) (a := l) (xs := intsV ws) (fun i σ H' => ∃ (G' : Hp) (v' : V) (o1 : Option T) (vw : Option V), σ = [some v', some (.ref l), vw] ∧ Ext G H G' H' ∧ OptAt C G' v' o1 ∧ keepAll o1 (ws.drop i) = some o')
      ⟨G, v, o, none, rfl, .refl hG, hv, hk⟩ (fun i σ H' _ ⟨G', v', o1, vw, _, e, _⟩ => SqL.of (e.hs _ _ hl)) ?_ ?_⟩
  · rintro i y σ H' hi ⟨G', v', o1, vw, rfl, e, hv', hk'⟩
    obtain ⟨x, hx, rfl⟩ := int_at hi
    have hd : ws.drop i = x :: ws.drop (i + 1) := by
      obtain ⟨h1, h2⟩ := List.getElem?_eq_some_iff.mp hx
      rw [← h2]
      exact List.drop_eq_getElem_cons h1
    rw [hd] at hk'
    cases o1 with
    | none =>
      cases v' with
      | non =>
        have hk' : none = o' := Option.some.inj hk'
        subst hk'
        exact ⟨_, rfl, rfl, _, rfl, iteT (kk G' H' e)⟩
      | _ => exact False.elim hv'
    | some t =>
      cases v' with
      | ref a =>
        have hk' : (match keep F t x with | none => none | some t' => keepAll t' (ws.drop (i + 1))) = some o' := hk'
        cases ek : keep F t x with
        | none => rw [ek] at hk'; cases hk'
        | some t' =>
          rw [ek] at hk'
          have hk' : keepAll t' (ws.drop (i + 1)) = some o' := hk'
          refine ⟨_, rfl, rfl, _, rfl, iteF ⟨_, rfl, _, rfl, G', a, t, x, t', rfl, e.gh, hv', ek, ?_⟩⟩
          cases t' with
          | none => exact fun G2 H2 e2 => ⟨G2, .non, none, some (.int (x : Int)), rfl, e.trans e2, trivial, hk'⟩
          | some u => exact fun b G2 H2 e2 hB => ⟨G2, .ref b, some u, some (.int (x : Int)), rfl, e.trans e2, hB, hk'⟩
      | _ => exact False.elim hv'
  · rintro σ H' ⟨G', v', o1, vw, rfl, e, hv', hk'⟩
    have el : (intsV ws).length = ws.length := List.length_map ..
    rw [el, List.drop_length] at hk'
    have hk' : o1 = o' := by
      cases o1 <;> exact Option.some.inj hk'
    subst hk'
    refine ⟨_, rfl, ?_⟩
    cases o1 with
    | none =>
      cases v' with
      | non => exact kk G' H' e
      | _ => exact False.elim hv'
    | some t =>
      cases v' with
      | ref a => exact kk a G' H' e hv'
      | _ => exact False.elim hv'
theorem scTA : FnScope ["n", "thing"] ["n"] (defScope sTreeAll) := ⟨rfl, rfl, rfl, by decide +kernel, rfl, by decide +kernel, by decide +kernel⟩
theorem ends_succ (i : Nat) : ends (i + 1) = ends i ++ [.mk (1 <<< i) [] false] := by
  unfold ends
  rw [List.range_succ, List.map_append]
  rfl
theorem ends_len (i : Nat) : (ends i).length = i := by
  unfold ends
  rw [List.length_map, List.length_range]
theorem ok_tree_all {fI : Addr} {fdI : FuncData} (S : Src K mg "tree_of_all" sTreeAll ["n"]) (T : Txt K mg C) (M : Mk K C fI) (FI : Fun K "__init__" "Knot.__init__" sInit fI fdI) (bI : Binds K fdI ["self", "things", "below", "only_turns"] [])
    (Df : Def P w K mg base 4 "free_knot" ["below"] (spOne C false)) : Def P w K mg base 5 "tree_of_all" ["n"] (spTreeAll C) := by
  have GI : FnOk P w K mg base CX0 1 fI fdI ["self", "things", "below", "only_turns"] (spInit C) := ok_init FI T
  refine S.ok scTA (fun vs H Q E h => ?_) (fun f cdv A outer s H vs Q E hr h => ?_)
  · obtain ⟨G, n, rfl, _⟩ := h
    rfl
  obtain ⟨G, n, rfl, hG, hn, kk⟩ := h
  have r2 : Room (1 + 1) _ := hr.mono (by omega)
  refine ⟨_, pss_one (ps_ret (pe_def Df hr rfl (pa_cons (pe_lc (own := [("thing", 1)]) rfl scTA.nd (pi_range1 rfl T.range (pa_cons (pv 0) pa_nil)) (blkOk_by (by show blkC ["n", "thing"] (defScope sTreeAll) _ _ = true; decide +kernel)) (fun _ _ _ _ _ => pg_name (i := 1) scTA.nd rfl (Or.inl rfl))
    (fun _ _ _ _ _ => pts_nil) (fun _ _ _ _ _ => pe_make M GI r2 rfl T.mgC bI .nil pass0 (pa_cons (pe_op op_shl pe_int (pv 1)) (pa_cons (pe_lst pa_nil) (pa_cons pe_bl pa_nil))))) pa_nil))), ?_⟩
  refine ⟨_, rfl, _, rfl, by omega, by omega, fun D hD => ?_⟩
  refine ⟨fun j m H' => m = n - j ∧ j ≤ n ∧ ∃ (G' : Hp) (as : List Addr), Ext G H G' H' ∧ G' D = none ∧ H' D = some (.lst (as.map V.ref)) ∧ TreesAt C G' as (ends j), ⟨n, rfl, Nat.zero_le _, G, [], .alloc hG hD _, Same.free hG hD, upd_same, .nil⟩, ?_⟩
  rintro j m H' ⟨rfl, hj, G', as, e, gD, hDl, hT⟩
  have en : ((n : Nat) : Int).toNat = n := by omega
  by_cases hlt : j < n
  · refine .inr ⟨(by show j < ((n : Nat) : Int).toNat; omega), fun H2 => ∃ (G' : Hp) (as : List Addr), Ext G H G' H2 ∧ G' D = none ∧ H2 D = some (.lst (as.map V.ref)) ∧ TreesAt C G' as (ends (j + 1)), fun H2 q => ⟨n - (j + 1), by omega, rfl, hlt, q⟩, fun y H2 yy => ?_⟩
    obtain ⟨rfl, rfl⟩ := yy
    refine ⟨rfl, ?_⟩
    unfold tYes
    refine iteT ?_
    refine ⟨_, rfl, _, _, rfl, rfl, ⟨by omega, by omega, by decide⟩, (by show 0 ≤ sizeLine; decide), fun lb nlb => ?_⟩
    have x1 : Ext G H G' (upd H2 lb (.lst [])) := e.trans (.alloc e.gh nlb _)
    have nlb0 : H lb = none := e.hs.free nlb
    have glb : G' lb = none := Same.free e.gh nlb
    have x2 := x1.rest nlb0 glb upd_same
    have eS : (1 : Int) * (2 : Int) ^ (0 + (j : Int)).toNat = ((1 <<< j : Nat) : Int) := by
      rw [show (0 + (j : Int)).toNat = j by omega, Nat.one_shiftLeft, Int.one_mul]
      exact (Int.natCast_pow 2 j).symm
    intro p dx np nd ne
    refine ⟨p, dx, 1 <<< j, lb, false, congrArg (fun z => [V.ref p, V.int z, V.ref lb, V.bl false]) eS, upd_same, rfl, ?_⟩
    rw [upd_upd]
    have dD : D ≠ lb := ne_of_none hDl nlb
    have hD1 : (upd H2 lb (.lst [])) D = some (.lst (as.map V.ref)) := by rw [upd_ne dD]; exact hDl
    have dp : D ≠ p := ne_of_none hD1 np
    have dd : D ≠ dx := ne_of_none hD1 nd
    have np0 : H p = none := x1.hs.free np
    have gp : (upd G' lb (.lst [])) p = none := Same.free x2.gh np
    have dlp : lb ≠ p := ne_of_none upd_same np
    have dld : lb ≠ dx := ne_of_none upd_same nd
    refine ⟨as.map V.ref, by rw [upd_ne dp, upd_ne dd]; exact hD1, ?_, ?_⟩
    · rw [List.length_map, hT.length, ends_len]
      exact Nat.lt_of_le_of_lt (Nat.le_trans hj hn) (by decide)
    · -- the heap behind the knot's making
      have y3 : Ext G H (upd G' lb (.lst [])) (upd (upd H2 lb (.lst [])) dx (.own p)) := x2.trans (.alloc x2.gh nd _)
      have np1 : (upd (upd H2 lb (.lst [])) dx (.own p)) p = none := by rw [upd_ne (fun q => ne q.symm)]; exact np
      have y4 := (y3.trans (.alloc y3.gh np1 (.ins C dx (kf (1 <<< j) lb false)))).rest np0 gp upd_same
      have gD4 : (upd (upd G' lb (.lst [])) p (.ins C dx (kf (1 <<< j) lb false))) D = none := by rw [upd_ne dp, upd_ne dD]; exact gD
      refine ⟨_, as ++ [p], y4.put hD gD4 _, gD4, by rw [upd_same, List.map_append]; rfl, ?_⟩
      rw [ends_succ]
      have sG : Same G' (upd (upd G' lb (.lst [])) p (.ins C dx (kf (1 <<< j) lb false))) := Same.trans (same_new glb _) (same_new gp _)
      refine TreesAt.append (.one (.mk (as := []) upd_same ?_ (Nat.zero_le _) .nil)) (hT.mono sG)
      rw [upd_ne dlp]
      exact upd_same
  · have ej : j = n := by omega
    subst ej
    refine .inl ⟨(by show ((j : Nat) : Int).toNat ≤ j; omega), ?_⟩
    have y5 := e.rest hD gD hDl
    refine ⟨_, D, as, ends j, rfl, y5.gh, upd_same, hT.mono (same_new gD _), by rw [ends_len]; exact hn, fun a G7 H7 y7 hA => kk a G7 H7 (y5.trans y7) hA⟩
end
end Ts
end
section
namespace Ts
open PySem PySem.Spec PyProof.Rows L2
noncomputable abbrev sMany : Stmt := top 26
noncomputable abbrev sWays : Stmt := top 27
noncomputable abbrev sFirst : Stmt := top 28
noncomputable abbrev sSurely : Stmt := top 29
noncomputable abbrev sLowest : Stmt := top 30
noncomputable abbrev sPlace : Stmt := top 31
noncomputable def spWays : Sp := fun vs H Q _ => ∃ n : Nat, vs = [.int (n : Int)] ∧ n ≤ 10 ∧ Q (.int ((fact n : Nat) : Int)) H
noncomputable def spMany (C : Addr) (f : Nat) : Sp := fun vs H Q _ => ∃ (a : Addr) (t : T) (k : Nat), vs = [.ref a] ∧ TreeAt C H a t ∧ howMany f t = some k ∧ Q (.int (k : Int)) H
noncomputable def spLow (C : Addr) (f : Nat) : Sp := fun vs H Q _ => ∃ (a : Addr) (t u : T) (x : Nat), vs = [.ref a, .int (x : Int)] ∧ TreeAt C H a t ∧ lowest f t x = some u ∧ ∀ b, TreeAt C H b u → Q (.ref b) H
noncomputable def spPlace (C : Addr) : Sp := fun vs H Q _ => ∃ (a : Addr) (t : T) (x i : Nat), vs = [.ref a, .int (x : Int)] ∧ TreeAt C H a t ∧ placeOf t x = some i ∧ Q (.int (i : Int)) H
noncomputable def spSurely (C : Addr) : Sp := fun vs H Q _ => ∃ (a : Addr) (t : T) (x y z r : Nat), vs = [.ref a, .int (x : Int), .int (y : Int), .int (z : Int)] ∧ TreeAt C H a t ∧ x ≤ 64 ∧ y ≤ 64 ∧ z ≤ 64 ∧ between t x y z = some r ∧ Q (.int (r : Int)) H
section
variable {P : Program} {w : World} {K : PySem.W.Frag} {mg : Str → Option Value} {base : Heap} {C : Addr}
theorem scWy : FnScope ["size", "ways", "factor"] ["size"] (defScope sWays) := ⟨rfl, rfl, rfl, by decide +kernel, rfl, by decide +kernel, by decide +kernel⟩
theorem ok_ways (S : Src K mg "ways_to_change_places" sWays ["size"]) (T : Txt K mg C) : Def P w K mg base 1 "ways_to_change_places" ["size"] spWays := by
  refine S.ok scWy (fun vs H Q E h => ?_) (fun f cdv A outer s H vs Q E hr h => ?_)
  · obtain ⟨n, rfl, _⟩ := h
    rfl
  obtain ⟨n, rfl, hn, k⟩ := h
  refine ⟨_, pss_cons (ps_set (i := 1) scWy.nd rfl (Or.inl rfl) pe_int)
    (pss_cons (ps_for PassesOwn.never rfl (pi_range2 rfl T.range (pa_cons pe_int (pa_cons (pe_op op_add (pv 0) pe_int) pa_nil))) (pg_name (i := 2) scWy.nd rfl (Or.inl rfl))
      (pss_one (ps_set (i := 1) scWy.nd rfl (Or.inl rfl) (pe_op op_mul (pv 1) (pv 2)))))
    (pss_one (ps_ret (pv 1)))), ?_⟩
  refine ⟨_, rfl, _, _, rfl, rfl, _, _, rfl, ⟨by decide, by decide, by omega, by omega⟩, ?_⟩
  refine for_range (lo := 2) (n := ((n : Int) + 1 - 2).toNat) (fun i σ H' => H' = H ∧ ∃ v : Option V, σ = [some (.int (n : Int)), some (.int ((fact (i + 1) : Nat) : Int)), v]) ⟨rfl, none, rfl⟩ ?_ ?_
  · rintro i σ H' hi ⟨rfl, v, rfl⟩
    refine ⟨_, rfl, _, rfl, _, _, rfl, rfl, .inr ⟨by omega, by omega⟩, ?_⟩
    refine ⟨rfl, some (.int (2 + (i : Int))), ?_⟩
    have e : ((fact (i + 1) : Nat) : Int) * (2 + (i : Int)) = ((fact (i + 1 + 1) : Nat) : Int) := by
      have q : fact (i + 1 + 1) = fact (i + 1) * (i + 1 + 1) := rfl
      rw [q, Int.natCast_mul]
      congr 1
      omega
    show [some (V.int (n : Int)), some (V.int (((fact (i + 1) : Nat) : Int) * (2 + (i : Int)))), some (V.int (2 + (i : Int)))] = _
    rw [e]
  · rintro σ H' ⟨rfl, v, rfl⟩
    refine ⟨_, rfl, ?_⟩
    have e : fact (((n : Int) + 1 - 2).toNat + 1) = fact n := by
      cases n with
      | zero => rfl
      | succ m => congr 1; omega
    rw [e]
    exact k
theorem scMy : FnScope ["knot", "many", "part"] ["knot"] (defScope sMany) := ⟨rfl, rfl, rfl, by decide +kernel, rfl, by decide +kernel, by decide +kernel⟩
theorem spMany_len {f : Nat} (vs : List V) (H : Hp) (Q : VK) (E : XK) (h : spMany C f vs H Q E) : vs.length = (["knot"] : List Str).length := by
  obtain ⟨a, t, k, rfl, _⟩ := h
  rfl
theorem ok_many0 {k : Nat} (S : Src K mg "how_many_orders" sMany ["knot"]) : Def P w K mg base (k + 1) "how_many_orders" ["knot"] (spMany C 0) :=
  S.ok scMy spMany_len (fun f cdv A outer s H vs Q E hr h => by
    obtain ⟨a, t, k, _, _, h, _⟩ := h
    cases h)
theorem ok_many {n k : Nat} (S : Src K mg "how_many_orders" sMany ["knot"]) (T : Txt K mg C) (hk : 1 ≤ k) (D1 : Def P w K mg base k "how_many_orders" ["knot"] (spMany C n)) (Dw : Def P w K mg base 1 "ways_to_change_places" ["size"] spWays) :
    Def P w K mg base (k + 1) "how_many_orders" ["knot"] (spMany C (n + 1)) := by
  refine S.ok scMy spMany_len (fun f cdv A outer s H vs Q E hr h => ?_)
  obtain ⟨a, t, m, rfl, hA, hm, kk⟩ := h
  obtain ⟨dx, l, as, h1, h2, h3, h4⟩ := hA.inv
  have r1 : Room 1 _ := hr.mono (by omega)
  refine ⟨_, pss_cons (ps_set (i := 1) scMy.nd rfl (Or.inl rfl) (pe_ifExp (pt_val (pe_fld (pv 0) rfl)) pe_int (pe_def Dw r1 rfl (pa_cons (pe_callB call_len_seq rfl T.len PySem.boot_len (pa_cons (pe_fld (pv 0) rfl) pa_nil)) pa_nil))))
    (pss_cons (ps_for PassesOwn.never rfl (pi_list (pe_fld (pv 0) rfl)) (pg_name (i := 2) scMy.nd rfl (Or.inl rfl))
      (pss_one (ps_set (i := 1) scMy.nd rfl (Or.inl rfl) (pe_op op_mul (pv 1) (pe_def D1 hr rfl (pa_cons (pv 2) pa_nil))))))
    (pss_one (ps_ret (pv 1)))), ?_⟩
  unfold howMany at hm
  cases e10 : Nat.ble t.kids.length 10 with
  | false => rw [e10] at hm; cases hm
  | true =>
    rw [e10] at hm
    have hm : mulAll (howMany n) (bif t.turns then 2 else fact t.kids.length) t.kids = some m := hm
    have h10 : t.kids.length ≤ 10 := Nat.le_of_ble_eq_true e10
    have el : (as.map V.ref).length = t.kids.length := by rw [List.length_map, h4.length]
    refine ⟨_, rfl, a, C, dx, _, _, rfl, h1, T.cl, T.nO, kf_turns _ _ _, _, rfl, ?_⟩
    have rest : ∀ z : Nat, mulAll (howMany n) z t.kids = some m → tSeq (tFor (iList K (tFld K (tVar 0) "below")) (gName 2) (tAsg (tOp (rI CMul fun i j => .int (i * j)) (tVar 1) (tCall (spMany C n) [] E0 (tCons (tVar 2) tNil))) (gName 1))) (tRet (tVar 1))
        { nx := fun _ H' => Q .non H', rt := Q } [some (.ref a), some (.int (z : Int)), none] H := fun z hz => by
      refine ⟨_, rfl, a, C, dx, _, _, rfl, h1, T.cl, T.nB, kf_below _ _ _, l, rfl, ⟨_, SqL.of h2⟩, for_list (K := K) (a := l) (xs := as.map V.ref) (fun i σ H' => H' = H ∧ ∃ (v : Option V) (y : Nat), σ = [some (.ref a), some (.int (y : Int)), v] ∧ mulAll (howMany n) y (t.kids.drop i) = some m)
        ⟨rfl, none, z, rfl, hz⟩ (fun i σ H' _ ⟨e, _⟩ => by rw [e]; exact SqL.of h2) ?_ ?_⟩
      · rintro i x σ H' hi ⟨rfl, v, y, rfl, hy⟩
        rw [List.getElem?_map] at hi
        obtain ⟨c, hc, rfl⟩ := Option.map_eq_some_iff.mp hi
        obtain ⟨u, hu, hU⟩ := h4.get hc
        have hlt : i < t.kids.length := (List.getElem?_eq_some_iff.mp hu).1
        have hd : t.kids.drop i = u :: t.kids.drop (i + 1) := by
          rw [List.drop_eq_getElem_cons hlt]
          congr 1
          exact (List.getElem?_eq_some_iff.mp hu).2
        rw [hd] at hy
        have hy : (match howMany n u with
          | none => none
          | some b => bif Nat.ble b 1000000 then mulAll (howMany n) (y * b) (t.kids.drop (i + 1)) else none) = some m := hy
        cases eb : howMany n u with
        | none => rw [eb] at hy; cases hy
        | some b =>
          rw [eb] at hy
          have hy : (bif Nat.ble b 1000000 then mulAll (howMany n) (y * b) (t.kids.drop (i + 1)) else none) = some m := hy
          cases eq : Nat.ble b 1000000 with
          | false => rw [eq] at hy; cases hy
          | true =>
            rw [eq] at hy
            have hb := Nat.le_of_ble_eq_true eq
            refine ⟨_, rfl, _, rfl, c, u, b, rfl, hU, eb, _, _, rfl, rfl, .inr ⟨by omega, by omega⟩, ?_⟩
            refine ⟨rfl, some (.ref c), y * b, ?_, hy⟩
            show [some (V.ref a), some (V.int ((y : Int) * (b : Int))), some (V.ref c)] = _
            rw [Int.natCast_mul]
      · rintro σ H' ⟨rfl, v, y, rfl, hy⟩
        rw [el, List.drop_length] at hy
        have hy : y = m := Option.some.inj hy
        subst hy
        exact ⟨_, rfl, kk⟩
    cases et : t.turns with
    | true =>
      rw [et] at hm
      exact iteT (rest 2 hm)
    | false =>
      rw [et] at hm
      refine iteF ⟨_, rfl, a, C, dx, _, _, rfl, h1, T.cl, T.nB, kf_below _ _ _, l, _, rfl, .inl (SqL.of h2), t.kids.length, by rw [el]; rfl, h10, rest _ hm⟩
theorem scLo : FnScope ["knot", "wanted", "part"] ["knot", "wanted"] (defScope sLowest) := ⟨rfl, rfl, rfl, by decide +kernel, rfl, by decide +kernel, by decide +kernel⟩
theorem spLow_len {f : Nat} (vs : List V) (H : Hp) (Q : VK) (E : XK) (h : spLow C f vs H Q E) : vs.length = (["knot", "wanted"] : List Str).length := by
  obtain ⟨a, t, u, x, rfl, _⟩ := h
  rfl
theorem ok_low0 {k : Nat} (S : Src K mg "lowest_over" sLowest ["knot", "wanted"]) : Def P w K mg base (k + 1) "lowest_over" ["knot", "wanted"] (spLow C 0) :=
  S.ok scLo spLow_len (fun f cdv A outer s H vs Q E hr h => by
    obtain ⟨a, t, u, x, _, _, h, _⟩ := h
    cases h)
theorem find_first {p : T → Bool} : ∀ {ts : List T} {i : Nat} {t : T}, ts[i]? = some t → p t = true → (∀ j u, j < i → ts[j]? = some u → p u = false) → ts.find? p = some t
  | [], i, t, h, _, _ => by simp at h
  | u :: ts, 0, t, h, hp, _ => by
    have e := Option.some.inj h
    subst e
    rw [List.find?_cons, hp]
  | u :: ts, i + 1, t, h, hp, hn => by
    have e := hn 0 u (Nat.succ_pos _) rfl
    rw [List.find?_cons, e]
    exact find_first (ts := ts) (i := i) (t := t) h hp fun j v hj hv => hn (j + 1) v (Nat.succ_lt_succ hj) hv
theorem find_none {p : T → Bool} : ∀ {ts : List T}, (∀ (j : Nat) (u : T), ts[j]? = some u → p u = false) → ts.find? p = none
  | [], _ => rfl
  | u :: ts, hn => by
    have e := hn 0 u rfl
    rw [List.find?_cons, e]
    exact find_none fun j v hv => hn (j + 1) v hv
theorem ok_low {n k : Nat} (S : Src K mg "lowest_over" sLowest ["knot", "wanted"]) (T : Txt K mg C) (D1 : Def P w K mg base k "lowest_over" ["knot", "wanted"] (spLow C n)) : Def P w K mg base (k + 1) "lowest_over" ["knot", "wanted"] (spLow C (n + 1)) := by
  refine S.ok scLo spLow_len (fun f cdv A outer s H vs Q E hr h => ?_)
  obtain ⟨a, t, u, x, rfl, hA, hm, kk⟩ := h
  obtain ⟨dx, l, as, h1, h2, h3, h4⟩ := hA.inv
  refine ⟨_, pss_cons (ps_for PassesOwn.never rfl (pi_list (pe_fld (pv 0) rfl)) (pg_name (i := 2) scLo.nd rfl (Or.inl rfl))
      (pss_one (ps_if (pt_cmpR op_eq (pe_op op_and (pe_fld (pv 2) rfl) (pv 1)) (pv 1) (nomark _)) (pss_one (ps_ret (pe_def D1 hr rfl (pa_cons (pv 2) (pa_cons (pv 1) pa_nil))))) pss_nil)))
    (pss_one (ps_ret (pv 0))), ?_⟩
  have el : (as.map V.ref).length = t.kids.length := by rw [List.length_map, h4.length]
  have hm : (match t.kids.find? (fun c => Nat.beq (Nat.land c.things x) x) with
    | some c => lowest n c x
    | none => some t) = some u := hm
  refine ⟨_, rfl, a, C, dx, _, _, rfl, h1, T.cl, T.nB, kf_below _ _ _, l, rfl, ⟨_, SqL.of h2⟩, for_list (K := K) (a := l) (xs := as.map V.ref) (fun i σ H' => H' = H ∧ ∃ v : Option V, σ = [some (.ref a), some (.int (x : Int)), v] ∧ ∀ j u, j < i → t.kids[j]? = some u → Nat.beq (Nat.land u.things x) x = false)
    ⟨rfl, none, rfl, fun j u hj => absurd hj (Nat.not_lt_zero _)⟩ (fun i σ H' _ ⟨e, _⟩ => by rw [e]; exact SqL.of h2) ?_ ?_⟩
  · rintro i y σ H' hi ⟨rfl, v, rfl, hno⟩
    rw [List.getElem?_map] at hi
    obtain ⟨c, hc, rfl⟩ := Option.map_eq_some_iff.mp hi
    obtain ⟨d, hd, hD⟩ := h4.get hc
    obtain ⟨dc, lc, asc, g1, g2, g3, g4⟩ := hD.inv
    refine ⟨_, rfl, c, C, dc, _, _, rfl, g1, T.cl, T.nT, kf_things _ _ _, _, rfl, _, _, rfl, rfl, _, rfl, rfl, _, rfl, ?_⟩
    have ed : decide (V.int (Builtin.bitAnd (d.things : Int) (x : Int)) = V.int (x : Int)) = Nat.beq (Nat.land d.things x) x := dec_and
    refine ite2 (fun cc => ?_) (fun cc => ?_)
    · have hp : Nat.beq (Nat.land d.things x) x = true := ed.symm.trans cc
      rw [find_first (p := fun c : Ts.T => Nat.beq (Nat.land c.things x) x) hd hp hno] at hm
      exact ⟨_, rfl, _, rfl, c, d, u, x, rfl, hD, hm, kk⟩
    · refine ⟨rfl, some (.ref c), rfl, fun j v hj hv => ?_⟩
      rcases Nat.lt_succ_iff_lt_or_eq.mp hj with q | q
      · exact hno j v q hv
      · subst q
        rw [hd] at hv
        have e := Option.some.inj hv
        subst e
        exact ed.symm.trans (Bool.eq_false_iff.mpr cc)
  · rintro σ H' ⟨rfl, v, rfl, hno⟩
    have hnone := find_none (p := fun c : Ts.T => Nat.beq (Nat.land c.things x) x) (ts := t.kids) fun j v hv => hno j v (by rw [el]; exact (List.getElem?_eq_some_iff.mp hv).1) hv
    rw [hnone] at hm
    have hm : t = u := Option.some.inj hm
    subst hm
    exact ⟨_, rfl, kk a hA⟩
end
end Ts
end
section
namespace Ts
open PySem PySem.Spec PyProof.Rows L2
structure GInt (mg : Str → Option Value) (x : Str) (z : Int) : Prop where
  ex : ∃ v, mg x = some v ∧ RelV (.int z) v
theorem pe_gi {X : Cx} {x : Str} {z : Int} {pos : Pos} (h : GInt X.mg x z) (hg : Gl X x) (hd : (x == ("__debug__" : Str)) = false := by decide) : PE X (.Name x pos) (tC (.int z)) := by
  obtain ⟨v, hm, r⟩ := h.ex
  exact pe_glob hg hm r hd
section
variable {P : Program} {w : World} {K : PySem.W.Frag} {mg : Str → Option Value} {base : Heap} {C : Addr}
theorem has_dec {th x : Nat} : decide (V.int (Builtin.bitAnd ((th : Int) / 2 ^ ((x : Nat) : Int).toNat) 1) = V.int 0) = !((!(Nat.beq (Nat.land (th / 2 ^ x) 1) 0))) := by
  have e : ((th : Int) / 2 ^ ((x : Nat) : Int).toNat) = ((th / 2 ^ x : Nat) : Int) := by
    rw [Int.toNat_natCast]
    have q : (2 : Int) ^ x = ((2 ^ x : Nat) : Int) := by simp
    rw [q]
    exact (Int.natCast_ediv th (2 ^ x)).symm
  rw [e, Bool.not_not]
  exact dec_and (a := th / 2 ^ x) (b := 1) (c := 0)
theorem scPl : FnScope ["knot", "thing", "place"] ["knot", "thing"] (defScope sPlace) := ⟨rfl, rfl, rfl, by decide +kernel, rfl, by decide +kernel, by decide +kernel⟩
theorem findIdx_some {p : T → Bool} : ∀ {ts : List T} {i : Nat}, ts.findIdx? p = some i → (∃ t, ts[i]? = some t ∧ p t = true) ∧ ∀ j u, j < i → ts[j]? = some u → p u = false
  | [], i, h => by cases h
  | u :: ts, i, h => by
    rw [List.findIdx?_cons] at h
    cases e : p u with
    | true =>
      rw [e] at h
      have h : (0 : Nat) = i := Option.some.inj h
      subst h
      exact ⟨⟨u, rfl, e⟩, fun j v hj => absurd hj (Nat.not_lt_zero _)⟩
    | false =>
      rw [e] at h
      have h : (ts.findIdx? p).map (fun i => i + 1) = some i := h
      obtain ⟨k, hk, rfl⟩ := Option.map_eq_some_iff.mp h
      obtain ⟨⟨t, h1, h2⟩, h3⟩ := findIdx_some hk
      refine ⟨⟨t, h1, h2⟩, fun j v hj hv => ?_⟩
      cases j with
      | zero =>
        have e' := Option.some.inj hv
        subst e'
        exact e
      | succ j => exact h3 j v (by omega) hv
theorem ok_place (S : Src K mg "place_below" sPlace ["knot", "thing"]) (T : Txt K mg C) : Def P w K mg base 1 "place_below" ["knot", "thing"] (spPlace C) := by
  refine S.ok scPl (fun vs H Q E h => ?_) (fun f cdv A outer s H vs Q E hr h => ?_)
  · obtain ⟨a, t, x, i, rfl, _⟩ := h
    rfl
  obtain ⟨a, t, x, i, rfl, hA, hp, kk⟩ := h
  obtain ⟨dx, l, as, h1, h2, h3, h4⟩ := hA.inv
  obtain ⟨⟨u, hu, hpu⟩, hno⟩ := findIdx_some hp
  have hil : i < t.kids.length := (List.getElem?_eq_some_iff.mp hu).1
  refine ⟨_, pss_cons (ps_set (i := 2) scPl.nd rfl (Or.inl rfl) pe_int)
    (pss_cons (ps_while PassesOwn.never (pt_cmpR op_eq (pe_op op_and (pe_op op_shr (pe_fld (pe_ix ix_list (pe_fld (pv 0) rfl) (pv 2) (fun _ _ => rfl)) rfl) (pv 1)) pe_int) pe_int (nomark _))
      (pss_one (ps_set (i := 2) scPl.nd rfl (Or.inl rfl) (pe_op op_add (pv 2) pe_int))))
    (pss_one (ps_ret (pv 2)))), ?_⟩
  refine while_by (fun σ H' => H' = H ∧ ∃ j : Nat, j ≤ i ∧ σ = [some (.ref a), some (.int (x : Int)), some (.int (j : Int))]) (fun σ H' => match σ[2]? with | some (some (V.int z)) => (i - z.toNat) | _ => 0) ⟨rfl, 0, Nat.zero_le _, rfl⟩ ?_ ?_
  · rintro σ H' ⟨rfl, j, hj, rfl⟩
    have hjl : j < t.kids.length := by omega
    have htj : t.kids[j]? = some t.kids[j] := List.getElem?_eq_getElem hjl
    obtain ⟨c, hc, hcA⟩ := h4.get' htj
    generalize t.kids[j] = d at htj hcA
    obtain ⟨dc, lc, asc, g1, g2, g3, g4⟩ := hcA.inv
    have hat : atI (as.map V.ref) (j : Int) = some (.ref c) := atI_nat (by rw [List.getElem?_map, hc]; rfl)
    refine ⟨_, rfl, a, C, dx, _, _, rfl, h1, T.cl, T.nB, kf_below _ _ _, _, rfl, l, _, _, _, rfl, rfl, SqL.of h2, hat, c, C, dc, _, _, rfl, g1, T.cl, T.nT, kf_things _ _ _, _, rfl, _, _, rfl, rfl, by omega, _, _, rfl, rfl, rfl, _, rfl, ?_⟩
    have ed : decide (V.int (Builtin.bitAnd ((d.things : Int) / 2 ^ ((x : Nat) : Int).toNat) 1) = V.int 0) = !(hasT d x) := has_dec
    refine ite2 (fun cc => ?_) (fun cc => ?_)
    · have hf : hasT d x = false := by
        have q := ed.symm.trans cc
        cases e : hasT d x with
        | true => rw [e] at q; cases q
        | false => rfl
      have hji : j < i := by
        rcases Nat.lt_or_ge j i with q | q
        · exact q
        · have e : j = i := by omega
          subst e
          rw [htj] at hu
          have e := Option.some.inj hu
          subst e
          rw [hf] at hpu
          cases hpu
      refine ⟨_, rfl, _, _, rfl, rfl, ⟨rfl, j + 1, hji, ?_⟩, ?_⟩
      · show [some (V.ref a), some (V.int (x : Int)), some (V.int ((j : Int) + 1))] = _
        rw [show ((j : Int) + 1) = ((j + 1 : Nat) : Int) by omega]
      · show i - ((j : Int) + 1).toNat < i - ((j : Nat) : Int).toNat
        omega
    · have hf : hasT d x = true := by
        cases e : hasT d x with
        | true => rfl
        | false => exact absurd (ed.trans (by rw [e]; rfl)) cc
      have hji : j = i := by
        rcases Nat.lt_or_ge j i with q | q
        · rw [hno j d q htj] at hf
          cases hf
        · omega
      subst hji
      exact ⟨_, rfl, kk⟩
  · rintro σ H' Q1 Q2 hq h
    obtain ⟨v0, e0, p, C', dx', fs, v1, e1, hp', cl, na, lk, v2, e2, l', xs, i', x', e3, e4, hs, hat, p2, C3, dx3, fs3, w3, e5, hp2, cl2, na2, lk2, v4, e6, i6, j6, e7, e8, h9, i10, j10, e11, e12, e13, b, e14, hq'⟩ := h
    exact ⟨v0, e0, p, C', dx', fs, v1, e1, hp', cl, na, lk, v2, e2, l', xs, i', x', e3, e4, hs, hat, p2, C3, dx3, fs3, w3, e5, hp2, cl2, na2, lk2, v4, e6, i6, j6, e7, e8, h9, i10, j10, e11, e12, e13, b, e14, hq _ _ hq'⟩
theorem scSu : FnScope ["tree", "a", "b", "c", "knot", "at_a", "at_b", "at_c"] ["tree", "a", "b", "c"] (defScope sSurely) := ⟨rfl, rfl, rfl, by decide +kernel, rfl, by decide +kernel, by decide +kernel⟩
theorem shl1 {x : Nat} : (1 : Int) * (2 : Int) ^ ((x : Nat) : Int).toNat = ((1 <<< x : Nat) : Int) := by
  rw [Int.toNat_natCast, Nat.one_shiftLeft, Int.one_mul]
  exact (Int.natCast_pow 2 x).symm
theorem blt_dec {i j : Nat} : decide ((i : Int) < (j : Int)) = Nat.blt i j := by
  by_cases h : i < j
  · rw [decide_eq_true (by omega)]
    exact (Nat.blt_eq.mpr h).symm
  · rw [decide_eq_false (by omega)]
    exact (Bool.eq_false_iff.mpr fun q => h (Nat.blt_eq.mp q)).symm
theorem ok_surely {k : Nat} (S : Src K mg "how_surely_between" sSurely ["tree", "a", "b", "c"]) (T : Txt K mg C) (hk : 1 ≤ k) (g0 : GInt mg "IN_NONE" 0) (g1 : GInt mg "IN_ALL" 1) (g2 : GInt mg "IN_SOME" 2)
    (Dl : Def P w K mg base k "lowest_over" ["knot", "wanted"] (spLow C F)) (Dp : Def P w K mg base 1 "place_below" ["knot", "thing"] (spPlace C)) : Def P w K mg base (k + 1) "how_surely_between" ["tree", "a", "b", "c"] (spSurely C) := by
  refine S.ok scSu (fun vs H Q E h => ?_) (fun f cdv A outer s H vs Q E hr h => ?_)
  · obtain ⟨a, t, x, y, z, r, rfl, _⟩ := h
    rfl
  obtain ⟨a, t, x, y, z, r, rfl, hA, hx, hy, hz, hb, kk⟩ := h
  have r1 : Room 1 _ := hr.mono (by omega)
  refine ⟨_, pss_cons (ps_set (i := 4) scSu.nd rfl (Or.inl rfl) (pe_def Dl hr rfl (pa_cons (pv 0) (pa_cons (pe_op op_or (pe_op op_or (pe_op op_shl pe_int (pv 1)) (pe_op op_shl pe_int (pv 2))) (pe_op op_shl pe_int (pv 3))) pa_nil))))
    (pss_cons (ps_set (i := 5) scSu.nd rfl (Or.inl rfl) (pe_def Dp r1 rfl (pa_cons (pv 4) (pa_cons (pv 1) pa_nil))))
    (pss_cons (ps_set (i := 6) scSu.nd rfl (Or.inl rfl) (pe_def Dp r1 rfl (pa_cons (pv 4) (pa_cons (pv 2) pa_nil))))
    (pss_cons (ps_set (i := 7) scSu.nd rfl (Or.inl rfl) (pe_def Dp r1 rfl (pa_cons (pv 4) (pa_cons (pv 3) pa_nil))))
    (pss_cons (ps_if (pt_cmpR op_eq (pv 5) (pv 7) (nomark _)) (pss_one (ps_ret (pe_gi g0 rfl))) pss_nil)
    (pss_cons (ps_if (PW.pt (pw_or (pt_cmpR op_eq (pv 5) (pv 6) (nomark _)) (pw_or (pt_cmpR op_eq (pv 6) (pv 7) (nomark _)) (pw_or1 (pt_not (pt_val (pe_fld (pv 4) rfl))))))) (pss_one (ps_ret (pe_gi g2 rfl))) pss_nil)
    (pss_cons (ps_if (pt_cmpR op_eq (pe_cmpR op_lt (pv 5) (pv 6) (nomark _)) (pe_cmpR op_lt (pv 6) (pv 7) (nomark _)) (nomark _)) (pss_one (ps_ret (pe_gi g1 rfl))) pss_nil)
    (pss_one (ps_ret (pe_gi g0 rfl))))))))), ?_⟩
  unfold between at hb
  cases el : lowest F t (three3 x y z) with
  | none => rw [el] at hb; cases hb
  | some u =>
    rw [el] at hb
    have hb : (match placeOf u x, placeOf u y, placeOf u z with
      | some i, some j, some l => some (surely u.turns i j l)
      | _, _, _ => none) = some r := hb
    cases e1 : placeOf u x with
    | none => rw [e1] at hb; cases hb
    | some i =>
      rw [e1] at hb
      cases e2 : placeOf u y with
      | none => rw [e2] at hb; cases hb
      | some j =>
        rw [e2] at hb
        cases e3 : placeOf u z with
        | none => rw [e3] at hb; cases hb
        | some l =>
          rw [e3] at hb
          have hb : surely u.turns i j l = r := Option.some.inj hb
          refine ⟨_, rfl, _, rfl, _, _, rfl, rfl, ⟨by omega, by omega, by decide⟩, _, rfl, _, _, rfl, rfl, ⟨by omega, by omega, by decide⟩, _, _, rfl, rfl, _, rfl, _, _, rfl, rfl, ⟨by omega, by omega, by decide⟩, _, _, rfl, rfl, ?_⟩
          refine ⟨a, t, u, three3 x y z, ?_, hA, el, fun b hB => ?_⟩
          · show [V.ref a, V.int (Builtin.bitOr (Builtin.bitOr ((1 : Int) * (2 : Int) ^ ((x : Nat) : Int).toNat) ((1 : Int) * (2 : Int) ^ ((y : Nat) : Int).toNat)) ((1 : Int) * (2 : Int) ^ ((z : Nat) : Int).toNat))] = _
            rw [shl1, shl1, shl1, bitOr_nat, bitOr_nat]
            rfl
          obtain ⟨dx, lx, as, h1, h2, h3, h4⟩ := hB.inv
          refine ⟨_, rfl, _, rfl, b, u, x, i, rfl, hB, e1, _, rfl, _, rfl, b, u, y, j, rfl, hB, e2, _, rfl, _, rfl, b, u, z, l, rfl, hB, e3, ?_⟩
          unfold surely at hb
          refine ⟨_, rfl, _, rfl, rfl, _, rfl, ?_⟩
          have d1 : decide (V.int (i : Int) = V.int (l : Int)) = Nat.beq i l := dec_int
          have d2 : decide (V.int (i : Int) = V.int (j : Int)) = Nat.beq i j := dec_int
          have d3 : decide (V.int (j : Int) = V.int (l : Int)) = Nat.beq j l := dec_int
          rw [d1]
          cases c1 : Nat.beq i l with
          | true =>
            rw [c1] at hb
            have hb : 0 = r := hb
            subst hb
            exact iteT kk
          | false =>
            rw [c1] at hb
            refine iteF ⟨_, rfl, _, rfl, rfl, _, rfl, ?_⟩
            rw [d2]
            cases c2 : Nat.beq i j with
            | true =>
              rw [c2] at hb
              have hb : 2 = r := hb
              subst hb
              exact iteT (iteT kk)
            | false =>
              rw [c2] at hb
              refine iteF ⟨_, rfl, _, rfl, rfl, _, rfl, ?_⟩
              rw [d3]
              cases c3 : Nat.beq j l with
              | true =>
                rw [c3] at hb
                have hb : 2 = r := hb
                subst hb
                exact iteT (iteT kk)
              | false =>
                rw [c3] at hb
                refine iteF ⟨_, rfl, b, C, dx, _, _, rfl, h1, T.cl, T.nO, kf_turns _ _ _, _, rfl, ?_⟩
                cases c4 : u.turns with
                | false =>
                  rw [c4] at hb
                  have hb : 2 = r := hb
                  subst hb
                  exact iteT kk
                | true =>
                  rw [c4] at hb
                  refine iteF ⟨_, rfl, _, rfl, _, _, rfl, rfl, _, rfl, _, rfl, _, _, rfl, rfl, rfl, _, rfl, ?_⟩
                  have hb : (bif Nat.blt i j == Nat.blt j l then 1 else 0) = r := hb
                  have d5 : decide (V.bl (decide ((i : Int) < (j : Int))) = V.bl (decide ((j : Int) < (l : Int)))) = (Nat.blt i j == Nat.blt j l) := by
                    rw [blt_dec, blt_dec]
                    cases Nat.blt i j <;> cases Nat.blt j l <;> rfl
                  refine ite2 (fun cc => ?_) (fun cc => ?_)
                  · rw [d5.symm.trans cc] at hb
                    have hb : 1 = r := hb
                    subst hb
                    exact kk
                  · rw [d5.symm.trans (Bool.eq_false_iff.mpr cc)] at hb
                    have hb : 0 = r := hb
                    subst hb
                    exact kk
end
end Ts
end
section
namespace Ts
open PySem PySem.Spec PyProof.Rows
open PySem.W (KasT kas_sort kas_ask)
open AutoSeq1 (wpAny_loadPart')
theorem lt_loop0 (l b : Addr) (is js : Array Value) (n k : Nat) (da db : Option Addr) (sa sb : Array (Option Value)) (x y : Int) (t u : Tok) (hx : is[0]? = some (.int x t)) (hy : js[0]? = some (.int y u)) (hne : (x == y) = false) :
    Meets (Builtin.«list.__eq__.loop» ⟨[.ref l, .ref b, rawInt 0, rawInt 0], []⟩) (fun _ R s => s.heap.get? l = some { cls := .type "list", dict := da, data := .seq is n, slots := sa } ∧
      s.heap.get? b = some { cls := .type "list", dict := db, data := .seq js k, slots := sb } ∧ R (.ok (.ret (.bool (decide (x < y))))) s) := by
  intro P w A R s h
  obtain ⟨hp, g, d, tk, os⟩ := s
  obtain ⟨e1, e2, q⟩ := h
  wp_walk using wpAny_loadPart' e1, wpAny_loadPart' e2
  have i1 : is[(0 : Int).toNat]? = some (.int x t) := hx
  have i2 : js[(0 : Int).toNat]? = some (.int y u) := hy
  rw [i1, i2]
  refine wpAny_bind (wpAny_eqBool_int ?_)
  rw [hne]
  wp_walk using wpAny_loadPart' e1, wpAny_loadPart' e2
  rw [i1, i2]
  show wpAny _ _ (compareOp .Lt (.int x t) (.int y u) >>= fun r => ret r) _ _ _
  exact wpAny_bind (PyProof.Rows.lt_int (wpAny_pure q))
theorem lt_firsts (l b : Addr) (is js : Array Value) (n k : Nat) (da db : Option Addr) (sa sb : Array (Option Value)) (x y : Int) (t u : Tok) (hx : is[0]? = some (.int x t)) (hy : js[0]? = some (.int y u)) (hne : (x == y) = false) :
    Meets (Builtin.«list.__lt__» ⟨[.ref l, .ref b], []⟩) (fun _ R s => s.heap.get? l = some { cls := .type "list", dict := da, data := .seq is n, slots := sa } ∧
      s.heap.get? b = some { cls := .type "list", dict := db, data := .seq js k, slots := sb } ∧ R (.ok (.ret (.bool (decide (x < y))))) s) := by
  intro P w A R s h
  obtain ⟨hp, g, d, tk, os⟩ := s
  obtain ⟨e1, e2, q⟩ := h
  have sub := AutoSeq1.sub_list_list
  wp_walk using wpAny_loadPart' e1, wpAny_loadPart' e2
  refine ⟨plainId_quiet MeetsSeq3.plain_eq_loop _, codeAny_builtin MeetsSeq3.entry_eq_loop ?_⟩
  rw [Around.under_plainId MeetsSeq3.plain_eq_loop _]
  exact lt_loop0 l b is js n k da db sa sb x y t u hx hy hne P w A R _ ⟨e1, e2, q⟩
noncomputable def runT {α : Type} (lt : Nat → Nat → Bool) : KasT α → α
  | .ret a => a
  | .ask i j k => runT lt (k (lt i j))
noncomputable def asksOk {α : Type} (n : Nat) : KasT α → Bool
  | .ret _ => true
  | .ask i j k => (Nat.blt i n && (Nat.blt j n && !(Nat.beq i j))) && (asksOk n (k true) && asksOk n (k false))
theorem wp_run {α : Type} {n : Nat} {lt : Nat → Nat → Bool} {cmp : Nat → Nat → (Bool → Shared → Prop) → Shared → Prop} {G : α → Shared → Prop} {s : Shared} (hc : ∀ i j C, i < n → j < n → i ≠ j → C (lt i j) s → cmp i j C s) :
    ∀ t : KasT α, asksOk n t = true → G (runT lt t) s → t.kasWp cmp G s
  | .ret a, _, h => h
  | .ask i j k, ha, h => by
    have ha : ((Nat.blt i n && (Nat.blt j n && !(Nat.beq i j))) && (asksOk n (k true) && asksOk n (k false))) = true := ha
    simp only [Bool.and_eq_true] at ha
    obtain ⟨⟨h1, h2, h3⟩, h4, h5⟩ := ha
    have hne : i ≠ j := fun e => by
      rw [e, Nat.beq_refl] at h3
      cases h3
    refine hc i j _ (Nat.blt_eq.mp h1) (Nat.blt_eq.mp h2) hne ?_
    refine wp_run hc (k (lt i j)) ?_ h
    cases lt i j
    · exact h5
    · exact h4
noncomputable def rowsAll : Nat → List (List Nat)
  | 0 => [[]]
  | k + 1 => (List.range 5).flatMap fun x => (rowsAll k).map fun l => x :: l
theorem rowsAll_mem : ∀ {v : List Nat}, v.all (fun x => Nat.blt x 5) = true → v ∈ rowsAll v.length
  | [], _ => List.mem_singleton.mpr rfl
  | a :: r, h => by
    rw [List.all_cons, Bool.and_eq_true] at h
    exact List.mem_flatMap.mpr ⟨a, List.mem_range.mpr (Nat.blt_eq.mp h.1), List.mem_map.mpr ⟨r, rowsAll_mem h.2, rfl⟩⟩
noncomputable def sortsB (n : Nat) : Bool := asksOk n (kas_sort n) && (rowsAll n).all fun v => !(distinct v) || eqL (runT (fun i j => Nat.blt (v.getD i 0) (v.getD j 0)) (kas_sort n)).toList (ixSort v)
theorem sorts2 : sortsB 2 = true := by decide +kernel
theorem sorts3 : sortsB 3 = true := by decide +kernel
theorem sorts4 : sortsB 4 = true := by decide +kernel
theorem sorts5 : sortsB 5 = true := by decide +kernel
theorem sorts {n : Nat} (h2 : 2 ≤ n) (h5 : n ≤ 5) : sortsB n = true := by
  match n, h2, h5 with
  | 2, _, _ => exact sorts2
  | 3, _, _ => exact sorts3
  | 4, _, _ => exact sorts4
  | 5, _, _ => exact sorts5
theorem sorts_ix {v : List Nat} (h2 : 2 ≤ v.length) (h5 : v.length ≤ 5) (hs : v.all (fun x => Nat.blt x 5) = true) (hd : distinct v = true) :
    asksOk v.length (kas_sort v.length) = true ∧ (runT (fun i j => Nat.blt (v.getD i 0) (v.getD j 0)) (kas_sort v.length)).toList = ixSort v := by
  have h := sorts h2 h5
  unfold sortsB at h
  rw [Bool.and_eq_true] at h
  refine ⟨h.1, ?_⟩
  have q := List.all_eq_true.mp h.2 v (rowsAll_mem hs)
  rw [hd] at q
  exact eqL_is q
end Ts
end
section
namespace Ts
open PySem PySem.Spec PyProof.Rows
open PySem.W (KasT kas_sort kas_ask)
section
variable {P : Program} {w : World} {A : Around} {E : Value → Shared → Prop} {s : Shared}
noncomputable def heapS (h : Heap) (a : Addr) (vs : List Value) : Heap := ((h.update a (Obj.mapSeq fun _ => #[])).push (seqObj "tuple" vs.toArray 0)).push (seqObj "list" #[] 0)
theorem heapS_old {h : Heap} {a b : Addr} {vs : List Value} {o : Obj} (e : h.get? b = some o) (ne : b ≠ a) : (heapS h a vs).get? b = some o := by
  unfold heapS
  refine Heap.get?_push_of_some _ (Heap.get?_push_of_some _ ?_)
  rw [Heap.get?_update_ne _ _ _ _ ne]
  exact e
theorem sort_way {a : Addr} {vs : List Value} {n : Nat} {R : PySem.Fin → Shared → Prop} {lt : Nat → Nat → Bool} (ho : s.heap.get? a = some (seqObj "list" vs.toArray n)) (h2 : 2 ≤ vs.length) (h64 : vs.length < 64) (ha : asksOk vs.length (kas_sort vs.length) = true)
    (hk : ∀ (E' : Value → Shared → Prop) {Q : SortKind → Shared → Prop}, Q oneType' { s with heap := heapS s.heap a vs } → wpAny (model P w) A (keyKind' vs.toArray) Q E' { s with heap := heapS s.heap a vs })
    (hc : ∀ i j C, i < vs.length → j < vs.length → i ≠ j → C (lt i j) { s with heap := heapS s.heap a vs } → kas_ask P w A oneType' vs i j C { s with heap := heapS s.heap a vs })
    (hR : R (.done (.ret .none)) { s with heap := sortedHeap s.heap a vs (List.toArray ((runT lt (kas_sort vs.length)).toList.map fun i => vs.getD i Value.none)) }) :
    wpAny (model P w) A (Builtin.«list.sort» ⟨[.ref a], []⟩) R E s := by
  have big : vs.length ≤ sizeLine := by
    rw [sizeLine_eq]
    omega
  have lt0 : a < s.heap.objs.size := Heap.lt_size ho
  rw [list_sort_plain]
  refine wpAny_bind (listItems_at ho rfl (wpAny_bind (listUpdate_at ho rfl ?_ (by rw [List.size_toArray]; exact big) (Nat.zero_le _))))
  have ⟨c1, o1⟩ : ∃ c, (s.heap.update a (Obj.mapSeq fun _ => #[])).get? a = some (seqObj "list" #[] c) := ⟨_, get?_update_seq ho (fun _ => #[])⟩
  refine wpAny_bind (seqEpoch_at o1 rfl (wpAny_bind (wpAny_newTuple ?_ big)))
  refine wpAny_bind (wpAny_newList (wpAny_holding ?_) (Nat.zero_le _))
  show wpAny (model P w) A _ R E { s with heap := heapS s.heap a vs }
  have o6 : (heapS s.heap a vs).get? a = some (seqObj "list" #[] c1) := by
    unfold heapS
    exact Heap.get?_push_of_some _ (Heap.get?_push_of_some _ o1)
  have no2 : ¬ vs.toArray.size < 2 := by
    rw [List.size_toArray]
    omega
  dsimp only
  rw [if_neg no2, if_neg no2]
  refine wpAny_bind (hk _ ?_)
  have run := PySem.W.kat_run (prog := P) (w := w) (A := A) (E := E) (s := { s with heap := heapS s.heap a vs }) (vs := vs) (ks := vs) (κ := oneType')
    (Q := fun st s' => ∃ p : Array Nat, p.size = vs.length ∧ arrOf st = p.map (PySem.W.kas_item (vs.toArray.zip vs.toArray)) ∧ failedOf st = none ∧ s' = { s with heap := heapS s.heap a vs } ∧ p = runT lt (kas_sort vs.length))
    (G := fun p s' => s' = { s with heap := heapS s.heap a vs } ∧ p = runT lt (kas_sort vs.length)) rfl h2 h64 (fun p st s' q1 q2 q3 q4 => ⟨p, q1, q2, q3, q4.1, q4.2⟩) (wp_run hc _ ha ⟨rfl, rfl⟩)
  refine wpAny_bind (wpAny_mono run ?_ fun _ _ e => e)
  rintro ⟨⟨⟩, st⟩ s' ⟨p, hp, har, hf, rfl, rfl⟩
  dsimp only
  have snd := PySem.W.kat_snds (vs := vs) (ks := vs) rfl har
  refine wpAny_bind (seqEpoch_at o6 rfl ?_)
  rw [snd]
  refine wpAny_bind (listUpdate_at o6 rfl ?_ (Nat.zero_le _) ?_)
  · rw [hf]
    simp only [bne_self_eq_false, Bool.false_eq_true, if_false]
    exact wpAny_pure hR
  · rw [List.size_toArray, List.length_map, Array.length_toList, hp]
    exact Nat.le_succ_of_le big
theorem sorted_way {l : Addr} {vs : List Value} {Q : Value → Shared → Prop} {lt : Nat → Nat → Bool} (hl : s.heap.IsList l vs.toArray) (h2 : 2 ≤ vs.length) (h64 : vs.length < 64) (ha : asksOk vs.length (kas_sort vs.length) = true)
    (hk : ∀ (s' : Shared) (A' : Around) (E' : Value → Shared → Prop) {Q' : SortKind → Shared → Prop}, (∀ b o, s.heap.get? b = some o → s'.heap.get? b = some o) → Q' oneType' s' → wpAny (model P w) A' (keyKind' vs.toArray) Q' E' s')
    (hc : ∀ (s' : Shared) i j C, (∀ b o, s.heap.get? b = some o → s'.heap.get? b = some o) → i < vs.length → j < vs.length → i ≠ j → C (lt i j) s' → kas_ask P w A.in1.in1 oneType' vs i j C s')
    (hQ : Q (.ref (s.heap.objs.size + 1)) { s with heap := sortedAll s.heap vs (List.toArray ((runT lt (kas_sort vs.length)).toList.map fun i => vs.getD i Value.none)) }) :
    wpAny (model P w) A (call (.builtin "sorted") [.ref l]) Q E s := by
  have big : vs.length ≤ sizeLine := by
    rw [sizeLine_eq]
    omega
  refine Calls.call_function_entry kind_sorted plain_sorted entry_sorted (args_sorted1 _) ?_
  unfold Builtin.«sorted»
  refine wpAny_bind (m := checkCount "sorted" 1 1 _) (wpAny_pure (wpAny_bind (collect_list hl (wpAny_bind (wpAny_newList ?_ big)) big)))
  have sz : ((s.heap.push (seqObj "list" #[] 0)).update s.heap.objs.size (Obj.mapSeq (· ++ vs.toArray))).objs.size = s.heap.objs.size + 1 := (Heap.size_update ..).trans (size_push' ..)
  generalize hh : ((s.heap.push (seqObj "list" #[] 0)).update s.heap.objs.size (Obj.mapSeq (· ++ vs.toArray))).push (seqObj "list" vs.toArray 0) = h1
  have new1 : h1.get? (s.heap.objs.size + 1) = some (seqObj "list" vs.toArray 0) := by
    rw [← hh, ← sz]
    exact Heap.get?_push_size _ rfl
  have old1 : ∀ b o, s.heap.get? b = some o → h1.get? b = some o := fun b o e => by
    have hb : b ≠ s.heap.objs.size := Nat.ne_of_lt (Heap.lt_size e)
    rw [← hh]
    refine Heap.get?_push_of_some _ ?_
    rw [Heap.get?_update_ne _ _ _ _ hb]
    exact Heap.get?_push_of_some _ e
  have old6 : ∀ b o, s.heap.get? b = some o → (heapS h1 (s.heap.objs.size + 1) vs).get? b = some o := fun b o e => heapS_old (old1 b o e) (Nat.ne_of_lt (Nat.lt_succ_of_lt (Heap.lt_size e)))
  rw [sz]
  show wpAny _ _ _ _ _ { s with heap := _ }
  refine wpAny_bind (wpAny_holding (wpAny_call_entry slot_list_sort (s := { s with heap := h1 }) ⟨_, new1, rfl⟩ entry_list_sort ?_ (args_list_sort _)))
  refine sort_way (s := { s with heap := h1 }) new1 h2 h64 ha (fun E' Q' q => hk _ _ _ old6 q) (fun i j C h1' h2' h3' q => hc _ i j C old6 h1' h2' h3' q) ⟨_, rfl, ?_⟩
  refine wpAny_pure ⟨_, rfl, ?_⟩
  have e : sortedHeap h1 (s.heap.objs.size + 1) vs (List.toArray ((runT lt (kas_sort vs.length)).toList.map fun i => vs.getD i Value.none)) = sortedAll s.heap vs (List.toArray ((runT lt (kas_sort vs.length)).toList.map fun i => vs.getD i Value.none)) := by
    rw [← hh]
    rfl
  show Q _ { s with heap := sortedHeap h1 (s.heap.objs.size + 1) vs _ }
  rw [e]
  exact hQ
theorem row_lt {x y : Addr} {is js : Array Value} {n k : Nat} {da db : Option Addr} {sa sb : Array (Option Value)} {a b : Int} {t u : Tok} {Q : Bool → Shared → Prop} (hu : A.units < cLine) (hx : s.heap.get? x = some { cls := .type "list", dict := da, data := .seq is n, slots := sa })
    (hy : s.heap.get? y = some { cls := .type "list", dict := db, data := .seq js k, slots := sb }) (hi : is[0]? = some (.int a t)) (hj : js[0]? = some (.int b u)) (hne : (a == b) = false) (h : Q (decide (a < b)) s) :
    wpAny (model P w) A (keyLt' oneType' (.ref x) (.ref y)) Q E s := by
  rw [keyLt'_oneType, oneLt'_eq, if_pos rfl]
  refine wpAny_bind (wpAny_cRoomFor hu ?_)
  refine wpAny_bind (wpAny_callSpecialIfBound?_slot (T := "list") (id := "list.__lt__") ⟨_, hx, rfl⟩ F.slot_list_lt ?_)
  refine call_meets F.slot_list_lt ⟨_, hx, rfl⟩ F.entry_list_lt (F.args_list_lt_2 _ _) (lt_firsts x y is js n k da db sa sb a b t u hi hj hne) ⟨hx, hy, ?_⟩
  exact wpAny_truthy_bool h
noncomputable def RowObjs (h : Heap) (vs : List Value) (v : List Nat) : Prop := ∀ i, i < vs.length → ∃ (x : Addr) (is : Array Value) (n : Nat) (t : Tok), vs.getD i Value.none = .ref x ∧ h.get? x = some { cls := .type "list", data := .seq is n } ∧ is[0]? = some (.int ((v.getD i 0 : Nat) : Int) t)
theorem distinct_at : ∀ {v : List Nat}, distinct v = true → ∀ {i j : Nat}, i < v.length → j < v.length → i ≠ j → v.getD i 0 ≠ v.getD j 0
  | [], _, i, j, hi, _, _ => absurd hi (Nat.not_lt_zero _)
  | a :: r, h, i, j, hi, hj, hij => by
    have h : (r.all (fun b => !(Nat.beq a b)) && distinct r) = true := h
    rw [Bool.and_eq_true] at h
    have ne : ∀ k, k < r.length → a ≠ r.getD k 0 := fun k hk e => by
      have q := List.all_eq_true.mp h.1 (r.getD k 0) (by rw [List.getD_eq_getElem?_getD, List.getElem?_eq_getElem hk]; exact List.getElem_mem _)
      rw [← e, Nat.beq_refl] at q
      cases q
    cases i with
    | zero =>
      cases j with
      | zero => exact absurd rfl hij
      | succ j => exact ne j (Nat.lt_of_succ_lt_succ hj)
    | succ i =>
      cases j with
      | zero => exact fun e => ne i (Nat.lt_of_succ_lt_succ hi) e.symm
      | succ j => exact distinct_at h.2 (Nat.lt_of_succ_lt_succ hi) (Nat.lt_of_succ_lt_succ hj) (fun e => hij (congrArg (· + 1) e))
theorem sorted_rows {l : Addr} {vs : List Value} {v : List Nat} {Q : Value → Shared → Prop} (hl : s.heap.IsList l vs.toArray) (hv : v.length = vs.length) (hf : fewHeads v = true) (ho : RowObjs s.heap vs v) (hu : A.units + 2 < cLine)
    (hQ : Q (.ref (s.heap.objs.size + 1)) { s with heap := sortedAll s.heap vs (List.toArray ((ixSort v).map fun i => vs.getD i Value.none)) }) :
    wpAny (model P w) A (call (.builtin "sorted") [.ref l]) Q E s := by
  unfold fewHeads at hf
  simp only [Bool.and_eq_true] at hf
  obtain ⟨f1, f2, f3, f4⟩ := hf
  have f1 := Nat.le_of_ble_eq_true f1
  have f2 := Nat.le_of_ble_eq_true f2
  obtain ⟨s1, s2⟩ := sorts_ix f1 f2 f3 f4
  have typ : ∀ (h' : Heap), (∀ b o, s.heap.get? b = some o → h'.get? b = some o) → ∀ u ∈ vs, ∃ (x : Addr) (is : Array Value) (n : Nat), u = .ref x ∧ h'.get? x = some { cls := .type "list", data := .seq is n } := fun h' kp u hu => by
    obtain ⟨i, hi⟩ := List.getElem?_of_mem hu
    have hlt := (List.getElem?_eq_some_iff.mp hi).1
    obtain ⟨x, is, n, t, e1, e2, _⟩ := ho i hlt
    rw [List.getD_eq_getElem?_getD, hi] at e1
    exact ⟨x, is, n, e1, kp _ _ e2⟩
  refine sorted_way (lt := fun i j => Nat.blt (v.getD i 0) (v.getD j 0)) hl (by omega) (by omega) (by rw [← hv]; exact s1) (fun s' A' E' Q' kp q => ?_) (fun s' i j C kp hi hj hij q => ?_) ?_
  · refine PySem.W.kas_kind (T := .type "list") (by omega) (fun u hu => ?_) (by decide) (by decide) q
    obtain ⟨x, is, n, rfl, e⟩ := typ _ kp u hu
    exact PySem.W.Looks.andThen (PySem.W.Looks.ld e) .now
  · obtain ⟨x, is, n, t, e1, e2, e3⟩ := ho i hi
    obtain ⟨y, js, k, u, e4, e5, e6⟩ := ho j hj
    unfold kas_ask
    rw [e1, e4]
    have ne := distinct_at f4 (by omega : i < v.length) (by omega : j < v.length) hij
    refine row_lt (s := s') (show A.units + 1 + 1 < cLine by omega) (kp _ _ e2) (kp _ _ e5) e3 e6 ?_ ?_
    · exact Bool.eq_false_iff.mpr fun z => ne (by have z := eq_of_beq z; omega)
    · have e : decide (((v.getD i 0 : Nat) : Int) < ((v.getD j 0 : Nat) : Int)) = Nat.blt (v.getD i 0) (v.getD j 0) := by
        by_cases h : v.getD i 0 < v.getD j 0
        · rw [decide_eq_true (by omega)]
          exact (Nat.blt_eq.mpr h).symm
        · rw [decide_eq_false (by omega)]
          exact (Bool.eq_false_iff.mpr fun q => h (Nat.blt_eq.mp q)).symm
      rw [e]
      exact q
  · rw [← hv, s2]
    exact hQ
end
end Ts
end
section
namespace Ts
open PySem PySem.Spec PyProof.Rows L2
theorem boot_srt : bootBuiltins "sorted" = some (.builtin "sorted") := by decide +kernel
structure Txt4 (mg : Str → Option Value) : Prop where
  sorted : mg "sorted" = none
  max : mg "max" = none
inductive RowsIn (H : Hp) : List Addr → List (List Nat) → Prop
  | nil : RowsIn H [] []
  | cons {r : Addr} {rs : List Addr} {ns : List Nat} {nss : List (List Nat)} : H r = some (.lst (intsV ns)) → RowsIn H rs nss → RowsIn H (r :: rs) (ns :: nss)
theorem RowsIn.mono {H H' : Hp} (e : Same H H') : ∀ {rs : List Addr} {nss : List (List Nat)}, RowsIn H rs nss → RowsIn H' rs nss
  | _, _, .nil => .nil
  | _, _, .cons h1 h2 => .cons (e _ _ h1) (h2.mono e)
theorem RowsIn.length {H : Hp} : ∀ {rs : List Addr} {nss : List (List Nat)}, RowsIn H rs nss → rs.length = nss.length
  | _, _, .nil => rfl
  | _, _, .cons _ h => congrArg (· + 1) h.length
theorem RowsIn.get {H : Hp} : ∀ {rs : List Addr} {nss : List (List Nat)}, RowsIn H rs nss → ∀ {i : Nat} {r : Addr}, rs[i]? = some r → ∃ ns, nss[i]? = some ns ∧ H r = some (.lst (intsV ns))
  | _, _, .nil, i, r, h => by simp at h
  | _, _, .cons h1 _, 0, r, h => by
    have e := Option.some.inj h
    subst e
    exact ⟨_, rfl, h1⟩
  | _, _, .cons _ h2, i + 1, r, h => h2.get (i := i) h
theorem RowsIn.append {H : Hp} {bs : List Addr} {us : List (List Nat)} (q : RowsIn H bs us) : ∀ {rs : List Addr} {nss : List (List Nat)}, RowsIn H rs nss → RowsIn H (rs ++ bs) (nss ++ us)
  | _, _, .nil => q
  | _, _, .cons h1 h2 => .cons h1 (RowsIn.append q h2)
theorem RowsIn.reverse {H : Hp} : ∀ {rs : List Addr} {nss : List (List Nat)}, RowsIn H rs nss → RowsIn H rs.reverse nss.reverse
  | _, _, .nil => .nil
  | _, _, .cons h1 h2 => by
    rw [List.reverse_cons, List.reverse_cons]
    exact RowsIn.append (.cons h1 .nil) h2.reverse
theorem RowsIn.upd {H : Hp} {D : Addr} {o : HO} : ∀ {rs : List Addr} {nss : List (List Nat)}, RowsIn H rs nss → (∀ r ∈ rs, r ≠ D) → RowsIn (upd H D o) rs nss
  | _, _, .nil, _ => .nil
  | _, _, .cons h1 h2, h => .cons (by rw [upd_ne (h _ List.mem_cons_self)]; exact h1) (h2.upd fun r hr => h r (List.mem_cons_of_mem _ hr))
theorem RowsIn.pick {H : Hp} {rs : List Addr} {nss : List (List Nat)} (h : RowsIn H rs nss) (d : Addr) : ∀ {ix : List Nat}, (∀ i ∈ ix, i < rs.length) → RowsIn H (ix.map fun i => rs.getD i d) (ix.map fun i => nss.getD i [])
  | [], _ => .nil
  | i :: ix, hx => by
    have hi := hx i List.mem_cons_self
    have e : rs[i]? = some rs[i] := List.getElem?_eq_getElem hi
    obtain ⟨ns, h1, h2⟩ := h.get e
    refine .cons (r := rs.getD i d) (ns := nss.getD i []) ?_ (h.pick d fun j hj => hx j (List.mem_cons_of_mem _ hj))
    rw [List.getD_eq_getElem?_getD, e, List.getD_eq_getElem?_getD, h1]
    exact h2
theorem insIx_mem {v : List Nat} {i j : Nat} : ∀ {l : List Nat}, j ∈ insIx v i l → j = i ∨ j ∈ l
  | [], h => .inl (List.mem_singleton.mp h)
  | k :: r, h => by
    have h : j ∈ (bif Nat.blt (v.getD k 0) (v.getD i 0) then k :: insIx v i r else i :: k :: r) := h
    cases e : Nat.blt (v.getD k 0) (v.getD i 0) with
    | true =>
      rw [e] at h
      rcases List.mem_cons.mp h with q | q
      · exact .inr (q ▸ List.mem_cons_self)
      · rcases insIx_mem q with q | q
        · exact .inl q
        · exact .inr (List.mem_cons_of_mem _ q)
    | false =>
      rw [e] at h
      exact List.mem_cons.mp h
theorem ixSort_lt {v : List Nat} {j : Nat} (h : j ∈ ixSort v) : j < v.length := by
  unfold ixSort at h
  have go : ∀ l : List Nat, j ∈ l.foldr (insIx v) [] → j ∈ l := fun l => by
    induction l with
    | nil => exact fun q => q
    | cons a r ih =>
      intro q
      rcases insIx_mem q with q | q
      · exact q ▸ List.mem_cons_self
      · exact List.mem_cons_of_mem _ (ih q)
  exact List.mem_range.mp (go _ h)
theorem headsOf_at : ∀ {nss : List (List Nat)} {v : List Nat}, headsOf nss = some v → v.length = nss.length ∧ ∀ i ns, nss[i]? = some ns → ∃ r, ns = v.getD i 0 :: r
  | [], v, h => by
    have h : [] = v := Option.some.inj h
    subst h
    exact ⟨rfl, fun i ns q => by simp at q⟩
  | [] :: _, v, h => by cases h
  | (a :: r) :: q, v, h => by
    have h : (match headsOf q with | none => none | some t => some (a :: t)) = some v := h
    cases e : headsOf q with
    | none => rw [e] at h; cases h
    | some t =>
      rw [e] at h
      have h : a :: t = v := Option.some.inj h
      subst h
      obtain ⟨h1, h2⟩ := headsOf_at e
      refine ⟨congrArg (· + 1) h1, fun i ns hi => ?_⟩
      cases i with
      | zero =>
        have e := Option.some.inj hi
        subst e
        exact ⟨r, rfl⟩
      | succ i => exact h2 i ns hi
section
variable {X : Cx}
theorem vals_refs : ∀ {rs : List Addr} {us : List Value}, Vals (rs.map V.ref) us → us = rs.map Value.ref
  | [], us, h => by
    cases h
    rfl
  | a :: rs, us, h => by
    cases h with
    | cons h1 h2 =>
      cases h1
      rw [vals_refs h2]
      rfl
theorem vals_pick {rs : List Addr} : ∀ ix : List Nat, Vals (ix.map fun i => (rs.map V.ref).getD i .non) (ix.map fun i => (rs.map Value.ref).getD i Value.none)
  | [] => .nil
  | i :: ix => by
    refine .cons ?_ (vals_pick ix)
    show RelV ((rs.map V.ref).getD i .non) ((rs.map Value.ref).getD i Value.none)
    rw [List.getD_eq_getElem?_getD, List.getD_eq_getElem?_getD, List.getElem?_map, List.getElem?_map]
    cases rs[i]? <;> rfl
theorem ints_first {ns : List Nat} {us : List Value} {a : Nat} {r : List Nat} (h : Vals (intsV ns) us) (e : ns = a :: r) : ∃ t, us.toArray[0]? = some (.int (a : Int) t) := by
  subst e
  cases h with
  | cons h1 _ =>
    obtain ⟨t, rfl⟩ := h1
    exact ⟨t, rfl⟩
noncomputable def rSortRows : List V → Hp → VK → Prop := fun vs H Q => ∃ (a : Addr) (rs : List Addr) (nss : List (List Nat)) (v : List Nat), vs = [.ref a] ∧ H a = some (.lst (rs.map V.ref)) ∧ RowsIn H rs nss ∧ headsOf nss = some v ∧ fewHeads v = true ∧
  ∀ p, H p = none → Q (.ref p) (upd H p (.lst ((ixSort v).map fun i => (rs.map V.ref).getD i .non)))
theorem insIx_len {v : List Nat} {i : Nat} : ∀ {l : List Nat}, (insIx v i l).length = l.length + 1
  | [] => rfl
  | k :: r => by
    show (bif Nat.blt (v.getD k 0) (v.getD i 0) then k :: insIx v i r else i :: k :: r).length = _
    cases Nat.blt (v.getD k 0) (v.getD i 0) with
    | true => exact congrArg (· + 1) (insIx_len (l := r))
    | false => rfl
theorem ixSort_len {v : List Nat} : (ixSort v).length = v.length := by
  unfold ixSort
  have go : ∀ l : List Nat, (l.foldr (insIx v) []).length = l.length := fun l => by
    induction l with
    | nil => rfl
    | cons a r ih => exact insIx_len.trans (congrArg (· + 1) ih)
  rw [go, List.length_range]
theorem call_sortRows (hu : X.A.units + 2 < cLine) : CallR X (.builtin "sorted") rSortRows := by
  intro pins s σ H vs us Q I r h
  obtain ⟨a, rs, nss, v, rfl, hH, hR, hv, hf, q⟩ := h
  obtain ⟨z, its, n, rv, hlen, e⟩ := I.lstM hH
  rw [Vals.ref1 r]
  have ei := vals_refs rv
  subst ei
  obtain ⟨v1, v2⟩ := headsOf_at hv
  have hlr := hR.length
  have hvl : v.length = (rs.map Value.ref).length := by rw [List.length_map]; omega
  refine sorted_rows (l := a) (vs := rs.map Value.ref) (v := v) ⟨_, e, rfl, n, rfl⟩ hvl hf (fun i hi => ?_) hu ?_
  · rw [List.length_map] at hi
    have er : rs[i]? = some rs[i] := List.getElem?_eq_getElem hi
    obtain ⟨ns, h1, h2⟩ := hR.get er
    obtain ⟨t', e'⟩ := v2 i ns h1
    obtain ⟨z2, its2, n2, rv2, _, e2⟩ := I.lstM h2
    obtain ⟨t, ht⟩ := ints_first rv2 e'
    refine ⟨rs[i], its2.toArray, n2, t, ?_, e2, ht⟩
    rw [List.getD_eq_getElem?_getD, List.getElem?_map, er]
    rfl
  · obtain ⟨ep, he'⟩ := sortedAll_at s.heap (rs.map Value.ref) (List.toArray ((ixSort v).map fun i => (rs.map Value.ref).getD i Value.none))
    have hl5 : ((ixSort v).map fun i => (rs.map V.ref).getD i .non).length ≤ sizeLine := by
      rw [List.length_map, ixSort_len, v1, ← hlr]
      rw [List.length_map] at z
      exact z
    exact ⟨.ref _, upd H (s.heap.objs.size + 1) (.lst ((ixSort v).map fun i => (rs.map V.ref).getD i .non)), I.laid (t' := s.toks) (fun _ _ => sortedAll_old) (Nat.le_succ _) ⟨hl5, _, ep, vals_pick _, he'⟩, rfl, q _ (I.hok.fresh (Nat.le_succ _))⟩
noncomputable def rBits : V → List V → Hp → VK → Prop := fun x xs H Q => ∃ a : Nat, x = .int (a : Int) ∧ xs = [] ∧ a ≠ 0 ∧ Q (.int ((Nat.log2 a + 1 : Nat) : Int)) H
theorem mt_bits : MtR X "int.bit_length" rBits := by
  intro pins s σ H x xs v us Q I rx rv h
  obtain ⟨a, rfl, rfl, h0, q⟩ := h
  obtain ⟨t, rfl⟩ := rx
  cases rv
  have e : Builtin.Int.intBits (a : Int) = Nat.log2 a + 1 := by
    unfold Builtin.Int.intBits
    have ne : ((a : Int) == 0) = false := Bool.eq_false_iff.mpr fun z => h0 (by have z := eq_of_beq z; omega)
    rw [ne]
    rfl
  refine call_int_bit_length ⟨.int ((Nat.log2 a + 1 : Nat) : Int), H, I.tok _, ⟨s.toks, by rw [e]⟩, q⟩
end
end Ts
end
section
namespace Ts
open PySem PySem.Spec PyProof.Rows L2
noncomputable def spFirst (C : Addr) (f : Nat) : Sp := fun vs H Q _ => ∃ (a : Addr) (t : T) (o : List Nat), vs = [.ref a] ∧ TreeAt C H a t ∧ firstOrder f t = some o ∧ ∀ (r : Addr) (H' : Hp), Same H H' → H r = none → H' r = some (.lst (intsV o)) → Q (.ref r) H'
theorem rowsF_at {g : T → Option (List Nat)} : ∀ {ts : List T} {rows : List (List Nat)}, rowsF g ts = some rows → rows.length = ts.length ∧ ∀ (i : Nat) (t : T), ts[i]? = some t → ∃ o, rows[i]? = some o ∧ g t = some o
  | [], rows, h => by
    have h : [] = rows := Option.some.inj h
    subst h
    exact ⟨rfl, fun i t q => by simp at q⟩
  | k :: r, rows, h => by
    have h : (match g k with | none => none | some a => match rowsF g r with | none => none | some b => some (a :: b)) = some rows := h
    cases e : g k with
    | none => rw [e] at h; cases h
    | some a =>
      rw [e] at h
      have h : (match rowsF g r with | none => none | some b => some (a :: b)) = some rows := h
      cases e2 : rowsF g r with
      | none => rw [e2] at h; cases h
      | some b =>
        rw [e2] at h
        have h : a :: b = rows := Option.some.inj h
        subst h
        obtain ⟨h1, h2⟩ := rowsF_at e2
        refine ⟨congrArg (· + 1) h1, fun i t hi => ?_⟩
        cases i with
        | zero =>
          have q := Option.some.inj hi
          subst q
          exact ⟨a, rfl, e⟩
        | succ i => exact h2 i t hi
theorem flat_take (l : List (List Nat)) (k : Nat) : (l.take k).flatten.length ≤ l.flatten.length := by
  have e : l.flatten = (l.take k).flatten ++ (l.drop k).flatten := by rw [← List.flatten_append, List.take_append_drop]
  rw [e, List.length_append]
  exact Nat.le_add_right _ _
theorem intsV_append (a b : List Nat) : intsV a ++ intsV b = intsV (a ++ b) := by
  unfold intsV
  rw [List.map_append]
theorem intsV_length (a : List Nat) : (intsV a).length = a.length := List.length_map ..
theorem head_cons {ns : List Nat} {z : Nat} (h : ns.head? = some z) : ∃ r, ns = z :: r := by
  cases ns with
  | nil => cases h
  | cons a r =>
    have e := Option.some.inj h
    subst e
    exact ⟨r, rfl⟩
theorem rows_ends {H : Hp} {rs : List Addr} {rows : List (List Nat)} {z y : Nat} (h : RowsIn H rs rows) (hz : rows.getLast?.bind List.head? = some z) (hy : rows.head?.bind List.head? = some y) :
    ∃ (rl rf : Addr) (ul uf : List Nat), atI (rs.map V.ref) (-1) = some (.ref rl) ∧ H rl = some (.lst (intsV (z :: ul))) ∧ atI (rs.map V.ref) 0 = some (.ref rf) ∧ H rf = some (.lst (intsV (y :: uf))) := by
  obtain ⟨nl, e1, e2⟩ := Option.bind_eq_some_iff.mp hz
  obtain ⟨nf, e3, e4⟩ := Option.bind_eq_some_iff.mp hy
  obtain ⟨ul, rfl⟩ := head_cons e2
  obtain ⟨uf, rfl⟩ := head_cons e4
  have hl := h.length
  rw [List.getLast?_eq_getElem?] at e1
  have hlt : rows.length - 1 < rows.length := (List.getElem?_eq_some_iff.mp e1).1
  have e5 : rs[rows.length - 1]? = some (rs[rows.length - 1]'(by omega)) := List.getElem?_eq_getElem (by omega)
  obtain ⟨n1, q1, q2⟩ := h.get e5
  rw [e1] at q1
  have q1 := Option.some.inj q1
  subst q1
  have e6 : rs[0]? = some (rs[0]'(by omega)) := List.getElem?_eq_getElem (by omega)
  obtain ⟨n2, q3, q4⟩ := h.get e6
  rw [List.head?_eq_getElem?] at e3
  rw [e3] at q3
  have q3 := Option.some.inj q3
  subst q3
  refine ⟨_, _, ul, uf, ?_, q2, at_of (j := 0) rfl (by rw [List.getElem?_map, e6]; rfl), q4⟩
  have e7 : ixN (rs.map V.ref).length (-1) = some (rows.length - 1) := by
    unfold ixN
    rw [List.length_map, if_neg (by decide), if_pos (by omega)]
    exact congrArg some (by omega)
  unfold atI
  rw [e7]
  show (rs.map V.ref)[rows.length - 1]? = _
  rw [List.getElem?_map, e5]
  rfl
theorem pick_refs {rs : List Addr} {d : Addr} : ∀ {ix : List Nat}, (∀ i ∈ ix, i < rs.length) → (ix.map fun i => (rs.map V.ref).getD i .non) = (ix.map fun i => rs.getD i d).map V.ref
  | [], _ => rfl
  | i :: ix, h => by
    have hi := h i List.mem_cons_self
    show (rs.map V.ref).getD i .non :: (ix.map fun i => (rs.map V.ref).getD i .non) = V.ref (rs.getD i d) :: (ix.map fun i => rs.getD i d).map V.ref
    rw [pick_refs fun j hj => h j (List.mem_cons_of_mem _ hj), List.getD_eq_getElem?_getD, List.getElem?_map, List.getD_eq_getElem?_getD, List.getElem?_eq_getElem hi]
    rfl
section
variable {P : Program} {w : World} {K : PySem.W.Frag} {mg : Str → Option Value} {base : Heap} {C : Addr}
theorem scFi : FnScope ["knot", "rows", "order", "row", "part"] ["knot"] (defScope sFirst) := ⟨rfl, rfl, rfl, by decide +kernel, rfl, by decide +kernel, by decide +kernel⟩
theorem spFirst_len {f : Nat} (vs : List V) (H : Hp) (Q : VK) (E : XK) (h : spFirst C f vs H Q E) : vs.length = (["knot"] : List Str).length := by
  obtain ⟨a, t, o, rfl, _⟩ := h
  rfl
theorem ok_first0 {k : Nat} (S : Src K mg "first_order" sFirst ["knot"]) : Def P w K mg base (k + 1) "first_order" ["knot"] (spFirst C 0) :=
  S.ok scFi spFirst_len (fun f cdv A outer s H vs Q E hr h => by
    obtain ⟨a, t, o, _, _, h, _⟩ := h
    cases h)
theorem ok_first {n k : Nat} (S : Src K mg "first_order" sFirst ["knot"]) (T : Txt K mg C) (T4 : Txt4 mg) (hk : 1 ≤ k) (D1 : Def P w K mg base k "first_order" ["knot"] (spFirst C n)) (Dr : Def P w K mg base 1 "turned_round" ["row"] spRound) :
    Def P w K mg base (k + 1) "first_order" ["knot"] (spFirst C (n + 1)) := by
  refine S.ok scFi spFirst_len (fun f cdv A outer s H vs Q E hr h => ?_)
  obtain ⟨a, t, o, rfl, hA, hm, kk⟩ := h
  obtain ⟨dx, l, as, h1, h2, h3, h4⟩ := hA.inv
  have r1 : Room 1 _ := hr.mono (by omega)
  have hu2 : A.units + 3 + 2 < cLine := by
    have q := hr.un
    have q : A.units + 3 + 16 * k + 200 < cLine := q
    omega
  refine ⟨_, pss_cons (ps_if (pt_cmpR op_eq (pe_callB call_len_seq rfl T.len PySem.boot_len (pa_cons (pe_fld (pv 0) rfl) pa_nil)) pe_int (nomark _))
      (pss_one (ps_ret (pe_lst (pa_cons (pe_op op_sub (pe_bm0 F.plainAttrs_int F.slot_int_bit_length F.type_int_bit_length mt_bits (pe_fld (pv 0) rfl)) pe_int) pa_nil)))) pss_nil)
    (pss_cons (ps_setLc (i := 1) (own := [("part", 4)]) rfl scFi.nd rfl rfl (sw_true rfl rfl rfl (by decide +kernel)) (pi_list (pe_fld (pv 0) rfl)) (blkOk_by (by show blkC ["knot", "rows", "order", "row", "part"] (defScope sFirst) _ _ = true; decide +kernel)) (fun _ _ _ _ _ => pg_name (i := 4) scFi.nd rfl (Or.inl rfl))
      (fun _ _ _ _ _ => pts_nil) (fun _ _ _ _ _ => pe_def D1 hr rfl (pa_cons (pv 4) pa_nil)))
    (pss_cons (ps_if (pt_not (pt_val (pe_fld (pv 0) rfl))) (pss_one (ps_set (i := 1) scFi.nd rfl (Or.inl rfl) (pe_callB (call_sortRows hu2) rfl T4.sorted boot_srt (pa_cons (pv 1) pa_nil))))
      (pss_one (ps_if (pt_cmpR op_lt (pe_ix ix_list (pe_ix ix_list (pv 1) (pe_un un_neg pe_int) (fun _ _ => rfl)) pe_int (fun _ _ => rfl)) (pe_ix ix_list (pe_ix ix_list (pv 1) pe_int (fun _ _ => rfl)) pe_int (fun _ _ => rfl)) (nomark _))
        (pss_one (ps_set (i := 1) scFi.nd rfl (Or.inl rfl) (pe_def Dr r1 rfl (pa_cons (pv 1) pa_nil)))) pss_nil)))
    (pss_cons (ps_set (i := 2) scFi.nd rfl (Or.inl rfl) (pe_lst pa_nil))
    (pss_cons (ps_for PassesOwn.never rfl (pi_list (pv 1)) (pg_name (i := 3) scFi.nd rfl (Or.inl rfl)) (pss_one (ps_expr (pe_bm PySem.F.plainAttrs_list PySem.F.slot_list_extend PySem.F.type_list_extend mt_extend (pv 2) (pa_cons (pv 3) pa_nil)))))
    (pss_one (ps_ret (pv 2))))))), ?_⟩
  have el : (as.map V.ref).length = t.kids.length := by rw [List.length_map, h4.length]
  refine ⟨_, rfl, a, C, dx, _, _, rfl, h1, T.cl, T.nB, kf_below _ _ _, l, _, rfl, .inl (SqL.of h2), rfl, _, rfl, ?_⟩
  rw [el]
  unfold firstOrder at hm
  cases ek : t.kids with
  | nil =>
    rw [ek] at hm
    have hm : (bif Nat.beq t.things 0 then none else some [Nat.log2 t.things]) = some o := hm
    cases e0 : Nat.beq t.things 0 with
    | true => rw [e0] at hm; cases hm
    | false =>
      rw [e0] at hm
      have hm : [Nat.log2 t.things] = o := Option.some.inj hm
      subst hm
      have hne : t.things ≠ 0 := fun z => by rw [z] at e0; cases e0
      refine iteT ⟨_, rfl, a, C, dx, _, _, rfl, h1, T.cl, T.nT, kf_things _ _ _, rfl, t.things, rfl, rfl, hne, _, _, rfl, rfl, (by show 1 ≤ sizeLine; decide), fun r nr => ?_⟩
      have e : ((Nat.log2 t.things + 1 : Nat) : Int) - 1 = (Nat.log2 t.things : Int) := by omega
      refine kk r _ (same_new nr _) nr ?_
      rw [upd_same]
      show some (HO.lst [V.int (((Nat.log2 t.things + 1 : Nat) : Int) - 1)]) = some (HO.lst [V.int (Nat.log2 t.things : Int)])
      rw [e]
  | cons c0 cs =>
    rw [← ek]
    rw [ek] at hm
    have hm : (match rowsF (firstOrder n) (c0 :: cs) with
      | none => none
      | some rows => match setRows t.turns rows with
        | none => none
        | some rs => bif Nat.ble rs.flatten.length 100 then some rs.flatten else none) = some o := hm
    rw [← ek] at hm
    have hk0 : t.kids.length ≠ 0 := by rw [ek]; exact Nat.succ_ne_zero _
    cases er : rowsF (firstOrder n) t.kids with
    | none => rw [er] at hm; cases hm
    | some rows =>
      rw [er] at hm
      have hm : (match setRows t.turns rows with
        | none => none
        | some rs => bif Nat.ble rs.flatten.length 100 then some rs.flatten else none) = some o := hm
      obtain ⟨rl, rat⟩ := rowsF_at er
      cases es : setRows t.turns rows with
      | none => rw [es] at hm; cases hm
      | some rows2 =>
        rw [es] at hm
        have hm : (bif Nat.ble rows2.flatten.length 100 then some rows2.flatten else none) = some o := hm
        cases e1 : Nat.ble rows2.flatten.length 100 with
        | false => rw [e1] at hm; cases hm
        | true =>
          rw [e1] at hm
          have hm : rows2.flatten = o := Option.some.inj hm
          have h100 : rows2.flatten.length ≤ 100 := Nat.le_of_ble_eq_true e1
          have rest : ∀ (q : Addr) (rs2 : List Addr) (H2 : Hp), Same H H2 → H2 q = some (.lst (rs2.map V.ref)) → RowsIn H2 rs2 rows2 → tSeq (tAsg (tLst tNil) (gName 2)) (tSeq (tFor (iList K (tVar 1)) (gName 3) (tDrop (tBM K "list" rExtend (tVar 2) (tCons (tVar 3) tNil)))) (tRet (tVar 2)))
              { nx := fun _ H' => Q .non H', rt := Q } [some (.ref a), some (.ref q), none, none, none] H2 := fun q rs2 H2 sm hq hR => by
            refine ⟨(by show 0 ≤ sizeLine; decide), fun od nod => ?_⟩
            have dq : q ≠ od := ne_of_none hq nod
            refine ⟨_, rfl, q, rfl, ⟨_, SqL.of (by rw [upd_ne dq]; exact hq)⟩, for_list (K := K) (a := q) (xs := rs2.map V.ref) (fun i σ H' => H' = upd H2 od (.lst (intsV (rows2.take i).flatten)) ∧ ∃ v : Option V, σ = [some (.ref a), some (.ref q), some (.ref od), v, none])
              ⟨rfl, none, rfl⟩ (fun i σ H' _ ⟨e, _⟩ => by rw [e]; exact SqL.of (by rw [upd_ne dq]; exact hq)) ?_ ?_⟩
            · rintro i x σ H' hi ⟨rfl, v, rfl⟩
              rw [List.getElem?_map] at hi
              obtain ⟨r, hr', rfl⟩ := Option.map_eq_some_iff.mp hi
              obtain ⟨ns, hns, hrow⟩ := hR.get hr'
              have dr : r ≠ od := ne_of_none hrow nod
              have et : (rows2.take (i + 1)).flatten = (rows2.take i).flatten ++ ns := by rw [take_snoc hns, List.flatten_append]; simp
              have hb := flat_take rows2 (i + 1)
              refine ⟨_, rfl, .inl ⟨rfl, _, SqL.of upd_same⟩, _, rfl, od, r, _, _, rfl, rfl, upd_same, by rw [upd_ne dr]; exact hrow, ?_, ?_⟩
              · rw [intsV_length, intsV_length]
                rw [et, List.length_append] at hb
                exact Nat.le_trans (show _ ≤ 100 by omega) (by decide)
              · rw [upd_upd, intsV_append, ← et]
                exact ⟨rfl, some (.ref r), rfl⟩
            · rintro σ H' ⟨rfl, v, rfl⟩
              have e : (rs2.map V.ref).length = rows2.length := by rw [List.length_map, hR.length]
              rw [e, List.take_length]
              refine ⟨_, rfl, kk od _ (Same.trans sm (same_new nod _)) (sm.free nod) ?_⟩
              rw [upd_same, hm]
          have ed : ¬ decide (V.int ((t.kids.length : Nat) : Int) = V.int 0) = true := fun z => by
            have z := of_decide_eq_true z
            injection z with z
            omega
          refine ite2 (fun c => absurd c ed) (fun _ => ?_)
          refine ⟨_, rfl, a, C, dx, _, _, rfl, h1, T.cl, T.nB, kf_below _ _ _, l, rfl, ⟨_, SqL.of h2⟩, fun D hD => ?_⟩
          refine lc_list (K := K) (a := l) (xs := as.map V.ref) (fun j H' => ∃ rs, Same H H' ∧ H' D = some (.lst (rs.map V.ref)) ∧ RowsIn H' rs (rows.take j) ∧ ∀ r ∈ rs, r ≠ D) ⟨[], same_new hD _, upd_same, .nil, fun r hr' => by cases hr'⟩ (fun j H' _ ⟨rs, sm, _⟩ => SqL.of (sm _ _ h2)) ?_ ?_
          · rintro j x H' hj ⟨rs, sm, hDl, hR, hne⟩
            rw [List.getElem?_map] at hj
            obtain ⟨c, hc, rfl⟩ := Option.map_eq_some_iff.mp hj
            obtain ⟨u, hu, hU⟩ := h4.get hc
            obtain ⟨ro, hro, hgo⟩ := rat j u hu
            have hjl : j < t.kids.length := (List.getElem?_eq_some_iff.mp hu).1
            refine ⟨rfl, ?_⟩
            unfold tYes
            refine iteT ?_
            refine ⟨_, rfl, c, u, ro, rfl, hU.mono sm, hgo, fun r H4 sm4 nr hr4 => ?_⟩
            have dr : r ≠ D := fun z => by rw [z, hDl] at nr; cases nr
            have hRl := hR.length
            refine ⟨_, sm4 _ _ hDl, ?_, rs ++ [r], ?_, ?_, ?_, ?_⟩
            · rw [List.length_map, hRl, List.length_take]
              exact Nat.lt_of_le_of_lt (show _ ≤ 100 by omega) (by decide)
            · intro b ob e
              rw [upd_ne (ne_of_none e hD)]
              exact sm4 _ _ (sm _ _ e)
            · rw [upd_same, List.map_append]
              rfl
            · rw [take_snoc hro]
              refine RowsIn.append (.cons ?_ .nil) ((hR.mono sm4).upd hne)
              rw [upd_ne dr]
              exact hr4
            · intro b hb
              rcases List.mem_append.mp hb with hb | hb
              · exact hne b hb
              · rw [List.mem_singleton.mp hb]
                exact dr
          · rintro H' ⟨rs, sm, hDl, hR, hne⟩
            rw [el, ← rl, List.take_length] at hR
            refine ⟨_, rfl, a, C, dx, _, _, rfl, sm _ _ h1, T.cl, T.nO, kf_turns _ _ _, _, rfl, ?_⟩
            cases et : t.turns with
            | false =>
              rw [et] at es
              have es : sortRows rows = some rows2 := es
              unfold sortRows at es
              cases eh : headsOf rows with
              | none => rw [eh] at es; cases es
              | some v =>
                rw [eh] at es
                have es : (bif fewHeads v then some ((ixSort v).map fun i => rows.getD i []) else none) = some rows2 := es
                cases ef : fewHeads v with
                | false => rw [ef] at es; cases es
                | true =>
                  rw [ef] at es
                  have es : ((ixSort v).map fun i => rows.getD i []) = rows2 := Option.some.inj es
                  have hvl := (headsOf_at eh).1
                  have hix : ∀ i ∈ ixSort v, i < rs.length := fun i hi => by
                    have q := ixSort_lt hi
                    have q2 := hR.length
                    omega
                  refine iteT ⟨_, rfl, D, rs, rows, v, rfl, hDl, hR, eh, ef, fun p np => ?_⟩
                  rw [pick_refs (d := D) hix]
                  refine rest p _ _ (Same.trans sm (same_new np _)) upd_same ?_
                  rw [← es]
                  exact (hR.pick D hix).mono (same_new np _)
            | true =>
              rw [et] at es
              have es : (match rows.getLast?.bind List.head?, rows.head?.bind List.head? with
                | some z, some a => some (bif Nat.blt z a then rows.reverse else rows)
                | _, _ => none) = some rows2 := es
              cases ez : rows.getLast?.bind List.head? with
              | none => rw [ez] at es; cases es
              | some z =>
                rw [ez] at es
                cases ey : rows.head?.bind List.head? with
                | none => rw [ey] at es; cases es
                | some y =>
                  rw [ey] at es
                  have es : (bif Nat.blt z y then rows.reverse else rows) = rows2 := Option.some.inj es
                  obtain ⟨ql, qf, ul, uf, a1, a2, a3, a4⟩ := rows_ends hR ez ey
                  refine iteF ⟨_, rfl, _, rfl, D, _, -1, _, rfl, rfl, SqL.of hDl, a1, ql, _, 0, _, rfl, rfl, SqL.of a2, at_of (j := 0) (v := .int (z : Int)) rfl rfl, _, rfl, D, _, 0, _, rfl, rfl, SqL.of hDl, a3, qf, _, 0, _, rfl, rfl, SqL.of a4, at_of (j := 0) (v := .int (y : Int)) rfl rfl, _, _, rfl, rfl, _, rfl, ?_⟩
                  have db : decide ((z : Int) < (y : Int)) = Nat.blt z y := blt_dec
                  refine ite2 (fun c => ?_) (fun c => ?_)
                  · rw [db.symm.trans c] at es
                    have es : rows.reverse = rows2 := es
                    refine ⟨_, rfl, D, _, rfl, hDl, fun p np => ?_⟩
                    rw [← List.map_reverse]
                    refine rest p _ _ (Same.trans sm (same_new np _)) upd_same ?_
                    rw [← es]
                    exact (hR.reverse).mono (same_new np _)
                  · rw [db.symm.trans (Bool.eq_false_iff.mpr c)] at es
                    have es : rows = rows2 := es
                    refine rest D rs _ sm hDl ?_
                    rw [← es]
                    exact hR
end
end Ts
end
section
namespace Ts
open PySem PySem.Spec PyProof.Rows L2
section
variable {P : Program} {w : World} {A : Around} {E : Value → Shared → Prop} {s : Shared}
theorem args_max3 (a b c : Value) : argsOk "max" ⟨[a, b, c], []⟩ := by unfold argsOk; kernel_rfl
theorem max_of3 {a b c : Value} {Q : Value → Shared → Prop}
    (h : wpAny (model P w) A.in1 (pyIter (.ref s.heap.objs.size)) (fun it s' => ∃ I fp wr n V St bt, it = .ref I ∧ Walks P w A.in1 I fp wr n V St ∧ St 0 s'.heap ∧ (∀ b ∈ fp, b < s'.heap.objs.size) ∧ 0 < n ∧ CmpOf P w A.in1 .Gt V bt ∧
      ∀ v h' tk, V (argBest bt (n - 1)) v → (∀ b o, b ∉ wr → s'.heap.get? b = some o → h'.get? b = some o) → Q v { s' with heap := h', toks := tk }) E { s with heap := s.heap.push { cls := .type "tuple", data := .seq #[a, b, c] } }) :
    wpAny (model P w) A (call (.builtin "max") [a, b, c]) Q E s := by
  have nm : (toString "max" ++ toString ".loop" : String) = "max.loop" := by decide
  refine call_function_tree F.kind_max F.plain_max F.entry_max (args_max3 _ _ _) ?_
  show wpAny _ A.in1 (Builtin.Builtins.bindParams "max" ["key", "default"] 0 ⟨[], []⟩ >>= fun z => _) _ _ s
  refine wpAny_bind (wpAny_of_eq (a := [none, none]) rfl ?_)
  show wpAny _ A.in1 (newTuple [a, b, c] >>= fun z => _) _ _ s
  refine wpAny_bind (wpAny_newObj_type (wpAny_bind (wpAny_mono h (fun it s' h' => ?_) fun _ _ e => e)))
  obtain ⟨I, fp, wr, n, V, St, bt, rfl, W, st0, below, pos, cmp, q⟩ := h'
  refine wpAny_bind (wpAny_newObj_type ?_)
  rw [nm]
  refine wpAny_pure ⟨plainId_quiet F.plain_max_loop _, ?_⟩
  refine codeAny_max_loop_first W bt cmp s'.heap.objs.size (fun m => Nat.lt_irrefl _ (below _ m)) pos (W.frame _ _ _ st0 fun b _ o e => Heap.get?_push_of_some _ e) (Heap.get?_push_size _ rfl) fun v h2 tk hv kp => ?_
  exact q v h2 tk hv fun b o nb e => kp b o nb (Nat.ne_of_lt (Heap.lt_size e)) (Heap.get?_push_of_some _ e)
noncomputable def top3 (a b c : Int) : Int := if (if b > a then b else a) < c then c else (if b > a then b else a)
theorem max_ints3 {a b c : Int} {t u v : Tok} {Q : Value → Shared → Prop} (hh : A.handled = none) (h : ∀ h' tk t', (∀ x o, s.heap.get? x = some o → h'.get? x = some o) → Q (.int (top3 a b c) t') { s with heap := h', toks := tk }) :
    wpAny (model P w) A (call (.builtin "max") [.int a t, .int b u, .int c v]) Q E s := by
  have tup : (s.heap.push { cls := .type "tuple", data := .seq #[.int a t, .int b u, .int c v] }).IsTuple s.heap.objs.size (intItems #[(a, t), (b, u), (c, v)]) := ⟨_, Heap.get?_push_size _ rfl, rfl, 0, by simp [intItems]⟩
  have sz : (s.heap.push { cls := .type "tuple", data := .seq #[.int a t, .int b u, .int c v] }).objs.size = s.heap.objs.size + 1 := Heap.size_push ..
  refine max_of3 (wpAny_pyIter_tuple tup ⟨_, [_, s.heap.objs.size], [_], _, _, _, _, rfl, Walks.tuple (A := A.in1) hh _ s.heap.objs.size (by rw [sz]; exact Nat.ne_of_lt (Nat.lt_succ_self _)) (intItems #[(a, t), (b, u), (c, v)]),
    ⟨⟨_, Heap.get?_push_size _ rfl, rfl, rfl⟩, tup.push _⟩, fun x hx => ?_, by simp [intItems], CmpOf.ints_gt (numAt #[(a, t), (b, u), (c, v)]) (fun _ _ => intItems_at), fun y h' tk hy kp => ?_⟩)
  · show x < ((s.heap.push _).push _).objs.size
    rw [Heap.size_push, sz]
    rcases List.mem_cons.mp hx with e | hx
    · rw [e, sz]
      exact Nat.lt_succ_self _
    · rw [List.mem_singleton.mp hx]
      exact Nat.lt_succ_of_lt (Nat.lt_succ_self _)
  · have old : ∀ x o, s.heap.get? x = some o → h'.get? x = some o := fun x o e => by
      refine kp x o (fun m => ?_) (Heap.get?_push_of_some _ (Heap.get?_push_of_some _ e))
      have e1 := List.mem_singleton.mp m
      have e2 := Heap.lt_size e
      rw [e1, sz] at e2
      exact Nat.lt_irrefl _ (Nat.lt_of_succ_lt e2)
    have e3 : (intItems #[(a, t), (b, u), (c, v)]).size - 1 = 2 := by simp [intItems]
    have hy : (intItems #[(a, t), (b, u), (c, v)])[argBest (fun i j => decide (numAt #[(a, t), (b, u), (c, v)] i > numAt #[(a, t), (b, u), (c, v)] j)) 2]? = some y := by
      rw [← e3]
      exact hy
    have ey : ∃ t', y = .int (top3 a b c) t' := by
      unfold top3
      by_cases h1 : b > a
      · by_cases h2 : b < c
        · have ea : argBest (fun i j => decide (numAt #[(a, t), (b, u), (c, v)] i > numAt #[(a, t), (b, u), (c, v)] j)) 2 = 2 := by simp [argBest, numAt, h1, h2]
          rw [ea] at hy
          rw [if_pos h1, if_pos h2]
          exact ⟨v, by simpa [intItems] using hy.symm⟩
        · have ea : argBest (fun i j => decide (numAt #[(a, t), (b, u), (c, v)] i > numAt #[(a, t), (b, u), (c, v)] j)) 2 = 1 := by simp [argBest, numAt, h1, h2]
          rw [ea] at hy
          rw [if_pos h1, if_neg h2]
          exact ⟨u, by simpa [intItems] using hy.symm⟩
      · by_cases h2 : a < c
        · have ea : argBest (fun i j => decide (numAt #[(a, t), (b, u), (c, v)] i > numAt #[(a, t), (b, u), (c, v)] j)) 2 = 2 := by simp [argBest, numAt, h1, h2]
          rw [ea] at hy
          rw [if_neg h1, if_pos h2]
          exact ⟨v, by simpa [intItems] using hy.symm⟩
        · have ea : argBest (fun i j => decide (numAt #[(a, t), (b, u), (c, v)] i > numAt #[(a, t), (b, u), (c, v)] j)) 2 = 0 := by simp [argBest, numAt, h1, h2]
          rw [ea] at hy
          rw [if_neg h1, if_neg h2]
          exact ⟨t, by simpa [intItems] using hy.symm⟩
    obtain ⟨t', rfl⟩ := ey
    exact h h' tk t' old
end
noncomputable def rMax3 : List V → Hp → VK → Prop := fun xs H Q => ∃ i j k, xs = [.int i, .int j, .int k] ∧ Q (.int (top3 i j k)) H
theorem call_max3 {X : Cx} (hc : X.calm = true) : CallR X (.builtin "max") rMax3 := by
  intro pins s σ H xs us Q I r h
  obtain ⟨i, j, k, rfl, q⟩ := h
  cases r with
  | cons r1 r =>
    cases r with
    | cons r2 r =>
      cases r with
      | cons r3 r =>
        cases r
        obtain ⟨t, rfl⟩ := r1
        obtain ⟨u, rfl⟩ := r2
        obtain ⟨v, rfl⟩ := r3
        exact max_ints3 (I.ok.hd hc) fun h' tk t' kp => ⟨.int (top3 i j k), H, I.kept kp, ⟨t', rfl⟩, q⟩
end Ts
end
section
namespace Ts
open PySem PySem.Spec PyProof.Rows L2
open Kh241Neutral (any_ leftOf)
open Kh241 (having without)
noncomputable abbrev cSay : Stmt := top 39
noncomputable abbrev sSInit : Stmt := inClass cSay 0
noncomputable abbrev sStart : Stmt := inClass cSay 1
noncomputable abbrev sSay : Stmt := inClass cSay 2
noncomputable abbrev sWhy : Stmt := inClass cSay 3
noncomputable abbrev sHas : Stmt := inClass cSay 7
noncomputable abbrev sNeeded : Stmt := inClass cSay 8
structure MSrc (K : PySem.W.Frag) (C : Addr) (x qual : Str) (st : Stmt) (ps : List Str) : Prop where
  ex : ∃ (f : Addr) (fd : FuncData), Fun K x qual st f fd ∧ Binds K fd ps [] ∧ Meth K C x f
structure MDef (P : Program) (w : World) (K : PySem.W.Frag) (mg : Str → Option Value) (base : Heap) (C : Addr) (k : Nat) (x : Str) (ps : List Str) (sp : Sp) : Prop where
  ex : ∃ (f : Addr) (fd : FuncData), FnOk P w K mg base CX0 k f fd ps sp ∧ Binds K fd ps [] ∧ Meth K C x f
theorem MSrc.ok {P : Program} {w : World} {K : PySem.W.Frag} {mg : Str → Option Value} {base : Heap} {C : Addr} {k : Nat} {x qual : Str} {st : Stmt} {N ps : List Str} {sp : Sp} (S : MSrc K C x qual st ps) (sc : FnScope N ps (defScope st)) (len : ∀ vs H Q E, sp vs H Q E → vs.length = ps.length)
    (hbody : ∀ (f : Addr) (cdv : Value) (A : Around) (outer : List Env) (s : Shared) (H : Hp) (vs : List V) (Q : VK) (E : XK), Room k (A.deeper (envOfC qual (defScope st) s.heap.objs.size f cdv)) → sp vs H Q E →
      ∃ t, PSs (cxOf CX0 P w K mg base N qual (defScope st) f cdv A outer s H E).nox (defBody st) t ∧ t { nx := fun _ H' => Q .non H', rt := Q } (start N vs) H) : MDef P w K mg base C (k + 1) x ps sp := by
  obtain ⟨f, fd, F, b, m⟩ := S.ex
  exact ⟨f, fd, F.ok sc len (hbody f), b, m⟩
theorem pe_mdef {X : Cx} {k : Nat} {C : Addr} {ps : List Str} {sp : Sp} {m : Str} {apos pos : Pos} {o e : Expr} {es : List Expr} {ta : TE} {t : TA} {pl : Sem Bool} (he : PE X o ta) (c : Cls X.K C) (D : MDef X.prog X.w X.K X.mg X.base C k m ps sp) (hr : Room k X.A) (ha : PA X (e :: es) t)
    (hst : starEach (e :: es) X.env = (false, eval e X.env) :: starEach es X.env := by rfl) (hpl : (backTo pos (starEach es X.env)).any (·.1) = false := by rfl)
    (ht : eval (.Call (.Attribute o m apos) (e :: es) [] pos) X.env = (do
      let ov ← eval o X.env
      standAt apos.atName
      let (f, first) ← holding [ov] (getMethod ov m pl)
      callWith pos f first (backTo pos (starEach (e :: es) X.env)) (backToKw pos (keywordEach [] X.env))) := by rfl) :
    PE X (.Call (.Attribute o m apos) (e :: es) [] pos) (tMeth C m sp [] E0 ta t) := by
  obtain ⟨f, fd, F, b, hm⟩ := D.ex
  exact pe_meth he c hm F hr b .nil pass0 ha hst hpl ht
noncomputable def sf (n : Nat) (l : Addr) (tv : V) : List (Str × V) := [(("n" : Str), .int (n : Int)), ("told", .ref l), ("tree", tv)]
theorem sf_n {n : Nat} {l : Addr} {tv : V} : (sf n l tv).lookup ("n" : Str) = some (.int (n : Int)) := by
  unfold sf
  rw [List.lookup_cons, beq_self_eq_true]
theorem sf_told {n : Nat} {l : Addr} {tv : V} : (sf n l tv).lookup ("told" : Str) = some (.ref l) := by
  unfold sf
  rw [List.lookup_cons, show (("told" : Str) == "n") = false by decide +kernel, List.lookup_cons, beq_self_eq_true]
theorem sf_tree {n : Nat} {l : Addr} {tv : V} : (sf n l tv).lookup ("tree" : Str) = some tv := by
  unfold sf
  rw [List.lookup_cons, show (("tree" : Str) == "n") = false by decide +kernel, List.lookup_cons, show (("tree" : Str) == "told") = false by decide +kernel, List.lookup_cons, beq_self_eq_true]
theorem sf_no {n : Nat} {l : Addr} {tv : V} {m : Str} (h1 : (m == ("n" : Str)) = false) (h2 : (m == ("told" : Str)) = false) (h3 : (m == ("tree" : Str)) = false) : (sf n l tv).lookup m = none := by
  unfold sf
  rw [List.lookup_cons, h1, List.lookup_cons, h2, List.lookup_cons, h3]
  rfl
theorem put_n {n m : Nat} {l : Addr} {tv : V} : putF "n" (.int (m : Int)) (sf n l tv) = sf m l tv := by
  unfold sf
  rw [putF, if_pos rfl]
theorem put_told {n : Nat} {l l' : Addr} {tv : V} : putF "told" (.ref l') (sf n l tv) = sf n l' tv := by
  unfold sf
  rw [putF, if_neg (by decide +kernel), putF, if_pos rfl]
theorem put_tree {n : Nat} {l : Addr} {tv tv' : V} : putF "tree" tv' (sf n l tv) = sf n l tv' := by
  unfold sf
  rw [putF, if_neg (by decide +kernel), putF, if_neg (by decide +kernel), putF, if_pos rfl]
theorem put_all {n : Nat} {l : Addr} {tv : V} : putF "tree" tv (putF "told" (.ref l) (putF "n" (.int (n : Int)) [])) = sf n l tv := by
  unfold sf
  rw [putF, putF, if_neg (by decide +kernel), putF, putF, if_neg (by decide +kernel), putF, if_neg (by decide +kernel), putF]
structure Txt2 (K : PySem.W.Frag) (mg : Str → Option Value) (C2 : Addr) : Prop where
  cl : Cls K C2
  nn : NoAttr K C2 "n"
  nl : NoAttr K C2 "told"
  nt : NoAttr K C2 "tree"
  mgC : mg "Sayings" = some (.ref C2)
  g1 : GInt mg "MOST_THINGS" 64
  g2 : GInt mg "MOST_SETS" 64
  g3 : GInt mg "NOT_A_THING" (-22)
  g4 : GInt mg "TOO_MANY_SETS" (-28)
  g5 : GInt mg "NO_ORDER" (-61)
  g6 : GInt mg "SOME_ORDER" (-17)
structure SayAt (C2 C : Addr) (G H : Hp) (p l : Addr) (n : Nat) (told : List Nat) : Prop where
  ex : ∃ (dx a : Addr) (t : T) (tb : Tb), H p = some (.ins C2 dx (sf n l (.ref a))) ∧ TreeAt C G a t ∧ Full n tb ∧ t ∈ tb.find (mask n told)
  lst : H l = some (.lst (intsV told))
  gp : G p = none
  gl : G l = none
  n1 : 1 ≤ n
  n5 : n ≤ 5
  len : told.length ≤ 64
  lt : ∀ x ∈ told, x < 2 ^ n
noncomputable def StAt (C2 C : Addr) (G H : Hp) (p l : Addr) : Option Kh241.Abs → Prop
  | none => (∃ dx : Addr, H p = some (.ins C2 dx (sf 0 l .non))) ∧ H l = some (.lst []) ∧ G p = none ∧ G l = none
  | some s => SayAt C2 C G H p l s.n s.told
theorem StAt.mono {C2 C : Addr} {G H G' H' : Hp} {p l : Addr} {st : Option Kh241.Abs} (e : Ext G H G' H') (h : StAt C2 C G H p l st) : StAt C2 C G' H' p l st := by
  cases st with
  | none =>
    obtain ⟨⟨dx, h1⟩, h2, h3, h4⟩ := h
    exact ⟨⟨dx, e.hs _ _ h1⟩, e.hs _ _ h2, e.none h3 h1, e.none h4 h2⟩
  | some s =>
    obtain ⟨⟨dx, a, t, tb, h1, h2, h3, h4⟩, hl, gp, gl, n1, n5, len, lt⟩ := h
    exact ⟨⟨dx, a, t, tb, e.hs _ _ h1, h2.mono e.gs, h3, h4⟩, e.hs _ _ hl, e.none gp h1, e.none gl hl, n1, n5, len, lt⟩
theorem StAt.obj {C2 C : Addr} {G H : Hp} {p l : Addr} {st : Option Kh241.Abs} (h : StAt C2 C G H p l st) : (∃ (dx : Addr) (n : Nat) (tv : V), H p = some (.ins C2 dx (sf n l tv))) ∧ G p = none := by
  cases st with
  | none =>
    obtain ⟨⟨dx, h1⟩, _, h3, _⟩ := h
    exact ⟨⟨dx, 0, .non, h1⟩, h3⟩
  | some s =>
    obtain ⟨⟨dx, a, t, tb, h1, _⟩, _, gp, _⟩ := h
    exact ⟨⟨dx, _, _, h1⟩, gp⟩
structure Frm (G H G' H' : Hp) (p l : Addr) : Prop where
  gs : Same G G'
  gh : Same G' H'
  hs : ∀ b o, H b = some o → b ≠ p → b ≠ l → H' b = some o
  new : ∀ b o, G' b = some o → G b = some o ∨ H b = none
theorem Ext.frm {G H G' H' : Hp} (e : Ext G H G' H') (p l : Addr) : Frm G H G' H' p l := ⟨e.gs, e.gh, fun b o h _ _ => e.hs b o h, e.new⟩
noncomputable def Answers (C2 C : Addr) (G H : Hp) (Q : VK) (p l : Addr) (st : Option Kh241.Abs) (out : List Int) : Prop := ∀ (r l' : Addr) (G' H' : Hp), Frm G H G' H' p l → (l' = l ∨ H l' = none) → StAt C2 C G' H' p l' st → H' r = some (.lst (out.map V.int)) → H r = none → Q (.ref r) H'
theorem Answers.refuse {C2 C : Addr} {G H : Hp} {Q : VK} {p l : Addr} {st : Option Kh241.Abs} {z : Int} (hG : Same G H) (hs : StAt C2 C G H p l st) (k : Answers C2 C G H Q p l st [z]) (r : Addr) (nr : H r = none) : Q (.ref r) (upd H r (.lst [.int z])) :=
  k r l G _ ((Ext.alloc hG nr _).frm p l) (.inl rfl) (hs.mono (.alloc hG nr _)) upd_same nr
noncomputable def startA (st : Option Kh241.Abs) (z : Nat) : Option Kh241.Abs × List Int := if Kh241.okStart z then (some (Kh241.start z), [0]) else (st, [-22])
noncomputable def sayA (s : Kh241.Abs) (x : Nat) : Kh241.Abs × List Int := if 2 ^ s.n ≤ x then (s, [-22]) else if 64 ≤ s.told.length then (s, [-28]) else if any_ s.n (x :: s.told) then ({ s with told := s.told ++ [x] }, [(s.told.length : Int)]) else (s, [-61])
noncomputable def whyA (s : Kh241.Abs) (x : Nat) : List Int := if 2 ^ s.n ≤ x then [-22] else if any_ s.n (x :: s.told) then [-17] else
  [(((List.range s.told.length).filter fun i => (leftOf s.n s.told x s.told.length).testBit i).length : Nat), ((leftOf s.n s.told x s.told.length : Nat) : Int)]
noncomputable def spSInit (C2 : Addr) : Sp := fun vs H Q _ => ∃ (p dx : Addr), vs = [.ref p] ∧ H p = some (.ins C2 dx []) ∧ ∀ l, H l = none → Q .non (upd (upd H l (.lst [])) p (.ins C2 dx (sf 0 l .non)))
noncomputable def spStart (C2 C : Addr) : Sp := fun vs H Q _ => ∃ (G : Hp) (p l : Addr) (st : Option Kh241.Abs) (z : Nat), vs = [.ref p, .int (z : Int)] ∧ Same G H ∧ StAt C2 C G H p l st ∧ (z ≤ 5 ∨ 64 < z) ∧ Answers C2 C G H Q p l (startA st z).1 (startA st z).2
noncomputable def spSay (C2 C : Addr) : Sp := fun vs H Q _ => ∃ (G : Hp) (p l : Addr) (s : Kh241.Abs) (x : Nat), vs = [.ref p, .int (x : Int)] ∧ Same G H ∧ StAt C2 C G H p l (some s) ∧ Answers C2 C G H Q p l (some (sayA s x).1) (sayA s x).2
noncomputable def spWhy (C2 C : Addr) : Sp := fun vs H Q _ => ∃ (G : Hp) (p l : Addr) (s : Kh241.Abs) (x : Nat), vs = [.ref p, .int (x : Int)] ∧ Same G H ∧ StAt C2 C G H p l (some s) ∧ Answers C2 C G H Q p l (some s) (whyA s x)
noncomputable def spHas (C2 C : Addr) : Sp := fun vs H Q _ => ∃ (G : Hp) (p l : Addr) (s : Kh241.Abs) (x : Nat), vs = [.ref p, .int (x : Int)] ∧ Same G H ∧ StAt C2 C G H p l (some s) ∧ Q (.bl (decide (2 ^ s.n ≤ x))) H
noncomputable def spNeeded (C2 C : Addr) : Sp := fun vs H Q _ => ∃ (G : Hp) (p l : Addr) (s : Kh241.Abs) (x : Nat), vs = [.ref p, .int (x : Int)] ∧ Same G H ∧ StAt C2 C G H p l (some s) ∧ x < 2 ^ s.n ∧
  ∀ (r : Addr) (G' H' : Hp), Ext G H G' H' → H' r = some (.lst (intsV (left s.n s.told x s.told.length))) → H r = none → G' r = none → Q (.ref r) H'
section
variable {P : Program} {w : World} {K : PySem.W.Frag} {mg : Str → Option Value} {base : Heap} {C C2 : Addr}
theorem scSI : FnScope ["self"] ["self"] (defScope sSInit) := ⟨rfl, rfl, rfl, by decide +kernel, rfl, by decide +kernel, by decide +kernel⟩
theorem ok_sinit {f : Addr} {fd : FuncData} (F : Fun K "__init__" "Sayings.__init__" sSInit f fd) (T : Txt2 K mg C2) : FnOk P w K mg base CX0 1 f fd ["self"] (spSInit C2) := by
  refine F.ok scSI (fun vs H Q E h => ?_) (fun cdv A outer s H vs Q E hr h => ?_)
  · obtain ⟨p, dx, rfl, _⟩ := h
    rfl
  obtain ⟨p, dx, rfl, hp, k⟩ := h
  refine ⟨_, pss_cons (ps_fld (pv 0) pe_int rfl) (pss_cons (ps_fld (pv 0) (pe_lst pa_nil) rfl) (pss_one (ps_fld (pv 0) pe_non rfl))), ?_⟩
  refine ⟨_, rfl, p, C2, dx, [], rfl, hp, T.cl, T.nn, (by show 0 < 1000; decide), ?_⟩
  refine ⟨(by show 0 ≤ sizeLine; decide), fun l nl => ?_⟩
  have dl : p ≠ l := ne_of_none upd_same nl
  have nl0 : H l = none := by rw [upd_ne (fun q => dl q.symm)] at nl; exact nl
  refine ⟨_, rfl, p, C2, dx, _, rfl, by rw [upd_ne dl]; exact upd_same, T.cl, T.nl, (by show 1 < 1000; decide), ?_⟩
  refine ⟨_, rfl, p, C2, dx, _, rfl, upd_same, T.cl, T.nt, (by show 2 < 1000; decide), ?_⟩
  have e1 : putF "tree" .non (putF "told" (.ref l) (putF "n" (.int 0) [])) = sf 0 l .non := put_all (n := 0)
  have e2 : upd (upd (upd (upd H p (.ins C2 dx (putF "n" (.int 0) []))) l (.lst [])) p (.ins C2 dx (putF "told" (.ref l) (putF "n" (.int 0) [])))) p (.ins C2 dx (putF "tree" .non (putF "told" (.ref l) (putF "n" (.int 0) [])))) = upd (upd H l (.lst [])) p (.ins C2 dx (sf 0 l .non)) := by
    rw [e1, upd_upd]
    funext b
    unfold upd
    by_cases h1 : b = p
    · rw [if_pos h1, if_pos h1]
    · rw [if_neg h1, if_neg h1, if_neg h1]
  have q := k l nl0
  rw [← e2] at q
  exact q
theorem has_eq {n x : Nat} : (!decide (V.int ((x : Int) / 2 ^ ((n : Nat) : Int).toNat) = V.int 0)) = decide (2 ^ n ≤ x) := by
  have e : ((x : Int) / 2 ^ ((n : Nat) : Int).toNat) = ((x / 2 ^ n : Nat) : Int) := by
    rw [Int.toNat_natCast]
    have q : (2 : Int) ^ n = ((2 ^ n : Nat) : Int) := by simp
    rw [q]
    exact (Int.natCast_ediv x (2 ^ n)).symm
  rw [e]
  by_cases h : 2 ^ n ≤ x
  · rw [decide_eq_true h]
    have q : ¬ V.int ((x / 2 ^ n : Nat) : Int) = V.int 0 := fun z => by
      injection z with z
      have z : x / 2 ^ n = 0 := by omega
      rw [Nat.div_eq_zero_iff] at z
      have := Nat.two_pow_pos n
      omega
    rw [decide_eq_false q]
    rfl
  · rw [decide_eq_false h]
    have q : V.int ((x / 2 ^ n : Nat) : Int) = V.int 0 := by
      rw [Nat.div_eq_of_lt (by omega)]
      rfl
    rw [decide_eq_true q]
    rfl
theorem scH : FnScope ["self", "things"] ["self", "things"] (defScope sHas) := ⟨rfl, rfl, rfl, by decide +kernel, rfl, by decide +kernel, by decide +kernel⟩
theorem ok_has (S : MSrc K C2 "has_strangers" "Sayings.has_strangers" sHas ["self", "things"]) (T : Txt2 K mg C2) : MDef P w K mg base C2 1 "has_strangers" ["self", "things"] (spHas C2 C) := by
  refine S.ok scH (fun vs H Q E h => ?_) (fun f cdv A outer s H vs Q E hr h => ?_)
  · obtain ⟨G, p, l, s, x, rfl, _⟩ := h
    rfl
  obtain ⟨G, p, l, st, x, rfl, hG, hs, k⟩ := h
  obtain ⟨dx, a, t, tb, h1, h2, h3, h4⟩ := hs.ex
  refine ⟨_, pss_one (ps_ret (pe_cmpR op_ne (pe_op op_shr (pv 1) (pe_fld (pv 0) rfl)) pe_int (nomark _))), ?_⟩
  refine ⟨_, rfl, _, rfl, p, C2, dx, _, _, rfl, h1, T.cl, T.nn, sf_n, _, _, rfl, rfl, by omega, rfl, ?_⟩
  have e := has_eq (n := st.n) (x := x)
  show Q (.bl (!decide (V.int ((x : Int) / 2 ^ ((st.n : Nat) : Int).toNat) = V.int 0))) H
  rw [e]
  exact k
theorem scSt : FnScope ["self", "n"] ["self", "n"] (defScope sStart) := ⟨rfl, rfl, rfl, by decide +kernel, rfl, by decide +kernel, by decide +kernel⟩
theorem okStart_iff {z : Nat} : Kh241.okStart z = (decide (1 ≤ z) && decide (z ≤ 64)) := rfl
theorem ok_start (S : MSrc K C2 "to_start" "Sayings.to_start" sStart ["self", "n"]) (T : Txt2 K mg C2) (D1 : Def P w K mg base 5 "tree_of_all" ["n"] (spTreeAll C)) (cl : ∀ n, 1 ≤ n → n ≤ 5 → ∃ tb, Full n tb) : MDef P w K mg base C2 6 "to_start" ["self", "n"] (spStart C2 C) := by
  refine S.ok scSt (fun vs H Q E h => ?_) (fun f cdv A outer s H vs Q E hr h => ?_)
  · obtain ⟨G, p, l, st, z, rfl, _⟩ := h
    rfl
  obtain ⟨G, p, l, st, z, rfl, hG, hs, hz, k⟩ := h
  obtain ⟨⟨dx, n0, tv0, h1⟩, gp⟩ := hs.obj
  refine ⟨_, pss_cons (ps_if (PW.pt (pw_or (pt_cmpR op_lt (pv 1) pe_int (nomark _)) (pw_or1 (pt_cmpR op_gt (pv 1) (pe_gi T.g1 rfl) (nomark _))))) (pss_one (ps_ret (pe_lst (pa_cons (pe_gi T.g3 rfl) pa_nil)))) pss_nil)
    (pss_cons (ps_fld (pv 0) (pv 1) rfl) (pss_cons (ps_fld (pv 0) (pe_lst pa_nil) rfl) (pss_cons (ps_fld (pv 0) (pe_def D1 hr rfl (pa_cons (pv 1) pa_nil)) rfl) (pss_one (ps_ret (pe_lst (pa_cons pe_int pa_nil))))))), ?_⟩
  have bad : Kh241.okStart z = false → ∀ r, H r = none → Q (.ref r) (upd H r (.lst [.int (-22)])) := fun e r nr => by
    unfold startA at k
    rw [e] at k
    exact Answers.refuse hG hs k r nr
  refine ⟨_, rfl, _, _, rfl, rfl, _, rfl, ?_⟩
  refine ite2 (fun c => ?_) (fun c => ?_)
  · have c' : (z : Int) < 1 := of_decide_eq_true c
    refine iteT ⟨(by show 1 ≤ sizeLine; decide), bad ?_⟩
    rw [okStart_iff, decide_eq_false (by omega)]
    rfl
  · have c' : ¬ (z : Int) < 1 := fun q => c (decide_eq_true q)
    refine ⟨_, rfl, _, _, rfl, rfl, _, rfl, ?_⟩
    refine ite2 (fun d => ?_) (fun d => ?_)
    · have d' : (64 : Int) < (z : Int) := of_decide_eq_true d
      refine ⟨(by show 1 ≤ sizeLine; decide), bad ?_⟩
      rw [okStart_iff, decide_eq_true (show 1 ≤ z by omega), decide_eq_false (by omega)]
      rfl
    · have d' : ¬ (64 : Int) < (z : Int) := fun q => d (decide_eq_true q)
      have hok : Kh241.okStart z = true := by
        rw [okStart_iff, decide_eq_true (show 1 ≤ z by omega), decide_eq_true (show z ≤ 64 by omega)]
        rfl
      have hz5 : z ≤ 5 := by omega
      unfold startA at k
      rw [if_pos hok] at k
      obtain ⟨tb, hc⟩ := cl z (by omega) hz5
      refine ⟨_, rfl, _, rfl, p, C2, dx, _, rfl, h1, T.cl, T.nn, (by show 3 < 1000; decide), ?_⟩
      rw [put_n]
      refine ⟨(by show 0 ≤ sizeLine; decide), fun l' nl' => ?_⟩
      have dpl : p ≠ l' := ne_of_none upd_same nl'
      have nl0 : H l' = none := by rw [upd_ne (fun q => dpl q.symm)] at nl'; exact nl'
      refine ⟨_, rfl, p, C2, dx, _, rfl, by rw [upd_ne dpl]; exact upd_same, T.cl, T.nl, (by show 3 < 1000; decide), ?_⟩
      rw [put_told]
      have eH : upd (upd (upd H p (.ins C2 dx (sf z l tv0))) l' (.lst [])) p (.ins C2 dx (sf z l' tv0)) = upd (upd H l' (.lst [])) p (.ins C2 dx (sf z l' tv0)) := by
        funext b
        unfold upd
        by_cases hb : b = p
        · rw [if_pos hb, if_pos hb]
        · rw [if_neg hb, if_neg hb, if_neg hb]
      rw [eH]
      have sG : Same G (upd (upd H l' (.lst [])) p (.ins C2 dx (sf z l' tv0))) := fun b o e => by
        rw [upd_ne (ne_of_none e gp), upd_ne (ne_of_none (hG _ _ e) nl0)]
        exact hG _ _ e
      refine ⟨_, rfl, G, z, rfl, sG, by omega, fun a G1 H1 e1 hA => ?_⟩
      have hp1 : H1 p = some (.ins C2 dx (sf z l' tv0)) := e1.hs _ _ upd_same
      have hl1 : H1 l' = some (.lst []) := e1.hs _ _ (by rw [upd_ne (fun q => dpl q.symm)]; exact upd_same)
      have gp1 : G1 p = none := e1.none gp upd_same
      have gl1 : G1 l' = none := e1.none (Same.free hG nl0) (show (upd (upd H l' (.lst [])) p (.ins C2 dx (sf z l' tv0))) l' = some (.lst []) by rw [upd_ne (fun q => dpl q.symm)]; exact upd_same)
      refine ⟨_, rfl, p, C2, dx, _, rfl, hp1, T.cl, T.nt, (by show 3 < 1000; decide), ?_⟩
      rw [put_tree]
      refine ⟨(by show 1 ≤ sizeLine; decide), fun r nr => ?_⟩
      have dpr : p ≠ r := ne_of_none upd_same nr
      have nr1 : H1 r = none := by rw [upd_ne (fun q => dpr q.symm)] at nr; exact nr
      have dlr : l' ≠ r := ne_of_none hl1 nr1
      have nr2 := e1.hs.free nr1
      have nr0 : H r = none := by rw [upd_ne (fun q => dpr q.symm), upd_ne (fun q => dlr q.symm)] at nr2; exact nr2
      have gr1 : G1 r = none := Same.free e1.gh nr1
      refine k r l' G1 _ ⟨e1.gs, fun b o e => ?_, fun b o e hb1 hb2 => ?_, fun b o e => ?_⟩ (.inr nl0) ⟨⟨dx, a, treeOfAll z, tb, ?_, hA, hc, hc.start⟩, ?_, gp1, gl1, by show 1 ≤ z; omega, hz5, Nat.zero_le _, fun x hx => absurd hx (by show ¬ x ∈ ([] : List Nat); simp)⟩ upd_same nr0
      · rw [upd_ne (ne_of_none e gr1), upd_ne (ne_of_none e gp1)]
        exact e1.gh _ _ e
      · have hbl : b ≠ l' := ne_of_none e nl0
        have q : (upd (upd H l' (.lst [])) p (.ins C2 dx (sf z l' tv0))) b = some o := by rw [upd_ne hb1, upd_ne hbl]; exact e
        rw [upd_ne (ne_of_none e nr0), upd_ne hb1]
        exact e1.hs _ _ q
      · rcases e1.new b o e with q | q
        · exact .inl q
        · by_cases hb1 : b = p
          · subst hb1
            rw [gp1] at e
            cases e
          · by_cases hb2 : b = l'
            · subst hb2
              exact .inr nl0
            · rw [upd_ne hb1, upd_ne hb2] at q
              exact .inr q
      · rw [upd_ne dpr]
        exact upd_same
      · rw [upd_ne dlr, upd_ne (fun q => dpl q.symm)]
        exact hl1
end
end Ts
end
section
namespace Ts
open PySem PySem.Spec PyProof.Rows L2
open Kh241Neutral (any_ leftOf)
open Kh241 (having without)
section
variable {P : Program} {w : World} {K : PySem.W.Frag} {mg : Str → Option Value} {base : Heap} {C C2 : Addr}
theorem any_cons_snoc (n x : Nat) (l : List Nat) : any_ n (x :: l) = any_ n (l ++ [x]) := by
  rw [any_mask, any_mask, mask_perm]
theorem scSy : FnScope ["self", "things", "tree"] ["self", "things"] (defScope sSay) := ⟨rfl, rfl, rfl, by decide +kernel, rfl, by decide +kernel, by decide +kernel⟩
theorem ok_say {k : Nat} (S : MSrc K C2 "to_say" "Sayings.to_say" sSay ["self", "things"]) (T : Txt2 K mg C2) (T1 : Txt K mg C) (hk : 6 ≤ k) (Dh : MDef P w K mg base C2 1 "has_strangers" ["self", "things"] (spHas C2 C))
    (D1 : Def P w K mg base k "tree_keeping_all" ["tree", "told"] (spKeepAll C)) : MDef P w K mg base C2 (k + 1) "to_say" ["self", "things"] (spSay C2 C) := by
  refine S.ok scSy (fun vs H Q E h => ?_) (fun f cdv A outer s H vs Q E hr h => ?_)
  · obtain ⟨G, p, l, st, x, rfl, _⟩ := h
    rfl
  obtain ⟨G, p, l, st, x, rfl, hG, hs, kk⟩ := h
  have r1 : Room 1 _ := hr.mono (by omega)
  obtain ⟨dx, a, t, tb, h1, h2, h3, h4⟩ := hs.ex
  have hl := hs.lst
  refine ⟨_, pss_cons (ps_if (pt_val (pe_mdef (pv 0) T.cl Dh r1 (pa_cons (pv 1) pa_nil))) (pss_one (ps_ret (pe_lst (pa_cons (pe_gi T.g3 rfl) pa_nil)))) pss_nil)
    (pss_cons (ps_if (pt_cmpR op_eq (pe_callB call_len_seq rfl T1.len PySem.boot_len (pa_cons (pe_fld (pv 0) rfl) pa_nil)) (pe_gi T.g2 rfl) (nomark _)) (pss_one (ps_ret (pe_lst (pa_cons (pe_gi T.g4 rfl) pa_nil)))) pss_nil)
    (pss_cons (ps_set (i := 2) scSy.nd rfl (Or.inl rfl) (pe_def D1 hr rfl (pa_cons (pe_fld (pv 0) rfl) (pa_cons (pe_lst (pa_cons (pv 1) pa_nil)) pa_nil))))
    (pss_cons (ps_if (pt_cmpR op_isN (pv 2) pe_non (nomark _)) (pss_one (ps_ret (pe_lst (pa_cons (pe_gi T.g5 rfl) pa_nil)))) pss_nil)
    (pss_cons (ps_fld (pv 0) (pv 2) rfl)
    (pss_cons (ps_expr (pe_bm PySem.F.plainAttrs_list PySem.F.slot_list_append PySem.F.type_list_append mt_append (pe_fld (pv 0) rfl) (pa_cons (pv 1) pa_nil)))
    (pss_one (ps_ret (pe_lst (pa_cons (pe_op op_sub (pe_callB call_len_seq rfl T1.len PySem.boot_len (pa_cons (pe_fld (pv 0) rfl) pa_nil)) pe_int) pa_nil))))))))), ?_⟩
  refine ⟨_, rfl, p, dx, _, rfl, h1, sf_no (by decide +kernel) (by decide +kernel) (by decide +kernel), _, rfl, G, p, l, st, x, rfl, hG, hs, _, rfl, ?_⟩
  unfold sayA at kk
  refine ite2 (fun c => ?_) (fun c => ?_)
  · have c' : 2 ^ st.n ≤ x := of_decide_eq_true c
    rw [if_pos c'] at kk
    exact ⟨(by show 1 ≤ sizeLine; decide), fun r nr => Answers.refuse hG hs kk r nr⟩
  have c' : ¬ 2 ^ st.n ≤ x := fun q => c (decide_eq_true q)
  rw [if_neg c'] at kk
  have el : (intsV st.told).length = st.told.length := List.length_map ..
  refine ⟨_, rfl, p, C2, dx, _, _, rfl, h1, T.cl, T.nl, sf_told, l, _, rfl, .inl (SqL.of hl), rfl, _, rfl, ?_⟩
  refine ite2 (fun d => ?_) (fun d => ?_)
  · have d' : (((intsV st.told).length : Nat) : Int) = 64 := by
      have q := of_decide_eq_true d
      injection q
    rw [if_pos (by omega)] at kk
    exact ⟨(by show 1 ≤ sizeLine; decide), fun r nr => Answers.refuse hG hs kk r nr⟩
  have d' : ¬ st.told.length = 64 := fun q => d (decide_eq_true (by rw [el, q]; rfl))
  have hlen := hs.len
  have hlt : st.told.length < 64 := by omega
  rw [if_neg (by omega)] at kk
  refine ⟨_, rfl, p, C2, dx, _, _, rfl, h1, T.cl, T.nt, sf_tree, _, rfl, (by show 1 ≤ sizeLine; decide), fun lx nlx => ?_⟩
  have x1 : Ext G H G (upd H lx (.lst [.int (x : Int)])) := .alloc hG nlx _
  obtain ⟨o, ho1, ho2⟩ := closed_all h3.toClosed [x] (some t) st.told h4 (fun y hy => by
    have e := List.mem_singleton.mp hy
    subst e
    omega)
  have hany : any_ st.n (x :: st.told) = o.isSome := (any_cons_snoc _ _ _).trans (for_any h3.toClosed ho2)
  refine ⟨G, .ref a, some t, lx, [x], o, rfl, x1.gh, h2, upd_same, ho1, ?_⟩
  cases o with
  | none =>
    rw [hany] at kk
    intro G1 H1 e1
    have x2 := x1.trans e1
    refine ⟨_, rfl, rfl, _, rfl, iteT ⟨(by show 1 ≤ sizeLine; decide), fun r nr => ?_⟩⟩
    have x3 := x2.trans (.alloc x2.gh nr (.lst [.int (-61)]))
    exact kk r l G1 _ (x3.frm p l) (.inl rfl) (StAt.mono (st := some st) x3 hs) upd_same (x2.hs.free nr)
  | some u =>
    rw [hany] at kk
    intro b G1 H1 e1 hB
    have x2 := x1.trans e1
    refine ⟨_, rfl, rfl, _, rfl, iteF ?_⟩
    have hp1 := x2.hs _ _ h1
    have hl1 := x2.hs _ _ hl
    have gp1 := x2.none hs.gp h1
    have gl1 := x2.none hs.gl hl
    have dpl : p ≠ l := ne_of h1 hl (by intro q; cases q)
    refine ⟨_, rfl, _, rfl, p, C2, dx, _, rfl, hp1, T.cl, T.nt, (by show 3 < 1000; decide), ?_⟩
    rw [put_tree]
    refine ⟨_, rfl, p, C2, dx, _, _, rfl, upd_same, T.cl, T.nl, sf_told, .inl ⟨rfl, _, SqL.of (by rw [upd_ne (fun q => dpl q.symm)]; exact hl1)⟩, _, rfl, l, _, _, rfl, rfl, by rw [upd_ne (fun q => dpl q.symm)]; exact hl1, ?_, ?_⟩
    · rw [el]
      exact Nat.lt_trans hlt (by decide)
    have ei : intsV st.told ++ [V.int (x : Int)] = intsV (st.told ++ [x]) := by
      unfold intsV
      rw [List.map_append]
      rfl
    rw [ei]
    refine ⟨_, rfl, p, C2, dx, _, _, rfl, by rw [upd_ne dpl]; exact upd_same, T.cl, T.nl, sf_told, l, _, rfl, .inl (SqL.of upd_same), _, _, rfl, rfl, (by show 1 ≤ sizeLine; decide), fun r nr => ?_⟩
    have drl : l ≠ r := ne_of_none upd_same nr
    have nr1 : (upd H1 p (.ins C2 dx (sf st.n l (.ref b)))) r = none := by rw [upd_ne (fun q => drl q.symm)] at nr; exact nr
    have drp : p ≠ r := ne_of_none upd_same nr1
    have nr2 : H1 r = none := by rw [upd_ne (fun q => drp q.symm)] at nr1; exact nr1
    have gr : G1 r = none := Same.free x2.gh nr2
    have ea : V.int ((((intsV (st.told ++ [x])).length : Nat) : Int) - 1) = V.int (st.told.length : Int) := by
      congr 1
      unfold intsV
      rw [List.length_map, List.length_append]
      simp only [List.length_cons, List.length_nil]
      omega
    have hr3 : (upd (upd (upd H1 p (.ins C2 dx (sf st.n l (.ref b)))) l (.lst (intsV (st.told ++ [x])))) r (.lst [V.int ((((intsV (st.told ++ [x])).length : Nat) : Int) - 1)])) r = some (.lst ([(st.told.length : Int)].map V.int)) := by
      rw [upd_same, ea]
      rfl
    refine kk r l G1 _ ⟨x2.gs, fun c o e => ?_, fun c o e hc1 hc2 => ?_, x2.new⟩ (.inl rfl) ⟨⟨dx, b, u, tb, ?_, hB, h3, ho2⟩, ?_, gp1, gl1, hs.n1, hs.n5, ?_, ?_⟩ hr3 (x2.hs.free nr2)
    · rw [upd_ne (ne_of_none e gr), upd_ne (ne_of_none e gl1), upd_ne (ne_of_none e gp1)]
      exact x2.gh _ _ e
    · rw [upd_ne (ne_of_none (x2.hs _ _ e) nr2), upd_ne hc2, upd_ne hc1]
      exact x2.hs _ _ e
    · rw [upd_ne drp, upd_ne dpl]
      exact upd_same
    · rw [upd_ne drl]
      exact upd_same
    · show (st.told ++ [x]).length ≤ 64
      rw [List.length_append]
      simp only [List.length_cons, List.length_nil]
      omega
    · show ∀ y ∈ st.told ++ [x], y < 2 ^ st.n
      intro y hy
      rcases List.mem_append.mp hy with hy | hy
      · exact hs.lt y hy
      · have e := List.mem_singleton.mp hy
        subst e
        omega
theorem scN : FnScope ["self", "things", "needed", "tree", "number"] ["self", "things"] (defScope sNeeded) := ⟨rfl, rfl, rfl, by decide +kernel, rfl, by decide +kernel, by decide +kernel⟩
theorem left_length (n : Nat) (l : List Nat) (s i : Nat) : (left n l s i).length ≤ i := by
  unfold left
  exact Nat.le_trans (List.length_filter_le _ _) (by rw [List.length_range]; exact Nat.le_refl _)
theorem left_lt (n : Nat) (l : List Nat) (s i j : Nat) (h : j ∈ left n l s i) : j < i := List.mem_range.mp (List.mem_filter.mp h).1
theorem ok_needed {k : Nat} (S : MSrc K C2 "needed_against" "Sayings.needed_against" sNeeded ["self", "things"]) (T : Txt2 K mg C2) (T1 : Txt K mg C) (hk : 6 ≤ k) (D1 : Def P w K mg base k "tree_keeping_all" ["tree", "told"] (spKeepAll C))
    (D2 : Def P w K mg base 5 "tree_of_all" ["n"] (spTreeAll C)) : MDef P w K mg base C2 (k + 1) "needed_against" ["self", "things"] (spNeeded C2 C) := by
  refine S.ok scN (fun vs H Q E h => ?_) (fun f cdv A outer s H vs Q E hr h => ?_)
  · obtain ⟨G, p, l, st, x, rfl, _⟩ := h
    rfl
  obtain ⟨G, p, l, st, x, rfl, hG, hs, hx, kk⟩ := h
  have r5 : Room 5 _ := hr.mono (by omega)
  obtain ⟨dx, a, t, tb, h1, h2, h3, h4⟩ := hs.ex
  have hl := hs.lst
  have n5 := hs.n5
  refine ⟨_, pss_cons (ps_set (i := 2) scN.nd rfl (Or.inl rfl) (pe_lst pa_nil))
    (pss_cons (ps_set (i := 3) scN.nd rfl (Or.inl rfl) (pe_def D1 hr rfl (pa_cons (pe_def D2 r5 rfl (pa_cons (pe_fld (pv 0) rfl) pa_nil)) (pa_cons (pe_lst (pa_cons (pv 1) pa_nil)) pa_nil))))
    (pss_cons (ps_for PassesOwn.never rfl (pi_range1 rfl T1.range (pa_cons (pe_callB call_len_seq rfl T1.len PySem.boot_len (pa_cons (pe_fld (pv 0) rfl) pa_nil)) pa_nil)) (pg_name (i := 4) scN.nd rfl (Or.inl rfl))
      (pss_one (ps_if (pt_cmpR op_notN (pe_def D1 hr rfl (pa_cons (pv 3) (pa_cons (pe_slice sl_list (pe_fld (pv 0) rfl) (po_some (pe_op op_add (pv 4) pe_int)) po_none) pa_nil))) pe_non (nomark _))
        (pss_cons (ps_expr (pe_bm PySem.F.plainAttrs_list PySem.F.slot_list_append PySem.F.type_list_append mt_append (pv 2) (pa_cons (pv 4) pa_nil)))
        (pss_one (ps_set (i := 3) scN.nd rfl (Or.inl rfl) (pe_def D1 hr rfl (pa_cons (pv 3) (pa_cons (pe_lst (pa_cons (pe_ix ix_list (pe_fld (pv 0) rfl) (pv 4) (fun _ _ => rfl)) pa_nil)) pa_nil))))))
        pss_nil)))
    (pss_one (ps_ret (pv 2))))), ?_⟩
  refine ⟨(by show 0 ≤ sizeLine; decide), fun nd nnd => ?_⟩
  have x0 : Ext G H G (upd H nd (.lst [])) := .alloc hG nnd _
  refine ⟨_, rfl, p, C2, dx, _, _, rfl, x0.hs _ _ h1, T.cl, T.nn, sf_n, G, st.n, rfl, x0.gh, by omega, fun b G1 H1 e1 hB => ?_⟩
  have x1 := x0.trans e1
  refine ⟨_, rfl, (by show 1 ≤ sizeLine; decide), fun lx nlx => ?_⟩
  have x2 := x1.trans (.alloc x1.gh nlx (.lst [.int (x : Int)]))
  obtain ⟨o, ho1, ho2⟩ := closed_all h3.toClosed [x] (some (treeOfAll st.n)) [] h3.start (fun y hy => by
    have e := List.mem_singleton.mp hy
    subst e
    exact hx)
  have ho2 : For tb o (mask st.n (x :: els st.told (left st.n st.told x 0))) := ho2
  refine ⟨G1, .ref b, some (treeOfAll st.n), lx, [x], o, rfl, x2.gh, hB, upd_same, ho1, ?_⟩
  have rest : ∀ (v : V) (G2 H2 : Hp), Ext G1 (upd H1 lx (.lst [.int (x : Int)])) G2 H2 → OptAt C G2 v o → tSeq (tFor (iRng1 (tCons (tCB (fun xs H Q => ∃ p ys, xs = [.ref p] ∧ (SqL K H p ys ∨ SqT K H p ys) ∧ Q (.int ys.length) H) (tCons (tFld K (tVar 0) "told") tNil)) tNil)) (gName 4)
      (tIfS (tTest (tOp (fun x y H Q => y = .non ∧ Q (.bl (!decide (x = .non))) H) (tCall (spKeepAll C) [] E0 (tCons (tVar 3) (tCons (tSl (rSlL K) (tFld K (tVar 0) "told") (tPart (tOp (rI0 fun i j => .int (i + j)) (tVar 4) (tC (.int 1)))) tNoPart) tNil))) (tC .non)))
        (tSeq (tDrop (tBM K "list" rAppend (tVar 2) (tCons (tVar 4) tNil))) (tAsg (tCall (spKeepAll C) [] E0 (tCons (tVar 3) (tCons (tLst (tCons (tOp (rIxL K) (tFld K (tVar 0) "told") (tVar 4)) tNil)) tNil))) (gName 3))) tNext)) (tRet (tVar 2))
      { nx := fun _ H' => Q .non H', rt := Q } [some (.ref p), some (.int (x : Int)), some (.ref nd), some v, none] H2 := fun v G2 H2 e2 hv => by
    have x3 := x2.trans e2
    have hnd1 : (upd H1 lx (.lst [.int (x : Int)])) nd = some (.lst []) := by
      have q := e1.hs _ _ (show (upd H nd (.lst [])) nd = some (.lst []) from upd_same)
      rw [upd_ne (ne_of_none q nlx)]
      exact q
    have hnd2 := e2.hs _ _ hnd1
    have gnd0 : G nd = none := Same.free hG nnd
    have gnd1 : G1 nd = none := e1.none gnd0 upd_same
    have gnd2 : G2 nd = none := e2.none gnd1 hnd1
    have el : (intsV st.told).length = st.told.length := List.length_map ..
    have hlen := hs.len
    refine ⟨_, rfl, p, C2, dx, _, _, rfl, x3.hs _ _ h1, T.cl, T.nl, sf_told, l, _, rfl, .inl (SqL.of (x3.hs _ _ hl)), _, rfl, by omega, by omega, ?_⟩
    refine for_range (lo := 0) (n := (((intsV st.told).length : Nat) : Int).toNat) (fun i σ H' => ∃ (G' : Hp) (v' : V) (o' : Option Ts.T) (vn : Option V), σ = [some (.ref p), some (.int (x : Int)), some (.ref nd), some v', vn] ∧ Ext G H G' H' ∧ G' nd = none ∧ H' nd = some (.lst (intsV (left st.n st.told x i))) ∧ OptAt C G' v' o' ∧ For tb o' (mask st.n (x :: els st.told (left st.n st.told x i))))
      ⟨G2, v, o, none, rfl, x3, gnd2, hnd2, hv, ho2⟩ ?_ ?_
    · rintro i σ H' hi ⟨G', v', o', vn, rfl, e, gn, hn, hv', hF⟩
      have hi' : i < st.told.length := by omega
      have hp' := e.hs _ _ h1
      have hl' := e.hs _ _ hl
      refine ⟨_, rfl, _, rfl, p, C2, dx, _, _, rfl, hp', T.cl, T.nl, sf_told, _, rfl, _, _, rfl, rfl, _, rfl, l, _, rfl, SqL.of hl', fun ls nls => ?_⟩
      have ec : cutV (intsV st.told) (some (0 + (i : Int) + 1)) none = intsV (st.told.drop (i + 1)) := by
        rw [show (0 + (i : Int) + 1) = ((i + 1 : Nat) : Int) by omega, cut_from]
        unfold intsV
        rw [List.map_drop]
      rw [ec]
      have y1 := e.trans (.alloc e.gh nls (.lst (intsV (st.told.drop (i + 1)))))
      have hn1 : (upd H' ls (.lst (intsV (st.told.drop (i + 1))))) nd = some (.lst (intsV (left st.n st.told x i))) := by
        rw [upd_ne (ne_of_none hn nls)]
        exact hn
      obtain ⟨o2, hk2, hF2⟩ := closed_all h3.toClosed (st.told.drop (i + 1)) o' _ hF (fun y hy => hs.lt y (List.mem_of_mem_drop hy))
      have hask : any_ st.n (x :: having st.told (without (leftOf st.n st.told x i) i)) = o2.isSome := by
        rw [any_mask, mask_asked st.n st.told x i hi', ← mask_append, ← any_mask]
        exact for_any h3.toClosed hF2
      have hsucc := left_succ st.n st.told x i hi'
      rw [hask] at hsucc
      refine ⟨G', v', o', ls, st.told.drop (i + 1), o2, rfl, y1.gh, hv', upd_same, hk2, ?_⟩
      cases o2 with
      | none =>
        intro G3 H3 e3
        have hsucc : left st.n st.told x (i + 1) = left st.n st.told x i := hsucc.trans (List.append_nil _)
        refine ⟨rfl, _, rfl, iteF ⟨G3, v', o', some (.int (0 + (i : Int))), rfl, y1.trans e3, e3.none gn hn1, ?_, hv'.mono e3.gs, ?_⟩⟩
        · rw [hsucc]
          exact e3.hs _ _ hn1
        · rw [hsucc]
          exact hF
      | some u =>
        intro b3 G3 H3 e3 hB3
        have hsucc : left st.n st.told x (i + 1) = left st.n st.told x i ++ [i] := hsucc
        have y3 := y1.trans e3
        have hn3 := e3.hs _ _ hn1
        have gn3 := e3.none gn hn1
        have hi2 : st.told[i]? = some st.told[i] := List.getElem?_eq_getElem hi'
        have hxi := hs.lt _ (List.getElem_mem hi')
        generalize st.told[i] = xi at hi2 hxi
        refine ⟨rfl, _, rfl, iteT ?_⟩
        refine ⟨_, rfl, .inl ⟨rfl, _, SqL.of hn3⟩, _, rfl, nd, _, _, rfl, rfl, hn3, ?_, ?_⟩
        · have q := left_length st.n st.told x i
          unfold intsV
          rw [List.length_map]
          exact Nat.lt_of_le_of_lt (show _ ≤ 64 by omega) (by decide)
        have ei : intsV (left st.n st.told x i) ++ [V.int (0 + (i : Int))] = intsV (left st.n st.told x (i + 1)) := by
          rw [hsucc]
          unfold intsV
          rw [List.map_append, show (0 + (i : Int)) = ((i : Nat) : Int) by omega]
          rfl
        rw [ei]
        have y4 := y3.put nnd gn3 (.lst (intsV (left st.n st.told x (i + 1))))
        refine ⟨_, rfl, _, rfl, p, C2, dx, _, _, rfl, y4.hs _ _ h1, T.cl, T.nl, sf_told, _, rfl, l, _, _, _, rfl, rfl, SqL.of (y4.hs _ _ hl), at_of (j := i) (v := .int (xi : Int)) (by omega) (by unfold intsV; rw [List.getElem?_map, hi2]; rfl), (by show 1 ≤ sizeLine; decide), fun lz nlz => ?_⟩
        have y5 := y4.trans (.alloc y4.gh nlz (.lst [.int (xi : Int)]))
        have hn5 : (upd (upd H3 nd (.lst (intsV (left st.n st.told x (i + 1))))) lz (.lst [.int (xi : Int)])) nd = some (.lst (intsV (left st.n st.told x (i + 1)))) := by
          rw [upd_ne (ne_of_none upd_same nlz)]
          exact upd_same
        obtain ⟨o5, hk5, hF5⟩ := closed_all h3.toClosed [xi] o' _ hF (fun y hy => by
          have q := List.mem_singleton.mp hy
          subst q
          exact hxi)
        have hF5 : For tb o5 (mask st.n (x :: els st.told (left st.n st.told x (i + 1)))) := by
          rw [hsucc, els_snoc _ _ _ _ hi2]
          exact hF5
        refine ⟨G3, v', o', lz, [xi], o5, rfl, y5.gh, hv'.mono e3.gs, upd_same, hk5, ?_⟩
        cases o5 with
        | none => exact fun G6 H6 e6 => ⟨G6, .non, none, some (.int (0 + (i : Int))), rfl, y5.trans e6, e6.none gn3 hn5, e6.hs _ _ hn5, trivial, hF5⟩
        | some u5 => exact fun b6 G6 H6 e6 hB6 => ⟨G6, .ref b6, some u5, some (.int (0 + (i : Int))), rfl, y5.trans e6, e6.none gn3 hn5, e6.hs _ _ hn5, hB6, hF5⟩
    · rintro σ H' ⟨G', v', o', vn, rfl, e, gn, hn, hv', hF⟩
      have ee : (((intsV st.told).length : Nat) : Int).toNat = st.told.length := by omega
      rw [ee] at hn
      exact ⟨_, rfl, kk nd G' H' e hn nnd gn⟩
  cases o with
  | none => exact fun G2 H2 e2 => rest .non G2 H2 e2 trivial
  | some u => exact fun b' G2 H2 e2 hB' => rest (.ref b') G2 H2 e2 hB'
theorem scW : FnScope ["self", "things", "needed", "numbers", "number"] ["self", "things"] (defScope sWhy) := ⟨rfl, rfl, rfl, by decide +kernel, rfl, by decide +kernel, by decide +kernel⟩
theorem orBits_take {ns : List Nat} {i j : Nat} (h : ns[i]? = some j) : orBits (ns.take (i + 1)) = Nat.lor (orBits (ns.take i)) (1 <<< j) := by
  unfold orBits
  rw [take_snoc h, List.foldl_append]
  rfl
theorem ok_why {k : Nat} (S : MSrc K C2 "to_why" "Sayings.to_why" sWhy ["self", "things"]) (T : Txt2 K mg C2) (T1 : Txt K mg C) (hk : 6 ≤ k) (Dh : MDef P w K mg base C2 1 "has_strangers" ["self", "things"] (spHas C2 C))
    (D1 : Def P w K mg base k "tree_keeping_all" ["tree", "told"] (spKeepAll C)) (Dn : MDef P w K mg base C2 (k + 1) "needed_against" ["self", "things"] (spNeeded C2 C)) : MDef P w K mg base C2 (k + 2) "to_why" ["self", "things"] (spWhy C2 C) := by
  refine S.ok scW (fun vs H Q E h => ?_) (fun f cdv A outer s H vs Q E hr h => ?_)
  · obtain ⟨G, p, l, st, x, rfl, _⟩ := h
    rfl
  obtain ⟨G, p, l, st, x, rfl, hG, hs, kk⟩ := h
  have r1 : Room 1 _ := hr.mono (by omega)
  have rk : Room k _ := hr.mono (by omega)
  obtain ⟨dx, a, t, tb, h1, h2, h3, h4⟩ := hs.ex
  have hl := hs.lst
  refine ⟨_, pss_cons (ps_if (pt_val (pe_mdef (pv 0) T.cl Dh r1 (pa_cons (pv 1) pa_nil))) (pss_one (ps_ret (pe_lst (pa_cons (pe_gi T.g3 rfl) pa_nil)))) pss_nil)
    (pss_cons (ps_if (pt_cmpR op_notN (pe_def D1 rk rfl (pa_cons (pe_fld (pv 0) rfl) (pa_cons (pe_lst (pa_cons (pv 1) pa_nil)) pa_nil))) pe_non (nomark _)) (pss_one (ps_ret (pe_lst (pa_cons (pe_gi T.g6 rfl) pa_nil)))) pss_nil)
    (pss_cons (ps_set (i := 2) scW.nd rfl (Or.inl rfl) (pe_mdef (pv 0) T.cl Dn hr (pa_cons (pv 1) pa_nil)))
    (pss_cons (ps_set (i := 3) scW.nd rfl (Or.inl rfl) pe_int)
    (pss_cons (ps_for PassesOwn.never rfl (pi_list (pv 2)) (pg_name (i := 4) scW.nd rfl (Or.inl rfl)) (pss_one (ps_set (i := 3) scW.nd rfl (Or.inl rfl) (pe_op op_or (pv 3) (pe_op op_shl pe_int (pv 4))))))
    (pss_one (ps_ret (pe_lst (pa_cons (pe_callB call_len_seq rfl T1.len PySem.boot_len (pa_cons (pv 2) pa_nil)) (pa_cons (pv 3) pa_nil))))))))), ?_⟩
  refine ⟨_, rfl, p, dx, _, rfl, h1, sf_no (by decide +kernel) (by decide +kernel) (by decide +kernel), _, rfl, G, p, l, st, x, rfl, hG, hs, _, rfl, ?_⟩
  unfold whyA at kk
  refine ite2 (fun c => ?_) (fun c => ?_)
  · have c' : 2 ^ st.n ≤ x := of_decide_eq_true c
    rw [if_pos c'] at kk
    exact ⟨(by show 1 ≤ sizeLine; decide), fun r nr => Answers.refuse hG hs kk r nr⟩
  have c' : ¬ 2 ^ st.n ≤ x := fun q => c (decide_eq_true q)
  rw [if_neg c'] at kk
  refine ⟨_, rfl, p, C2, dx, _, _, rfl, h1, T.cl, T.nt, sf_tree, _, rfl, (by show 1 ≤ sizeLine; decide), fun lx nlx => ?_⟩
  have x1 : Ext G H G (upd H lx (.lst [.int (x : Int)])) := .alloc hG nlx _
  obtain ⟨o, ho1, ho2⟩ := closed_all h3.toClosed [x] (some t) st.told h4 (fun y hy => by
    have e := List.mem_singleton.mp hy
    subst e
    omega)
  have hany : any_ st.n (x :: st.told) = o.isSome := (any_cons_snoc _ _ _).trans (for_any h3.toClosed ho2)
  refine ⟨G, .ref a, some t, lx, [x], o, rfl, x1.gh, h2, upd_same, ho1, ?_⟩
  cases o with
  | some u =>
    rw [hany] at kk
    intro b G1 H1 e1 hB
    have x2 := x1.trans e1
    refine ⟨rfl, _, rfl, iteT ⟨(by show 1 ≤ sizeLine; decide), fun r nr => ?_⟩⟩
    have x3 := x2.trans (.alloc x2.gh nr (.lst [.int (-17)]))
    exact kk r l G1 _ (x3.frm p l) (.inl rfl) (StAt.mono (st := some st) x3 hs) upd_same (x2.hs.free nr)
  | none =>
    rw [hany] at kk
    intro G1 H1 e1
    have x2 := x1.trans e1
    refine ⟨rfl, _, rfl, iteF ?_⟩
    have hs2 : StAt C2 C G1 H1 p l (some st) := StAt.mono (st := some st) x2 hs
    refine ⟨_, rfl, p, dx, _, rfl, x2.hs _ _ h1, sf_no (by decide +kernel) (by decide +kernel) (by decide +kernel), _, rfl, G1, p, l, st, x, rfl, x2.gh, hs2, by omega, fun r G2 H2 e2 hr2 nr2 gr2 => ?_⟩
    have x3 := x2.trans e2
    have hlen := hs.len
    have ll := left_length st.n st.told x st.told.length
    have el : (intsV (left st.n st.told x st.told.length)).length = (left st.n st.told x st.told.length).length := List.length_map ..
    refine ⟨_, rfl, r, rfl, ⟨_, SqL.of hr2⟩, for_list (K := K) (a := r) (xs := intsV (left st.n st.told x st.told.length)) (fun i σ H' => H' = H2 ∧ ∃ v : Option V, σ = [some (.ref p), some (.int (x : Int)), some (.ref r), some (.int ((orBits ((left st.n st.told x st.told.length).take i) : Nat) : Int)), v])
      ⟨rfl, none, rfl⟩ (fun i σ H' _ ⟨e, _⟩ => by rw [e]; exact SqL.of hr2) ?_ ?_⟩
    · rintro i y σ H' hi ⟨rfl, v, rfl⟩
      obtain ⟨j, hj, rfl⟩ := int_at hi
      have hjl := left_lt _ _ _ _ _ (List.mem_of_getElem? hj)
      refine ⟨_, rfl, _, rfl, _, _, rfl, rfl, ⟨by omega, by omega, by decide⟩, _, _, rfl, rfl, ?_⟩
      refine ⟨rfl, some (.int (j : Int)), ?_⟩
      have eS : (1 : Int) * (2 : Int) ^ ((j : Nat) : Int).toNat = ((1 <<< j : Nat) : Int) := by
        rw [Int.toNat_natCast, Nat.one_shiftLeft, Int.one_mul]
        exact (Int.natCast_pow 2 j).symm
      show [some (V.ref p), some (V.int (x : Int)), some (V.ref r), some (V.int (Builtin.bitOr ((orBits ((left st.n st.told x st.told.length).take i) : Nat) : Int) ((1 : Int) * (2 : Int) ^ ((j : Nat) : Int).toNat))), some (V.int (j : Int))] = _
      rw [eS, bitOr_nat, orBits_take hj]
    · rintro σ H' ⟨rfl, v, rfl⟩
      refine ⟨_, rfl, r, _, rfl, .inl (SqL.of hr2), _, rfl, (by show 2 ≤ sizeLine; decide), fun r' nr' => ?_⟩
      have x4 := x3.trans (.alloc x3.gh nr' (.lst [V.int (((intsV (left st.n st.told x st.told.length)).length : Nat) : Int), V.int ((orBits ((left st.n st.told x st.told.length).take (intsV (left st.n st.told x st.told.length)).length) : Nat) : Int)]))
      refine kk r' l G2 _ (x4.frm p l) (.inl rfl) (StAt.mono (st := some st) x4 hs) ?_ (x3.hs.free nr')
      rw [upd_same, el, List.take_length, orBits_left]
      rfl
end
end Ts
end
section
namespace Ts
open PySem PySem.Spec PyProof.Rows L2
open Kh241Neutral (orders)
open Kh241 (isBetween three)
noncomputable abbrev sToMany : Stmt := inClass cSay 4
noncomputable abbrev sToOrder : Stmt := inClass cSay 5
noncomputable abbrev sToBetween : Stmt := inClass cSay 6
theorem pe_mdef0 {X : Cx} {k : Nat} {C : Addr} {ps : List Str} {sp : Sp} {m : Str} {apos pos : Pos} {o : Expr} {ta : TE} {pl : Sem Bool} (he : PE X o ta) (c : Cls X.K C) (D : MDef X.prog X.w X.K X.mg X.base C k m ps sp) (hr : Room k X.A)
    (ht : eval (.Call (.Attribute o m apos) [] [] pos) X.env = (do
      let ov ← eval o X.env
      standAt apos.atName
      let (f, first) ← holding [ov] (getMethod ov m pl)
      callWith pos f first (backTo pos (starEach [] X.env)) (backToKw pos (keywordEach [] X.env))) := by rfl) :
    PE X (.Call (.Attribute o m apos) [] [] pos) (tMeth C m sp [] E0 ta tNil) := by
  obtain ⟨f, fd, F, b, hm⟩ := D.ex
  exact pe_meth0 he c hm F hr b .nil pass0 ht
theorem rows_len {m : Nat} : ∀ {k : Nat} {o : List Nat}, o ∈ Kh241Neutral.rowsOf m k → o.length = k
  | 0, o, h => by
    have h : o ∈ [[]] := h
    rw [List.mem_singleton.mp h]
    rfl
  | k + 1, o, h => by
    have h : o ∈ (List.range m).flatMap fun x => (Kh241Neutral.rowsOf m k).map fun l => x :: l := h
    obtain ⟨x, _, hx⟩ := List.mem_flatMap.mp h
    obtain ⟨l, hl, rfl⟩ := List.mem_map.mp hx
    rw [List.length_cons, rows_len hl]
theorem order_len {n : Nat} {l : List Nat} {o : List Nat} (h : o ∈ Kh241Neutral.orders n l) : o.length = n := rows_len (List.mem_filter.mp h).1
noncomputable def manyA (s : Kh241.Abs) : List Int := [0, (((orders s.n s.told).length : Nat) : Int)]
noncomputable def orderA (s : Kh241.Abs) : List Int := match orders s.n s.told with
  | [] => []
  | o :: _ => ((s.n : Nat) : Int) :: Kh241Neutral.«ints» o
noncomputable def betweenA (s : Kh241.Abs) (a b c : Nat) : List Int := if three s.n a b c = false then [-22] else [if (orders s.n s.told).all (fun o => isBetween o a b c) = true then 1 else if (orders s.n s.told).any (fun o => isBetween o a b c) = true then 2 else 0]
noncomputable def spToMany (C2 C : Addr) : Sp := fun vs H Q _ => ∃ (G : Hp) (p l : Addr) (s : Kh241.Abs), vs = [.ref p] ∧ Same G H ∧ StAt C2 C G H p l (some s) ∧ Answers C2 C G H Q p l (some s) (manyA s)
noncomputable def spToOrder (C2 C : Addr) : Sp := fun vs H Q _ => ∃ (G : Hp) (p l : Addr) (s : Kh241.Abs), vs = [.ref p] ∧ Same G H ∧ StAt C2 C G H p l (some s) ∧ Answers C2 C G H Q p l (some s) (orderA s)
noncomputable def spToBetween (C2 C : Addr) : Sp := fun vs H Q _ => ∃ (G : Hp) (p l : Addr) (s : Kh241.Abs) (a b c : Nat), vs = [.ref p, .int (a : Int), .int (b : Int), .int (c : Int)] ∧ Same G H ∧ StAt C2 C G H p l (some s) ∧ Answers C2 C G H Q p l (some s) (betweenA s a b c)
section
variable {P : Program} {w : World} {K : PySem.W.Frag} {mg : Str → Option Value} {base : Heap} {C C2 : Addr}
theorem scTM : FnScope ["self"] ["self"] (defScope sToMany) := ⟨rfl, rfl, rfl, by decide +kernel, rfl, by decide +kernel, by decide +kernel⟩
theorem ok_to_many {k : Nat} (S : MSrc K C2 "to_many" "Sayings.to_many" sToMany ["self"]) (T : Txt2 K mg C2) (D1 : Def P w K mg base k "how_many_orders" ["knot"] (spMany C F)) : MDef P w K mg base C2 (k + 1) "to_many" ["self"] (spToMany C2 C) := by
  refine S.ok scTM (fun vs H Q E h => ?_) (fun f cdv A outer s H vs Q E hr h => ?_)
  · obtain ⟨G, p, l, st, rfl, _⟩ := h
    rfl
  obtain ⟨G, p, l, st, rfl, hG, hs, kk⟩ := h
  obtain ⟨dx, a, t, tb, h1, h2, h3, h4⟩ := hs.ex
  have hm := (h3.reads _ _ h4).many
  rw [← orders_filt] at hm
  refine ⟨_, pss_one (ps_ret (pe_lst (pa_cons pe_int (pa_cons (pe_def D1 hr rfl (pa_cons (pe_fld (pv 0) rfl) pa_nil)) pa_nil)))), ?_⟩
  refine ⟨_, rfl, p, C2, dx, _, _, rfl, h1, T.cl, T.nt, sf_tree, a, t, _, rfl, h2.mono hG, hm, (by show 2 ≤ sizeLine; decide), fun r nr => ?_⟩
  exact kk r l G _ ((Ext.alloc hG nr _).frm p l) (.inl rfl) (StAt.mono (st := some st) (.alloc hG nr _) hs) upd_same nr
theorem scTO : FnScope ["self"] ["self"] (defScope sToOrder) := ⟨rfl, rfl, rfl, by decide +kernel, rfl, by decide +kernel, by decide +kernel⟩
theorem ok_to_order {k : Nat} (S : MSrc K C2 "to_order" "Sayings.to_order" sToOrder ["self"]) (T : Txt2 K mg C2) (D1 : Def P w K mg base k "first_order" ["knot"] (spFirst C F)) : MDef P w K mg base C2 (k + 1) "to_order" ["self"] (spToOrder C2 C) := by
  refine S.ok scTO (fun vs H Q E h => ?_) (fun f cdv A outer s H vs Q E hr h => ?_)
  · obtain ⟨G, p, l, st, rfl, _⟩ := h
    rfl
  obtain ⟨G, p, l, st, rfl, hG, hs, kk⟩ := h
  obtain ⟨dx, a, t, tb, h1, h2, h3, h4⟩ := hs.ex
  obtain ⟨o, r0, ho, hf⟩ := (h3.reads _ _ h4).first
  rw [← orders_filt] at ho
  have hlen : o.length = st.n := by
    have q : o ∈ orders st.n st.told := by rw [ho]; exact List.mem_cons_self
    exact order_len q
  have n5 := hs.n5
  refine ⟨_, pss_one (ps_ret (pe_op op_cat (pe_lst (pa_cons (pe_fld (pv 0) rfl) pa_nil)) (pe_def D1 hr rfl (pa_cons (pe_fld (pv 0) rfl) pa_nil)))), ?_⟩
  refine ⟨_, rfl, p, C2, dx, _, _, rfl, h1, T.cl, T.nn, sf_n, (by show 1 ≤ sizeLine; decide), fun l1 nl1 => ?_⟩
  have x1 : Ext G H G (upd H l1 (.lst [.int (st.n : Int)])) := .alloc hG nl1 _
  refine ⟨_, rfl, p, C2, dx, _, _, rfl, x1.hs _ _ h1, T.cl, T.nt, sf_tree, a, t, o, rfl, h2.mono x1.gh, hf, fun r H' sm nr hr' => ?_⟩
  have x2 : Ext G H G H' := ⟨.refl _, Same.trans x1.gh sm, Same.trans x1.hs sm, fun _ _ e => .inl e⟩
  refine ⟨l1, r, _, _, rfl, rfl, sm _ _ upd_same, hr', ?_, fun q nq => ?_⟩
  · rw [intsV_length, hlen]
    exact Nat.le_trans (show _ ≤ 6 by simp only [List.length_cons, List.length_nil]; omega) (by decide)
  have x3 := x2.trans (.alloc x2.gh nq (.lst ([V.int (st.n : Int)] ++ intsV o)))
  refine kk q l G _ (x3.frm p l) (.inl rfl) (StAt.mono (st := some st) x3 hs) ?_ (x2.hs.free nq)
  rw [upd_same]
  unfold orderA
  rw [ho]
  show some (HO.lst (V.int (st.n : Int) :: intsV o)) = some (HO.lst (V.int (st.n : Int) :: (Kh241Neutral.«ints» o).map V.int))
  unfold intsV Kh241Neutral.«ints»
  rw [List.map_map]
  rfl
theorem scTB : FnScope ["self", "a", "b", "c"] ["self", "a", "b", "c"] (defScope sToBetween) := ⟨rfl, rfl, rfl, by decide +kernel, rfl, by decide +kernel, by decide +kernel⟩
theorem top3_le {a b c n : Nat} : ((n : Int) ≤ top3 (a : Int) (b : Int) (c : Int)) ↔ ¬ (a < n ∧ b < n ∧ c < n) := by
  unfold top3
  repeat' split
  all_goals omega
theorem ok_to_between {k : Nat} (S : MSrc K C2 "to_between" "Sayings.to_between" sToBetween ["self", "a", "b", "c"]) (T : Txt2 K mg C2) (T4 : Txt4 mg) (D1 : Def P w K mg base k "how_surely_between" ["tree", "a", "b", "c"] (spSurely C)) :
    MDef P w K mg base C2 (k + 1) "to_between" ["self", "a", "b", "c"] (spToBetween C2 C) := by
  refine S.ok scTB (fun vs H Q E h => ?_) (fun f cdv A outer s H vs Q E hr h => ?_)
  · obtain ⟨G, p, l, st, a, b, c, rfl, _⟩ := h
    rfl
  obtain ⟨G, p, l, st, x, y, z, rfl, hG, hs, kk⟩ := h
  obtain ⟨dx, a, t, tb, h1, h2, h3, h4⟩ := hs.ex
  have n5 := hs.n5
  refine ⟨_, pss_cons (ps_if (PW.pt (pw_or (pt_cmpR op_eq (pv 1) (pv 2) (nomark _)) (pw_or (pt_cmpR op_eq (pv 2) (pv 3) (nomark _)) (pw_or (pt_cmpR op_eq (pv 1) (pv 3) (nomark _))
      (pw_or1 (pt_cmpR op_ge (pe_callB (call_max3 rfl) rfl T4.max PyProof.Rows.boot_max (pa_cons (pv 1) (pa_cons (pv 2) (pa_cons (pv 3) pa_nil)))) (pe_fld (pv 0) rfl) (nomark _))))))) (pss_one (ps_ret (pe_lst (pa_cons (pe_gi T.g3 rfl) pa_nil)))) pss_nil)
    (pss_one (ps_ret (pe_lst (pa_cons (pe_def D1 hr rfl (pa_cons (pe_fld (pv 0) rfl) (pa_cons (pv 1) (pa_cons (pv 2) (pa_cons (pv 3) pa_nil))))) pa_nil)))), ?_⟩
  have bad : three st.n x y z = false → ∀ r, H r = none → Q (.ref r) (upd H r (.lst [.int (-22)])) := fun e r nr => by
    unfold betweenA at kk
    rw [if_pos e] at kk
    exact Answers.refuse hG hs kk r nr
  have d1 : decide (V.int (x : Int) = V.int (y : Int)) = Nat.beq x y := dec_int
  have d2 : decide (V.int (y : Int) = V.int (z : Int)) = Nat.beq y z := dec_int
  have d3 : decide (V.int (x : Int) = V.int (z : Int)) = Nat.beq x z := dec_int
  have th : three st.n x y z = (decide (x < st.n) && (decide (y < st.n) && (decide (z < st.n) && (x != y && (y != z && x != z))))) := rfl
  refine ⟨_, rfl, _, rfl, rfl, _, rfl, ?_⟩
  refine ite2 (fun c => ?_) (fun c => ?_)
  · have e : x = y := Nat.eq_of_beq_eq_true (d1.symm.trans c)
    refine iteT ⟨(by show 1 ≤ sizeLine; decide), bad ?_⟩
    rw [th, e]
    simp
  have e1 : x ≠ y := fun e => c (d1.trans (by rw [e, Nat.beq_refl]))
  refine ⟨_, rfl, _, rfl, rfl, _, rfl, ?_⟩
  refine ite2 (fun c => ?_) (fun c => ?_)
  · have e : y = z := Nat.eq_of_beq_eq_true (d2.symm.trans c)
    refine iteT ⟨(by show 1 ≤ sizeLine; decide), bad ?_⟩
    rw [th, e]
    simp
  have e2 : y ≠ z := fun e => c (d2.trans (by rw [e, Nat.beq_refl]))
  refine ⟨_, rfl, _, rfl, rfl, _, rfl, ?_⟩
  refine ite2 (fun c => ?_) (fun c => ?_)
  · have e : x = z := Nat.eq_of_beq_eq_true (d3.symm.trans c)
    refine iteT ⟨(by show 1 ≤ sizeLine; decide), bad ?_⟩
    rw [th, e]
    simp
  have e3 : x ≠ z := fun e => c (d3.trans (by rw [e, Nat.beq_refl]))
  refine ⟨_, rfl, _, rfl, _, rfl, _, _, _, rfl, _, rfl, p, C2, dx, _, _, rfl, h1, T.cl, T.nn, sf_n, _, _, rfl, rfl, _, rfl, ?_⟩
  refine ite2 (fun c => ?_) (fun c => ?_)
  · have q : (st.n : Int) ≤ top3 (x : Int) (y : Int) (z : Int) := of_decide_eq_true c
    have q := top3_le.mp q
    refine ⟨(by show 1 ≤ sizeLine; decide), bad ?_⟩
    rw [th]
    by_cases q1 : x < st.n
    · by_cases q2 : y < st.n
      · have q3 : ¬ z < st.n := fun q3 => q ⟨q1, q2, q3⟩
        rw [decide_eq_true q1, decide_eq_true q2, decide_eq_false q3]
        rfl
      · rw [decide_eq_true q1, decide_eq_false q2]
        rfl
    · rw [decide_eq_false q1]
      rfl
  have q : x < st.n ∧ y < st.n ∧ z < st.n := by
    by_cases q : x < st.n ∧ y < st.n ∧ z < st.n
    · exact q
    · exact absurd (decide_eq_true (top3_le.mpr q)) c
  have ht : three st.n x y z = true := by
    rw [th, decide_eq_true q.1, decide_eq_true q.2.1, decide_eq_true q.2.2]
    simp [e1, e2, e3]
  have hb := (h3.reads _ _ h4).betw x y z ht
  rw [sureBy_orders] at hb
  unfold betweenA at kk
  rw [if_neg (by rw [ht]; decide)] at kk
  refine ⟨_, rfl, p, C2, dx, _, _, rfl, h1, T.cl, T.nt, sf_tree, _, rfl, _, rfl, _, rfl, a, t, x, y, z, _, rfl, h2.mono hG, by omega, by omega, by omega, hb, (by show 1 ≤ sizeLine; decide), fun r nr => ?_⟩
  refine kk r l G _ ((Ext.alloc hG nr _).frm p l) (.inl rfl) (StAt.mono (st := some st) (.alloc hG nr _) hs) ?_ nr
  rw [upd_same]
  repeat' split
  all_goals rfl
end
end Ts
end
section
namespace Ts
open Kh241Neutral (any_ leftOf tried asked1 callOf reckon given step)
noncomputable def Rest (suf : List Int) (cs : List (List (List Int))) : Prop := ∃ f, PyFlat.calls PyKh241.shape f suf = some cs
theorem shape_rows {p : Int} {n k : Nat} (h : PyKh241.shape p = some (n, k)) : k = 0 := by
  unfold PyKh241.shape at h
  repeat' (split at h)
  all_goals first
    | (have h := congrArg Prod.snd (Option.some.inj h); exact h.symm)
    | cases h
theorem rest_nil {cs : List (List (List Int))} (h : Rest [] cs) : cs = [] := by
  obtain ⟨f, h⟩ := h
  cases f <;> exact (Option.some.inj h).symm
theorem rest_cons {p : Int} {r : List Int} {cs : List (List (List Int))} (h : Rest (p :: r) cs) : ∃ n cs', PyKh241.shape p = some (n, 0) ∧ n ≤ r.length ∧ cs = [p :: r.take n] :: cs' ∧ Rest (r.drop n) cs' := by
  obtain ⟨f, h⟩ := h
  cases f with
  | zero => cases h
  | succ f =>
    have h : (match PyFlat.call PyKh241.shape (p :: r) with
      | none => none
      | some (c, t) => match PyFlat.calls PyKh241.shape f t with
        | none => none
        | some cs => some (c :: cs)) = some cs := h
    have ec : PyFlat.call PyKh241.shape (p :: r) = (match PyKh241.shape p with
      | none => none
      | some (n, k) => if r.length < n then none else match PyFlat.rows k (r.drop n) with
        | none => none
        | some (xs, t) => some ((p :: r.take n) :: xs, t)) := rfl
    cases es : PyKh241.shape p with
    | none =>
      rw [ec, es] at h
      cases h
    | some nk =>
      obtain ⟨n, k⟩ := nk
      have hk := shape_rows es
      subst hk
      rw [es] at ec
      have ec : PyFlat.call PyKh241.shape (p :: r) = (if r.length < n then none else some ([p :: r.take n], r.drop n)) := ec
      by_cases hn : r.length < n
      · rw [if_pos hn] at ec
        rw [ec] at h
        cases h
      · rw [if_neg hn] at ec
        rw [ec] at h
        have h : (match PyFlat.calls PyKh241.shape f (r.drop n) with
          | none => none
          | some cs => some ([p :: r.take n] :: cs)) = some cs := h
        cases e2 : PyFlat.calls PyKh241.shape f (r.drop n) with
        | none =>
          rw [e2] at h
          cases h
        | some cs' =>
          rw [e2] at h
          exact ⟨n, cs', rfl, by omega, (Option.some.inj h).symm, f, e2⟩
theorem whole_id (c : List (List Int)) : PyKh241.whole c = c := by
  unfold PyKh241.whole
  split <;> rfl
noncomputable def Ok (s : Kh241Neutral.S) (cs : List (List (List Int))) : Prop := (∀ c ∈ cs, asked1 c = true) ∧ (Kh241Neutral.answers s cs).isSome = true
theorem ok_cons {s : Kh241Neutral.S} {c : List (List Int)} {cs : List (List (List Int))} (h : Ok s (c :: cs)) : asked1 c = true ∧ ∃ y, tried s c = some y ∧ step s c = y ∧ Ok y.1 cs := by
  obtain ⟨h1, h2⟩ := h
  refine ⟨h1 c List.mem_cons_self, ?_⟩
  have h2 : (match tried s c with | none => none | some y => (Kh241Neutral.answers y.1 cs).map fun r => y.2 :: r).isSome = true := h2
  cases e : tried s c with
  | none =>
    rw [e] at h2
    cases h2
  | some y =>
    rw [e] at h2
    refine ⟨y, rfl, ?_, fun d hd => h1 d (List.mem_cons_of_mem _ hd), ?_⟩
    · unfold step
      rw [e]
    · have h2 : ((Kh241Neutral.answers y.1 cs).map fun r => y.2 :: r).isSome = true := h2
      rw [Option.isSome_map] at h2
      exact h2
noncomputable def out (s : Kh241Neutral.S) (cs : List (List (List Int))) : List Int := PyFlat.told (PyFlat.played step s cs)
theorem out_nil (s : Kh241Neutral.S) : out s [] = [] := rfl
theorem out_cons {s : Kh241Neutral.S} {c : List (List Int)} {cs : List (List (List Int))} {y : Kh241Neutral.S × List Int} (h : step s c = y) : out s (c :: cs) = ((y.2.length : Int) :: y.2) ++ out y.1 cs := by
  subst h
  rfl
theorem asked_calls {l : List Int} (h : PyKh241.answers_asked l = true) : ∃ cs, Rest l cs ∧ Ok none cs ∧ cs.length ≤ 80 ∧ PyKh241.answers l = out none cs := by
  unfold PyKh241.answers_asked at h
  unfold PyKh241.answers
  have e : PyKh241.calls l = (match PyFlat.calls PyKh241.shape l.length l with | none => none | some cs => some (cs.map PyKh241.whole)) := rfl
  cases e2 : PyFlat.calls PyKh241.shape l.length l with
  | none =>
    rw [e2] at e
    rw [e] at h
    cases h
  | some cs =>
    rw [e2] at e
    have em : cs.map PyKh241.whole = cs := by
      rw [show PyKh241.whole = id from funext whole_id, List.map_id]
    have e : PyKh241.calls l = some cs := by
      rw [e]
      exact congrArg some em
    rw [e] at h ⊢
    have h : (PyFlat.atMost 80 cs && Kh241Neutral.asked cs) = true := h
    rw [Bool.and_eq_true] at h
    obtain ⟨_, h2⟩ := h
    unfold Kh241Neutral.asked at h2
    rw [Bool.and_eq_true, Bool.and_eq_true, Bool.and_eq_true] at h2
    exact ⟨cs, ⟨_, e2⟩, ⟨List.all_eq_true.mp h2.2.2.1, h2.2.2.2⟩, of_decide_eq_true h2.2.1, rfl⟩
theorem nat_of {z : Int} {bits : Nat} (h : Kh241Neutral.natural z bits = true) : z = (z.toNat : Int) ∧ z.toNat < 2 ^ bits := by
  unfold Kh241Neutral.natural at h
  rw [Bool.and_eq_true] at h
  have h1 : 0 ≤ z := of_decide_eq_true h.1
  have h2 : z < 2 ^ bits := of_decide_eq_true h.2
  refine ⟨by omega, ?_⟩
  have q : (2 : Int) ^ bits = ((2 ^ bits : Nat) : Int) := by simp
  rw [q] at h2
  omega
theorem tried_start (s : Kh241Neutral.S) (z : Int) : tried s [[0, z]] = some (startA s z.toNat) := by
  unfold startA
  rfl
theorem tried_say (a : Kh241.Abs) (x : Int) : tried (some a) [[1, x]] = some (some (sayA a x.toNat).1, (sayA a x.toNat).2) := by
  have e : tried (some a) [[1, x]] = (reckon a (.say x.toNat)).map fun y => (some y.2, given (.say x.toNat) y.1) := rfl
  rw [e]
  unfold sayA reckon
  show Option.map _ (some _) = _
  rw [Option.map_some]
  congr 1
  by_cases h1 : 2 ^ a.n ≤ x.toNat
  · rw [if_pos h1, if_pos h1]
    rfl
  · rw [if_neg h1, if_neg h1]
    by_cases h2 : 64 ≤ a.told.length
    · rw [if_pos h2, if_pos (show Kh241.SETS ≤ a.told.length from h2)]
      rfl
    · rw [if_neg h2, if_neg (show ¬ Kh241.SETS ≤ a.told.length from h2)]
      by_cases h3 : any_ a.n (x.toNat :: a.told) = true
      · rw [if_pos h3, if_pos h3]
        rfl
      · rw [if_neg h3, if_neg h3]
        rfl
theorem tried_why (a : Kh241.Abs) (x : Int) : tried (some a) [[2, x]] = some (some a, whyA a x.toNat) := by
  have e : tried (some a) [[2, x]] = (reckon a (.why x.toNat)).map fun y => (some y.2, given (.why x.toNat) y.1) := rfl
  rw [e]
  unfold whyA reckon
  show Option.map _ (some _) = _
  rw [Option.map_some]
  congr 1
  by_cases h1 : 2 ^ a.n ≤ x.toNat
  · rw [if_pos h1, if_pos h1]
    rfl
  · rw [if_neg h1, if_neg h1]
    by_cases h3 : any_ a.n (x.toNat :: a.told) = true
    · rw [if_pos h3, if_pos h3]
      rfl
    · rw [if_neg h3, if_neg h3]
      rfl
theorem tried_none {p : Int} {r : List Int} {y : Kh241Neutral.S × List Int} (h : tried none [p :: r] = some y) : p = 0 := by
  unfold tried at h
  cases e : callOf [p :: r] with
  | none => rw [e] at h; cases h
  | some c =>
    rw [e] at h
    unfold callOf at e
    split at e
    all_goals (try (cases e))
    all_goals (try (cases h))
    all_goals (rename_i q; injection q with q1 q2; injection q1 with q3 q4)
theorem number_bytes : ∀ (k v : Nat), Kh241Neutral.number (Kh241.bytes k v) = v % 256 ^ k
  | 0, v => by rw [Nat.pow_zero, Nat.mod_one]; rfl
  | k + 1, v => by
    have e : Kh241.bytes (k + 1) v = v % 256 :: Kh241.bytes k (v / 256) := by
      unfold Kh241.bytes
      rw [List.range_succ_eq_map, List.map_cons, List.map_map, Nat.pow_zero, Nat.div_one]
      congr 1
      refine List.map_congr_left fun i _ => ?_
      show v / 256 ^ (i + 1) % 256 = v / 256 / 256 ^ i % 256
      rw [Nat.div_div_eq_div_mul, Nat.pow_succ, Nat.mul_comm]
    rw [e]
    show v % 256 + 256 * Kh241Neutral.number (Kh241.bytes k (v / 256)) = _
    rw [number_bytes k (v / 256), Nat.pow_succ, Nat.mul_comm (256 ^ k) 256, Nat.mod_mul]
theorem base_len {n : Nat} (h1 : 1 ≤ n) (h5 : n ≤ 5) : (base n).length ≤ 120 := by
  match n, h1, h5 with
  | 1, _, _ => rw [base1_ok]; decide
  | 2, _, _ => rw [base2_ok]; decide
  | 3, _, _ => rw [base3_ok]; decide
  | 4, _, _ => rw [base4_ok]; decide
  | 5, _, _ => rw [base5_ok]; decide
theorem tried_many {a : Kh241.Abs} {y : Kh241Neutral.S × List Int} (h1 : 1 ≤ a.n) (h5 : a.n ≤ 5) (h : tried (some a) [[3]] = some y) : y = (some a, manyA a) := by
  have h : (if decide (Kh241Neutral.orders a.n a.told).Nodup = true then some ((⟨0, Kh241.bytes 40 (Kh241Neutral.orders a.n a.told).length⟩ : Kh241.Ans), a) else none).map (fun (z : Kh241.Ans × Kh241.Abs) => (some z.2, given .many z.1)) = some y := h
  by_cases hd : decide (Kh241Neutral.orders a.n a.told).Nodup = true
  · rw [if_pos hd] at h
    have h := Option.some.inj h
    subst h
    have hl : (Kh241Neutral.orders a.n a.told).length ≤ 120 := by
      rw [orders_base]
      exact Nat.le_trans (List.length_filter_le _ _) (base_len h1 h5)
    have e : Kh241Neutral.number (Kh241.bytes 40 (Kh241Neutral.orders a.n a.told).length) = (Kh241Neutral.orders a.n a.told).length := by
      rw [number_bytes]
      exact Nat.mod_eq_of_lt (Nat.lt_of_le_of_lt hl (by decide))
    show (some a, [0, ((Kh241Neutral.number (Kh241.bytes 40 (Kh241Neutral.orders a.n a.told).length) : Nat) : Int)]) = (some a, manyA a)
    rw [e]
    rfl
  · rw [if_neg hd] at h
    cases h
theorem tried_order {a : Kh241.Abs} {y : Kh241Neutral.S × List Int} (h : tried (some a) [[4]] = some y) : y = (some a, orderA a) := by
  have h : (match Kh241Neutral.orders a.n a.told with
    | [] => none
    | o :: l => if ((o :: l).all fun q => decide (q = o) || Kh241.before o q) = true then some ((⟨a.n, o⟩ : Kh241.Ans), a) else none).map (fun (z : Kh241.Ans × Kh241.Abs) => (some z.2, given .order z.1)) = some y := h
  unfold orderA
  cases eo : Kh241Neutral.orders a.n a.told with
  | nil => rw [eo] at h; cases h
  | cons o l =>
    rw [eo] at h
    have h : (if ((o :: l).all fun q => decide (q = o) || Kh241.before o q) = true then some ((⟨a.n, o⟩ : Kh241.Ans), a) else none).map (fun (z : Kh241.Ans × Kh241.Abs) => (some z.2, given .order z.1)) = some y := h
    by_cases hd : ((o :: l).all fun q => decide (q = o) || Kh241.before o q) = true
    · rw [if_pos hd] at h
      have h := Option.some.inj h
      subst h
      rfl
    · rw [if_neg hd] at h
      cases h
theorem tried_between {a : Kh241.Abs} {x z u : Int} {y : Kh241Neutral.S × List Int} (h : tried (some a) [[5, x, z, u]] = some y) : y = (some a, betweenA a x.toNat z.toNat u.toNat) := by
  have h : (if Kh241.three a.n x.toNat z.toNat u.toNat = false then some (Kh241.say (-22), a) else match Kh241Neutral.orders a.n a.told with
    | [] => none
    | o :: l => some (Kh241.say (if ((o :: l).all fun o => Kh241.isBetween o x.toNat z.toNat u.toNat) = true then 1 else if ((o :: l).any fun o => Kh241.isBetween o x.toNat z.toNat u.toNat) = true then 2 else 0), a)).map (fun (q : Kh241.Ans × Kh241.Abs) => (some q.2, given (.between x.toNat z.toNat u.toNat) q.1)) = some y := h
  unfold betweenA
  by_cases hd : Kh241.three a.n x.toNat z.toNat u.toNat = false
  · rw [if_pos hd] at h ⊢
    have h := Option.some.inj h
    subst h
    rfl
  · rw [if_neg hd] at h ⊢
    cases eo : Kh241Neutral.orders a.n a.told with
    | nil => rw [eo] at h; cases h
    | cons o l =>
      rw [eo] at h
      have h := Option.some.inj h
      subst h
      rfl
theorem asked_cases {c : Int} {args : List Int} (h : asked1 [c :: args] = true) : (c = 0 ∧ ∃ n : Nat, args = [(n : Int)] ∧ (n ≤ 5 ∨ 64 < n)) ∨ (c = 1 ∧ ∃ n : Nat, args = [(n : Int)]) ∨ (c = 2 ∧ ∃ n : Nat, args = [(n : Int)]) ∨ (c = 3 ∧ args = []) ∨ (c = 4 ∧ args = []) ∨
    (c = 5 ∧ ∃ x y z : Nat, args = [(x : Int), (y : Int), (z : Int)]) := by
  unfold asked1 at h
  split at h
  · rename_i n q
    have q := List.cons.inj (List.cons.inj q).1
    rw [Bool.and_eq_true] at h
    obtain ⟨e, _⟩ := nat_of h.1
    refine .inl ⟨q.1, n.toNat, by rw [q.2, ← e], ?_⟩
    have h2 := h.2
    rw [Bool.or_eq_true] at h2
    rcases h2 with h2 | h2
    · have h2 := of_decide_eq_true h2
      omega
    · have h2 := of_decide_eq_true h2
      omega
  · rename_i n q
    have q := List.cons.inj (List.cons.inj q).1
    obtain ⟨e, _⟩ := nat_of h
    exact .inr (.inl ⟨q.1, n.toNat, by rw [q.2, ← e]⟩)
  · rename_i n q
    have q := List.cons.inj (List.cons.inj q).1
    obtain ⟨e, _⟩ := nat_of h
    exact .inr (.inr (.inl ⟨q.1, n.toNat, by rw [q.2, ← e]⟩))
  · rename_i q
    have q := List.cons.inj (List.cons.inj q).1
    exact .inr (.inr (.inr (.inl ⟨q.1, q.2⟩)))
  · rename_i q
    have q := List.cons.inj (List.cons.inj q).1
    exact .inr (.inr (.inr (.inr (.inl ⟨q.1, q.2⟩))))
  · rename_i x y z q
    have q := List.cons.inj (List.cons.inj q).1
    rw [Bool.and_eq_true, Bool.and_eq_true] at h
    obtain ⟨e1, _⟩ := nat_of h.1
    obtain ⟨e2, _⟩ := nat_of h.2.1
    obtain ⟨e3, _⟩ := nat_of h.2.2
    exact .inr (.inr (.inr (.inr (.inr ⟨q.1, x.toNat, y.toNat, z.toNat, by rw [q.2, ← e1, ← e2, ← e3]⟩))))
  · cases h
end Ts
end
section
namespace Ts
open PySem PySem.Spec PyProof.Rows L2
section
variable {P : Program} {w : World} {K : PySem.W.Frag} {mg : Str → Option Value} {base : Heap} {C C2 : Addr}
theorem FnOk.up {k j : Nat} {f : Addr} {fd : FuncData} {ps : List Str} {sp : Sp} (h : FnOk P w K mg base CX0 k f fd ps sp) (hj : k ≤ j) : FnOk P w K mg base CX0 j f fd ps sp :=
  ⟨h.len, fun A outer s H args us vs Q E hr => h.run A outer s H args us vs Q E (hr.mono hj)⟩
theorem Def.up {k j : Nat} {x : Str} {ps : List Str} {sp : Sp} (h : Def P w K mg base k x ps sp) (hj : k ≤ j) : Def P w K mg base j x ps sp := by
  obtain ⟨f, fd, F, r⟩ := h.ex
  exact ⟨f, fd, FnOk.up F hj, r⟩
structure Knots (K : PySem.W.Frag) (mg : Str → Option Value) (C : Addr) : Prop where
  txt : Txt K mg C
  made : ∃ (fI : Addr) (fdI : FuncData), Mk K C fI ∧ Fun K "__init__" "Knot.__init__" sInit fI fdI ∧ Binds K fdI ["self", "things", "below", "only_turns"] []
  treeAll : Src K mg "tree_of_all" sTreeAll ["n"]
  keepAll : Src K mg "tree_keeping_all" sKeepAll ["tree", "told"]
  keeping : Src K mg "tree_keeping" sKeeping ["knot", "wanted"]
  freeKeep : Src K mg "free_knot_keeping" sFreeKeep ["below", "wanted"]
  turnKeep : Src K mg "turning_knot_keeping" sTurnKeep ["below", "wanted"]
  rowOf : Src K mg "row_of" sRowOf ["knot", "wanted"]
  joined : Src K mg "joined_rows" sJoined ["knots", "wanted"]
  side : Src K mg "empty_side_first" sSideFirst ["below", "wanted"]
  together : Src K mg "stands_together" sTogether ["row", "wanted"]
  over : Src K mg "knot_over" sOver ["below", "only_turns"]
  free : Src K mg "free_knot" sFree ["below"]
  turning : Src K mg "turning_knot" sTurning ["row"]
  asOne : Src K mg "as_one" sAsOne ["knots"]
  round : Src K mg "turned_round" sRound ["row"]
  isEmpty : Src K mg "is_empty" sIsEmpty ["knot", "wanted"]
  isFull : Src K mg "is_full" sIsFull ["knot", "wanted"]
  isWhole : Src K mg "is_whole" sIsWhole ["knot", "wanted"]
  emptyKnots : Src K mg "empty_knots" sEmptyKnots ["knots", "wanted"]
  fullKnots : Src K mg "full_knots" sFullKnots ["knots", "wanted"]
  partedKnots : Src K mg "parted_knots" sPartedKnots ["knots", "wanted"]
theorem Knots.all (N : Knots K mg C) : Def P w K mg base 5 "tree_of_all" ["n"] (spTreeAll C) ∧ Def P w K mg base (2 * F + 10) "tree_keeping_all" ["tree", "told"] (spKeepAll C) := by
  obtain ⟨fI, fdI, M, FI, bI⟩ := N.made
  have dE : Def P w K mg base 1 "is_empty" ["knot", "wanted"] (spAsk C Ts.isEmpty) := ok_is_empty N.isEmpty N.txt
  have dF : Def P w K mg base 1 "is_full" ["knot", "wanted"] (spAsk C Ts.isFull) := ok_is_full N.isFull N.txt
  have dW := ok_is_whole N.isWhole N.txt dE dF
  have dEK := ok_empty_knots N.emptyKnots dE
  have dFK := ok_full_knots N.fullKnots dF
  have dPK := ok_parted_knots N.partedKnots dW
  have dO : Def P w K mg base 3 "knot_over" ["below", "only_turns"] (spOver C) := ok_over N.over N.txt M FI bI
  have dFr := ok_free N.free N.txt dO
  have dTu := ok_turning N.turning N.txt dO
  have dA := ok_as_one N.asOne N.txt dFr
  have dR : Def P w K mg base 1 "turned_round" ["row"] spRound := ok_round N.round N.txt
  have dS := ok_together N.together N.txt dE
  have dSi := ok_side N.side N.txt dE dF dR
  have rows : ∀ n : Nat, Def P w K mg base (2 * n + 7) "row_of" ["knot", "wanted"] (spRow C n) ∧ Def P w K mg base (2 * n + 8) "joined_rows" ["knots", "wanted"] (spJoined C n) := by
    intro n
    induction n with
    | zero =>
      have r0 : Def P w K mg base 7 "row_of" ["knot", "wanted"] (spRow C 0) := ok_row0 N.rowOf
      exact ⟨r0, ok_joined N.joined r0⟩
    | succ n ih =>
      have r1 : Def P w K mg base (2 * n + 8 + 1) "row_of" ["knot", "wanted"] (spRow C (n + 1)) := ok_row N.rowOf N.txt (by omega) ih.2 dW dSi dEK dFK dPK dA
      have e : 2 * (n + 1) + 7 = 2 * n + 8 + 1 := by omega
      have e2 : 2 * (n + 1) + 8 = 2 * n + 8 + 1 + 1 := by omega
      rw [e, e2]
      exact ⟨r1, ok_joined N.joined r1⟩
  have keeps : ∀ n : Nat, Def P w K mg base (2 * n + 9) "tree_keeping" ["knot", "wanted"] (spKeep C n) := by
    intro n
    induction n with
    | zero => exact ok_keep0 N.keeping
    | succ n ih =>
      have d1 := Def.up (ok_turn_keep N.turnKeep N.txt (by omega) (rows n).1 dE dR dS dTu) (show 2 * n + 7 + 1 ≤ 2 * n + 9 by omega)
      have d2 := Def.up (ok_free_keep N.freeKeep N.txt (by omega) (rows n).1 dR dS dEK dFK dPK dA dTu dFr) (show 2 * n + 7 + 1 ≤ 2 * n + 9 by omega)
      exact Def.up (ok_keep N.keeping N.txt (by omega) ih dW dO d1 d2) (by omega)
  exact ⟨ok_tree_all N.treeAll N.txt M FI bI dFr, ok_keep_all N.keepAll (keeps F)⟩
structure Readings (K : PySem.W.Frag) (mg : Str → Option Value) : Prop where
  many : Src K mg "how_many_orders" sMany ["knot"]
  ways : Src K mg "ways_to_change_places" sWays ["size"]
  first : Src K mg "first_order" sFirst ["knot"]
  surely : Src K mg "how_surely_between" sSurely ["tree", "a", "b", "c"]
  low : Src K mg "lowest_over" sLowest ["knot", "wanted"]
  place : Src K mg "place_below" sPlace ["knot", "thing"]
  g0 : GInt mg "IN_NONE" 0
  g1 : GInt mg "IN_ALL" 1
  g2 : GInt mg "IN_SOME" 2
  t4 : Txt4 mg
theorem Knots.readings (N : Knots K mg C) (R : Readings K mg) : Def P w K mg base (F + 2) "how_many_orders" ["knot"] (spMany C F) ∧ Def P w K mg base (F + 2) "first_order" ["knot"] (spFirst C F) ∧ Def P w K mg base (F + 2) "how_surely_between" ["tree", "a", "b", "c"] (spSurely C) := by
  have dR : Def P w K mg base 1 "turned_round" ["row"] spRound := ok_round N.round N.txt
  have dW : Def P w K mg base 1 "ways_to_change_places" ["size"] spWays := ok_ways R.ways N.txt
  have dP : Def P w K mg base 1 "place_below" ["knot", "thing"] (spPlace C) := ok_place R.place N.txt
  have many : ∀ n : Nat, Def P w K mg base (n + 2) "how_many_orders" ["knot"] (spMany C n) := fun n => by
    induction n with
    | zero => exact ok_many0 R.many
    | succ n ih => exact ok_many R.many N.txt (by omega) ih dW
  have first : ∀ n : Nat, Def P w K mg base (n + 2) "first_order" ["knot"] (spFirst C n) := fun n => by
    induction n with
    | zero => exact ok_first0 R.first
    | succ n ih => exact ok_first R.first N.txt R.t4 (by omega) ih dR
  have low : ∀ n : Nat, Def P w K mg base (n + 1) "lowest_over" ["knot", "wanted"] (spLow C n) := fun n => by
    induction n with
    | zero => exact ok_low0 R.low
    | succ n ih => exact ok_low R.low N.txt ih
  exact ⟨many F, first F, ok_surely R.surely N.txt (by decide) R.g0 R.g1 R.g2 (low F) dP⟩
structure Says (K : PySem.W.Frag) (mg : Str → Option Value) (C2 : Addr) : Prop where
  txt : Txt2 K mg C2
  made : ∃ (fI : Addr) (fdI : FuncData), Mk K C2 fI ∧ Fun K "__init__" "Sayings.__init__" sSInit fI fdI ∧ Binds K fdI ["self"] []
  start : MSrc K C2 "to_start" "Sayings.to_start" sStart ["self", "n"]
  say : MSrc K C2 "to_say" "Sayings.to_say" sSay ["self", "things"]
  why : MSrc K C2 "to_why" "Sayings.to_why" sWhy ["self", "things"]
  many : MSrc K C2 "to_many" "Sayings.to_many" sToMany ["self"]
  order : MSrc K C2 "to_order" "Sayings.to_order" sToOrder ["self"]
  between : MSrc K C2 "to_between" "Sayings.to_between" sToBetween ["self", "a", "b", "c"]
  has : MSrc K C2 "has_strangers" "Sayings.has_strangers" sHas ["self", "things"]
  needed : MSrc K C2 "needed_against" "Sayings.needed_against" sNeeded ["self", "things"]
theorem MDef.up {k j : Nat} {x : Str} {ps : List Str} {sp : Sp} (h : MDef P w K mg base C2 k x ps sp) (hj : k ≤ j) : MDef P w K mg base C2 j x ps sp := by
  obtain ⟨f, fd, F, r⟩ := h.ex
  exact ⟨f, fd, FnOk.up F hj, r⟩
structure Six (P : Program) (w : World) (K : PySem.W.Frag) (mg : Str → Option Value) (base : Heap) (C2 C : Addr) (k : Nat) : Prop where
  start : MDef P w K mg base C2 k "to_start" ["self", "n"] (spStart C2 C)
  say : MDef P w K mg base C2 k "to_say" ["self", "things"] (spSay C2 C)
  why : MDef P w K mg base C2 k "to_why" ["self", "things"] (spWhy C2 C)
  many : MDef P w K mg base C2 k "to_many" ["self"] (spToMany C2 C)
  order : MDef P w K mg base C2 k "to_order" ["self"] (spToOrder C2 C)
  between : MDef P w K mg base C2 k "to_between" ["self", "a", "b", "c"] (spToBetween C2 C)
theorem Says.six (Y : Says K mg C2) (N : Knots K mg C) (R : Readings K mg) (cl : ∀ n, 1 ≤ n → n ≤ 5 → ∃ tb, Full n tb) : Six P w K mg base C2 C 24 := by
  obtain ⟨d1, d2⟩ := N.all (P := P) (w := w) (base := base)
  obtain ⟨e1, e2, e3⟩ := N.readings (P := P) (w := w) (base := base) R
  have dh : MDef P w K mg base C2 1 "has_strangers" ["self", "things"] (spHas C2 C) := ok_has Y.has Y.txt
  have dn := ok_needed Y.needed Y.txt N.txt (by decide) d2 d1
  exact ⟨MDef.up (ok_start Y.start Y.txt d1 cl) (by decide), MDef.up (ok_say Y.say Y.txt N.txt (by decide) dh d2) (by decide), MDef.up (ok_why Y.why Y.txt N.txt (by decide) dh d2 dn) (by decide), MDef.up (ok_to_many Y.many Y.txt e1) (by decide),
    MDef.up (ok_to_order Y.order Y.txt e2) (by decide), MDef.up (ok_to_between Y.between Y.txt R.t4 e3) (by decide)⟩
end
theorem src_mk {K : PySem.W.Frag} {h : Heap} {mg : Str → Option Value} {x : Str} {st : Stmt} {ps : List Str} (X : K.In h) (G : h.Ns mainGlobals mg) {f : Addr} {oc kV doc pm cdv ct : Value} {od an : Option Addr} {osl : Array (Option Value)}
    (a : PySem.W.nsIn K mainGlobals x = some (some (.ref f))) (l : K.lookup f = some ⟨oc, od, .func (PySem.W.fnOf x x (defArgs st) (defBody st) (defScope st) .none kV doc pm an cdv ct), osl⟩) (c : PySem.W.codeIn K cdv x = true) (k : PySem.W.keepIn K (.ref f) = true)
    (hb : ∀ (kV doc pm : Value) (an : Option Addr) (cdv ct : Value) (us : List Value), us.length = ps.length → bindArgs (PySem.W.fnOf x x (defArgs st) (defBody st) (defScope st) .none kV doc pm an cdv ct) ⟨us, []⟩ = pure (ps.zip us)) : Src K mg x st ps := by
  have F := fun_mk (st := st) l c k
  exact ⟨f, _, F, F.binds hb, PySem.W.mg_of X G a⟩
theorem msrc_mk {K : PySem.W.Frag} {C : Addr} {x qual : Str} {st : Stmt} {ps : List Str} {f : Addr} {oc kV doc pm cdv ct : Value} {od an : Option Addr} {osl : Array (Option Value)}
    (a : PySem.W.findIn K (.ref C) x = some (some (.ref f))) (i : PySem.W.isFn K (.ref f) = true) (l : K.lookup f = some ⟨oc, od, .func (PySem.W.fnOf x qual (defArgs st) (defBody st) (defScope st) .none kV doc pm an cdv ct), osl⟩) (c : PySem.W.codeIn K cdv qual = true) (k : PySem.W.keepIn K (.ref f) = true)
    (hb : ∀ (kV doc pm : Value) (an : Option Addr) (cdv ct : Value) (us : List Value), us.length = ps.length → bindArgs (PySem.W.fnOf x qual (defArgs st) (defBody st) (defScope st) .none kV doc pm an cdv ct) ⟨us, []⟩ = pure (ps.zip us)) : MSrc K C x qual st ps := by
  have F := fun_mk (st := st) l c k
  exact ⟨f, _, F, F.binds hb, ⟨a, i, k⟩⟩
theorem int_mk {K : PySem.W.Frag} {h : Heap} {mg : Str → Option Value} {x : Str} {z : Int} {v : Value} (X : K.In h) (G : h.Ns mainGlobals mg) (a : PySem.W.nsIn K mainGlobals x = some (some v)) (r : RelV (.int z) v) : GInt mg x z := ⟨v, PySem.W.mg_of X G a, r⟩
theorem knot_mk {K : PySem.W.Frag} {h : Heap} {mg : Str → Option Value} {C f : Addr} (X : K.In h) (G : h.Ns mainGlobals mg) {od an : Option Addr} {sl : Array (Option Value)} {oc kV dc pm cd ct : Value}
    (aC : PySem.W.nsIn K mainGlobals "Knot" = some (some (.ref C))) (a1 : PySem.W.findIn K (.ref C) "__init__" = some (some (.ref f))) (i1 : PySem.W.isFn K (.ref f) = true)
    (l1 : K.lookup f = some ⟨oc, od, .func (PySem.W.fnOf "__init__" "Knot.__init__" (defArgs sInit) (defBody sInit) (defScope sInit) .none kV dc pm an cd ct), sl⟩) (c1 : PySem.W.codeIn K cd "Knot.__init__" = true) (k1 : PySem.W.keepIn K (.ref f) = true)
    (pg : PySem.W.plainGet K C Str.empty = true) (hd : PySem.W.hasDictIn K C = true) (po : PySem.W.plainOver K C = true) (sa : PySem.W.findIn K (.ref C) "__setattr__" = some (some (.builtin "object.__setattr__"))) (mk : PySem.W.makesIn K C = true) (kc : PySem.W.keepIn K (.ref C) = true)
    (nT : PySem.W.findIn K (.ref C) "things" = some none) (nB : PySem.W.findIn K (.ref C) "below" = some none) (nO : PySem.W.findIn K (.ref C) "only_turns" = some none)
    (b1 : PySem.W.nsIn K mainGlobals "len" = some none) (b2 : PySem.W.nsIn K mainGlobals "range" = some none) (b3 : PySem.W.nsIn K mainGlobals "list" = some none) (b4 : PySem.W.nsIn K mainGlobals "reversed" = some none) :
    ∃ C, Txt K mg C ∧ ∃ (fI : Addr) (fdI : FuncData), Mk K C fI ∧ Fun K "__init__" "Knot.__init__" sInit fI fdI ∧ Binds K fdI ["self", "things", "below", "only_turns"] [] := by
  have F := fun_mk (st := sInit) l1 c1 k1
  have b := F.binds (ps := ["self", "things", "below", "only_turns"]) fun _ _ _ _ _ _ us hl => match us, hl with | [_, _, _, _], _ => rfl
  exact ⟨C, ⟨⟨pg, hd, po, sa⟩, nT, nB, nO, PySem.W.mg_of X G aC, PySem.W.mg_none_of X G b1, PySem.W.mg_none_of X G b2, PySem.W.mg_none_of X G b3, PySem.W.mg_none_of X G b4⟩, f, _, ⟨mk, a1, i1, kc⟩, F, b⟩
theorem say_mk {K : PySem.W.Frag} {h : Heap} {mg : Str → Option Value} {C f : Addr} (X : K.In h) (G : h.Ns mainGlobals mg) {od an : Option Addr} {sl : Array (Option Value)} {oc kV dc pm cd ct : Value}
    (g1 : GInt mg "MOST_THINGS" 64) (g2 : GInt mg "MOST_SETS" 64) (g3 : GInt mg "NOT_A_THING" (-22)) (g4 : GInt mg "TOO_MANY_SETS" (-28)) (g5 : GInt mg "NO_ORDER" (-61)) (g6 : GInt mg "SOME_ORDER" (-17))
    (aC : PySem.W.nsIn K mainGlobals "Sayings" = some (some (.ref C))) (a1 : PySem.W.findIn K (.ref C) "__init__" = some (some (.ref f))) (i1 : PySem.W.isFn K (.ref f) = true)
    (l1 : K.lookup f = some ⟨oc, od, .func (PySem.W.fnOf "__init__" "Sayings.__init__" (defArgs sSInit) (defBody sSInit) (defScope sSInit) .none kV dc pm an cd ct), sl⟩) (c1 : PySem.W.codeIn K cd "Sayings.__init__" = true) (k1 : PySem.W.keepIn K (.ref f) = true)
    (pg : PySem.W.plainGet K C Str.empty = true) (hd : PySem.W.hasDictIn K C = true) (po : PySem.W.plainOver K C = true) (sa : PySem.W.findIn K (.ref C) "__setattr__" = some (some (.builtin "object.__setattr__"))) (mk : PySem.W.makesIn K C = true) (kc : PySem.W.keepIn K (.ref C) = true)
    (nn : PySem.W.findIn K (.ref C) "n" = some none) (nl : PySem.W.findIn K (.ref C) "told" = some none) (nt : PySem.W.findIn K (.ref C) "tree" = some none)
    (m1 : MSrc K C "to_start" "Sayings.to_start" sStart ["self", "n"]) (m2 : MSrc K C "to_say" "Sayings.to_say" sSay ["self", "things"]) (m3 : MSrc K C "to_why" "Sayings.to_why" sWhy ["self", "things"]) (m4 : MSrc K C "to_many" "Sayings.to_many" sToMany ["self"])
    (m5 : MSrc K C "to_order" "Sayings.to_order" sToOrder ["self"]) (m6 : MSrc K C "to_between" "Sayings.to_between" sToBetween ["self", "a", "b", "c"]) (m7 : MSrc K C "has_strangers" "Sayings.has_strangers" sHas ["self", "things"]) (m8 : MSrc K C "needed_against" "Sayings.needed_against" sNeeded ["self", "things"]) :
    ∃ C2, Says K mg C2 := by
  have F := fun_mk (st := sSInit) l1 c1 k1
  have b := F.binds (ps := ["self"]) fun _ _ _ _ _ _ us hl => match us, hl with | [_], _ => rfl
  exact ⟨C, ⟨⟨⟨pg, hd, po, sa⟩, nn, nl, nt, PySem.W.mg_of X G aC, g1, g2, g3, g4, g5, g6⟩, ⟨f, _, ⟨mk, a1, i1, kc⟩, F, b⟩, m1, m2, m3, m4, m5, m6, m7, m8⟩⟩
end Ts
end
section
namespace Ts
open PySem PySem.Spec PyProof.Rows L2
open Kh241Neutral (tried asked1)
noncomputable abbrev sAnswers : Stmt := top 47
noncomputable abbrev sAnswerOf : Stmt := top 48
noncomputable def behinds : List Int := [1, 1, 1, 0, 0, 3]
theorem behind_shape {p : Int} {n : Nat} (h : PyKh241.shape p = some (n, 0)) : atI (behinds.map V.int) p = some (.int (n : Int)) := by
  unfold PyKh241.shape at h
  repeat' (split at h)
  all_goals first
    | (rename_i q; subst q; have e := congrArg Prod.fst (Option.some.inj h); have e : _ = n := e; subst e; rfl)
    | cases h
structure Txt3 (K : PySem.W.Frag) (mg : Str → Option Value) : Prop where
  behind : ∃ a, mg "NUMBERS_BEHIND" = some (.ref a) ∧ ∀ H : Hp, SqT K H a (behinds.map V.int)
  t0 : GInt mg "TO_START" 0
  t1 : GInt mg "TO_SAY" 1
  t2 : GInt mg "TO_WHY" 2
  t3 : GInt mg "TO_MANY" 3
  t4 : GInt mg "TO_ORDER" 4
noncomputable def spAnswerOf (C2 C : Addr) : Sp := fun vs H Q _ => ∃ (G : Hp) (p l : Addr) (st : Option Kh241.Abs) (c : Int) (ln : Addr) (args : List Int) (y : Kh241Neutral.S × List Int), vs = [.ref p, .int c, .ref ln] ∧ Same G H ∧ StAt C2 C G H p l st ∧ H ln = some (.lst (args.map V.int)) ∧
  asked1 [c :: args] = true ∧ tried st [c :: args] = some y ∧ Answers C2 C G H Q p l y.1 y.2
noncomputable def spAns (K : PySem.W.Frag) : Sp := fun vs H Q _ => ∃ (a : Addr) (ns : List Int), vs = [.ref a] ∧ SqL K H a (ns.map V.int) ∧ PyKh241.answers_asked ns = true ∧ ns.length ≤ 16000 ∧ ∀ (H' : Hp) (p : Addr), H' p = some (.lst ((PyKh241.answers ns).map V.int)) → Q (.ref p) H'
theorem cut_mid (xs : List V) (a b : Nat) (h1 : a ≤ b) (h2 : b ≤ xs.length) : cutV xs (some (a : Int)) (some (b : Int)) = (xs.drop a).take (b - a) := by
  unfold cutV
  rw [HT.sIx_nat, HT.sIx_nat, Nat.min_eq_left h2, Nat.min_eq_left (show a ≤ xs.length by omega)]
theorem tried_len {st : Option Kh241.Abs} {c : List (List Int)} {y : Kh241Neutral.S × List Int} (h : tried st c = some y) (hn : ∀ a, st = some a → a.n ≤ 64) : y.2.length ≤ 65 := by
  unfold tried at h
  cases e : Kh241Neutral.callOf c with
  | none => rw [e] at h; cases h
  | some d =>
    rw [e] at h
    cases d with
    | start n =>
      have h : some (if Kh241.okStart n then (some (Kh241.start n), [0]) else (st, [-22])) = some y := h
      have h := Option.some.inj h
      subst h
      split <;> exact (by decide : 1 ≤ 65)
    | say x =>
      cases st with
      | none => cases h
      | some a =>
        have h : (Kh241Neutral.reckon a (.say x)).map (fun z => (some z.2, Kh241Neutral.given (.say x) z.1)) = some y := h
        unfold Kh241Neutral.reckon at h
        have h := Option.some.inj h
        subst h
        repeat' split
        all_goals exact (by decide : 1 ≤ 65)
    | why x =>
      cases st with
      | none => cases h
      | some a =>
        have h : (Kh241Neutral.reckon a (.why x)).map (fun z => (some z.2, Kh241Neutral.given (.why x) z.1)) = some y := h
        unfold Kh241Neutral.reckon at h
        have h := Option.some.inj h
        subst h
        repeat' split
        all_goals first | exact (by decide : 1 ≤ 65) | exact (by decide : 2 ≤ 65)
    | many =>
      cases st with
      | none => cases h
      | some a =>
        have h : (if decide (Kh241Neutral.orders a.n a.told).Nodup then some ((⟨0, Kh241.bytes 40 (Kh241Neutral.orders a.n a.told).length⟩ : Kh241.Ans), a) else none).map (fun (z : Kh241.Ans × Kh241.Abs) => (some z.2, Kh241Neutral.given .many z.1)) = some y := h
        by_cases hd : decide (Kh241Neutral.orders a.n a.told).Nodup = true
        · rw [if_pos hd] at h
          have h := Option.some.inj h
          subst h
          exact (by decide : 2 ≤ 65)
        · rw [if_neg hd] at h
          cases h
    | order =>
      cases st with
      | none => cases h
      | some a =>
        have h : (match Kh241Neutral.orders a.n a.told with
          | [] => none
          | o :: l => if (o :: l).all fun q => decide (q = o) || Kh241.before o q then some ((⟨a.n, o⟩ : Kh241.Ans), a) else none).map (fun (z : Kh241.Ans × Kh241.Abs) => (some z.2, Kh241Neutral.given .order z.1)) = some y := h
        cases eo : Kh241Neutral.orders a.n a.told with
        | nil => rw [eo] at h; cases h
        | cons o l =>
          rw [eo] at h
          have h : (if (o :: l).all fun q => decide (q = o) || Kh241.before o q then some ((⟨a.n, o⟩ : Kh241.Ans), a) else none).map (fun (z : Kh241.Ans × Kh241.Abs) => (some z.2, Kh241Neutral.given .order z.1)) = some y := h
          by_cases hd : ((o :: l).all fun q => decide (q = o) || Kh241.before o q) = true
          · rw [if_pos hd] at h
            have h := Option.some.inj h
            subst h
            have q := order_len (n := a.n) (l := a.told) (o := o) (by rw [eo]; exact List.mem_cons_self)
            have q2 := hn a rfl
            show ((a.n : Int) :: Kh241Neutral.ints o).length ≤ 65
            unfold Kh241Neutral.ints
            rw [List.length_cons, List.length_map, q]
            omega
          · rw [if_neg hd] at h
            cases h
    | between x z u =>
      cases st with
      | none => cases h
      | some a =>
        have h : (if Kh241.three a.n x z u = false then some (Kh241.say (-22), a) else match Kh241Neutral.orders a.n a.told with
          | [] => none
          | o :: l => some (Kh241.say (if (o :: l).all fun o => Kh241.isBetween o x z u then 1 else if (o :: l).any fun o => Kh241.isBetween o x z u then 2 else 0), a)).map (fun (z' : Kh241.Ans × Kh241.Abs) => (some z'.2, Kh241Neutral.given (.between x z u) z'.1)) = some y := h
        by_cases hd : Kh241.three a.n x z u = false
        · rw [if_pos hd] at h
          have h := Option.some.inj h
          subst h
          exact (by decide : 1 ≤ 65)
        · rw [if_neg hd] at h
          cases eo : Kh241Neutral.orders a.n a.told with
          | nil => rw [eo] at h; cases h
          | cons o l =>
            rw [eo] at h
            have h := Option.some.inj h
            subst h
            exact (by decide : 1 ≤ 65)
section
variable {P : Program} {w : World} {K : PySem.W.Frag} {mg : Str → Option Value} {base : Heap} {C C2 : Addr}
theorem scAn : FnScope ["calls", "listener", "given", "at", "behind", "answer"] ["calls"] (defScope sAnswers) := ⟨rfl, rfl, rfl, by decide +kernel, rfl, by decide +kernel, by decide +kernel⟩
theorem scAO : FnScope ["listener", "call", "numbers"] ["listener", "call", "numbers"] (defScope sAnswerOf) := ⟨rfl, rfl, rfl, by decide +kernel, rfl, by decide +kernel, by decide +kernel⟩
theorem ok_answer_of {k : Nat} (S : Src K mg "answer_of" sAnswerOf ["listener", "call", "numbers"]) (T2 : Txt2 K mg C2) (T3 : Txt3 K mg) (X : Six P w K mg base C2 C k) : Def P w K mg base (k + 1) "answer_of" ["listener", "call", "numbers"] (spAnswerOf C2 C) := by
  refine S.ok scAO (fun vs H Q E h => ?_) (fun f cdv A outer s H vs Q E hr h => ?_)
  · obtain ⟨G, p, l, st, c, ln, args, y, rfl, _⟩ := h
    rfl
  obtain ⟨G, p, l, st, c, ln, args, y, rfl, hG, hs, hln, hask, htr, kk⟩ := h
  obtain ⟨⟨dx, n0, tv0, h1⟩, gp⟩ := hs.obj
  refine ⟨_, pss_cons (ps_if (pt_cmpR op_eq (pv 1) (pe_gi T3.t0 rfl) (nomark _)) (pss_one (ps_ret (pe_mdef (pv 0) T2.cl X.start hr (pa_cons (pe_ix ix_list (pv 2) pe_int (fun _ _ => rfl)) pa_nil)))) pss_nil)
    (pss_cons (ps_if (pt_cmpR op_eq (pv 1) (pe_gi T3.t1 rfl) (nomark _)) (pss_one (ps_ret (pe_mdef (pv 0) T2.cl X.say hr (pa_cons (pe_ix ix_list (pv 2) pe_int (fun _ _ => rfl)) pa_nil)))) pss_nil)
    (pss_cons (ps_if (pt_cmpR op_eq (pv 1) (pe_gi T3.t2 rfl) (nomark _)) (pss_one (ps_ret (pe_mdef (pv 0) T2.cl X.why hr (pa_cons (pe_ix ix_list (pv 2) pe_int (fun _ _ => rfl)) pa_nil)))) pss_nil)
    (pss_cons (ps_if (pt_cmpR op_eq (pv 1) (pe_gi T3.t3 rfl) (nomark _)) (pss_one (ps_ret (pe_mdef0 (pv 0) T2.cl X.many hr))) pss_nil)
    (pss_cons (ps_if (pt_cmpR op_eq (pv 1) (pe_gi T3.t4 rfl) (nomark _)) (pss_one (ps_ret (pe_mdef0 (pv 0) T2.cl X.order hr))) pss_nil)
    (pss_one (ps_ret (pe_mdef (pv 0) T2.cl X.between hr (pa_cons (pe_ix ix_list (pv 2) pe_int (fun _ _ => rfl)) (pa_cons (pe_ix ix_list (pv 2) pe_int (fun _ _ => rfl)) (pa_cons (pe_ix ix_list (pv 2) pe_int (fun _ _ => rfl)) pa_nil)))))))))), ?_⟩
  have some_of : c ≠ 0 → ∃ s, st = some s := fun hc => by
    cases st with
    | none => exact absurd (tried_none htr) hc
    | some s => exact ⟨s, rfl⟩
  have at0 : ∀ {z : Int} {r : List Int}, atI ((z :: r).map V.int) 0 = some (.int z) := fun {z r} => at_of (j := 0) rfl rfl
  refine ⟨_, rfl, rfl, _, rfl, ?_⟩
  rcases asked_cases hask with ⟨rfl, n, rfl, hn⟩ | ⟨rfl, x, rfl⟩ | ⟨rfl, x, rfl⟩ | ⟨rfl, rfl⟩ | ⟨rfl, rfl⟩ | ⟨rfl, x1, x2, x3, rfl⟩
  · rw [tried_start] at htr
    have htr := Option.some.inj htr
    rw [Int.toNat_natCast] at htr
    subst htr
    exact iteT ⟨_, rfl, p, dx, _, rfl, h1, sf_no (by decide +kernel) (by decide +kernel) (by decide +kernel), _, rfl, ln, _, 0, _, rfl, rfl, SqL.of hln, at0, G, p, l, st, n, rfl, hG, hs, hn, kk⟩
  · obtain ⟨s1, rfl⟩ := some_of (by decide)
    rw [tried_say] at htr
    have htr := Option.some.inj htr
    rw [Int.toNat_natCast] at htr
    subst htr
    refine iteF ⟨_, rfl, rfl, _, rfl, ?_⟩
    exact iteT ⟨_, rfl, p, dx, _, rfl, h1, sf_no (by decide +kernel) (by decide +kernel) (by decide +kernel), _, rfl, ln, _, 0, _, rfl, rfl, SqL.of hln, at0, G, p, l, s1, x, rfl, hG, hs, kk⟩
  · obtain ⟨s1, rfl⟩ := some_of (by decide)
    rw [tried_why] at htr
    have htr := Option.some.inj htr
    rw [Int.toNat_natCast] at htr
    subst htr
    refine iteF ⟨_, rfl, rfl, _, rfl, ?_⟩
    refine iteF ⟨_, rfl, rfl, _, rfl, ?_⟩
    exact iteT ⟨_, rfl, p, dx, _, rfl, h1, sf_no (by decide +kernel) (by decide +kernel) (by decide +kernel), _, rfl, ln, _, 0, _, rfl, rfl, SqL.of hln, at0, G, p, l, s1, x, rfl, hG, hs, kk⟩
  · obtain ⟨s1, rfl⟩ := some_of (by decide)
    have hs1 : SayAt C2 C G H p l s1.n s1.told := hs
    have e := tried_many hs1.n1 hs1.n5 htr
    subst e
    refine iteF ⟨_, rfl, rfl, _, rfl, ?_⟩
    refine iteF ⟨_, rfl, rfl, _, rfl, ?_⟩
    refine iteF ⟨_, rfl, rfl, _, rfl, ?_⟩
    exact iteT ⟨_, rfl, p, dx, _, rfl, h1, sf_no (by decide +kernel) (by decide +kernel) (by decide +kernel), G, p, l, s1, rfl, hG, hs, kk⟩
  · obtain ⟨s1, rfl⟩ := some_of (by decide)
    have e := tried_order htr
    subst e
    refine iteF ⟨_, rfl, rfl, _, rfl, ?_⟩
    refine iteF ⟨_, rfl, rfl, _, rfl, ?_⟩
    refine iteF ⟨_, rfl, rfl, _, rfl, ?_⟩
    refine iteF ⟨_, rfl, rfl, _, rfl, ?_⟩
    exact iteT ⟨_, rfl, p, dx, _, rfl, h1, sf_no (by decide +kernel) (by decide +kernel) (by decide +kernel), G, p, l, s1, rfl, hG, hs, kk⟩
  · obtain ⟨s1, rfl⟩ := some_of (by decide)
    have e := tried_between htr
    rw [Int.toNat_natCast, Int.toNat_natCast, Int.toNat_natCast] at e
    subst e
    refine iteF ⟨_, rfl, rfl, _, rfl, ?_⟩
    refine iteF ⟨_, rfl, rfl, _, rfl, ?_⟩
    refine iteF ⟨_, rfl, rfl, _, rfl, ?_⟩
    refine iteF ⟨_, rfl, rfl, _, rfl, ?_⟩
    refine iteF ⟨_, rfl, p, dx, _, rfl, h1, sf_no (by decide +kernel) (by decide +kernel) (by decide +kernel), _, rfl, ln, _, 0, _, rfl, rfl, SqL.of hln, at0, _, rfl, ln, _, 1, _, rfl, rfl, SqL.of hln, at_of (j := 1) (v := .int (x2 : Int)) rfl rfl, _, rfl, ln, _, 2, _, rfl, rfl, SqL.of hln, at_of (j := 2) (v := .int (x3 : Int)) rfl rfl, G, p, l, s1, x1, x2, x3, rfl, hG, hs, kk⟩
theorem StAt.n64 {G H : Hp} {p l : Addr} {st : Option Kh241.Abs} (h : StAt C2 C G H p l st) : ∀ a, st = some a → a.n ≤ 64 := fun a e => by
  subst e
  have q : SayAt C2 C G H p l a.n a.told := h
  have := q.n5
  omega
theorem ok_answers {f fI : Addr} {fd fdI : FuncData} {k : Nat} (F : Fun K "answers" "answers" sAnswers f fd) (T1 : Txt K mg C) (T2 : Txt2 K mg C2) (T3 : Txt3 K mg) (hk : 2 ≤ k) (M : Mk K C2 fI) (FI : Fun K "__init__" "Sayings.__init__" sSInit fI fdI) (bI : Binds K fdI ["self"] [])
    (D1 : Def P w K mg base k "answer_of" ["listener", "call", "numbers"] (spAnswerOf C2 C)) : FnOk P w K mg base CX0 (k + 1) f fd ["calls"] (spAns K) := by
  have GI : FnOk P w K mg base CX0 1 fI fdI ["self"] (spSInit C2) := ok_sinit FI T2
  refine F.ok scAn (fun vs H Q E h => ?_) (fun cdv A outer s H vs Q E hr h => ?_)
  · obtain ⟨a, ns, rfl, _⟩ := h
    rfl
  obtain ⟨a, ns, rfl, hS, hask, hln, kk⟩ := h
  obtain ⟨cs0, hR0, hO0, hc0, hA⟩ := asked_calls hask
  obtain ⟨bn, hbm, hbn⟩ := T3.behind
  have r2 : Room (1 + 1) _ := hr.mono (by omega)
  refine ⟨_, pss_cons (ps_set (i := 1) scAn.nd rfl (Or.inl rfl) (pe_make0 M GI r2 rfl T2.mgC bI .nil pass0))
    (pss_cons (ps_set (i := 2) scAn.nd rfl (Or.inl rfl) (pe_lst pa_nil))
    (pss_cons (ps_set (i := 3) scAn.nd rfl (Or.inl rfl) pe_int)
    (pss_cons (ps_while PassesOwn.never (pt_cmpR op_lt (pv 3) (pe_callB call_len_seq rfl T1.len PySem.boot_len (pa_cons (pv 0) pa_nil)) (nomark _))
      (pss_cons (ps_set (i := 4) scAn.nd rfl (Or.inl rfl) (pe_op op_add (pe_op op_add (pv 3) pe_int) (pe_ix ix_tup (pe_glob (v := .ref bn) rfl hbm rfl) (pe_ix ix_list (pv 0) (pv 3) (fun _ _ => rfl)) (fun _ _ => rfl))))
      (pss_cons (ps_set (i := 5) scAn.nd rfl (Or.inl rfl) (pe_def D1 hr rfl (pa_cons (pv 1) (pa_cons (pe_ix ix_list (pv 0) (pv 3) (fun _ _ => rfl)) (pa_cons (pe_slice sl_list (pv 0) (po_some (pe_op op_add (pv 3) pe_int)) (po_some (pv 4))) pa_nil)))))
      (pss_cons (ps_expr (pe_bm PySem.F.plainAttrs_list PySem.F.slot_list_append PySem.F.type_list_append mt_append (pv 2) (pa_cons (pe_callB call_len_seq rfl T1.len PySem.boot_len (pa_cons (pv 5) pa_nil)) pa_nil)))
      (pss_cons (ps_expr (pe_bm PySem.F.plainAttrs_list PySem.F.slot_list_extend PySem.F.type_list_extend mt_extend (pv 2) (pa_cons (pv 5) pa_nil)))
      (pss_one (ps_set (i := 3) scAn.nd rfl (Or.inl rfl) (pv 4))))))))
    (pss_one (ps_ret (pv 2)))))), ?_⟩
  intro p dx np nd ne
  refine ⟨p, dx, rfl, upd_same, fun l nl => ⟨rfl, ?_⟩⟩
  have dpl : p ≠ l := ne_of_none upd_same nl
  have ddl : dx ≠ l := ne_of_none (show (upd (upd H dx (.own p)) p (.ins C2 dx [])) dx = some (.own p) by rw [upd_ne ne]; exact upd_same) nl
  have nl0 : H l = none := by rw [upd_ne (fun q => dpl q.symm), upd_ne (fun q => ddl q.symm)] at nl; exact nl
  generalize hH1 : upd (upd (upd (upd H dx (.own p)) p (.ins C2 dx [])) l (.lst [])) p (.ins C2 dx (sf 0 l .non)) = H1
  have s1 : Same H H1 := fun b o e => by
    rw [← hH1, upd_ne (ne_of_none e np), upd_ne (ne_of_none e nl0), upd_ne (ne_of_none e np), upd_ne (ne_of_none e nd)]
    exact e
  have hp1 : H1 p = some (.ins C2 dx (sf 0 l .non)) := by rw [← hH1]; exact upd_same
  have hl1 : H1 l = some (.lst []) := by rw [← hH1, upd_ne (fun q => dpl q.symm)]; exact upd_same
  refine ⟨(by show 0 ≤ sizeLine; decide), fun g ng => ?_⟩
  have ng0 : H g = none := s1.free ng
  have dgp : g ≠ p := fun q => by rw [q, hp1] at ng; cases ng
  have dgl : g ≠ l := fun q => by rw [q, hl1] at ng; cases ng
  let G0 : Hp := fun _ => none
  have hG0 : ∀ H : Hp, Same G0 H := fun _ _ _ e => by cases e
  have st0 : StAt C2 C G0 (upd H1 g (.lst [])) p l none := ⟨⟨dx, by rw [upd_ne (fun q => dgp q.symm)]; exact hp1⟩, by rw [upd_ne (fun q => dgl q.symm)]; exact hl1, rfl, rfl⟩
  refine while_by (fun σ H' => ∃ (G' : Hp) (l : Addr) (st : Option Kh241.Abs) (i : Nat) (acc : List Int) (cs : List (List (List Int))) (v1 v2 : Option V), σ = [some (.ref a), some (.ref p), some (.ref g), some (.int (i : Int)), v1, v2] ∧ Same H H' ∧ Same G' H' ∧ H l = none ∧ g ≠ l ∧
      StAt C2 C G' H' p l st ∧ H' g = some (.lst (acc.map V.int)) ∧ G' g = none ∧ i ≤ ns.length ∧ Rest (ns.drop i) cs ∧ Ok st cs ∧ acc.length + 66 * cs.length ≤ 5280 ∧ PyKh241.answers ns = acc ++ out st cs)
    (fun σ H' => match σ[3]? with | some (some (V.int z)) => (ns.length - z.toNat) | _ => 0)
    ⟨G0, l, none, 0, [], cs0, none, none, rfl, Same.trans s1 (same_new ng _), hG0 _, nl0, dgl, st0, upd_same, rfl, Nat.zero_le _, hR0, hO0, by simp only [List.length_nil]; omega, hA⟩ ?_ ?_
  · rintro σ H' ⟨G', l, st, i, acc, cs, v1, v2, rfl, sH, sG, nl, dgl, hst, hg, gg, hi, hR, hO, hb, hAn⟩
    have hS' := sH.seq hS
    have el : (ns.map V.int).length = ns.length := List.length_map ..
    refine ⟨_, rfl, _, rfl, a, _, rfl, .inl hS', _, _, rfl, rfl, _, rfl, ?_⟩
    refine ite2 (fun c => ?_) (fun c => ?_)
    · have c' : (i : Int) < (((ns.map V.int).length : Nat) : Int) := of_decide_eq_true c
      have hlt : i < ns.length := by omega
      have hd : ns.drop i = ns[i] :: ns.drop (i + 1) := List.drop_eq_getElem_cons hlt
      have hzi : ns[i]? = some ns[i] := List.getElem?_eq_getElem hlt
      generalize ns[i] = z at hd hzi
      rw [hd] at hR
      obtain ⟨n, cs', hsh, hnl, rfl, hR'⟩ := rest_cons hR
      obtain ⟨ha1, y, hy1, hy2, hO'⟩ := ok_cons hO
      have hbz := behind_shape hsh
      have hat : atI (ns.map V.int) (i : Int) = some (.int z) := atI_nat (by rw [List.getElem?_map, hzi]; rfl)
      rw [List.length_drop] at hnl
      refine ⟨_, rfl, _, _, rfl, rfl, _, rfl, _, rfl, a, _, _, _, rfl, rfl, hS', hat, bn, _, _, _, rfl, rfl, hbn _, hbz, _, _, rfl, rfl, ?_⟩
      refine ⟨_, rfl, _, rfl, _, rfl, a, _, _, _, rfl, rfl, hS', hat, _, rfl, _, rfl, _, _, rfl, rfl, _, rfl, _, rfl, _, rfl, a, _, rfl, hS', fun ln nln => ?_⟩
      have ec : cutV (ns.map V.int) (some ((i : Int) + 1)) (some ((i : Int) + 1 + (n : Int))) = ((ns.drop (i + 1)).take n).map V.int := by
        rw [show ((i : Int) + 1) = ((i + 1 : Nat) : Int) by omega, show (((i + 1 : Nat) : Int) + (n : Int)) = ((i + 1 + n : Nat) : Int) by omega, cut_mid _ _ _ (by omega) (by rw [el]; omega), show i + 1 + n - (i + 1) = n by omega, List.map_take, List.map_drop]
      rw [ec]
      have x1 : Ext G' H' G' (upd H' ln (.lst (((ns.drop (i + 1)).take n).map V.int))) := .alloc sG nln _
      have hst1 := hst.mono x1
      refine ⟨G', p, l, st, z, ln, (ns.drop (i + 1)).take n, y, rfl, x1.gh, hst1, upd_same, ha1, hy1, fun r l' G2 H2 fr hl' hst2 hr2 nr2 => ?_⟩
      have hyl := tried_len hy1 hst.n64
      have hgl1 : (upd H' ln (.lst (((ns.drop (i + 1)).take n).map V.int))) g = some (.lst (acc.map V.int)) := x1.hs _ _ hg
      have hg2 : H2 g = some (.lst (acc.map V.int)) := fr.hs _ _ hgl1 dgp dgl
      have gg2 : G2 g = none := by
        cases q : G2 g with
        | none => rfl
        | some u =>
          rcases fr.new g u q with h | h
          · rw [gg] at h; cases h
          · rw [hgl1] at h; cases h
      have sH2 : Same H H2 := fun b o e => fr.hs _ _ (x1.hs _ _ (sH _ _ e)) (ne_of_none e np) (ne_of_none e nl)
      have nl2 : H l' = none := by
        rcases hl' with e | e
        · rw [e]; exact nl
        · exact sH.free (x1.hs.free e)
      have dgl2 : g ≠ l' := by
        rcases hl' with e | e
        · rw [e]; exact dgl
        · exact ne_of_none hgl1 e
      have dgr : g ≠ r := ne_of_none hgl1 nr2
      have eyl : (y.2.map V.int).length = y.2.length := List.length_map ..
      have eal : (acc.map V.int).length = acc.length := List.length_map ..
      simp only [List.length_cons] at hb
      refine ⟨_, rfl, .inl ⟨rfl, _, SqL.of hg2⟩, _, rfl, r, _, rfl, .inl (SqL.of hr2), g, _, _, rfl, rfl, hg2, ?_, ?_⟩
      · rw [eal]
        exact Nat.lt_of_lt_of_le (show acc.length < 10000 by omega) (by decide)
      refine ⟨_, rfl, .inl ⟨rfl, _, SqL.of upd_same⟩, _, rfl, g, r, _, _, rfl, rfl, upd_same, by rw [upd_ne (fun q => dgr q.symm)]; exact hr2, ?_, ?_⟩
      · rw [List.length_append, eal, eyl]
        exact Nat.le_trans (show _ ≤ 10000 by simp only [List.length_cons, List.length_nil]; omega) (by decide)
      rw [upd_upd]
      have eacc : acc.map V.int ++ [V.int (((y.2.map V.int).length : Nat) : Int)] ++ y.2.map V.int = (acc ++ ((y.2.length : Int) :: y.2)).map V.int := by
        rw [eyl, List.map_append, List.append_assoc]
        rfl
      rw [eacc]
      have obj := hst2.obj
      have gp2 := obj.2
      refine ⟨_, rfl, ⟨G2, l', y.1, i + 1 + n, acc ++ ((y.2.length : Int) :: y.2), cs', some (.int ((i + 1 + n : Nat) : Int)), some (.ref r), ?_, ?_, ?_, nl2, dgl2, ?_, upd_same, gg2, by omega, ?_, hO', ?_, ?_⟩, ?_⟩
      · show [some (V.ref a), some (V.ref p), some (V.ref g), some (V.int ((i : Int) + 1 + (n : Int))), some (V.int ((i : Int) + 1 + (n : Int))), some (V.ref r)] = _
        rw [show ((i : Int) + 1 + (n : Int)) = ((i + 1 + n : Nat) : Int) by omega]
      · exact fun b o e => by rw [upd_ne (ne_of_none e ng0)]; exact sH2 _ _ e
      · exact fun b o e => by rw [upd_ne (ne_of_none e gg2)]; exact fr.gh _ _ e
      · -- the object is as it was: the given list is none of its parts
        cases hy : y.1 with
        | none =>
          rw [hy] at hst2
          obtain ⟨⟨dx', q1⟩, q2, q3, q4⟩ := hst2
          exact ⟨⟨dx', by rw [upd_ne (fun q => dgp q.symm)]; exact q1⟩, by rw [upd_ne (fun q => dgl2 q.symm)]; exact q2, q3, q4⟩
        | some sy =>
          rw [hy] at hst2
          obtain ⟨⟨dx', a', t', tb', q1, q2, q3, q4⟩, q5, q6, q7, q8, q9, q10, q11⟩ := hst2
          exact ⟨⟨dx', a', t', tb', by rw [upd_ne (fun q => dgp q.symm)]; exact q1, q2, q3, q4⟩, by rw [upd_ne (fun q => dgl2 q.symm)]; exact q5, q6, q7, q8, q9, q10, q11⟩
      · have e : ns.drop (i + 1 + n) = (ns.drop (i + 1)).drop n := by rw [List.drop_drop]
        rw [e]
        exact hR'
      · rw [List.length_append, List.length_cons]
        omega
      · rw [hAn, out_cons hy2, List.append_assoc]
      · show ns.length - ((i : Int) + 1 + (n : Int)).toNat < ns.length - ((i : Nat) : Int).toNat
        omega
    · have c' : ¬ (i : Int) < (((ns.map V.int).length : Nat) : Int) := fun q => c (decide_eq_true q)
      have hie : i = ns.length := by omega
      subst hie
      rw [List.drop_length] at hR
      have hcs := rest_nil hR
      subst hcs
      rw [out_nil, List.append_nil] at hAn
      refine ⟨_, rfl, kk H' g ?_⟩
      rw [hAn]
      exact hg
  · rintro σ H' Q1 Q2 hq h
    obtain ⟨v, e1, v2, e2, p1, ys, e3, h3, i1, j1, e4, e5, b, e6, h6⟩ := h
    exact ⟨v, e1, v2, e2, p1, ys, e3, h3, i1, j1, e4, e5, b, e6, hq _ _ h6⟩
end
theorem tup_mk {K : PySem.W.Frag} {h : Heap} {mg : Str → Option Value} {a : Addr} {od : Option Addr} {its : Array Value} {n : Nat} {sl : Array (Option Value)} (X : K.In h) (G : h.Ns mainGlobals mg) (aN : PySem.W.nsIn K mainGlobals "NUMBERS_BEHIND" = some (some (.ref a)))
    (l : K.lookup a = some ⟨.type "tuple", od, .seq its n, sl⟩) (hz : its.size ≤ sizeLine) (hv : Vals (behinds.map V.int) its.toList) : ∃ a, mg "NUMBERS_BEHIND" = some (.ref a) ∧ ∀ H : Hp, SqT K H a (behinds.map V.int) :=
  ⟨a, PySem.W.mg_of X G aN, fun _ => .inr ⟨_, its, n, l, rfl, rfl, hz, hv⟩⟩
theorem whole {P : Program} {w : World} {K : PySem.W.Frag} {h : Heap} {mg : Str → Option Value} {fa f3 C C2 : Addr} {od an : Option Addr} {sl : Array (Option Value)} {oc kV dc pm cd ct : Value} (X : K.In h) (G : h.Ns mainGlobals mg) (hfa : mg "answers" = some (.ref fa))
    (N : Knots K mg C) (R : Readings K mg) (Y : Says K mg C2) (T3 : Txt3 K mg) (SA : Src K mg "answer_of" sAnswerOf ["listener", "call", "numbers"]) (cl : ∀ n, 1 ≤ n → n ≤ 5 → ∃ tb, Full n tb)
    (a3 : PySem.W.nsIn K mainGlobals "answers" = some (some (.ref f3))) (l3 : K.lookup f3 = some ⟨oc, od, .func (PySem.W.fnOf "answers" "answers" (defArgs sAnswers) (defBody sAnswers) (defScope sAnswers) .none kV dc pm an cd ct), sl⟩) (c3 : PySem.W.codeIn K cd "answers" = true) (k3 : PySem.W.keepIn K (.ref f3) = true) :
    ∃ fd : FuncData, (∀ (s : Shared) (us : List Value), us.length = (["calls"] : List Str).length → BindsTo s fd ⟨us, []⟩ ((["calls"] : List Str).zip us)) ∧ ∀ base : Heap, K.In base → base.Ns mainGlobals mg → FnOk P w K mg base CX0 26 fa fd ["calls"] (spAns K) := by
  have e := hfa.symm.trans (PySem.W.mg_of X G a3)
  cases e
  have F3 := fun_mk (st := sAnswers) l3 c3 k3
  obtain ⟨fI, fdI, M, FI, bI⟩ := Y.made
  exact ⟨PySem.W.fnOf "answers" "answers" (defArgs sAnswers) (defBody sAnswers) (defScope sAnswers) .none kV dc pm an cd ct, fun s us hu => match us, hu with | [_], _ => .of_eq rfl, fun base _ _ =>
    ok_answers F3 N.txt Y.txt T3 (by decide) M FI bI (ok_answer_of SA Y.txt T3 (Y.six N R cl))⟩
end Ts
end
section
open PySem PySem.W PyProof.Rows
set_option maxRecDepth 100000 in
set_option maxHeartbeats 0 in
theorem PySem.Challenge.cw_togethersets_s01_answers_holds : PySem.Challenge.rw_togethersets_s01_answers.Holds := by
  w_on; k_headS; (case hw => exact ⟨[.list [.int 0, .int 1]], by decide +kernel, by decide +kernel⟩)
  k_fillS
  refine L2.walk_specK (r := PySem.Challenge.rw_togethersets_s01_answers) (k := 26) (CX := L2.CX0) (ps := ["calls"]) (sp := Ts.spAns) (by decide +kernel) rfl rfl ⟨rfl, by decide, by decide⟩ (fun w h Y => PySem.W.kIn_of Y) ?F ?S (fun _ _ _ _ z => z)
  case F =>
    intro w mg fa h Y KX G hmg
    have k_treeAll : Ts.Src (L2.KOf KX) mg "tree_of_all" Ts.sTreeAll ["n"] := by
      dsimp only [L2.KOf]
      refine' Ts.src_mk KX G ?a_k_treeAll ?l_k_treeAll ?c_k_treeAll ?k_k_treeAll ?b_k_treeAll
      (case a_k_treeAll => k_is); (case l_k_treeAll => k_is); (case c_k_treeAll => k_is); (case k_k_treeAll => k_is)
      exact fun _ _ _ _ _ _ us hl => match us, hl with | [_], _ => rfl
    have k_keepAll : Ts.Src (L2.KOf KX) mg "tree_keeping_all" Ts.sKeepAll ["tree", "told"] := by
      dsimp only [L2.KOf]
      refine' Ts.src_mk KX G ?a_k_keepAll ?l_k_keepAll ?c_k_keepAll ?k_k_keepAll ?b_k_keepAll
      (case a_k_keepAll => k_is); (case l_k_keepAll => k_is); (case c_k_keepAll => k_is); (case k_k_keepAll => k_is)
      exact fun _ _ _ _ _ _ us hl => match us, hl with | [_, _], _ => rfl
    have k_keeping : Ts.Src (L2.KOf KX) mg "tree_keeping" Ts.sKeeping ["knot", "wanted"] := by
      dsimp only [L2.KOf]
      refine' Ts.src_mk KX G ?a_k_keeping ?l_k_keeping ?c_k_keeping ?k_k_keeping ?b_k_keeping
      (case a_k_keeping => k_is); (case l_k_keeping => k_is); (case c_k_keeping => k_is); (case k_k_keeping => k_is)
      exact fun _ _ _ _ _ _ us hl => match us, hl with | [_, _], _ => rfl
    have k_freeKeep : Ts.Src (L2.KOf KX) mg "free_knot_keeping" Ts.sFreeKeep ["below", "wanted"] := by
      dsimp only [L2.KOf]
      refine' Ts.src_mk KX G ?a_k_freeKeep ?l_k_freeKeep ?c_k_freeKeep ?k_k_freeKeep ?b_k_freeKeep
      (case a_k_freeKeep => k_is); (case l_k_freeKeep => k_is); (case c_k_freeKeep => k_is); (case k_k_freeKeep => k_is)
      exact fun _ _ _ _ _ _ us hl => match us, hl with | [_, _], _ => rfl
    have k_turnKeep : Ts.Src (L2.KOf KX) mg "turning_knot_keeping" Ts.sTurnKeep ["below", "wanted"] := by
      dsimp only [L2.KOf]
      refine' Ts.src_mk KX G ?a_k_turnKeep ?l_k_turnKeep ?c_k_turnKeep ?k_k_turnKeep ?b_k_turnKeep
      (case a_k_turnKeep => k_is); (case l_k_turnKeep => k_is); (case c_k_turnKeep => k_is); (case k_k_turnKeep => k_is)
      exact fun _ _ _ _ _ _ us hl => match us, hl with | [_, _], _ => rfl
    have k_rowOf : Ts.Src (L2.KOf KX) mg "row_of" Ts.sRowOf ["knot", "wanted"] := by
      dsimp only [L2.KOf]
      refine' Ts.src_mk KX G ?a_k_rowOf ?l_k_rowOf ?c_k_rowOf ?k_k_rowOf ?b_k_rowOf
      (case a_k_rowOf => k_is); (case l_k_rowOf => k_is); (case c_k_rowOf => k_is); (case k_k_rowOf => k_is)
      exact fun _ _ _ _ _ _ us hl => match us, hl with | [_, _], _ => rfl
    have k_joined : Ts.Src (L2.KOf KX) mg "joined_rows" Ts.sJoined ["knots", "wanted"] := by
      dsimp only [L2.KOf]
      refine' Ts.src_mk KX G ?a_k_joined ?l_k_joined ?c_k_joined ?k_k_joined ?b_k_joined
      (case a_k_joined => k_is); (case l_k_joined => k_is); (case c_k_joined => k_is); (case k_k_joined => k_is)
      exact fun _ _ _ _ _ _ us hl => match us, hl with | [_, _], _ => rfl
    have k_side : Ts.Src (L2.KOf KX) mg "empty_side_first" Ts.sSideFirst ["below", "wanted"] := by
      dsimp only [L2.KOf]
      refine' Ts.src_mk KX G ?a_k_side ?l_k_side ?c_k_side ?k_k_side ?b_k_side
      (case a_k_side => k_is); (case l_k_side => k_is); (case c_k_side => k_is); (case k_k_side => k_is)
      exact fun _ _ _ _ _ _ us hl => match us, hl with | [_, _], _ => rfl
    have k_together : Ts.Src (L2.KOf KX) mg "stands_together" Ts.sTogether ["row", "wanted"] := by
      dsimp only [L2.KOf]
      refine' Ts.src_mk KX G ?a_k_together ?l_k_together ?c_k_together ?k_k_together ?b_k_together
      (case a_k_together => k_is); (case l_k_together => k_is); (case c_k_together => k_is); (case k_k_together => k_is)
      exact fun _ _ _ _ _ _ us hl => match us, hl with | [_, _], _ => rfl
    have k_over : Ts.Src (L2.KOf KX) mg "knot_over" Ts.sOver ["below", "only_turns"] := by
      dsimp only [L2.KOf]
      refine' Ts.src_mk KX G ?a_k_over ?l_k_over ?c_k_over ?k_k_over ?b_k_over
      (case a_k_over => k_is); (case l_k_over => k_is); (case c_k_over => k_is); (case k_k_over => k_is)
      exact fun _ _ _ _ _ _ us hl => match us, hl with | [_, _], _ => rfl
    have k_free : Ts.Src (L2.KOf KX) mg "free_knot" Ts.sFree ["below"] := by
      dsimp only [L2.KOf]
      refine' Ts.src_mk KX G ?a_k_free ?l_k_free ?c_k_free ?k_k_free ?b_k_free
      (case a_k_free => k_is); (case l_k_free => k_is); (case c_k_free => k_is); (case k_k_free => k_is)
      exact fun _ _ _ _ _ _ us hl => match us, hl with | [_], _ => rfl
    have k_turning : Ts.Src (L2.KOf KX) mg "turning_knot" Ts.sTurning ["row"] := by
      dsimp only [L2.KOf]
      refine' Ts.src_mk KX G ?a_k_turning ?l_k_turning ?c_k_turning ?k_k_turning ?b_k_turning
      (case a_k_turning => k_is); (case l_k_turning => k_is); (case c_k_turning => k_is); (case k_k_turning => k_is)
      exact fun _ _ _ _ _ _ us hl => match us, hl with | [_], _ => rfl
    have k_asOne : Ts.Src (L2.KOf KX) mg "as_one" Ts.sAsOne ["knots"] := by
      dsimp only [L2.KOf]
      refine' Ts.src_mk KX G ?a_k_asOne ?l_k_asOne ?c_k_asOne ?k_k_asOne ?b_k_asOne
      (case a_k_asOne => k_is); (case l_k_asOne => k_is); (case c_k_asOne => k_is); (case k_k_asOne => k_is)
      exact fun _ _ _ _ _ _ us hl => match us, hl with | [_], _ => rfl
    have k_round : Ts.Src (L2.KOf KX) mg "turned_round" Ts.sRound ["row"] := by
      dsimp only [L2.KOf]
      refine' Ts.src_mk KX G ?a_k_round ?l_k_round ?c_k_round ?k_k_round ?b_k_round
      (case a_k_round => k_is); (case l_k_round => k_is); (case c_k_round => k_is); (case k_k_round => k_is)
      exact fun _ _ _ _ _ _ us hl => match us, hl with | [_], _ => rfl
    have k_isEmpty : Ts.Src (L2.KOf KX) mg "is_empty" Ts.sIsEmpty ["knot", "wanted"] := by
      dsimp only [L2.KOf]
      refine' Ts.src_mk KX G ?a_k_isEmpty ?l_k_isEmpty ?c_k_isEmpty ?k_k_isEmpty ?b_k_isEmpty
      (case a_k_isEmpty => k_is); (case l_k_isEmpty => k_is); (case c_k_isEmpty => k_is); (case k_k_isEmpty => k_is)
      exact fun _ _ _ _ _ _ us hl => match us, hl with | [_, _], _ => rfl
    have k_isFull : Ts.Src (L2.KOf KX) mg "is_full" Ts.sIsFull ["knot", "wanted"] := by
      dsimp only [L2.KOf]
      refine' Ts.src_mk KX G ?a_k_isFull ?l_k_isFull ?c_k_isFull ?k_k_isFull ?b_k_isFull
      (case a_k_isFull => k_is); (case l_k_isFull => k_is); (case c_k_isFull => k_is); (case k_k_isFull => k_is)
      exact fun _ _ _ _ _ _ us hl => match us, hl with | [_, _], _ => rfl
    have k_isWhole : Ts.Src (L2.KOf KX) mg "is_whole" Ts.sIsWhole ["knot", "wanted"] := by
      dsimp only [L2.KOf]
      refine' Ts.src_mk KX G ?a_k_isWhole ?l_k_isWhole ?c_k_isWhole ?k_k_isWhole ?b_k_isWhole
      (case a_k_isWhole => k_is); (case l_k_isWhole => k_is); (case c_k_isWhole => k_is); (case k_k_isWhole => k_is)
      exact fun _ _ _ _ _ _ us hl => match us, hl with | [_, _], _ => rfl
    have k_emptyKnots : Ts.Src (L2.KOf KX) mg "empty_knots" Ts.sEmptyKnots ["knots", "wanted"] := by
      dsimp only [L2.KOf]
      refine' Ts.src_mk KX G ?a_k_emptyKnots ?l_k_emptyKnots ?c_k_emptyKnots ?k_k_emptyKnots ?b_k_emptyKnots
      (case a_k_emptyKnots => k_is); (case l_k_emptyKnots => k_is); (case c_k_emptyKnots => k_is); (case k_k_emptyKnots => k_is)
      exact fun _ _ _ _ _ _ us hl => match us, hl with | [_, _], _ => rfl
    have k_fullKnots : Ts.Src (L2.KOf KX) mg "full_knots" Ts.sFullKnots ["knots", "wanted"] := by
      dsimp only [L2.KOf]
      refine' Ts.src_mk KX G ?a_k_fullKnots ?l_k_fullKnots ?c_k_fullKnots ?k_k_fullKnots ?b_k_fullKnots
      (case a_k_fullKnots => k_is); (case l_k_fullKnots => k_is); (case c_k_fullKnots => k_is); (case k_k_fullKnots => k_is)
      exact fun _ _ _ _ _ _ us hl => match us, hl with | [_, _], _ => rfl
    have k_partedKnots : Ts.Src (L2.KOf KX) mg "parted_knots" Ts.sPartedKnots ["knots", "wanted"] := by
      dsimp only [L2.KOf]
      refine' Ts.src_mk KX G ?a_k_partedKnots ?l_k_partedKnots ?c_k_partedKnots ?k_k_partedKnots ?b_k_partedKnots
      (case a_k_partedKnots => k_is); (case l_k_partedKnots => k_is); (case c_k_partedKnots => k_is); (case k_k_partedKnots => k_is)
      exact fun _ _ _ _ _ _ us hl => match us, hl with | [_, _], _ => rfl
    have r_many : Ts.Src (L2.KOf KX) mg "how_many_orders" Ts.sMany ["knot"] := by
      dsimp only [L2.KOf]
      refine' Ts.src_mk KX G ?a_r_many ?l_r_many ?c_r_many ?k_r_many ?b_r_many
      (case a_r_many => k_is); (case l_r_many => k_is); (case c_r_many => k_is); (case k_r_many => k_is)
      exact fun _ _ _ _ _ _ us hl => match us, hl with | [_], _ => rfl
    have r_ways : Ts.Src (L2.KOf KX) mg "ways_to_change_places" Ts.sWays ["size"] := by
      dsimp only [L2.KOf]
      refine' Ts.src_mk KX G ?a_r_ways ?l_r_ways ?c_r_ways ?k_r_ways ?b_r_ways
      (case a_r_ways => k_is); (case l_r_ways => k_is); (case c_r_ways => k_is); (case k_r_ways => k_is)
      exact fun _ _ _ _ _ _ us hl => match us, hl with | [_], _ => rfl
    have r_first : Ts.Src (L2.KOf KX) mg "first_order" Ts.sFirst ["knot"] := by
      dsimp only [L2.KOf]
      refine' Ts.src_mk KX G ?a_r_first ?l_r_first ?c_r_first ?k_r_first ?b_r_first
      (case a_r_first => k_is); (case l_r_first => k_is); (case c_r_first => k_is); (case k_r_first => k_is)
      exact fun _ _ _ _ _ _ us hl => match us, hl with | [_], _ => rfl
    have r_surely : Ts.Src (L2.KOf KX) mg "how_surely_between" Ts.sSurely ["tree", "a", "b", "c"] := by
      dsimp only [L2.KOf]
      refine' Ts.src_mk KX G ?a_r_surely ?l_r_surely ?c_r_surely ?k_r_surely ?b_r_surely
      (case a_r_surely => k_is); (case l_r_surely => k_is); (case c_r_surely => k_is); (case k_r_surely => k_is)
      exact fun _ _ _ _ _ _ us hl => match us, hl with | [_, _, _, _], _ => rfl
    have r_low : Ts.Src (L2.KOf KX) mg "lowest_over" Ts.sLowest ["knot", "wanted"] := by
      dsimp only [L2.KOf]
      refine' Ts.src_mk KX G ?a_r_low ?l_r_low ?c_r_low ?k_r_low ?b_r_low
      (case a_r_low => k_is); (case l_r_low => k_is); (case c_r_low => k_is); (case k_r_low => k_is)
      exact fun _ _ _ _ _ _ us hl => match us, hl with | [_, _], _ => rfl
    have r_place : Ts.Src (L2.KOf KX) mg "place_below" Ts.sPlace ["knot", "thing"] := by
      dsimp only [L2.KOf]
      refine' Ts.src_mk KX G ?a_r_place ?l_r_place ?c_r_place ?k_r_place ?b_r_place
      (case a_r_place => k_is); (case l_r_place => k_is); (case c_r_place => k_is); (case k_r_place => k_is)
      exact fun _ _ _ _ _ _ us hl => match us, hl with | [_, _], _ => rfl
    have s_ans : Ts.Src (L2.KOf KX) mg "answer_of" Ts.sAnswerOf ["listener", "call", "numbers"] := by
      dsimp only [L2.KOf]
      refine' Ts.src_mk KX G ?a_s_ans ?l_s_ans ?c_s_ans ?k_s_ans ?b_s_ans
      (case a_s_ans => k_is); (case l_s_ans => k_is); (case c_s_ans => k_is); (case k_s_ans => k_is)
      exact fun _ _ _ _ _ _ us hl => match us, hl with | [_, _, _], _ => rfl
    have i0 : Ts.GInt mg "IN_NONE" 0 := by
      refine' Ts.int_mk KX G ?a_i0 ?r_i0
      (case a_i0 => k_is)
      exact ⟨_, rfl⟩
    have i1 : Ts.GInt mg "IN_ALL" 1 := by
      refine' Ts.int_mk KX G ?a_i1 ?r_i1
      (case a_i1 => k_is)
      exact ⟨_, rfl⟩
    have i2 : Ts.GInt mg "IN_SOME" 2 := by
      refine' Ts.int_mk KX G ?a_i2 ?r_i2
      (case a_i2 => k_is)
      exact ⟨_, rfl⟩
    have g1 : Ts.GInt mg "MOST_THINGS" 64 := by
      refine' Ts.int_mk KX G ?a_g1 ?r_g1
      (case a_g1 => k_is)
      exact ⟨_, rfl⟩
    have g2 : Ts.GInt mg "MOST_SETS" 64 := by
      refine' Ts.int_mk KX G ?a_g2 ?r_g2
      (case a_g2 => k_is)
      exact ⟨_, rfl⟩
    have g3 : Ts.GInt mg "NOT_A_THING" (-22) := by
      refine' Ts.int_mk KX G ?a_g3 ?r_g3
      (case a_g3 => k_is)
      exact ⟨_, rfl⟩
    have g4 : Ts.GInt mg "TOO_MANY_SETS" (-28) := by
      refine' Ts.int_mk KX G ?a_g4 ?r_g4
      (case a_g4 => k_is)
      exact ⟨_, rfl⟩
    have g5 : Ts.GInt mg "NO_ORDER" (-61) := by
      refine' Ts.int_mk KX G ?a_g5 ?r_g5
      (case a_g5 => k_is)
      exact ⟨_, rfl⟩
    have g6 : Ts.GInt mg "SOME_ORDER" (-17) := by
      refine' Ts.int_mk KX G ?a_g6 ?r_g6
      (case a_g6 => k_is)
      exact ⟨_, rfl⟩
    have t0 : Ts.GInt mg "TO_START" 0 := by
      refine' Ts.int_mk KX G ?a_t0 ?r_t0
      (case a_t0 => k_is)
      exact ⟨_, rfl⟩
    have t1 : Ts.GInt mg "TO_SAY" 1 := by
      refine' Ts.int_mk KX G ?a_t1 ?r_t1
      (case a_t1 => k_is)
      exact ⟨_, rfl⟩
    have t2 : Ts.GInt mg "TO_WHY" 2 := by
      refine' Ts.int_mk KX G ?a_t2 ?r_t2
      (case a_t2 => k_is)
      exact ⟨_, rfl⟩
    have t3 : Ts.GInt mg "TO_MANY" 3 := by
      refine' Ts.int_mk KX G ?a_t3 ?r_t3
      (case a_t3 => k_is)
      exact ⟨_, rfl⟩
    have t4 : Ts.GInt mg "TO_ORDER" 4 := by
      refine' Ts.int_mk KX G ?a_t4 ?r_t4
      (case a_t4 => k_is)
      exact ⟨_, rfl⟩
    have hC : ∃ C, Ts.Txt (L2.KOf KX) mg C ∧ ∃ (fI : PySem.Addr) (fdI : PySem.FuncData), L2.Mk (L2.KOf KX) C fI ∧ L2.Fun (L2.KOf KX) "__init__" "Knot.__init__" Ts.sInit fI fdI ∧ L2.Binds (L2.KOf KX) fdI ["self", "things", "below", "only_turns"] [] := by
      dsimp only [L2.KOf]
      refine' Ts.knot_mk KX G ?naC ?na1 ?ni1 ?nl1 ?nc1 ?nk1 ?npg ?nhd ?npo ?nsa ?nmk ?nkc ?nnT ?nnB ?nnO ?nb1 ?nb2 ?nb3 ?nb4
      (case naC => k_is); (case na1 => k_is); (case ni1 => k_is); (case nl1 => k_is); (case nc1 => k_is); (case nk1 => k_is); (case npg => k_is); (case nhd => k_is); (case npo => k_is); (case nsa => k_is); (case nmk => k_is); (case nkc => k_is); (case nnT => k_is); (case nnB => k_is); (case nnO => k_is); (case nb1 => k_is); (case nb2 => k_is); (case nb3 => k_is); (case nb4 => k_is)
    have hY : ∃ C2, Ts.Says (L2.KOf KX) mg C2 := by
      dsimp only [L2.KOf]
      refine' Ts.say_mk KX G g1 g2 g3 g4 g5 g6 ?yaC ?ya1 ?yi1 ?yl1 ?yc1 ?yk1 ?ypg ?yhd ?ypo ?ysa ?ymk ?ykc ?ynn ?ynl ?ynt ?m1 ?m2 ?m3 ?m4 ?m5 ?m6 ?m7 ?m8
      (case yaC => k_is); (case ya1 => k_is); (case yi1 => k_is); (case yl1 => k_is); (case yc1 => k_is); (case yk1 => k_is); (case ypg => k_is); (case yhd => k_is); (case ypo => k_is); (case ysa => k_is); (case ymk => k_is); (case ykc => k_is); (case ynn => k_is); (case ynl => k_is); (case ynt => k_is)
      (case m1 => (refine' Ts.msrc_mk ?m1_a ?m1_i ?m1_l ?m1_c ?m1_k ?m1_b; (case m1_a => k_is); (case m1_i => k_is); (case m1_l => k_is); (case m1_c => k_is); (case m1_k => k_is); (case m1_b => exact fun _ _ _ _ _ _ us hl => match us, hl with | [_, _], _ => rfl)))
      (case m2 => (refine' Ts.msrc_mk ?m2_a ?m2_i ?m2_l ?m2_c ?m2_k ?m2_b; (case m2_a => k_is); (case m2_i => k_is); (case m2_l => k_is); (case m2_c => k_is); (case m2_k => k_is); (case m2_b => exact fun _ _ _ _ _ _ us hl => match us, hl with | [_, _], _ => rfl)))
      (case m3 => (refine' Ts.msrc_mk ?m3_a ?m3_i ?m3_l ?m3_c ?m3_k ?m3_b; (case m3_a => k_is); (case m3_i => k_is); (case m3_l => k_is); (case m3_c => k_is); (case m3_k => k_is); (case m3_b => exact fun _ _ _ _ _ _ us hl => match us, hl with | [_, _], _ => rfl)))
      (case m4 => (refine' Ts.msrc_mk ?m4_a ?m4_i ?m4_l ?m4_c ?m4_k ?m4_b; (case m4_a => k_is); (case m4_i => k_is); (case m4_l => k_is); (case m4_c => k_is); (case m4_k => k_is); (case m4_b => exact fun _ _ _ _ _ _ us hl => match us, hl with | [_], _ => rfl)))
      (case m5 => (refine' Ts.msrc_mk ?m5_a ?m5_i ?m5_l ?m5_c ?m5_k ?m5_b; (case m5_a => k_is); (case m5_i => k_is); (case m5_l => k_is); (case m5_c => k_is); (case m5_k => k_is); (case m5_b => exact fun _ _ _ _ _ _ us hl => match us, hl with | [_], _ => rfl)))
      (case m6 => (refine' Ts.msrc_mk ?m6_a ?m6_i ?m6_l ?m6_c ?m6_k ?m6_b; (case m6_a => k_is); (case m6_i => k_is); (case m6_l => k_is); (case m6_c => k_is); (case m6_k => k_is); (case m6_b => exact fun _ _ _ _ _ _ us hl => match us, hl with | [_, _, _, _], _ => rfl)))
      (case m7 => (refine' Ts.msrc_mk ?m7_a ?m7_i ?m7_l ?m7_c ?m7_k ?m7_b; (case m7_a => k_is); (case m7_i => k_is); (case m7_l => k_is); (case m7_c => k_is); (case m7_k => k_is); (case m7_b => exact fun _ _ _ _ _ _ us hl => match us, hl with | [_, _], _ => rfl)))
      (case m8 => (refine' Ts.msrc_mk ?m8_a ?m8_i ?m8_l ?m8_c ?m8_k ?m8_b; (case m8_a => k_is); (case m8_i => k_is); (case m8_l => k_is); (case m8_c => k_is); (case m8_k => k_is); (case m8_b => exact fun _ _ _ _ _ _ us hl => match us, hl with | [_, _], _ => rfl)))
    have hT : ∃ a, mg "NUMBERS_BEHIND" = some (.ref a) ∧ ∀ H : L2.Hp, L2.SqT (L2.KOf KX) H a (Ts.behinds.map L2.V.int) := by
      dsimp only [L2.KOf]
      refine' Ts.tup_mk KX G ?ta ?tl ?tz ?tv
      (case ta => k_is); (case tl => k_is)
      (case tz => decide)
      exact .cons ⟨_, rfl⟩ (.cons ⟨_, rfl⟩ (.cons ⟨_, rfl⟩ (.cons ⟨_, rfl⟩ (.cons ⟨_, rfl⟩ (.cons ⟨_, rfl⟩ .nil)))))
    have h4 : Ts.Txt4 mg := by
      refine' ⟨PySem.W.mg_none_of KX G ?xa, PySem.W.mg_none_of KX G ?xb⟩
      (case xa => k_is); (case xb => k_is)
    obtain ⟨C, tC, mC⟩ := hC
    obtain ⟨C2, Y2⟩ := hY
    refine' Ts.whole KX G hmg ⟨tC, mC, k_treeAll, k_keepAll, k_keeping, k_freeKeep, k_turnKeep, k_rowOf, k_joined, k_side, k_together, k_over, k_free, k_turning, k_asOne, k_round, k_isEmpty, k_isFull, k_isWhole, k_emptyKnots, k_fullKnots, k_partedKnots⟩ ⟨r_many, r_ways, r_first, r_surely, r_low, r_place, i0, i1, i2, h4⟩ Y2 ⟨hT, t0, t1, t2, t3, t4⟩ s_ans Ts.full ?a3 ?l3 ?c3 ?k3
    (case a3 => k_is); (case l3 => k_is); (case c3 => k_is); (case k3 => k_is)
  case S =>
    intro K H xs a hO hwi hask hx
    cases hx with
    | cons h1 h2 =>
      cases h2
      cases h1 with
      | lst hs ha =>
        have e := L2.ints_dw a.1 _ ha
        subst e
        have q : ((Codec.inLen 0 16000 a.1 && a.1.all (Codec.inInt 0 18446744073709551615)) && true) = true := hwi
        rw [Bool.and_eq_true, Bool.and_eq_true] at q
        exact ⟨_, a.1, rfl, hs, hask, (Codec.inNat_iff.mp q.1.1).2, fun H' p hp => .lst (L2.SqL.of hp) (L2.dw_ints _)⟩
end

import PyProof.Rows.All
import Wide.All
import OpenK.AllK
import Wide.FinOn
import PyProof.EqAt
import PyProof.EqKinds
import PyProof.TupleCall
import Open.SpecLaws
import KE.OsHead
import KE.OsGo
import KE.BitLaws
import KE.KTryMore
import KE.KDictSum
import KE.KSortRegAny
import PyProof.LongRange
import PySem.SetTable
import PySem.SetOps
import PyProof.SetScanFacts
import PyProof.SetKind
import PyProof.SetNew
import PyProof.Rows.SetFrom
import PyProof.Walk
import PyProof.Slots
import PyProof.FactsAll.set_1
import PyProof.FactsAll.set_2
import PyProof.FactsAll.set_0
import PyProof.DictRoads
import PyProof.Walks
import PyProof.DictIter
import PyProof.DictWalks
import KE.KRevIter
import KE.RegKTryMore
import PySem.Challenge.RW_evenshare_s01_answers
set_option genSizeOf false
section
set_option Elab.async false
set_option linter.all false
set_option maxRecDepth 100000
namespace L2
open PySem PySem.Spec PyProof.Rows
noncomputable abbrev Key := Sum Int Str
noncomputable def keyIs : Key → Value → Bool
  | .inl k, v => Value.isInt k v
  | .inr x, v => Value.isStrOf x v
noncomputable def keyH (w : World) : Key → Int
  | .inl k => hashInt k
  | .inr x => hashStr w x
theorem keyIs_shape : ∀ {k : Key} {v : Value}, keyIs k v = true → (∃ i t, k = Sum.inl i ∧ v = Value.int i t) ∨ (∃ x t, k = Sum.inr x ∧ v = Value.str x t)
  | .inl i, v, h => by
    obtain ⟨t, e⟩ := Value.isInt_shape (k := i) (v := v) h
    exact .inl ⟨i, t, rfl, e⟩
  | .inr x, v, h => by
    obtain ⟨t, e⟩ := Value.isStrOf_shape (x := x) (v := v) h
    exact .inr ⟨x, t, rfl, e⟩
theorem keyIs_int (i : Int) (t : Tok) : keyIs (.inl i) (.int i t) = true := by simp [keyIs, Value.isInt]
theorem keyIs_str (x : Str) (t : Tok) : keyIs (.inr x) (.str x t) = true := by simp [keyIs, Value.isStrOf]
theorem key_ll (a b : Int) : decide ((Sum.inl a : Key) = Sum.inl b) = (a == b) := by
  by_cases e : a = b
  · subst e; simp
  · have h : ¬ (Sum.inl a : Key) = Sum.inl b := fun q => e (Sum.inl.inj q)
    rw [decide_eq_false h]
    exact (beq_eq_false_iff_ne.mpr e).symm
theorem key_rr (a b : Str) : decide ((Sum.inr a : Key) = Sum.inr b) = decide (a = b) := by
  by_cases e : a = b
  · subst e; simp
  · have h : ¬ (Sum.inr a : Key) = Sum.inr b := fun q => e (Sum.inr.inj q)
    rw [decide_eq_false h, decide_eq_false e]
theorem key_lr (a : Int) (b : Str) : decide ((Sum.inl a : Key) = Sum.inr b) = false := decide_eq_false (fun q => nomatch q)
theorem key_rl (a : Str) (b : Int) : decide ((Sum.inr a : Key) = Sum.inl b) = false := decide_eq_false (fun q => nomatch q)
noncomputable def mixKind (prog : Program) (w : World) : PySem.KeyKind prog w Key where
  is := keyIs
  hash := keyH w
  inj := fun v a b ha hb => by
    rcases keyIs_shape ha with ⟨i, t, rfl, rfl⟩ | ⟨x, t, rfl, rfl⟩
    · rcases keyIs_shape hb with ⟨j, u, rfl, e⟩ | ⟨y, u, rfl, e⟩
      · injection e with e1 _; rw [e1]
      · exact nomatch e
    · rcases keyIs_shape hb with ⟨j, u, rfl, e⟩ | ⟨y, u, rfl, e⟩
      · exact nomatch e
      · injection e with e1 _; rw [e1]
  byValue := fun k v h => by
    rcases keyIs_shape h with ⟨i, t, rfl, rfl⟩ | ⟨x, t, rfl, rfl⟩ <;> rfl
  pyHash := fun hv h => by
    rcases keyIs_shape hv with ⟨i, t, rfl, rfl⟩ | ⟨x, t, rfl, rfl⟩
    · exact wpAny_pyHash_int h
    · exact wpAny_pyHash_str h
  eqBool := fun hu hv h => by
    rcases keyIs_shape hu with ⟨i, t, rfl, rfl⟩ | ⟨x, t, rfl, rfl⟩
    · rcases keyIs_shape hv with ⟨j, u, rfl, rfl⟩ | ⟨y, u, rfl, rfl⟩
      · rw [key_ll] at h; exact wpAny_eqBool_int h
      · rw [key_lr] at h; exact SeqAt.EqAt.int_str i t y u _ _ _ _ h
    · rcases keyIs_shape hv with ⟨j, u, rfl, rfl⟩ | ⟨y, u, rfl, rfl⟩
      · rw [key_rl] at h; exact SeqAt.EqAt.str_int x t j u _ _ _ _ h
      · rw [key_rr] at h; exact wpAny_eqBool_str h
  «strs» := fun k x t v h => by
    rcases keyIs_shape h with ⟨i, u, rfl, e⟩ | ⟨y, u, rfl, e⟩
    · exact nomatch e
    · injection e with e1 _
      subst e1
      cases v <;> rfl
theorem mixKind_int (prog : Program) (w : World) (i : Int) (t : Tok) : (mixKind prog w).is (.inl i) (.int i t) = true := keyIs_int i t
theorem mixKind_str (prog : Program) (w : World) (x : Str) (t : Tok) : (mixKind prog w).is (.inr x) (.str x t) = true := keyIs_str x t
end L2
namespace L2
open PySem PySem.Spec PyProof.Rows
inductive V where
  | non | bl (b : Bool) | int (i : Int) | str (x : Str) | byt (b : Array UInt8) | flt (b : UInt64) | ref (a : Addr) | ty (n : String)
noncomputable def RelV : V → Value → Prop
  | .non, u => u = Value.none
  | .bl b, u => u = Value.bool b
  | .int i, u => ∃ t, u = Value.int i t
  | .str x, u => ∃ t, u = Value.str x t
  | .byt b, u => ∃ t, u = Value.bytes b t
  | .flt b, u => ∃ t, u = Value.float b t
  | .ref a, u => u = Value.ref a
  | .ty n, u => u = Value.type n
noncomputable abbrev Vals : List V → List Value → Prop := Paired RelV
theorem Vals.length {xs : List V} {us : List Value} (r : Vals xs us) : xs.length = us.length := Paired.length r
theorem Vals.get : ∀ {xs : List V} {us : List Value} {i : Nat} {x : V}, Vals xs us → xs[i]? = some x → ∃ u, us[i]? = some u ∧ RelV x u
  | _, _, _, _, .nil, e => by simp at e
  | _, _, 0, _, .cons r _, e => by simp at e; subst e; exact ⟨_, rfl, r⟩
  | _, _, i + 1, x, .cons _ t, e => by
    obtain ⟨u, h1, h2⟩ := Vals.get (i := i) (x := x) t (by simpa using e)
    exact ⟨u, by simpa using h1, h2⟩
theorem Vals.append : ∀ {xs ys : List V} {us ws : List Value}, Vals xs us → Vals ys ws → Vals (xs ++ ys) (us ++ ws)
  | _, _, _, _, .nil, s => s
  | _, _, _, _, .cons r t, s => .cons r (Vals.append t s)
theorem Vals.take : ∀ {xs : List V} {us : List Value} (n : Nat), Vals xs us → Vals (xs.take n) (us.take n)
  | _, _, 0, _ => .nil
  | _, _, _ + 1, .nil => .nil
  | _, _, n + 1, .cons r t => .cons r (Vals.take n t)
theorem Vals.drop : ∀ {xs : List V} {us : List Value} (n : Nat), Vals xs us → Vals (xs.drop n) (us.drop n)
  | _, _, 0, r => r
  | _, _, _ + 1, .nil => .nil
  | _, _, n + 1, .cons _ t => Vals.drop n t
noncomputable def RelO : Option V → Option Value → Prop
  | some v, some u => RelV v u
  | none, none => True
  | _, _ => False
noncomputable def KV {κ : Type} : List (κ × V) → List (κ × Value) → Prop := Paired fun (p : κ × V) (q : κ × Value) => p.1 = q.1 ∧ RelV p.2 q.2
noncomputable def kV : Key → V
  | .inl i => .int i
  | .inr x => .str x
inductive HO where
  /-- a list -/
  | lst (xs : List V)
  /-- a tuple (never changes) -/
  | tup (xs : List V)
  /-- a dict whose keys are ints and texts; one whose keys are tuples of ints and texts (the empty one is both) -/
  | dK (kvs : List (Key × V))
  /-- a set of ints: its members, its size -/
  | set (S : Int → Bool) (n : Nat)
  /-- an instance of the class at C, its dict at dx, its attributes -/
  | ins (C dx : Addr) (fs : List (Str × V))
  /-- the dict of the instance at x -/
  | own (x : Addr)
  /-- the dict of an exception -/
  | xd (fs : List (Str × V))
  /-- a bound method, f of x -/
  | met (f x : Addr)
  /-- a range object lo, lo + 1, .. below hi -/
  | rng (lo hi : Int)
  /-- a thing that is known to the object (the script; a dict while a loop walks it): read, never written while it is so -/
  | frz (o : Obj) (u : HO)
  /-- a code object's table -/
  | tbl (ps : Array Value)
  /-- any other thing, by what is true of its one object (a def of one's own: SetO a S n := HO.ext fun h => ..) -/
  | ext (φ : Heap → Prop)
noncomputable abbrev Hp := Addr → Option HO
noncomputable def upd (H : Hp) (a : Addr) (o : HO) : Hp := fun b => if b = a then some o else H b
theorem upd_same {H : Hp} {a : Addr} {o : HO} : upd H a o a = some o := by unfold upd; rw [if_pos rfl]
theorem upd_ne {H : Hp} {a b : Addr} {o : HO} (h : b ≠ a) : upd H a o b = H b := by unfold upd; rw [if_neg h]
theorem ne_of {H : Hp} {a b : Addr} {o u : HO} (h : H a = some o) (h' : H b = some u) (d : o ≠ u) : a ≠ b := by
  intro e; subst e; rw [h] at h'; exact d (Option.some.inj h')
theorem ne_of_none {H : Hp} {a b : Addr} {o : HO} (h : H a = some o) (h' : H b = none) : a ≠ b := by
  intro e; subst e; rw [h] at h'; cases h'
section
variable (P : Program) (w : World)
noncomputable def ObjOk (H : Hp) (h : Heap) (a : Addr) : HO → Prop
  | .lst xs => xs.length ≤ sizeLine ∧ ∃ (its : List Value) (n : Nat), Vals xs its ∧ h.get? a = some { cls := .type "list", data := .seq its.toArray n }
  | .tup xs => xs.length ≤ sizeLine ∧ ∃ its : List Value, Vals xs its ∧ IsTup h a its.toArray
  | .dK kvs => kvs.length ≤ sizeLine ∧ (a == sysModules) = false ∧ ∃ vs, KV kvs vs ∧ h.DictOf (mixKind P w) a vs
  | .set S n => h.SetOf (intKind P w) a S n
  | .ins C dx fs => H dx = some (.own a) ∧ fs.length ≤ 1000 ∧ dx ≠ a ∧ h.get? a = some (PySem.W.instObj C dx) ∧
      ∃ mA, h.Ns1 dx mA ∧ (∀ f, RelO (fs.lookup f) (mA f)) ∧ PySem.Within mA (fs.map (·.1))
  | .own _ => ∃ o, h.get? a = some o
  | .xd fs => ∃ mA, h.Ns1 a mA ∧ ∀ f, RelO (fs.lookup f) (mA f)
  | .rng lo hi => ∃ t u v, h.get? a = some { cls := .type "range", data := .fields #[.int lo t, .int hi u, .int 1 v] }
  | .frz o u => h.get? a = some o ∧ ObjOk H h a u
  | .tbl ps => h.get? a = some { cls := .none, data := .fields ps }
  | .met f x => h.get? a = some (PySem.W.methodObj (.ref f) (.ref x))
  | .ext φ => φ h ∧ (∃ o, h.get? a = some o) ∧ ∀ h1 h2 : Heap, φ h1 → (∀ o, h1.get? a = some o → h2.get? a = some o) → φ h2
noncomputable def HOk (H : Hp) (h : Heap) : Prop := ∀ a o, H a = some o → ObjOk P w H h a o
end
section
variable {P : Program} {w : World} {H H' : Hp} {h h' : Heap} {a : Addr} {o : HO}
theorem ObjOk.lt (x : ObjOk P w H h a o) : a < h.objs.size := by
  cases o with
  | lst xs => obtain ⟨_, _, _, _, e⟩ := x; exact Heap.lt_size e
  | tup xs => obtain ⟨_, _, _, p⟩ := x; exact p.lt
  | dK kvs => obtain ⟨_, _, _, _, o, _, _, e, _⟩ := x; exact Heap.lt_size e
  | set S n => obtain ⟨o, _, _, _, e, _⟩ := x; exact Heap.lt_size e
  | ins C dx fs => obtain ⟨_, _, _, e, _⟩ := x; exact Heap.lt_size e
  | own y => obtain ⟨_, e⟩ := x; exact Heap.lt_size e
  | xd fs => obtain ⟨_, ⟨_, _, _, e, _⟩, _⟩ := x; exact Heap.lt_size e
  | rng lo hi => obtain ⟨_, _, _, e⟩ := x; exact Heap.lt_size e
  | frz ob u => obtain ⟨e, _⟩ := x; exact Heap.lt_size e
  | tbl ps => exact Heap.lt_size (show h.get? a = some _ from x)
  | met f y => exact Heap.lt_size (show h.get? a = some _ from x)
  | ext φ => obtain ⟨_, ⟨_, e⟩, _⟩ := x; exact Heap.lt_size e
theorem Paired.mapP {α β : Type} {F G : α → β → Prop} : ∀ {l₁ : List α} {l₂ : List β}, Paired F l₁ l₂ → (∀ a b, F a b → G a b) → Paired G l₁ l₂
  | _, _, .nil, _ => .nil
  | _, _, .cons r t, f => .cons (f _ _ r) (Paired.mapP t f)
theorem ObjOk.stay (x : ObjOk P w H h a o) (k : ∀ b u, (b = a ∨ H b = some (.own a)) → h.get? b = some u → h'.get? b = some u)
    (ho : ∀ b, H b = some (.own a) → H' b = some (.own a)) (ht : ∀ b xs, H b = some (.tup xs) → H' b = some (.tup xs)) : ObjOk P w H' h' a o := by
  induction o with
  | lst xs => obtain ⟨z, its, n, r, e⟩ := x; exact ⟨z, its, n, r, k _ _ (.inl rfl) e⟩
  | tup xs => obtain ⟨z, its, r, ob, e, c⟩ := x; exact ⟨z, its, r, ob, k _ _ (.inl rfl) e, c⟩
  | dK kvs => obtain ⟨z, y, vs, r, ob, es, ep, e, c⟩ := x; exact ⟨z, y, vs, r, ob, es, ep, k _ _ (.inl rfl) e, c⟩
  | set S n => obtain ⟨ob, es, ep, t, e, c⟩ := x; exact ⟨ob, es, ep, t, k _ _ (.inl rfl) e, c⟩
  | ins C dx fs =>
    obtain ⟨d, z, ne, e, mA, ⟨od, es, ep, e2, c⟩, r⟩ := x
    exact ⟨ho _ d, z, ne, k _ _ (.inl rfl) e, mA, ⟨od, es, ep, k _ _ (.inr d) e2, c⟩, r⟩
  | own y => obtain ⟨ob, e⟩ := x; exact ⟨ob, k _ _ (.inl rfl) e⟩
  | xd fs => obtain ⟨mA, ⟨od, es, ep, e, c⟩, r⟩ := x; exact ⟨mA, ⟨od, es, ep, k _ _ (.inl rfl) e, c⟩, r⟩
  | rng lo hi => obtain ⟨t, u, v, e⟩ := x; exact ⟨t, u, v, k _ _ (.inl rfl) e⟩
  | frz ob u ih => obtain ⟨e, q⟩ := x; exact ⟨k _ _ (.inl rfl) e, ih q⟩
  | tbl ps =>
    have e : h.get? a = some { cls := .none, data := .fields ps } := x
    show h'.get? a = some { cls := .none, data := .fields ps }
    exact k a _ (.inl rfl) e
  | met f y =>
    have e : h.get? a = some (PySem.W.methodObj (.ref f) (.ref y)) := x
    show h'.get? a = some (PySem.W.methodObj (.ref f) (.ref y))
    exact k a _ (.inl rfl) e
  | ext φ => obtain ⟨p, ⟨o, e⟩, st⟩ := x; exact ⟨st _ _ p fun o q => k _ _ (.inl rfl) q, ⟨o, k _ _ (.inl rfl) e⟩, st⟩
theorem HOk.lt (x : HOk P w H h) (e : H a = some o) : a < h.objs.size := (x a o e).lt
theorem HOk.fresh (x : HOk P w H h) (e : h.objs.size ≤ a) : H a = none := by
  cases q : H a with
  | none => rfl
  | some u => exact absurd (Nat.lt_of_lt_of_le (x.lt q) e) (Nat.lt_irrefl _)
theorem HOk.kept (x : HOk P w H h) (k : ∀ b u, h.get? b = some u → h'.get? b = some u) : HOk P w H h' := fun a o e =>
  (x a o e).stay (fun b u _ q => k b u q) (fun _ q => q) fun _ _ q => q
theorem HOk.laid (x : HOk P w H h) (k : ∀ b u, h.get? b = some u → h'.get? b = some u) (hp : h.objs.size ≤ a) (new : ObjOk P w (upd H a o) h' a o) : HOk P w (upd H a o) h' := fun b u e => by
  have hn := x.fresh hp
  by_cases hb : b = a
  · subst hb; rw [upd_same] at e; cases e; exact new
  · rw [upd_ne hb] at e
    exact (x b u e).stay (fun c v _ q => k c v q) (fun c q => by rw [upd_ne (ne_of_none q hn)]; exact q) fun c xs q => by rw [upd_ne (ne_of_none q hn)]; exact q
end
noncomputable def Rd (H : Hp) (a : Addr) (u : HO) : Prop := H a = some u ∨ ∃ o, H a = some (.frz o u)
theorem Rd.ok {P : Program} {w : World} {H : Hp} {h : Heap} {a : Addr} {u : HO} (r : Rd H a u) (x : HOk P w H h) : ObjOk P w H h a u := by
  rcases r with r | ⟨o, r⟩
  · exact x a u r
  · obtain ⟨_, q⟩ := x a _ r
    exact q
noncomputable def Mut : Option HO → Prop
  | some (.lst _) => True
  | some (.dK _) => True
  | some (.set _ _) => True
  | some (.ins _ _ _) => True
  | some (.ext _) => True
  | _ => False
section
variable {P : Program} {w : World} {H : Hp} {h h' : Heap} {x e : Addr} {o' : HO}
theorem HOk.write (ok : HOk P w H h) (mu : Mut (H x)) (he : e = x ∨ H e = some (.own x)) (k : ∀ b u, b ≠ e → h.get? b = some u → h'.get? b = some u) (heo : ∃ u, h'.get? e = some u)
    (new : ObjOk P w (upd H x o') h' x o') : HOk P w (upd H x o') h' := fun b u q => by
  have nown : ∀ c y, H c = some (.own y) → c ≠ x := fun c y r z => by subst z; rw [r] at mu; exact mu
  have ntup : ∀ c xs, H c = some (.tup xs) → c ≠ x := fun c xs r z => by subst z; rw [r] at mu; exact mu
  by_cases hb : b = x
  · subst hb; rw [upd_same] at q; cases q; exact new
  · rw [upd_ne hb] at q
    by_cases hbe : b = e
    · have q' : H b = some (.own x) := by
        rcases he with z | z
        · exact absurd (hbe.trans z) hb
        · rw [hbe]; exact z
      rw [q] at q'; cases q'
      obtain ⟨v, hv⟩ := heo
      exact ⟨v, by rw [hbe]; exact hv⟩
    · refine (ok b u q).stay (fun c v hc r => k c v ?_ r) (fun c r => by rw [upd_ne (nown c b r)]; exact r) fun c xs r => by rw [upd_ne (ntup c xs r)]; exact r
      rcases hc with rfl | hc
      · exact hbe
      · rintro rfl
        rcases he with z | z
        · exact nown c b hc z
        · rw [hc] at z; cases z; exact hb rfl
end
structure Un (fs ex : List Addr) (H H' : Hp) (h h' : Heap) : Prop where
  keep : ∀ b o, h.get? b = some o → H b = none → b ∉ fs → b ∉ ex → h'.get? b = some o
  slot : ∀ b o, h.get? b = some o → H b = none → b ∈ fs → b ∉ ex → ∃ sl, h'.get? b = some { o with slots := sl }
  free : ∀ b o, h.get? b = some o → H b = none → b ∉ ex → H' b = none
  there : ∀ b o, h.get? b = some o → b ∉ ex → ∃ o', h'.get? b = some o'
  tups : ∀ b xs, H b = some (.tup xs) → H' b = some (.tup xs)
  frzs : ∀ b o u, H b = some (.frz o u) → H' b = some (.frz o u)
  tbls : ∀ b ps, H b = some (.tbl ps) → ∃ more, H' b = some (.tbl (ps ++ more))
section
variable {fs fs' ex ex' : List Addr} {H H1 H2 : Hp} {h h1 h2 h' : Heap} {a x e : Addr} {o : HO}
theorem Un.any (u : Un fs ex H H1 h h1) {b : Addr} {ob : Obj} (q : h.get? b = some ob) (n : H b = none) (hx : b ∉ ex) : ∃ sl, h1.get? b = some { ob with slots := sl } := by
  by_cases hb : b ∈ fs
  · exact u.slot b ob q n hb hx
  · exact ⟨ob.slots, u.keep b ob q n hb hx⟩
theorem Un.kept (k : ∀ b u, h.get? b = some u → h'.get? b = some u) : Un fs ex H H h h' :=
  ⟨fun b ob q _ _ _ => k b ob q, fun b ob q _ _ _ => ⟨ob.slots, k b ob q⟩, fun _ _ _ n _ => n, fun b ob q _ => ⟨ob, k b ob q⟩, fun _ _ q => q, fun _ _ _ q => q, fun _ ps q => ⟨#[], by rw [q]; simp⟩⟩
theorem Un.refl : Un fs ex H H h h := Un.kept fun _ _ q => q
theorem Un.laid (k : ∀ b u, h.get? b = some u → h'.get? b = some u) (hp : h.objs.size ≤ a) (hn : H a = none) : Un fs ex H (upd H a o) h h' where
  keep := fun b u q _ _ _ => k b u q
  slot := fun b u q _ _ _ => ⟨u.slots, k b u q⟩
  free := fun b u q n _ => by rw [upd_ne (Nat.ne_of_lt (Nat.lt_of_lt_of_le (Heap.lt_size q) hp))]; exact n
  there := fun b u q _ => ⟨u, k b u q⟩
  tups := fun b xs q => by rw [upd_ne (ne_of_none q hn)]; exact q
  frzs := fun b u xs q => by rw [upd_ne (ne_of_none q hn)]; exact q
  tbls := fun b ps q => ⟨#[], by rw [upd_ne (ne_of_none q hn), q]; simp⟩
theorem Un.write (mu : Mut (H x)) (he : e = x ∨ H e = some (.own x)) (k : ∀ b u, b ≠ e → h.get? b = some u → h'.get? b = some u) (heo : ∃ u, h'.get? e = some u) : Un fs ex H (upd H x o) h h' := by
  have hx : ∀ b, H b = none → b ≠ x := fun b n z => by subst z; rw [n] at mu; exact mu
  have hb : ∀ b, H b = none → b ≠ e := fun b n z => by
    subst z
    rcases he with r | r
    · exact hx b n r
    · rw [n] at r; cases r
  have hm : ∀ b u, H b = some u → ¬ Mut (some u) → b ≠ x := fun b u q nm z => by subst z; rw [q] at mu; exact nm mu
  refine ⟨fun b u q n _ _ => k b u (hb b n) q, fun b u q n _ _ => ⟨u.slots, k b u (hb b n) q⟩, fun b u q n _ => by rw [upd_ne (hx b n)]; exact n, fun b u q _ => ?_,
    fun b xs q => by rw [upd_ne (hm b _ q fun z => z)]; exact q, fun b u xs q => by rw [upd_ne (hm b _ q fun z => z)]; exact q, fun b ps q => ⟨#[], by rw [upd_ne (hm b _ q fun z => z), q]; simp⟩⟩
  by_cases hbe : b = e
  · subst hbe; exact heo
  · exact ⟨u, k b u hbe q⟩
end
noncomputable def trk (h : Heap) (H : Hp) : List Addr := (List.range h.objs.size).filter fun a => (H a).isSome
noncomputable def hidT (h : Heap) (H : Hp) : Heap := PySem.W.hideAll h (trk h H)
theorem hidT_size (h : Heap) (H : Hp) : (hidT h H).objs.size = h.objs.size := PySem.W.hideAll_size _ _
theorem hidT_get {h : Heap} {H : Hp} {b : Addr} {o : Obj} (e : h.get? b = some o) (n : H b = none) : (hidT h H).get? b = some o :=
  PySem.W.hideAll_get _ e fun hm => by
    have q : (H b).isSome = true := (List.mem_filter.mp hm).2
    rw [n] at q; simp at q
theorem of_hidT {h : Heap} {H : Hp} {b : Addr} {o : Obj} (e : (hidT h H).get? b = some o) : h.get? b = some o ∧ H b = none := by
  have e' : h.get? b = some o := PySem.W.of_hideAll (trk h H) e
  refine ⟨e', ?_⟩
  cases q : H b with
  | none => rfl
  | some x =>
    have hm : b ∈ trk h H := List.mem_filter.mpr ⟨List.mem_range.mpr (Heap.lt_size e'), by simp [q]⟩
    have z : (hidT h H).get? b = none := PySem.W.hideAll_none (trk h H) hm
    rw [z] at e; cases e
end L2
namespace L2
open PySem PySem.Spec PyProof.Rows
structure Mod (K : PySem.W.Frag) (mg : Str → Option Value) (base : Heap) : Prop where
  kin : K.In base
  glob : base.Ns mainGlobals mg
  blt : ∃ mb, base.Ns builtinsNs mb ∧ ∀ x : Str, x ≠ "__name__" → mb x = bootBuiltins x
  nolimit : base.NoLimit
structure Cx where
  prog : Program
  w : World
  K : PySem.W.Frag
  mg : Str → Option Value
  base : Heap
  A : Around
  N : List Str
  s_0 : Shared
  H_0 : Hp
  env : Env
  outer : List Env
  stack : List Env
  ex : List Addr
  fn : Str → Bool
  calm : Bool
  pn : List (Addr × Obj)
  xe : Value → Shared → Prop
noncomputable def frs (l : List Env) : List Addr := l.filterMap (·.frame)
noncomputable abbrev Cx.fs (X : Cx) : List Addr := frs X.outer
noncomputable def Vis (sc : Scope) (x : Str) : Prop := sc.names.lookup x = some .local ∨ sc.names.lookup x = some .cell ∨ sc.names.lookup x = some .free
noncomputable def Loc (sc : Scope) (x : Str) : Prop := sc.names.lookup x = some .local ∨ sc.names.lookup x = some .cell
noncomputable def Look (env : Env) (h : Heap) (m : Str → Option Value) (x : Str) (u : Value) : Prop :=
  (env.kindOf x = some .local ∧ m x = some u) ∨ ((env.kindOf x = some .cell ∨ env.kindOf x = some .free) ∧ ∃ c, env.cells.lookup x = some c ∧ h.IsCell c (some u))
structure Cx.Ok (X : Cx) : Prop where
  mod : Mod X.K X.mg X.base
  kind : X.env.scope.kind = .function
  glob : X.env.globals = mainGlobals
  blt : X.env.builtins = builtinsNs
  above : X.s_0.heap.objs.size ≤ X.env.locals
  inj : ∀ x y c, X.env.cells.lookup x = some c → X.env.cells.lookup y = some c → x = y
  has : ∀ x, (X.env.kindOf x = some .cell ∨ X.env.kindOf x = some .free) → ∃ c, X.env.cells.lookup x = some c
  cab : ∀ x c, X.fn x = true → X.env.cells.lookup x = some c → X.s_0.heap.objs.size ≤ c
  hd : X.calm = true → X.A.handled = none
  frames : X.A.frames = some X.stack
  stk : X.stack = X.outer ∨ (X.stack = X.env :: X.outer ∧ X.env.frame = some X.env.locals)
  exf : ∀ b ∈ X.ex, b ≠ X.env.locals ∧ ∀ x c, X.env.cells.lookup x = some c → c ≠ b
  bs : ∀ b o, X.base.get? b = some o → X.s_0.heap.get? b = some o ∧ X.H_0 b = none
  bsz : X.base.objs.size ≤ X.s_0.heap.objs.size
  noex : ∀ b o, X.base.get? b = some o → b ∉ X.ex
  exfs : ∀ b ∈ X.ex, b ∉ X.fs
  funs : X.s_0.heap.FunFrames X.base X.outer
  frf : ∀ b ∈ X.fs, X.H_0 b = none
structure Inv (X : Cx) (pins : List (Addr × Obj)) (σ : List (Option V)) (H : Hp) (s : Shared) : Prop where
  ok : X.Ok
  os : s.os = X.s_0.os
  bare : AllBare s.gens
  base : Un X.fs X.ex X.H_0 H X.s_0.heap s.heap
  loc : ∃ m, s.heap.Ns X.env.locals m ∧ ∀ (i : Nat) (x : Str) (v : V), X.N[i]? = some x → σ[i]? = some (some v) → Vis X.env.scope x → ∃ u, RelV v u ∧ Look X.env s.heap m x u
  cell : ∀ x c, X.env.cells.lookup x = some c → ∃ v, s.heap.IsCell c v
  free : H X.env.locals = none
  freeC : ∀ x c, X.env.cells.lookup x = some c → H c = none
  pin : ∀ p ∈ X.pn ++ pins, s.heap.get? p.1 = some p.2 ∧ H p.1 = none ∧ p.1 ≠ X.env.locals ∧ p.1 ∉ X.fs ∧ ∀ v, p.2.data ≠ .cell v
  hok : HOk X.prog X.w H s.heap
  len : σ.length = X.N.length
section
variable {X : Cx} {pins : List (Addr × Obj)} {σ : List (Option V)} {H H' : Hp} {s : Shared} {h' : Heap}
theorem Cx.Ok.nofr (ok : X.Ok) {b : Addr} {o : Obj} (e : X.base.get? b = some o) : b ∉ X.fs := fun hb => by
  have := (ok.funs.mem hb).1
  rw [e] at this; cases this
theorem Inv.bs (I : Inv X pins σ H s) : ∀ b o, X.base.get? b = some o → s.heap.get? b = some o ∧ H b = none := fun b o e =>
  ⟨I.base.keep b o (I.ok.bs b o e).1 (I.ok.bs b o e).2 (I.ok.nofr e) (I.ok.noex b o e), I.base.free b o (I.ok.bs b o e).1 (I.ok.bs b o e).2 (I.ok.noex b o e)⟩
theorem Inv.bk (I : Inv X pins σ H s) : ∀ b o, X.base.get? b = some o → s.heap.get? b = some o := fun b o e => (I.bs b o e).1
theorem Inv.mod (I : Inv X pins σ H s) : Mod X.K X.mg X.base := I.ok.mod
theorem Inv.kIn (I : Inv X pins σ H s) : X.K.In s.heap := I.ok.mod.kin.keeps I.bk
theorem Inv.lt (I : Inv X pins σ H s) : X.env.locals < s.heap.objs.size := let ⟨_, hn, _⟩ := I.loc; hn.lt
theorem Inv.sz (I : Inv X pins σ H s) : X.s_0.heap.objs.size ≤ s.heap.objs.size := Nat.le_trans I.ok.above (Nat.le_of_lt I.lt)
theorem Inv.nofs (I : Inv X pins σ H s) {a : Addr} (h : s.heap.objs.size ≤ a) : a ∉ X.fs := fun hb => by
  obtain ⟨_, o, ho, _⟩ := I.ok.funs.mem hb
  exact absurd (Nat.lt_of_lt_of_le (Heap.lt_size ho) (Nat.le_trans I.sz h)) (Nat.lt_irrefl _)
theorem Inv.cne (I : Inv X pins σ H s) : ∀ x c, X.env.cells.lookup x = some c → c ≠ X.env.locals := fun x c e z => by
  obtain ⟨v, o, ho, hd⟩ := I.cell x c e
  obtain ⟨m, ⟨o', es, ep, ho', hd', _⟩, _⟩ := I.loc
  rw [z, ho'] at ho; cases ho; rw [hd'] at hd; cases hd
theorem Inv.funs (I : Inv X pins σ H s) : s.heap.FunFrames X.base X.outer := by
  have all : ∀ (l : List Env), (∀ b ∈ frs l, b ∈ X.fs) → X.s_0.heap.FunFrames X.base l → s.heap.FunFrames X.base l := by
    intro l
    induction l with
    | nil => intro _ _; trivial
    | cons env r ih =>
      intro hs hl
      obtain ⟨hk, ⟨L, o, hf, hn, ho, hd⟩, hr⟩ := hl
      have hL : L ∈ X.fs := hs L (by unfold frs; rw [List.filterMap_cons, hf]; exact List.mem_cons_self)
      obtain ⟨sl, e⟩ := I.base.slot L o ho (I.ok.frf L hL) hL fun z => I.ok.exfs L z hL
      exact ⟨hk, ⟨L, _, hf, hn, e, hd⟩, ih (fun b hb => hs b (by unfold frs; rw [List.filterMap_cons, hf]; exact List.mem_cons_of_mem _ hb)) hr⟩
  exact all X.outer (fun _ hb => hb) I.ok.funs
theorem Inv.stack (I : Inv X pins σ H s) : s.heap.FunFrames X.base X.stack := by
  rcases I.ok.stk with e | ⟨e, hf⟩
  · rw [e]; exact I.funs
  · rw [e]
    obtain ⟨m, hn, _⟩ := I.loc
    refine .cons (by rw [I.ok.kind]; decide) hf hn ?_ I.funs
    exact Heap.get?_none_of_le (Nat.le_trans I.ok.bsz I.ok.above)
theorem Inv.stkSub (I : Inv X pins σ H s) : ∀ b ∈ frs X.stack, b ∈ X.env.locals :: X.fs := fun b hb => by
  rcases I.ok.stk with e | ⟨e, hf⟩
  · rw [e] at hb; exact List.mem_cons_of_mem _ hb
  · rw [e] at hb
    unfold frs at hb
    rw [List.filterMap_cons, hf] at hb
    exact hb
theorem Inv.stkFree (I : Inv X pins σ H s) : ∀ b ∈ frs X.stack, H b = none := fun b hb => by
  rcases List.mem_cons.mp (I.stkSub b hb) with e | hb
  · rw [e]; exact I.free
  · obtain ⟨_, o, ho, _⟩ := I.ok.funs.mem hb
    exact I.base.free b o ho (I.ok.frf b hb) fun z => I.ok.exfs b z hb
theorem Inv.step {g' : Array GenState} {t' : Nat} {d' : Drawn} {ch : List Addr} (I : Inv X pins σ H s)
    (hch : ∀ b ∈ ch, (b ∈ X.ex ∨ X.s_0.heap.objs.size ≤ b) ∧ b ≠ X.env.locals ∧ (∀ x c, X.env.cells.lookup x = some c → c ≠ b) ∧ ∀ p ∈ X.pn ++ pins, p.1 ≠ b)
    (keep : ∀ b o, b ≠ X.env.locals → b ∉ X.fs → b ∉ ch → s.heap.get? b = some o → H b = none → h'.get? b = some o)
    (slot : ∀ b o, b ≠ X.env.locals → b ∈ X.fs → b ∉ ch → s.heap.get? b = some o → H b = none → ∃ sl, h'.get? b = some { o with slots := sl }) (free : ∀ b o, b ∉ ch → s.heap.get? b = some o → H b = none → H' b = none)
    (there : ∀ b o, b ∉ ch → s.heap.get? b = some o → ∃ o', h'.get? b = some o')
    (tups : ∀ b xs, H b = some (.tup xs) → H' b = some (.tup xs)) (frzs : ∀ b o u, H b = some (.frz o u) → H' b = some (.frz o u)) (tbls : ∀ b ps, H b = some (.tbl ps) → ∃ more, H' b = some (.tbl (ps ++ more)))
    (ns : ∀ m, s.heap.Ns X.env.locals m → h'.Ns X.env.locals m) (hok : HOk X.prog X.w H' h') (hg : AllBare g') :
    Inv X pins σ H' { s with heap := h', gens := g', drawn := d', toks := t' } := by
  have neL : ∀ b o, X.s_0.heap.get? b = some o → b ≠ X.env.locals := fun b o e => Nat.ne_of_lt (Nat.lt_of_lt_of_le (Heap.lt_size e) I.ok.above)
  have neC : ∀ b o, X.s_0.heap.get? b = some o → b ∉ X.ex → b ∉ ch := fun b o e hx hb => by
    rcases (hch b hb).1 with z | z
    · exact hx z
    · exact absurd (Nat.lt_of_lt_of_le (Heap.lt_size e) z) (Nat.lt_irrefl _)
  have cellK : ∀ x c, X.env.cells.lookup x = some c → ∀ v, s.heap.IsCell c v → h'.IsCell c v := fun x c e v ⟨o, ho, hd⟩ => by
    have nch : c ∉ ch := fun z => (hch c z).2.2.1 x c e rfl
    by_cases hc : c ∈ X.fs
    · obtain ⟨sl, q⟩ := slot c o (I.cne x c e) hc nch ho (I.freeC x c e)
      exact ⟨_, q, hd⟩
    · exact ⟨o, keep c o (I.cne x c e) hc nch ho (I.freeC x c e), hd⟩
  refine ⟨I.ok, I.os, hg, ⟨fun b o e n hb hx => ?_, fun b o e n hb hx => ?_, fun b o e n hx => ?_, fun b o e hx => ?_, fun b xs e => tups b xs (I.base.tups b xs e), fun b o xs e => frzs b o xs (I.base.frzs b o xs e), fun b ps e => ?_⟩, ?_, fun x c e => ?_, ?_, fun x c e => ?_, fun p hp => ?_, hok, I.len⟩
  · exact keep b o (neL b o e) hb (neC b o e hx) (I.base.keep b o e n hb hx) (I.base.free b o e n hx)
  · obtain ⟨sl, e1⟩ := I.base.slot b o e n hb hx
    obtain ⟨sl', e2⟩ := slot b _ (neL b o e) hb (neC b o e hx) e1 (I.base.free b o e n hx)
    exact ⟨sl', e2⟩
  · obtain ⟨o', e1⟩ := I.base.there b o e hx
    exact free b o' (neC b o e hx) e1 (I.base.free b o e n hx)
  · obtain ⟨o', e1⟩ := I.base.there b o e hx
    exact there b o' (neC b o e hx) e1
  · obtain ⟨m1, e1⟩ := I.base.tbls b ps e
    obtain ⟨m2, e2⟩ := tbls b _ e1
    exact ⟨m1 ++ m2, by rw [e2, Array.append_assoc]⟩
  · obtain ⟨m, hn, hl⟩ := I.loc
    refine ⟨m, ns m hn, fun i x v e1 e2 e3 => ?_⟩
    obtain ⟨u, r, l⟩ := hl i x v e1 e2 e3
    refine ⟨u, r, ?_⟩
    rcases l with l | ⟨k, c, e, z⟩
    · exact .inl l
    · exact .inr ⟨k, c, e, cellK x c e _ z⟩
  · obtain ⟨v, z⟩ := I.cell x c e
    exact ⟨v, cellK x c e v z⟩
  · obtain ⟨m, ⟨o, _, _, ho, _⟩, _⟩ := I.loc
    exact free _ o (fun z => (hch _ z).2.1 rfl) ho I.free
  · obtain ⟨v, o, ho, hd⟩ := I.cell x c e
    exact free c o (fun z => (hch c z).2.2.1 x c e rfl) ho (I.freeC x c e)
  · obtain ⟨e, n, ne, nf, d⟩ := I.pin p hp
    have nch : p.1 ∉ ch := fun z => (hch p.1 z).2.2.2 p hp rfl
    exact ⟨keep p.1 p.2 ne nf nch e n, free p.1 p.2 nch e n, ne, nf, d⟩
theorem Inv.un {t' : Nat} (I : Inv X pins σ H s) (u : Un X.fs [] H H' s.heap h') (hok : HOk X.prog X.w H' h') : Inv X pins σ H' { s with heap := h', toks := t' } := by
  obtain ⟨m, ⟨o, es, ep, ho, r⟩, _⟩ := id I.loc
  obtain ⟨sl, hL⟩ := u.any ho I.free (by simp)
  exact I.step (g' := s.gens) (d' := s.drawn) (ch := []) (fun _ z => nomatch z) (fun b o _ hb _ e n => u.keep b o e n hb (by simp)) (fun b o _ hb _ e n => u.slot b o e n hb (by simp)) (fun b o _ e n => u.free b o e n (by simp)) (fun b o _ e => u.there b o e (by simp)) u.tups u.frzs u.tbls (fun m' hm => by
    obtain ⟨o', es', ep', ho', r'⟩ := hm
    rw [ho] at ho'; cases ho'
    exact ⟨_, es', ep', hL, r'⟩) hok I.bare
theorem Inv.call {g' : Array GenState} {t' : Nat} {d' : Drawn} {ch : List Addr} (I : Inv X pins σ H s) (u : Un (frs X.stack) ch H H' s.heap h') (hok : HOk X.prog X.w H' h') (hg : AllBare g')
    (hch : ∀ b ∈ ch, (b ∈ X.ex ∨ X.s_0.heap.objs.size ≤ b) ∧ b ≠ X.env.locals ∧ (∀ x c, X.env.cells.lookup x = some c → c ≠ b) ∧ ∀ p ∈ X.pn ++ pins, p.1 ≠ b) :
    Inv X pins σ H' { s with heap := h', gens := g', drawn := d', toks := t' } := by
  obtain ⟨m, ⟨o, es, ep, ho, r⟩, _⟩ := id I.loc
  obtain ⟨sl, hL⟩ := u.any ho I.free fun z => (hch _ z).2.1 rfl
  exact I.step (ch := ch) hch (fun b o hL hb hc e n => u.keep b o e n (fun z => (List.mem_cons.mp (I.stkSub b z)).elim hL hb) hc) (fun b o _ _ hc e n => u.any e n hc) (fun b o hc e n => u.free b o e n hc) (fun b o hc e => u.there b o e hc) u.tups u.frzs u.tbls (fun m' hm => by
    obtain ⟨o', es', ep', ho', r'⟩ := hm
    rw [ho] at ho'; cases ho'
    exact ⟨_, es', ep', hL, r'⟩) hok hg
theorem Inv.turned {t' : Nat} {it : Addr} (I : Inv X pins σ H s) (k : ∀ b o, b ≠ it → s.heap.get? b = some o → h'.get? b = some o) (hn : H it = none) (hL : it ≠ X.env.locals)
    (h1 : it ∈ X.ex ∨ X.s_0.heap.objs.size ≤ it) (h2 : ∀ x c, X.env.cells.lookup x = some c → c ≠ it) (h3 : ∀ p ∈ X.pn ++ pins, p.1 ≠ it) : Inv X pins σ H { s with heap := h', toks := t' } := by
  have nit : ∀ b u, H b = some u → b ≠ it := fun b u e z => by rw [z, hn] at e; cases e
  refine I.step (g' := s.gens) (d' := s.drawn) (ch := [it]) (fun b hb => ?_) (fun b o _ _ hc e _ => k b o (fun z => hc (by simp [z])) e) (fun b o _ _ hc e _ => ⟨o.slots, k b o (fun z => hc (by simp [z])) e⟩) (fun _ _ _ _ n => n)
    (fun b o hc e => ⟨o, k b o (fun z => hc (by simp [z])) e⟩) (fun _ _ e => e) (fun _ _ _ e => e) (fun b ps e => ⟨#[], by rw [e]; simp⟩) (fun m hm => ?_) (fun b u e => ?_) I.bare
  · have e : b = it := by simpa using hb
    subst e
    exact ⟨h1, hL, h2, h3⟩
  · obtain ⟨o, es, ep, ho, r⟩ := hm
    exact ⟨o, es, ep, k _ o (Ne.symm hL) ho, r⟩
  · refine (I.hok b u e).stay (fun c v hc q => k c v ?_ q) (fun _ q => q) fun _ _ q => q
    rcases hc with z | z
    · rw [z]; exact nit b u e
    · exact nit c _ z
theorem Inv.tok (I : Inv X pins σ H s) (t : Nat) : Inv X pins σ H { s with toks := t } := I.un (h' := s.heap) (t' := t) Un.refl I.hok
theorem Inv.kept {t' : Nat} (I : Inv X pins σ H s) (k : ∀ b u, s.heap.get? b = some u → h'.get? b = some u) : Inv X pins σ H { s with heap := h', toks := t' } := I.un (Un.kept k) (I.hok.kept k)
theorem Inv.laid {a : Addr} {o : HO} {t' : Nat} (I : Inv X pins σ H s) (k : ∀ b u, s.heap.get? b = some u → h'.get? b = some u) (hp : s.heap.objs.size ≤ a) (new : ObjOk X.prog X.w (upd H a o) h' a o) :
    Inv X pins σ (upd H a o) { s with heap := h', toks := t' } := I.un (Un.laid k hp (I.hok.fresh hp)) (I.hok.laid k hp new)
theorem Inv.write {x e : Addr} {o : HO} {t' : Nat} (I : Inv X pins σ H s) (mu : Mut (H x)) (he : e = x ∨ H e = some (.own x)) (k : ∀ b u, b ≠ e → s.heap.get? b = some u → h'.get? b = some u) (heo : ∃ u, h'.get? e = some u)
    (new : ObjOk X.prog X.w (upd H x o) h' x o) : Inv X pins σ (upd H x o) { s with heap := h', toks := t' } := I.un (Un.write mu he k heo) (I.hok.write mu he k heo new)
theorem Inv.pins_of {pins' : List (Addr × Obj)} (I : Inv X pins σ H s) (h : ∀ p ∈ pins', s.heap.get? p.1 = some p.2 ∧ H p.1 = none ∧ p.1 ≠ X.env.locals ∧ p.1 ∉ X.fs ∧ ∀ v, p.2.data ≠ .cell v) : Inv X pins' σ H s :=
  ⟨I.ok, I.os, I.bare, I.base, I.loc, I.cell, I.free, I.freeC, fun p hp => (List.mem_append.mp hp).elim (fun z => I.pin p (List.mem_append_left _ z)) (h p), I.hok, I.len⟩
theorem nodup_ix {N : List Str} (hN : N.Nodup) {i j : Nat} {x : Str} (a : N[i]? = some x) (b : N[j]? = some x) : i = j := by
  obtain ⟨h1, e1⟩ := List.getElem?_eq_some_iff.mp a
  obtain ⟨h2, e2⟩ := List.getElem?_eq_some_iff.mp b
  exact (List.getElem_inj hN).mp (e1.trans e2.symm)
theorem store_ok2 {M : Model} {A : Around} {E : Value → Shared → Prop} {i : Nat} {x : Str} {v : V} {u : Value} {Q : Unit → Shared → Prop} (I : Inv X pins σ H s) (hN : X.N.Nodup) (hi : X.N[i]? = some x) (hx : Loc X.env.scope x) (r : RelV v u)
    (h : ∀ s', Inv X pins (σ.set i (some v)) H s' → (∃ a, Heap.SameBut a s.heap s'.heap ∧ (a = X.env.locals ∨ X.env.cells.lookup x = some a)) → Q () s') (hf : X.fn x = true ∨ X.env.scope.names.lookup x = some .local := by first | exact .inl rfl | exact .inr rfl | assumption) : wpAny M A (storeName X.env x u) Q E s := by
  obtain ⟨m, hn, hl⟩ := id I.loc
  have hcls : (X.env.scope.kind == .class || (X.env.scope.kind == .module && X.env.locals != X.env.globals)) = false := by rw [I.ok.kind]; rfl
  have hiσ : i < σ.length := by rw [I.len]; exact (List.getElem?_eq_some_iff.mp hi).1
  have cne := I.cne
  have tracked : ∀ {a : Addr} {h' : Heap}, (∃ o, s.heap.get? a = some o ∧ H a = none) → Heap.SameBut a s.heap h' → HOk X.prog X.w H h' := fun {a h'} ha hs b ob e => by
    obtain ⟨_, _, hfree⟩ := ha
    refine (I.hok b ob e).stay (fun c w' hc q => (hs.2 c ?_).trans q) (fun _ q => q) fun _ _ q => q
    rintro rfl
    rcases hc with rfl | hc
    · rw [hfree] at e; cases e
    · rw [hfree] at hc; cases hc
  rcases hx with hk | hk
  · refine wpAny_storeName_local hk hn (fun h' hn' hs => ?_) hcls
    obtain ⟨oL, _, _, hoL, _⟩ := id hn
    refine h _ ⟨I.ok, I.os, I.bare, ⟨fun b o e n hb hx => ?_, fun b o e n hb hx => ?_, I.base.free, fun b o e hx => ?_, I.base.tups, I.base.frzs, I.base.tbls⟩, ⟨_, hn', fun j y v' e1 e2 e3 => ?_⟩, fun y c e => ?_, I.free, I.freeC, fun p hp => ?_, tracked ⟨oL, hoL, I.free⟩ hs, by simpa using I.len⟩ ⟨_, hs, .inl rfl⟩
    · exact (hs.2 b (Nat.ne_of_lt (Nat.lt_of_lt_of_le (Heap.lt_size e) I.ok.above))).trans (I.base.keep b o e n hb hx)
    · obtain ⟨sl, e1⟩ := I.base.slot b o e n hb hx
      exact ⟨sl, (hs.2 b (Nat.ne_of_lt (Nat.lt_of_lt_of_le (Heap.lt_size e) I.ok.above))).trans e1⟩
    · obtain ⟨o', e1⟩ := I.base.there b o e hx
      exact ⟨o', (hs.2 b (Nat.ne_of_lt (Nat.lt_of_lt_of_le (Heap.lt_size e) I.ok.above))).trans e1⟩
    · by_cases hj : j = i
      · subst hj
        rw [hi] at e1; cases e1
        rw [List.getElem?_set_self hiσ] at e2
        cases e2
        exact ⟨u, r, .inl ⟨hk, by simp⟩⟩
      · rw [List.getElem?_set_ne (Ne.symm hj)] at e2
        obtain ⟨u', r', q⟩ := hl j y v' e1 e2 e3
        refine ⟨u', r', ?_⟩
        rcases q with ⟨k, e⟩ | ⟨k, c, e, z⟩
        · refine .inl ⟨k, ?_⟩
          have : y ≠ x := fun e => hj (nodup_ix hN e1 (e ▸ hi))
          simp [this, e]
        · exact .inr ⟨k, c, e, z.sameBut hs (cne y c e)⟩
    · obtain ⟨w', z⟩ := I.cell y c e
      exact ⟨w', z.sameBut hs (cne y c e)⟩
    · obtain ⟨e, n, ne, nf, d⟩ := I.pin p hp
      exact ⟨(hs.2 p.1 ne).trans e, n, ne, nf, d⟩
  · have hfn : X.fn x = true := by
      rcases hf with z | z
      · exact z
      · rw [z] at hk; cases hk
    obtain ⟨c, hc⟩ := I.ok.has x (.inl hk)
    obtain ⟨w', z⟩ := I.cell x c hc
    refine wpAny_storeName_cell I.ok.kind hk hc z (fun h' hc' hs => ?_)
    obtain ⟨oc, hoc, hocd⟩ := id z
    refine h { s with heap := h' } ⟨I.ok, I.os, I.bare, ⟨fun b o e n hb hx => ?_, fun b o e n hb hx => ?_, I.base.free, fun b o e hx => ?_, I.base.tups, I.base.frzs, I.base.tbls⟩, ⟨m, hn.sameBut hs (Ne.symm (cne x c hc)), fun j y v' e1 e2 e3 => ?_⟩, fun y c' e => ?_, I.free, I.freeC, fun p hp => ?_, tracked ⟨oc, hoc, I.freeC x c hc⟩ hs, by simpa using I.len⟩ ⟨c, hs, .inr hc⟩
    · exact (hs.2 b (Nat.ne_of_lt (Nat.lt_of_lt_of_le (Heap.lt_size e) (I.ok.cab x c hfn hc)))).trans (I.base.keep b o e n hb hx)
    · obtain ⟨sl, e1⟩ := I.base.slot b o e n hb hx
      exact ⟨sl, (hs.2 b (Nat.ne_of_lt (Nat.lt_of_lt_of_le (Heap.lt_size e) (I.ok.cab x c hfn hc)))).trans e1⟩
    · obtain ⟨o', e1⟩ := I.base.there b o e hx
      exact ⟨o', (hs.2 b (Nat.ne_of_lt (Nat.lt_of_lt_of_le (Heap.lt_size e) (I.ok.cab x c hfn hc)))).trans e1⟩
    · by_cases hj : j = i
      · subst hj
        rw [hi] at e1; cases e1
        rw [List.getElem?_set_self hiσ] at e2
        cases e2
        exact ⟨u, r, .inr ⟨.inl hk, c, hc, hc'⟩⟩
      · rw [List.getElem?_set_ne (Ne.symm hj)] at e2
        obtain ⟨u', r', q⟩ := hl j y v' e1 e2 e3
        refine ⟨u', r', ?_⟩
        rcases q with q | ⟨k, c', e, z'⟩
        · exact .inl q
        · refine .inr ⟨k, c', e, z'.sameBut hs ?_⟩
          rintro rfl
          exact hj (nodup_ix hN e1 (I.ok.inj _ _ _ e hc ▸ hi))
    · by_cases hcc : c' = c
      · subst hcc; exact ⟨_, hc'⟩
      · obtain ⟨w2, z2⟩ := I.cell y c' e
        exact ⟨w2, z2.sameBut hs hcc⟩
    · obtain ⟨e, n, ne, nf, d⟩ := I.pin p hp
      refine ⟨(hs.2 p.1 ?_).trans e, n, ne, nf, d⟩
      intro q
      rw [q, hoc] at e
      have q' : oc = p.2 := Option.some.inj e
      exact d w' (by rw [← q']; exact hocd)
theorem store_ok {M : Model} {A : Around} {E : Value → Shared → Prop} {i : Nat} {x : Str} {v : V} {u : Value} {Q : Unit → Shared → Prop} (I : Inv X pins σ H s) (hN : X.N.Nodup) (hi : X.N[i]? = some x) (hx : Loc X.env.scope x) (r : RelV v u)
    (h : ∀ s', Inv X pins (σ.set i (some v)) H s' → Q () s') (hf : X.fn x = true ∨ X.env.scope.names.lookup x = some .local := by first | exact .inl rfl | exact .inr rfl | assumption) : wpAny M A (storeName X.env x u) Q E s :=
  store_ok2 I hN hi hx r (fun s' I' _ => h s' I') hf
theorem Inv.call' {s' : Shared} {ch : List Addr} (I : Inv X pins σ H s) (ho : s'.os = s.os) (u : Un (frs X.stack) ch H H' s.heap s'.heap) (hok : HOk X.prog X.w H' s'.heap) (hg : AllBare s'.gens)
    (hch : ∀ b ∈ ch, (b ∈ X.ex ∨ X.s_0.heap.objs.size ≤ b) ∧ b ≠ X.env.locals ∧ (∀ x c, X.env.cells.lookup x = some c → c ≠ b) ∧ ∀ p ∈ X.pn ++ pins, p.1 ≠ b) : Inv X pins σ H' s' := by
  obtain ⟨h', g', d', t', o'⟩ := s'
  have e : o' = s.os := ho
  subst e
  exact I.call (g' := g') (t' := t') (d' := d') u hok hg hch
end
noncomputable abbrev XK := Value → Option Addr → Hp → Prop
noncomputable abbrev St := List (Option V)
noncomputable abbrev VK := V → Hp → Prop
noncomputable abbrev TE := St → Hp → VK → Prop
noncomputable abbrev TT := St → Hp → (Bool → Hp → Prop) → Prop
noncomputable abbrev TA := St → Hp → (List V → Hp → Prop) → Prop
structure Ends where
  nx : St → Hp → Prop
  rt : VK
  bk : St → Hp → Prop := fun _ _ => False
  ct : St → Hp → Prop := fun _ _ => False
noncomputable abbrev TS := Ends → St → Hp → Prop
noncomputable def EP (X : Cx) (pins : List (Addr × Obj)) (σ : St) (Q : VK) (u : Value) (s' : Shared) : Prop := ∃ v H', Inv X pins σ H' s' ∧ RelV v u ∧ Q v H'
noncomputable def TP (X : Cx) (pins : List (Addr × Obj)) (σ : St) (Q : Bool → Hp → Prop) (b : Bool) (s' : Shared) : Prop := ∃ H', Inv X pins σ H' s' ∧ Q b H'
noncomputable def AP (X : Cx) (pins : List (Addr × Obj)) (σ : St) (Q : List V → Hp → Prop) (us : List Value) (s' : Shared) : Prop := ∃ vs H', Inv X pins σ H' s' ∧ Vals vs us ∧ Q vs H'
noncomputable def SP (X : Cx) (pins : List (Addr × Obj)) (D : Ends) (f : Flow) (s' : Shared) : Prop :=
  match f with
  | .next => ∃ σ' H', Inv X pins σ' H' s' ∧ D.nx σ' H'
  | .brk => ∃ σ' H', Inv X pins σ' H' s' ∧ D.bk σ' H'
  | .cont => ∃ σ' H', Inv X pins σ' H' s' ∧ D.ct σ' H'
  | .ret u => ∃ v σ' H', Inv X pins σ' H' s' ∧ RelV v u ∧ D.rt v H'
noncomputable def PE (X : Cx) (e : Expr) (t : TE) : Prop :=
  ∀ (pins : List (Addr × Obj)) (s : Shared) (σ : St) (H : Hp) (Q : VK), Inv X pins σ H s → t σ H Q → wpAny (model X.prog X.w) X.A (eval e X.env) (EP X pins σ Q) X.xe s
noncomputable def PT (X : Cx) (e : Expr) (t : TT) : Prop :=
  ∀ (pins : List (Addr × Obj)) (s : Shared) (σ : St) (H : Hp) (Q : Bool → Hp → Prop), Inv X pins σ H s → t σ H Q → wpAny (model X.prog X.w) X.A (isTrue e X.env (eval e X.env)) (TP X pins σ Q) X.xe s
noncomputable def PW (X : Cx) (e : Expr) (t : TT) : Prop :=
  ∀ (whole : Sem Value) (pins : List (Addr × Obj)) (s : Shared) (σ : St) (H : Hp) (Q : Bool → Hp → Prop), Inv X pins σ H s → t σ H Q → wpAny (model X.prog X.w) X.A (isTrue e X.env whole) (TP X pins σ Q) X.xe s
theorem PW.pt {X : Cx} {e : Expr} {t : TT} (h : PW X e t) : PT X e t := h _
noncomputable def PA (X : Cx) (es : List Expr) (t : TA) : Prop :=
  ∀ (pos : Pos) (pins : List (Addr × Obj)) (s : Shared) (σ : St) (H : Hp) (Q : List V → Hp → Prop), Inv X pins σ H s → t σ H Q → wpAny (model X.prog X.w) X.A (spliced (backTo pos (starEach es X.env))) (AP X pins σ Q) X.xe s
noncomputable def PS (X : Cx) (st : Stmt) (t : TS) : Prop :=
  ∀ (pins : List (Addr × Obj)) (s : Shared) (σ : St) (H : Hp) (D : Ends), Inv X pins σ H s → t D σ H → wpAny (model X.prog X.w) X.A (exec st X.env) (SP X pins D) X.xe s
noncomputable def PSs (X : Cx) (st : List Stmt) (t : TS) : Prop :=
  ∀ (pins : List (Addr × Obj)) (s : Shared) (σ : St) (H : Hp) (D : Ends), Inv X pins σ H s → t D σ H → wpAny (model X.prog X.w) X.A (execs st X.env) (SP X pins D) X.xe s
theorem thn {α : Type} {t : Sem α} {Q Q' : α → Shared → Prop} {M : Model} {A : Around} {E : Value → Shared → Prop} {s : Shared} (h : wpAny M A t Q E s) (hQ : ∀ a s, Q a s → Q' a s) : wpAny M A t Q' E s := wpAny_mono h hQ fun _ _ x => x
end L2
namespace L2
open PySem PySem.Spec PyProof.Rows
section
variable {X : Cx}
theorem bin {a b : Expr} {ta tb : TE} (ha : PE X a ta) (hb : PE X b tb) {pins : List (Addr × Obj)} {s : Shared} {σ : St} {H : Hp} {R : V → V → Hp → Prop} (I : Inv X pins σ H s) (h : ta σ H fun x H1 => tb σ H1 fun y H2 => R x y H2)
    {α : Type} {Q : α → Shared → Prop} {f : Value → Value → Sem α}
    (hf : ∀ v u s2 x y H2, Inv X pins σ H2 s2 → RelV x v → RelV y u → R x y H2 → wpAny (model X.prog X.w) X.A (f v u) Q X.xe s2) :
    wpAny (model X.prog X.w) X.A (eval a X.env) (fun v s₁ => wpAny (model X.prog X.w) X.A (eval b X.env) (fun u s₂ => wpAny (model X.prog X.w) X.A (f v u) Q X.xe s₂) X.xe s₁) X.xe s := by
  refine thn (ha pins s σ H _ I h) fun v s1 ⟨x, H1, I1, r1, q1⟩ => ?_
  refine thn (hb pins s1 σ H1 _ I1 q1) fun u s2 ⟨y, H2, I2, r2, q2⟩ => ?_
  exact hf v u s2 x y H2 I2 r1 r2 q2
noncomputable def tVar (i : Nat) : TE := fun σ H Q => ∃ v, σ[i]? = some (some v) ∧ Q v H
noncomputable def tC (v : V) : TE := fun _ H Q => Q v H
theorem pe_var {i : Nat} {x : Str} {pos : Pos} (hN : X.N[i]? = some x) (hv : Vis X.env.scope x) (hd : (x == ("__debug__" : Str)) = false := by decide) (hcd : (x == ("__classdict__" : Str)) = false := by decide) : PE X (.Name x pos) (tVar i) := by
  intro pins s σ H Q I h
  obtain ⟨v, e, h⟩ := h
  obtain ⟨m, hn, hl⟩ := I.loc
  obtain ⟨u, r, l⟩ := hl i x v hN e hv
  have fin : EP X pins σ Q u s := ⟨v, H, I, r, h⟩
  rcases l with ⟨hk, hm⟩ | ⟨hk, c, hc, hcell⟩
  · exact wpAny_Name (wpAny_loadName_local I.ok.kind hk hn hm fin) hd
  · rcases hk with hk | hk
    · exact wpAny_Name (wpAny_loadName_cell I.ok.kind hk hc hcell fin) hd
    · exact wpAny_Name (wpAny_loadName_free I.ok.kind hk hc hcell fin hcd) hd
theorem pe_int {i j pos} : PE X (.Constant (.int i) j pos) (tC (.int i)) := fun _ _ _ H _ I h => wpAny_Constant_int ⟨.int i, H, I.tok _, ⟨_, rfl⟩, h⟩
theorem pe_bl {b j pos} : PE X (.Constant (.bool b) j pos) (tC (.bl b)) := fun _ _ _ H _ I h => Constant_bool ⟨.bl b, H, I, rfl, h⟩
theorem pe_str {x j pos} : PE X (.Constant (.str x) j pos) (tC (.str x)) := fun _ _ _ H _ I h => Calls.Constant_str ⟨.str x, H, I.tok _, ⟨_, rfl⟩, h⟩
noncomputable def Gl (X : Cx) (x : Str) : Prop := X.env.kindOf x = some .globalImplicit
theorem ld_glob {E : Value → Shared → Prop} {pins : List (Addr × Obj)} {s : Shared} {σ : St} {H : Hp} {x : Str} {u : Value} {pos : Pos} {Q : Value → Shared → Prop} (I : Inv X pins σ H s) (hg : Gl X x) (hm : X.mg x = some u) (h : Q u s)
    (hd : (x == ("__debug__" : Str)) = false := by decide) : wpAny (model X.prog X.w) X.A (eval (.Name x pos) X.env) Q E s :=
  Calls.Name_function_global I.ok.kind hg (Calls.loadGlobal_global (by rw [I.ok.glob]; exact I.mod.glob.keeps I.bk) hm h) hd
theorem ld_blt {E : Value → Shared → Prop} {pins : List (Addr × Obj)} {s : Shared} {σ : St} {H : Hp} {x : Str} {u : Value} {pos : Pos} {Q : Value → Shared → Prop} (I : Inv X pins σ H s) (hg : Gl X x) (hm : X.mg x = none) (hv : bootBuiltins x = some u) (h : Q u s)
    (hn : x ≠ "__name__" := by decide) (hd : (x == ("__debug__" : Str)) = false := by decide) : wpAny (model X.prog X.w) X.A (eval (.Name x pos) X.env) Q E s := by
  obtain ⟨mb, h1, h2⟩ := I.mod.blt
  exact Calls.Name_function_global I.ok.kind hg (Calls.loadGlobal_builtin (by rw [I.ok.glob]; exact I.mod.glob.keeps I.bk) hm (by rw [I.ok.blt]; exact h1.keeps I.bk) ((h2 x hn).trans hv) h) hd
theorem pe_glob {x : Str} {v : V} {u : Value} {pos : Pos} (hg : Gl X x) (hm : X.mg x = some u) (r : RelV v u) (hd : (x == ("__debug__" : Str)) = false := by decide) : PE X (.Name x pos) (tC v) :=
  fun _ _ _ H _ I h => ld_glob I hg hm ⟨v, H, I, r, h⟩ hd
noncomputable def t2I (ta tb : TE) (k : Int → Int → Hp → Prop) : St → Hp → Prop := fun σ H => ta σ H fun x H1 => tb σ H1 fun y H2 => ∃ i j, x = .int i ∧ y = .int j ∧ k i j H2
variable {a b : Expr} {ta tb : TE} {pos : Pos}
noncomputable def PC (X : Cx) (op : CmpOp) (a b : Expr) (t : TE) : Prop :=
  ∀ (pins : List (Addr × Obj)) (s : Shared) (σ : St) (H : Hp) (Q : VK), Inv X pins σ H s → t σ H Q →
    wpAny (model X.prog X.w) X.A (eval a X.env) (fun v s₁ => wpAny (model X.prog X.w) X.A (eval b X.env) (fun u s₂ => wpAny (model X.prog X.w) X.A (compareOp op v u) (EP X pins σ Q) X.xe s₂) X.xe s₁) X.xe s
theorem nobehind (b : Expr) {op : CmpOp} (h : op ≠ .In) (h2 : op ≠ .NotIn) : behindInMarks op b = false := by
  have e1 : (op == CmpOp.In) = false := by cases op <;> first | rfl | exact absurd rfl h
  have e2 : (op == CmpOp.NotIn) = false := by cases op <;> first | rfl | exact absurd rfl h2
  cases b <;> simp [behindInMarks, e1, e2]
noncomputable def tCmp (p : Int → Int → Bool) (ta tb : TE) : TE := fun σ H Q => t2I ta tb (fun i j H2 => Q (.bl (p i j)) H2) σ H
noncomputable abbrev tEqI : TE → TE → TE := tCmp fun i j => decide (i = j)
noncomputable abbrev tNeI : TE → TE → TE := tCmp fun i j => !decide (i = j)
theorem pc_int {op : CmpOp} {p : Int → Int → Bool} (ha : PE X a ta) (hb : PE X b tb)
    (rule : ∀ (i j : Int) (t u : Tok) (Q : Value → Shared → Prop) (s : Shared), Q (.bool (p i j)) s → wpAny (model X.prog X.w) X.A (compareOp op (.int i t) (.int j u)) Q X.xe s) : PC X op a b (tCmp p ta tb) := by
  intro pins s σ H Q I h
  refine bin ha hb I h fun v u s2 x y H2 I2 rx ry q => ?_
  obtain ⟨i, j, rfl, rfl, q⟩ := q
  obtain ⟨t, rfl⟩ := rx
  obtain ⟨t', rfl⟩ := ry
  exact rule i j t t' _ s2 ⟨.bl _, H2, I2, rfl, q⟩
theorem pc_eqI (ha : PE X a ta) (hb : PE X b tb) : PC X .Eq a b (tEqI ta tb) := pc_int ha hb fun _ _ _ _ _ _ h => eq_int (by rw [Bool.beq_eq_decide_eq]; exact h)
theorem pc_neI (ha : PE X a ta) (hb : PE X b tb) : PC X .NotEq a b (tNeI ta tb) := pc_int ha hb fun _ _ _ _ _ _ h => ne_int (by rw [bne, Bool.beq_eq_decide_eq]; exact h)
noncomputable def tB (t : TE) : TT := fun σ H Q => t σ H fun x H1 => ∃ c, x = .bl c ∧ Q c H1
theorem pt_cmp {op : CmpOp} {t : TE} (h : PC X op a b t) (h1 : behindInMarks op b = false := by first | exact nobehind _ (by decide) (by decide) | rfl) : PT X (.Compare a [op] [b] pos) (tB t) := by
  intro pins s σ H Q I hw
  refine wpAny_isTrue_Compare1 (thn (h pins s σ H _ I hw) fun v s1 h1 => thn h1 fun u s2 h2 => thn h2 fun c s3 ⟨x, H1, I1, r1, q1⟩ => ?_) h1
  obtain ⟨d, rfl, q⟩ := q1
  cases r1
  exact wpAny_truthy_bool ⟨H1, I1, q⟩
theorem pt_val {e : Expr} {t : TE} (h : PE X e t) (he : ∀ whole, isTrue e X.env whole = (do let v ← whole; standAt e.pos; holding [v] (truthy v)) := by intro _; rfl) : PT X e (tB t) := by
  intro pins s σ H Q I hw
  refine isTrue_plain (thn (h pins s σ H _ I hw) fun v s1 ⟨x, H1, I1, r1, q1⟩ => ?_) (he _)
  obtain ⟨d, rfl, q⟩ := q1
  cases r1
  exact wpAny_truthy_bool ⟨H1, I1, q⟩
variable {tA tB' : TT} {rest : List Expr}
noncomputable def tOr (t u : TT) : TT := fun σ H Q => t σ H fun c H1 => if c = true then Q true H1 else u σ H1 Q
noncomputable def tNot (t : TT) : TT := fun σ H Q => t σ H fun c H1 => Q (!c) H1
theorem pw_or1 (ha : PT X a tA) : PW X (.BoolOp .Or [a] pos) tA := by
  intro wh pins s σ H Q I h
  refine isTrue_or (thn (ha pins s σ H Q I h) fun c s1 e => ?_)
  cases c with
  | false => exact isTrue_or_nil e
  | true => exact e
theorem pw_or (ha : PT X a tA) (hb : PW X (.BoolOp .Or (b :: rest) pos) tB') : PW X (.BoolOp .Or (a :: b :: rest) pos) (tOr tA tB') := by
  intro wh pins s σ H Q I h
  refine isTrue_or (thn (ha pins s σ H _ I h) fun c s1 ⟨H1, I1, q1⟩ => ?_)
  cases c with
  | true => exact ⟨H1, I1, q1⟩
  | false => exact hb wh pins s1 σ H1 Q I1 q1
theorem pt_not (ha : PT X a tA) : PT X (.UnaryOp .Not a pos) (tNot tA) := by
  intro pins s σ H Q I h
  exact isTrue_not (ha pins s σ H (fun c H1 => Q (!c) H1) I h)
end
end L2
namespace L2
open PySem PySem.Spec PyProof.Rows
noncomputable def SqL (K : PySem.W.Frag) (H : Hp) (a : Addr) (xs : List V) : Prop :=
  Rd H a (.lst xs) ∨
    ∃ (o : Obj) (its : Array Value) (n : Nat), K.lookup a = some o ∧ o.cls = .type "list" ∧ o.dict = none ∧ o.data = .seq its n ∧ its.size ≤ sizeLine ∧ Vals xs its.toList
noncomputable def SqT (K : PySem.W.Frag) (H : Hp) (a : Addr) (xs : List V) : Prop :=
  Rd H a (.tup xs) ∨
    ∃ (o : Obj) (its : Array Value) (n : Nat), K.lookup a = some o ∧ o.cls = .type "tuple" ∧ o.data = .seq its n ∧ its.size ≤ sizeLine ∧ Vals xs its.toList
noncomputable def absV : Value → Option V
  | .none => some .non
  | .bool b => some (.bl b)
  | .int i _ => some (.int i)
  | .str x _ => some (.str x)
  | .bytes b _ => some (.byt b)
  | .float b _ => some (.flt b)
  | .ref a => some (.ref a)
  | .type n => some (.ty n)
  | _ => none
theorem RelV.abs {x : V} {u : Value} (r : RelV x u) : absV u = some x := by
  cases x with
  | non => cases r; rfl
  | bl _ => cases r; rfl
  | int _ => obtain ⟨t, rfl⟩ := r; rfl
  | str _ => obtain ⟨t, rfl⟩ := r; rfl
  | byt _ => obtain ⟨t, rfl⟩ := r; rfl
  | flt _ => obtain ⟨t, rfl⟩ := r; rfl
  | ref _ => cases r; rfl
  | ty _ => cases r; rfl
theorem RelV.inj {x y : V} {u : Value} (r : RelV x u) (q : RelV y u) : x = y := Option.some.inj (r.abs.symm.trans q.abs)
theorem Vals.inj : ∀ {xs ys : List V} {us : List Value}, Vals xs us → Vals ys us → xs = ys
  | _, _, _, .nil, .nil => rfl
  | _, _, _, .cons r t, .cons r' t' => by rw [r.inj r', Vals.inj t t']
section
variable {X : Cx} {pins : List (Addr × Obj)} {σ : St} {H : Hp} {s : Shared} {a : Addr} {xs ys : List V}
theorem SqL.of {K : PySem.W.Frag} (h : H a = some (.lst xs)) : SqL K H a xs := .inl (.inl h)
theorem SqT.of {K : PySem.W.Frag} (h : H a = some (.tup xs)) : SqT K H a xs := .inl (.inl h)
theorem Inv.list (I : Inv X pins σ H s) (h : SqL X.K H a xs) : ∃ its : List Value, Vals xs its ∧ PlainL s.heap a its.toArray ∧ xs.length ≤ sizeLine := by
  rcases h with h | ⟨o, its, n, hk, hc, hd, hs, hz, r⟩
  · obtain ⟨z, its, n, r, e⟩ := h.ok I.hok
    exact ⟨its, r, ⟨_, n, e, rfl, rfl, rfl⟩, z⟩
  · refine ⟨its.toList, r, ⟨o, n, I.kIn a o hk, hc, hd, by simpa using hs⟩, ?_⟩
    have e := r.length
    simp only [Array.length_toList] at e
    omega
theorem Inv.tuple (I : Inv X pins σ H s) (h : SqT X.K H a xs) : ∃ its : List Value, Vals xs its ∧ IsTup s.heap a its.toArray ∧ xs.length ≤ sizeLine := by
  rcases h with h | ⟨o, its, n, hk, hc, hs, hz, r⟩
  · obtain ⟨z, its, r, p⟩ := h.ok I.hok
    exact ⟨its, r, p, z⟩
  · refine ⟨its.toList, r, ⟨o, I.kIn a o hk, hc, n, by simpa using hs⟩, ?_⟩
    have e := r.length
    simp only [Array.length_toList] at e
    omega
theorem Inv.list_inj (I : Inv X pins σ H s) (h : SqL X.K H a xs) (h' : SqL X.K H a ys) : xs = ys := by
  obtain ⟨its, r, ⟨o, n, e, _, _, d⟩, _⟩ := I.list h
  obtain ⟨its', r', ⟨o', n', e', _, _, d'⟩, _⟩ := I.list h'
  rw [e] at e'; cases e'
  rw [d] at d'
  injection d' with d1 _
  have : its = its' := by simpa using congrArg Array.toList d1
  subst this
  exact r.inj r'
end
noncomputable abbrev Cx.wish (X : Cx) (E : Value → Shared → Prop) : Cx := { X with xe := E }
noncomputable abbrev Cx.nox (X : Cx) : Cx := X.wish fun _ _ => False
theorem Cx.Ok.wish {X : Cx} (ok : X.Ok) (E : Value → Shared → Prop) : (X.wish E).Ok :=
  ⟨ok.mod, ok.kind, ok.glob, ok.blt, ok.above, ok.inj, ok.has, ok.cab, ok.hd, ok.frames, ok.stk, ok.exf, ok.bs, ok.bsz, ok.noex, ok.exfs, ok.funs, ok.frf⟩
theorem Cx.Ok.unwish {X : Cx} {E : Value → Shared → Prop} (ok : (X.wish E).Ok) : X.Ok :=
  ⟨ok.mod, ok.kind, ok.glob, ok.blt, ok.above, ok.inj, ok.has, ok.cab, ok.hd, ok.frames, ok.stk, ok.exf, ok.bs, ok.bsz, ok.noex, ok.exfs, ok.funs, ok.frf⟩
section
variable {X : Cx} {pins : List (Addr × Obj)} {σ : St} {H : Hp} {s : Shared} {E : Value → Shared → Prop}
theorem Inv.wish (I : Inv X pins σ H s) (E : Value → Shared → Prop) : Inv (X.wish E) pins σ H s := ⟨I.ok.wish E, I.os, I.bare, I.base, I.loc, I.cell, I.free, I.freeC, I.pin, I.hok, I.len⟩
theorem Inv.unwish (I : Inv (X.wish E) pins σ H s) : Inv X pins σ H s := ⟨I.ok.unwish, I.os, I.bare, I.base, I.loc, I.cell, I.free, I.freeC, I.pin, I.hok, I.len⟩
theorem SP.unwish {D : Ends} {f : Flow} {s' : Shared} (h : SP (X.wish E) pins D f s') : SP X pins D f s' := by
  cases f with
  | next => obtain ⟨σ', H', I, q⟩ := h; exact ⟨σ', H', I.unwish, q⟩
  | brk => obtain ⟨σ', H', I, q⟩ := h; exact ⟨σ', H', I.unwish, q⟩
  | cont => obtain ⟨σ', H', I, q⟩ := h; exact ⟨σ', H', I.unwish, q⟩
  | ret u => obtain ⟨v, σ', H', I, r, q⟩ := h; exact ⟨v, σ', H', I.unwish, r, q⟩
theorem PSs.nox {st : List Stmt} {t : TS} (h : PSs X.nox st t) : PSs X st t := fun pins s σ H D I hw =>
  wpAny_mono (h pins s σ H D (I.wish _) hw) (fun _ _ q => q.unwish) fun _ _ z => False.elim z
end
section
variable {X : Cx} {st : Stmt} {rest : List Stmt} {t u : TS} {e : Expr} {te : TE} {pos : Pos}
noncomputable def tNext : TS := fun D σ H => D.nx σ H
noncomputable def tSeq (t u : TS) : TS := fun D σ H => t { D with nx := u D } σ H
theorem pss_nil : PSs X [] tNext := fun _ _ σ H _ I h => wpAny_execs_nil ⟨σ, H, I, h⟩
theorem pss_cons (h1 : PS X st t) (h2 : PSs X rest u) : PSs X (st :: rest) (tSeq t u) := by
  intro pins s σ H D I h
  refine wpAny_execs_cons (thn (h1 pins s σ H { D with nx := u D } I h) fun f s1 q => ?_)
  cases f with
  | next =>
    obtain ⟨σ', H', I', q⟩ := q
    exact h2 pins s1 σ' H' D I' q
  | ret v => exact q
  | brk => exact q
  | cont => exact q
theorem pss_one (h1 : PS X st t) : PSs X [st] t := by
  intro pins s σ H D I h
  refine wpAny_execs_cons (thn (h1 pins s σ H D I h) fun f s1 q => ?_)
  cases f with
  | next => exact wpAny_execs_nil q
  | ret v => exact q
  | brk => exact q
  | cont => exact q
theorem Inv.quiet {pins : List (Addr × Obj)} {σ : St} {H : Hp} {s : Shared} (I : Inv X pins σ H s) : interactive X.env = false := by simp [interactive, I.ok.kind]
noncomputable def tDrop (te : TE) : TS := fun D σ H => te σ H fun _ H1 => D.nx σ H1
theorem ps_expr (he : PE X e te) (hs : swapsWith e none pos.line X.env = pure false := by rfl) : PS X (.Expr e pos) (tDrop te) := by
  intro pins s σ H D I h
  exact wpAny_Expr_any (thn (he pins s σ H _ I h) fun v s1 ⟨x, H1, I1, r1, q1⟩ => ⟨σ, H1, I1, q1⟩) I.quiet hs
noncomputable def tRet (te : TE) : TS := fun D σ H => te σ H D.rt
theorem ps_ret (he : PE X e te) : PS X (.Return (some e) pos) (tRet te) := by
  intro pins s σ H D I h
  exact wpAny_Return_some (thn (he pins s σ H _ I h) fun v s1 ⟨x, H1, I1, r1, q1⟩ => ⟨x, σ, H1, I1, r1, q1⟩)
noncomputable def tIfS (c : TT) (t u : TS) : TS := fun D σ H => c σ H fun b H1 => if b = true then t D σ H1 else u D σ H1
theorem ps_if {c : Expr} {a b : List Stmt} {tc : TT} (hc : PT X c tc) (ha : PSs X a t) (hb : PSs X b u) : PS X (.If c a b pos) (tIfS tc t u) := by
  intro pins s σ H D I h
  refine wpAny_If (thn (hc pins s σ H _ I h) fun d s1 ⟨H1, I1, q1⟩ => ?_)
  cases d with
  | true => exact ha pins s1 σ H1 D I1 q1
  | false => exact hb pins s1 σ H1 D I1 q1
end
noncomputable abbrev TG := V → St → Hp → (St → Hp → Prop) → Prop
noncomputable abbrev TGs := List V → St → Hp → (St → Hp → Prop) → Prop
noncomputable def PG (X : Cx) (target : Expr) (t : TG) : Prop :=
  ∀ (pins : List (Addr × Obj)) (s : Shared) (σ : St) (H : Hp) (v : V) (u : Value) (Q : St → Hp → Prop), Inv X pins σ H s → RelV v u → t v σ H Q →
    wpAny (model X.prog X.w) X.A (assign target X.env u) (fun _ s' => ∃ σ' H', Inv X pins σ' H' s' ∧ Q σ' H') X.xe s
noncomputable def PGs (X : Cx) (ts : List Expr) (t : TGs) : Prop :=
  ∀ (pins : List (Addr × Obj)) (s : Shared) (σ : St) (H : Hp) (vs : List V) (us : List Value) (Q : St → Hp → Prop), Inv X pins σ H s → Vals vs us → t vs σ H Q →
    wpAny (model X.prog X.w) X.A (assignInOrder ((assignEach ts X.env).map (·.2)) us) (fun _ s' => ∃ σ' H', Inv X pins σ' H' s' ∧ Q σ' H') X.xe s
section
variable {X : Cx} {pos : Pos}
noncomputable def gName (i : Nat) : TG := fun v σ H Q => Q (σ.set i (some v)) H
theorem pg_name {i : Nat} {x : Str} (hN : X.N.Nodup) (hi : X.N[i]? = some x) (hx : Loc X.env.scope x) (hf : X.fn x = true ∨ X.env.scope.names.lookup x = some .local := by first | exact .inl rfl | exact .inr rfl | assumption) : PG X (.Name x pos) (gName i) := by
  intro pins s σ H v u Q I r h
  exact wpAny_assign_Name (store_ok I hN hi hx r (fun s' I' => ⟨_, H, I', h⟩) hf)
noncomputable def gNil : TGs := fun vs σ H Q => vs = [] ∧ Q σ H
noncomputable def gCons (t : TG) (u : TGs) : TGs := fun vs σ H Q => ∃ v r, vs = v :: r ∧ t v σ H fun σ' H' => u r σ' H' Q
theorem pgs_nil : PGs X [] gNil := by
  intro pins s σ H vs us Q I r h
  obtain ⟨e, h⟩ := h
  subst e
  cases r
  exact assignInOrder_nil ⟨σ, H, I, h⟩
theorem pgs_cons {e : Expr} {es : List Expr} {t : TG} {u : TGs} (h1 : PG X e t) (h2 : PGs X es u)
    (hs : (assignEach (e :: es) X.env).map (·.2) = assign e X.env :: (assignEach es X.env).map (·.2) := by rfl) : PGs X (e :: es) (gCons t u) := by
  intro pins s σ H vs us Q I r h
  obtain ⟨v, vr, e1, h⟩ := h
  subst e1
  cases r with
  | cons r rr =>
    rw [hs]
    refine assignInOrder_cons (thn (h1 pins s σ H _ _ _ I r h) fun _ s1 ⟨σ1, H1, I1, q1⟩ => ?_)
    exact h2 pins s1 σ1 H1 _ _ Q I1 rr q1
noncomputable def gTup (K : PySem.W.Frag) (n : Nat) (t : TGs) : TG := fun v σ H Q => ∃ a xs, v = .ref a ∧ SqT K H a xs ∧ xs.length = n ∧ t xs σ H Q
theorem pg_tup {es : List Expr} {k : Nat} {t : TGs} {n : Nat} (hc : X.calm = true) (h : PGs X es t)
    (hn : (assignEach es X.env).length = n := by rfl) (hst : (assignEach es X.env).findIdx? (·.1) = none := by rfl) : PG X (.Tuple es k pos) (gTup X.K n t) := by
  intro pins s σ H v u Q I r hw
  obtain ⟨a, xs, e1, hq, hl, hw⟩ := hw
  subst e1
  cases r
  obtain ⟨its, rv, ht, hz⟩ := I.tuple hq
  refine assign_Tuple_tuple (I.ok.hd hc) ht (by simp [hn, ← hl, rv.length]) hst fun h' hx => ?_
  have I1 : Inv X pins σ H { s with heap := h' } := I.kept (t' := s.toks) fun b o e => hx b o (Nat.ne_of_lt (Heap.lt_size e)) e
  exact h pins _ σ H xs _ Q I1 (by simpa using rv) hw
noncomputable def tAsg (te : TE) (g : TG) : TS := fun D σ H => te σ H fun x H1 => g x σ H1 D.nx
theorem ps_set {i : Nat} {x : Str} {e : Expr} {te : TE} {pos' : Pos} (hN : X.N.Nodup) (hi : X.N[i]? = some x) (hx : Loc X.env.scope x) (he : PE X e te) (hs : swapsWith e (some (.Name x pos')) pos.line X.env = pure false := by rfl) (hf : X.fn x = true ∨ X.env.scope.names.lookup x = some .local := by first | exact .inl rfl | exact .inr rfl | assumption) :
    PS X (.Assign [.Name x pos'] e pos) (tAsg te (gName i)) := by
  intro pins s σ H D I h
  refine wpAny_Assign_Name (thn (he pins s σ H _ I h) fun v s1 ⟨y, H1, I1, r1, q1⟩ => ?_) hs
  exact store_ok I1 hN hi hx r1 (fun s2 I2 => ⟨_, H1, I2, q1⟩) hf
end
section
variable {X : Cx} {pos : Pos}
noncomputable def tWhile (c : TT) (tb : TS) : TS := fun D σ H => ∃ W : Nat → St → Hp → Prop, (∃ m, W m σ H) ∧ ∀ m σ H, W m σ H →
  c σ H fun b H1 => if b = true then ∃ N : St → Hp → Prop, (∀ σ' H', N σ' H' → ∃ m', m' < m ∧ W m' σ' H') ∧ tb { D with nx := N, ct := N, bk := D.nx } σ H1 else D.nx σ H1
theorem ps_while {c : Expr} {body : List Stmt} {tc : TT} {tb : TS} (hp : PassesOwn (model X.prog X.w) X.A X.env X.xe) (hc : PT X c tc) (hb : PSs X body tb) : PS X (.While c body [] pos) (tWhile tc tb) := by
  intro pins s σ H D I h
  obtain ⟨W, ⟨m0, w0⟩, turn⟩ := h
  refine wpAny_While (codeAny_whileLoop (fun n s' => ∃ σ' H', Inv X pins σ' H' s' ∧ W n σ' H') ?_ m0 ⟨σ, H, I, w0⟩)
  rintro n s1 ⟨σ1, H1, I1, w1⟩
  refine wpAny_passesOwn hp (thn (hc pins s1 σ1 H1 _ I1 (turn n σ1 H1 w1)) fun b s2 ⟨H2, I2, q2⟩ => ?_)
  cases b with
  | true =>
    obtain ⟨N, hN, q2⟩ := q2
    rw [if_pos rfl]
    refine wpAny_passesOwn hp (thn (hb pins s2 σ1 H2 _ I2 q2) fun f s3 q3 => ?_)
    cases f with
    | next =>
      obtain ⟨σ3, H3, I3, n3⟩ := q3
      obtain ⟨m', hm, w3⟩ := hN σ3 H3 n3
      exact ⟨m', hm, σ3, H3, I3, w3⟩
    | cont =>
      obtain ⟨σ3, H3, I3, n3⟩ := q3
      obtain ⟨m', hm, w3⟩ := hN σ3 H3 n3
      exact ⟨m', hm, σ3, H3, I3, w3⟩
    | brk => exact q3
    | ret v => exact q3
  | false =>
    rw [if_neg Bool.false_ne_true]
    exact wpAny_execs_nil ⟨σ1, H2, I2, q2⟩
end
structure It where
  go : Nat → Hp → Prop
  yld : Nat → Hp → V → Hp → Prop
  stop : Nat → Hp → Prop
noncomputable def FpOk (X : Cx) (pins : List (Addr × Obj)) (H : Hp) (b : Addr) : Prop :=
  H b = none ∧ b ≠ X.env.locals ∧ b ∉ X.fs ∧ (b ∈ X.ex ∨ X.s_0.heap.objs.size ≤ b) ∧ (∀ x c, X.env.cells.lookup x = some c → c ≠ b) ∧ ∀ p ∈ X.pn ++ pins, p.1 ≠ b
theorem Inv.fpOk {X : Cx} {pins : List (Addr × Obj)} {σ : St} {H H' : Hp} {s : Shared} {b : Addr} (I : Inv X pins σ H s) (hb : s.heap.objs.size ≤ b) (hn : H' b = none) : FpOk X pins H' b := by
  refine ⟨hn, Nat.ne_of_gt (Nat.lt_of_lt_of_le I.lt hb), I.nofs hb, .inr (Nat.le_trans I.sz hb), fun x c e z => ?_, fun p hp z => ?_⟩
  · obtain ⟨v, q⟩ := I.cell x c e
    exact absurd (Nat.lt_of_lt_of_le q.lt (by rw [z]; exact hb)) (Nat.lt_irrefl _)
  · exact absurd (Nat.lt_of_lt_of_le (Heap.lt_size (I.pin p hp).1) (by rw [z]; exact hb)) (Nat.lt_irrefl _)
structure Turn (P : Program) (w : World) (K : PySem.W.Frag) (tg : Expr) (J : It) (fp : List Addr) (it : Addr) (tn : Nat → Heap → Prop) : Prop where
  mem : it ∈ fp
  obj : ∀ i h, tn i h → ∀ b ∈ fp, ∃ o, h.get? b = some o ∧ ∀ v, o.data ≠ .cell v
  keep : ∀ i h h', tn i h → (∀ b ∈ fp, ∀ o, h.get? b = some o → h'.get? b = some o) → tn i h'
  item : ∀ (X : Cx), X.prog = P → X.w = w → X.K = K → X.calm = true → ∀ (i : Nat) (pins : List (Addr × Obj)) (s : Shared) (σ : St) (H : Hp) (E : Value → Shared → Prop), Inv X pins σ H s → (∀ b ∈ fp, FpOk X pins H b) → tn i s.heap → J.go i H →
    wpAny (model P w) X.A (pyNext (.ref it)) (fun r s1 => ∃ u, r = some u ∧
      wpAny (model P w) X.A (letOwnedTupleGo tg (.ref it) u) (fun _ s2 => ∃ x H', Inv X pins σ H' s2 ∧ RelV x u ∧ J.yld i H x H' ∧ tn (i + 1) s2.heap ∧ ∀ b ∈ fp, H' b = none) E s1) E s
  done : ∀ (X : Cx), X.prog = P → X.w = w → X.K = K → X.calm = true → ∀ (i : Nat) (pins : List (Addr × Obj)) (s : Shared) (σ : St) (H : Hp) (E : Value → Shared → Prop), Inv X pins σ H s → (∀ b ∈ fp, FpOk X pins H b) → tn i s.heap → J.stop i H →
    wpAny (model P w) X.A (pyNext (.ref it)) (fun r s1 => r = none ∧ Inv X pins σ H s1) E s
  self : ∀ (A : Around) (i : Nat) (s : Shared) (Q : Value → Shared → Prop) (E : Value → Shared → Prop), tn i s.heap → Q (.ref it) s → wpAny (model P w) A (pyIter (.ref it)) Q E s
noncomputable abbrev TI := St → Hp → (It → Hp → Prop) → Prop
noncomputable def PIE (X : Cx) (pins : List (Addr × Obj)) (σ : St) (tg : Expr) (R : It → Hp → Prop) (itv : Value) (s2 : Shared) : Prop :=
  ∃ (it : Addr) (fp : List Addr) (tn : Nat → Heap → Prop) (J : It) (H' : Hp), itv = .ref it ∧ Inv X pins σ H' s2 ∧ Turn X.prog X.w X.K tg J fp it tn ∧ tn 0 s2.heap ∧ (∀ b ∈ fp, FpOk X pins H' b) ∧ R J H'
noncomputable def PI (X : Cx) (tg iter : Expr) (wi : TI) : Prop :=
  ∀ (pins : List (Addr × Obj)) (s : Shared) (σ : St) (H : Hp) (R : It → Hp → Prop), Inv X pins σ H s → wi σ H R →
    wpAny (model X.prog X.w) X.A (eval iter X.env) (fun v s1 => wpAny (model X.prog X.w) X.A (pyIter v) (PIE X pins σ tg R) X.xe s1) X.xe s
theorem go_of {M : Model} {A : Around} {E : Value → Shared → Prop} {s : Shared} {tg : Expr} {it : Addr} {u : Value} {o : Obj} {n : String} {vs : Array Value} {Q : Unit → Shared → Prop} (ho : s.heap.get? it = some o) (hc : o.cls = .type n) (hd : o.data = .fields vs)
    (hn : ["enumerate", "zip", "dict_itemiterator", "dict_reverseitemiterator", "odict_iterator", "itertools.zip_longest", "itertools.pairwise"].contains n = false) (hQ : Q () s) : wpAny M A (letOwnedTupleGo tg (.ref it) u) Q E s := by
  unfold letOwnedTupleGo
  cases tg <;> first
    | exact wpAny_pure hQ
    | (cases u <;> first
        | exact wpAny_pure hQ
        | (refine wpAny_bind (wpAny_load ho ?_)
           rw [hc, hd]
           show wpAny M A (if (["enumerate", "zip", "dict_itemiterator", "dict_reverseitemiterator", "odict_iterator", "itertools.zip_longest", "itertools.pairwise"].contains n && vs[0]? == some (rawInt _)) = true then _ else _) Q E s
           rw [if_neg (by intro h; rw [hn, Bool.false_and] at h; cases h)]
           exact wpAny_pure hQ))
noncomputable def Itl (K : PySem.W.Frag) (a : Addr) : It :=
  ⟨fun i H => ∃ xs x, SqL K H a xs ∧ xs[i]? = some x, fun i H x H' => H' = H ∧ ∀ xs, SqL K H a xs → xs[i]? = some x, fun i H => ∃ xs, SqL K H a xs ∧ xs.length ≤ i⟩
noncomputable def Itr (lo : Int) (n : Nat) : It := ⟨fun i _ => i < n, fun i H x H' => H' = H ∧ x = .int (lo + i), fun i _ => n ≤ i⟩
theorem turn_list {P : Program} {w : World} {K : PySem.W.Frag} {tg : Expr} (a it : Addr) : Turn P w K tg (Itl K a) [it] it (fun i h => h.IsListIter it a i) where
  mem := by simp
  obj := fun i h st b hb => by
    have e : b = it := by simpa using hb
    subst e
    obtain ⟨o, e, c, d⟩ := st
    exact ⟨o, e, fun v z => by rw [d] at z; cases z⟩
  keep := fun i h h' st k => st.at fun o e => k it (by simp) o e
  item := by
    intro X hP hw hK hc i pins s σ H E I hf st hg
    subst hP hw hK
    obtain ⟨xs, x, hq, hx⟩ := hg
    obtain ⟨its, rv, p, hz⟩ := I.list hq
    obtain ⟨u, hu, ru⟩ := rv.get hx
    obtain ⟨f0, f1, f2, f3, f4, f5⟩ := hf it (by simp)
    refine wpAny_pyNext_list_item st p.isList (x := u) (by simpa using hu) fun h' st' sb => ?_
    have I1 : Inv X pins σ H { s with heap := h' } := I.turned (t' := s.toks) (fun b o hb e => (sb.2 b hb).trans e) f0 f1 f3 f4 f5
    obtain ⟨o, e, c, d⟩ := id st'
    exact ⟨u, rfl, go_of (s := { s with heap := h' }) e c d (by decide) ⟨x, H, I1, ru, ⟨rfl, fun ys hy => by rw [I.list_inj hy hq]; exact hx⟩, st', fun b hb => (hf b hb).1⟩⟩
  done := by
    intro X hP hw hK hc i pins s σ H E I hf st hg
    subst hP hw hK
    obtain ⟨xs, hq, hx⟩ := hg
    obtain ⟨its, rv, p, hz⟩ := I.list hq
    obtain ⟨f0, f1, f2, f3, f4, f5⟩ := hf it (by simp)
    have hl := rv.length
    exact wpAny_pyNext_list_end (I.ok.hd hc) st p.isList (by simp; omega) fun h' eb => ⟨rfl, I.turned (t' := s.toks) (fun b o hb e => eb b o hb e) f0 f1 f3 f4 f5⟩
  self := fun _ _ _ _ _ st h => wpAny_pyIter_listiter st h
theorem turn_range {P : Program} {w : World} {K : PySem.W.Frag} {tg : Expr} (it : Addr) (lo : Int) (n : Nat) : Turn P w K tg (Itr lo n) [it] it (fun i h => IsRangeIter h it (lo + (i : Nat) * 1) ((n : Int) - (i : Nat)) 1) where
  mem := by simp
  obj := fun i h st b hb => by
    have e : b = it := by simpa using hb
    subst e
    exact ⟨_, st, fun v z => by
      have z' : Data.fields _ = Data.cell v := z
      cases z'⟩
  keep := fun i h h' st k => k it (by simp) _ st
  item := by
    intro X hP hw hK hc i pins s σ H E I hf st hg
    subst hP hw hK
    obtain ⟨f0, f1, f2, f3, f4, f5⟩ := hf it (by simp)
    have W := Walks.range (prog := X.prog) (w := X.w) (I.ok.hd hc) it lo 1 n
    refine W.item i s _ _ hg st fun v h' tk hv st' kk => ?_
    obtain ⟨t, rfl⟩ := hv
    have I1 : Inv X pins σ H { s with heap := h', toks := tk } := I.turned (fun b o hb e => kk b o (by simpa using hb) e) f0 f1 f3 f4 f5
    refine ⟨_, rfl, go_of (s := { s with heap := h', toks := tk }) (n := "range_iterator") st' rfl rfl (by decide) ⟨.int (lo + i), H, I1, ⟨t, ?_⟩, ⟨rfl, rfl⟩, st', fun b hb => (hf b hb).1⟩⟩
    rw [Int.mul_one]
  done := by
    intro X hP hw hK hc i pins s σ H E I hf st hg
    subst hP hw hK
    obtain ⟨f0, f1, f2, f3, f4, f5⟩ := hf it (by simp)
    exact wpAny_pyNext_range_end (I.ok.hd hc) st (by have : n ≤ i := hg; omega) fun h' eb => ⟨rfl, I.turned (t' := s.toks) (fun b o hb e => eb b o hb e) f0 f1 f3 f4 f5⟩
  self := fun _ _ _ _ _ st h => wpAny_pyIter_rangeiter st h
end L2
namespace L2
open PySem PySem.Spec PyProof.Rows
section
variable {X : Cx} {tg : Expr}
noncomputable def iList (K : PySem.W.Frag) (tl : TE) : TI := fun σ H R => tl σ H fun x H1 => ∃ a, x = .ref a ∧ (∃ xs, SqL K H1 a xs) ∧ R (Itl K a) H1
theorem pi_list {l : Expr} {tl : TE} (hl : PE X l tl) : PI X tg l (iList X.K tl) := by
  intro pins s σ H R I h
  refine thn (hl pins s σ H _ I h) fun v s1 ⟨x, H1, I1, r1, q1⟩ => ?_
  obtain ⟨a, e, ⟨xs, hq⟩, q⟩ := q1
  subst e
  cases r1
  obtain ⟨its, rv, p, hz⟩ := I1.list hq
  refine wpAny_pyIter_list p.isList ?_
  refine ⟨s1.heap.objs.size, [s1.heap.objs.size], _, _, H1, rfl, I1.kept (t' := s1.toks) fun b o e => Heap.get?_push_of_some _ e, turn_list a _, ⟨_, Heap.get?_push_size _ rfl, rfl, rfl⟩, fun b hb => ?_, q⟩
  have e : b = s1.heap.objs.size := by simpa using hb
  subst e
  exact I1.fpOk (Nat.le_refl _) (I1.hok.fresh (Nat.le_refl _))
theorem range_it {pins : List (Addr × Obj)} {σ : St} {H : Hp} {s : Shared} {R : It → Hp → Prop} {E : Value → Shared → Prop} {lo hi : Int} {t u v : Tok} {tk : Nat} (I : Inv X pins σ H s) (h1 : -(2 ^ 62) ≤ lo) (h2 : lo < 2 ^ 62) (h3 : -(2 ^ 62) ≤ hi) (h4 : hi < 2 ^ 62)
    (q : R (Itr lo (hi - lo).toNat) H) : wpAny (model X.prog X.w) X.A (pyIter (.ref s.heap.objs.size)) (PIE X pins σ tg R) E { s with heap := s.heap.push { cls := .type "range", data := .fields #[.int lo t, .int hi u, .int 1 v] }, toks := tk } := by
  refine wpAny_pyIter_range (IsRange.new ..) (small_one h1 h2 h3 h4) ?_
  have I1 : Inv X pins σ H { s with heap := s.heap.push { cls := .type "range", data := .fields #[.int lo t, .int hi u, .int 1 v] }, toks := tk } := I.kept fun b o e => Heap.get?_push_of_some _ e
  refine ⟨(s.heap.push { cls := .type "range", data := .fields #[.int lo t, .int hi u, .int 1 v] }).objs.size, [(s.heap.push { cls := .type "range", data := .fields #[.int lo t, .int hi u, .int 1 v] }).objs.size], _, _, H, rfl,
    I1.kept (t' := tk) fun b o e => Heap.get?_push_of_some _ e, turn_range _ lo (hi - lo).toNat, ?_, fun b hb => ?_, q⟩
  · have e1 : lo + ((0 : Nat) : Int) * 1 = lo := by simp
    have e2 : (((hi - lo).toNat : Nat) : Int) - ((0 : Nat) : Int) = Builtin.Range.rangeSize lo hi 1 := by rw [rangeSize_one]; split <;> omega
    show IsRangeIter _ _ (lo + ((0 : Nat) : Int) * 1) ((((hi - lo).toNat : Nat) : Int) - ((0 : Nat) : Int)) 1
    rw [e1, e2]
    exact Heap.get?_push_size _ rfl
  · have e : b = (s.heap.push { cls := .type "range", data := .fields #[.int lo t, .int hi u, .int 1 v] }).objs.size := by simpa using hb
    subst e
    exact I1.fpOk (Nat.le_refl _) (I1.hok.fresh (Nat.le_refl _))
noncomputable def iRng1 (ta : TA) : TI := fun σ H R => ta σ H fun vs H1 => ∃ j : Int, vs = [.int j] ∧ -(2 ^ 62) ≤ j ∧ j < 2 ^ 62 ∧ R (Itr 0 j.toNat) H1
theorem pi_range1 {a : Expr} {ta : TA} {p pos : Pos} (hg : Gl X "range") (hm : X.mg "range" = none) (ha : PA X [a] ta) (hs : starEach [a] X.env = [(false, eval a X.env)] := by rfl) : PI X tg (.Call (.Name "range" p) [a] [] pos) (iRng1 ta) := by
  intro pins s σ H R I h
  refine Call_ (ld_blt I hg hm boot_range (PyProof.Rows.callWith_type1 (thn (ha pos pins s σ H _ I h) fun us s1 ⟨vs, H1, I1, r1, q1⟩ => ?_) hs rfl))
  obtain ⟨j, e, q1, q2, q⟩ := q1
  subst e
  cases r1 with
  | cons r rr =>
    cases rr
    obtain ⟨t, rfl⟩ := r
    exact call_range_1 (range_it I1 (by omega) (by omega) q1 q2 (by simpa using q))
noncomputable def tFor (wi : TI) (g : TG) (tb : TS) : TS := fun D σ H => wi σ H fun J H1 => ∃ W : Nat → Nat → St → Hp → Prop, (∃ m, W 0 m σ H1) ∧ ∀ i m σ H, W i m σ H →
  (J.stop i H ∧ D.nx σ H) ∨ (J.go i H ∧ ∃ N : St → Hp → Prop, (∀ σ' H', N σ' H' → ∃ m', m' < m ∧ W (i + 1) m' σ' H') ∧ ∀ x H', J.yld i H x H' → g x σ H' fun σ2 H2 => tb { D with nx := N, ct := N, bk := D.nx } σ2 H2)
noncomputable def pinsAt (fp : List Addr) (h : Heap) : List (Addr × Obj) := fp.filterMap fun b => (h.get? b).map fun o => (b, o)
theorem mem_pinsAt {fp : List Addr} {h : Heap} {b : Addr} {o : Obj} (hb : b ∈ fp) (e : h.get? b = some o) : (b, o) ∈ pinsAt fp h := List.mem_filterMap.mpr ⟨b, hb, by rw [e]; rfl⟩
theorem of_pinsAt {fp : List Addr} {h : Heap} {p : Addr × Obj} (hp : p ∈ pinsAt fp h) : p.1 ∈ fp ∧ h.get? p.1 = some p.2 := by
  obtain ⟨b, hb, e⟩ := List.mem_filterMap.mp hp
  cases q : h.get? b with
  | none => rw [q] at e; cases e
  | some o =>
    rw [q] at e
    have e' : (b, o) = p := Option.some.inj e
    subst e'
    exact ⟨hb, q⟩
theorem Inv.pinned {pins : List (Addr × Obj)} {σ : St} {H : Hp} {s : Shared} {fp : List Addr} (I : Inv X pins σ H s) (hf : ∀ b ∈ fp, FpOk X pins H b) (ho : ∀ b ∈ fp, ∃ o, s.heap.get? b = some o ∧ ∀ v, o.data ≠ .cell v) : Inv X (pins ++ pinsAt fp s.heap) σ H s :=
  I.pins_of fun p hp => (List.mem_append.mp hp).elim (fun z => I.pin p (List.mem_append_right _ z)) fun z => by
    obtain ⟨hb, e⟩ := of_pinsAt z
    obtain ⟨f0, f1, f2, _⟩ := hf p.1 hb
    obtain ⟨o, e', d⟩ := ho p.1 hb
    rw [e] at e'; cases e'
    exact ⟨e, f0, f1, f2, d⟩
theorem Inv.unpinned {pins pl : List (Addr × Obj)} {σ : St} {H : Hp} {s : Shared} (I : Inv X (pins ++ pl) σ H s) : Inv X pins σ H s := I.pins_of fun p hp => I.pin p (List.mem_append_right _ (List.mem_append_left _ hp))
theorem ps_for {iter : Expr} {body : List Stmt} {wi : TI} {g : TG} {tb : TS} {pos : Pos} (hp : PassesOwn (model X.prog X.w) X.A X.env X.xe) (hc : X.calm = true) (hi : PI X tg iter wi) (hg : PG X tg g) (hb : PSs X body tb)
    (hs : ∀ x, foldedSetIterable iter X.env x = pure x := by intro _; rfl) : PS X (.For tg iter body [] pos) (tFor wi g tb) := by
  intro pins s σ H D I h
  refine wpAny_For (thn (hi pins s σ H _ I h) fun v s1 h1 => thn h1 fun itv s2 h2 => ?_) hs
  obtain ⟨it, fp, tn, J, H2, e, I2, T, st2, f2, W, ⟨m0, w0⟩, turn⟩ := h2
  subst e
  -- what stays true of the iterator's objects through the loop
  have stat : ∀ {H' : Hp}, (∀ b ∈ fp, H' b = none) → ∀ b ∈ fp, FpOk X pins H' b := fun hn b hb => ⟨hn b hb, (f2 b hb).2⟩
  refine codeAny_forLoop_any (fun n s' => ∃ i σ' H', Inv X pins σ' H' s' ∧ tn i s'.heap ∧ (∀ b ∈ fp, H' b = none) ∧ W i n σ' H') ?_ m0 ⟨0, σ, H2, I2, st2, fun b hb => (f2 b hb).1, w0⟩
  rintro n s3 ⟨i, σ3, H3, I3, st3, fr3, w3⟩
  rcases turn i n σ3 H3 w3 with ⟨stop, qn⟩ | ⟨go, N, hN, step⟩
  · refine wpAny_passesOwn hp (thn (T.done X rfl rfl rfl hc i pins s3 σ3 H3 X.xe I3 (stat fr3) st3 stop) fun r s4 ⟨hr, I4⟩ => ?_)
    subst hr
    exact wpAny_execs_nil ⟨σ3, H3, I4, qn⟩
  · refine wpAny_passesOwn hp (thn (T.item X rfl rfl rfl hc i pins s3 σ3 H3 X.xe I3 (stat fr3) st3 go) fun r s4 ⟨u, hr, h4⟩ => ?_)
    subst hr
    refine wpAny_passesOwn hp (thn h4 fun _ s5 ⟨x, H5, I5, r5, y5, st5, fr5⟩ => ?_)
    have I5' := I5.pinned (stat fr5) (T.obj _ _ st5)
    refine wpAny_passesOwn hp (thn (hg _ s5 σ3 H5 x u _ I5' r5 (step x H5 y5)) fun _ s6 ⟨σ6, H6, I6, q6⟩ => ?_)
    refine wpAny_passesOwn hp (thn (hb _ s6 σ6 H6 _ I6 q6) fun f s7 q7 => ?_)
    have again : ∀ {σ7 : St} {H7 : Hp}, Inv X (pins ++ pinsAt fp s5.heap) σ7 H7 s7 → N σ7 H7 → ∃ m, m < n ∧ ∃ i σ' H', Inv X pins σ' H' s7 ∧ tn i s7.heap ∧ (∀ b ∈ fp, H' b = none) ∧ W i m σ' H' := fun {σ7 H7} I7 n7 => by
      obtain ⟨m', hm, w7⟩ := hN σ7 H7 n7
      refine ⟨m', hm, i + 1, σ7, H7, I7.unpinned, T.keep _ _ _ st5 fun b hb o e => (I7.pin (b, o) (List.mem_append_right _ (List.mem_append_right _ (mem_pinsAt hb e)))).1, fun b hb => ?_, w7⟩
      obtain ⟨o, e, d⟩ := T.obj _ _ st5 b hb
      exact (I7.pin (b, o) (List.mem_append_right _ (List.mem_append_right _ (mem_pinsAt hb e)))).2.1
    cases f with
    | next => obtain ⟨σ7, H7, I7, n7⟩ := q7; exact again I7 n7
    | cont => obtain ⟨σ7, H7, I7, n7⟩ := q7; exact again I7 n7
    | brk => obtain ⟨σ7, H7, I7, q7⟩ := q7; exact ⟨σ7, H7, I7.unpinned, q7⟩
    | ret v => obtain ⟨x7, σ7, H7, I7, r7, q7⟩ := q7; exact ⟨x7, σ7, H7, I7.unpinned, r7, q7⟩
end
theorem for_list {K : PySem.W.Frag} {a : Addr} {xs : List V} {g : TG} {tb : TS} {D : Ends} {σ : St} {H : Hp} (Pv : Nat → St → Hp → Prop) (h0 : Pv 0 σ H) (hl : ∀ i σ H, i ≤ xs.length → Pv i σ H → SqL K H a xs)
    (hs : ∀ i x σ H, xs[i]? = some x → Pv i σ H → g x σ H fun σ2 H2 => tb { D with nx := Pv (i + 1), ct := Pv (i + 1), bk := D.nx } σ2 H2) (hd : ∀ σ H, Pv xs.length σ H → D.nx σ H) :
    ∃ W : Nat → Nat → St → Hp → Prop, (∃ m, W 0 m σ H) ∧ ∀ i m σ H, W i m σ H →
      ((Itl K a).stop i H ∧ D.nx σ H) ∨ ((Itl K a).go i H ∧ ∃ N : St → Hp → Prop, (∀ σ' H', N σ' H' → ∃ m', m' < m ∧ W (i + 1) m' σ' H') ∧ ∀ x H', (Itl K a).yld i H x H' → g x σ H' fun σ2 H2 => tb { D with nx := N, ct := N, bk := D.nx } σ2 H2) := by
  refine ⟨fun i m σ H => m = xs.length - i ∧ i ≤ xs.length ∧ Pv i σ H, ⟨xs.length, by simp, Nat.zero_le _, h0⟩, ?_⟩
  rintro i m σ H ⟨rfl, hi, p⟩
  have q := hl i σ H hi p
  by_cases hlt : i < xs.length
  · refine .inr ⟨⟨xs, xs[i], q, by simp [hlt]⟩, Pv (i + 1), fun σ' H' p' => ⟨xs.length - (i + 1), by omega, rfl, hlt, p'⟩, fun x H' y => ?_⟩
    obtain ⟨e, y⟩ := y
    subst e
    exact hs i x σ _ (y xs q) p
  · have e : i = xs.length := by omega
    subst e
    exact .inl ⟨⟨xs, q, Nat.le_refl _⟩, hd σ H p⟩
theorem for_range {lo : Int} {n : Nat} {g : TG} {tb : TS} {D : Ends} {σ : St} {H : Hp} (Pv : Nat → St → Hp → Prop) (h0 : Pv 0 σ H)
    (hs : ∀ i σ H, i < n → Pv i σ H → g (.int (lo + i)) σ H fun σ2 H2 => tb { D with nx := Pv (i + 1), ct := Pv (i + 1), bk := D.nx } σ2 H2) (hd : ∀ σ H, Pv n σ H → D.nx σ H) :
    ∃ W : Nat → Nat → St → Hp → Prop, (∃ m, W 0 m σ H) ∧ ∀ i m σ H, W i m σ H →
      ((Itr lo n).stop i H ∧ D.nx σ H) ∨ ((Itr lo n).go i H ∧ ∃ N : St → Hp → Prop, (∀ σ' H', N σ' H' → ∃ m', m' < m ∧ W (i + 1) m' σ' H') ∧ ∀ x H', (Itr lo n).yld i H x H' → g x σ H' fun σ2 H2 => tb { D with nx := N, ct := N, bk := D.nx } σ2 H2) := by
  refine ⟨fun i m σ H => m = n - i ∧ i ≤ n ∧ Pv i σ H, ⟨n, by simp, Nat.zero_le _, h0⟩, ?_⟩
  rintro i m σ H ⟨rfl, hi, p⟩
  by_cases hlt : i < n
  · refine .inr ⟨hlt, Pv (i + 1), fun σ' H' p' => ⟨n - (i + 1), by omega, rfl, hlt, p'⟩, fun x H' y => ?_⟩
    obtain ⟨e, y⟩ := y
    subst e y
    exact hs i σ _ hlt p
  · have e : i = n := by omega
    subst e
    exact .inl ⟨Nat.le_refl _, hd σ H p⟩
theorem while_by {c : TT} {tb : TS} {D : Ends} {σ : St} {H : Hp} (Pv : St → Hp → Prop) (μ : St → Hp → Nat) (h0 : Pv σ H)
    (hs : ∀ σ H, Pv σ H → c σ H fun b H1 => if b = true then tb { D with nx := fun σ' H' => Pv σ' H' ∧ μ σ' H' < μ σ H, ct := fun σ' H' => Pv σ' H' ∧ μ σ' H' < μ σ H, bk := D.nx } σ H1 else D.nx σ H1)
    (mono : ∀ σ H Q Q', (∀ b H1, Q b H1 → Q' b H1) → c σ H Q → c σ H Q') : tWhile c tb D σ H := by
  refine ⟨fun m σ H => m = μ σ H ∧ Pv σ H, ⟨_, rfl, h0⟩, ?_⟩
  rintro m σ H ⟨rfl, p⟩
  refine mono σ H _ _ (fun b H1 q => ?_) (hs σ H p)
  cases b with
  | true => exact ⟨_, fun σ' H' ⟨p', l⟩ => ⟨_, l, rfl, p'⟩, q⟩
  | false => exact q
end L2
namespace L2
open PySem PySem.Spec PyProof.Rows
noncomputable abbrev R2 := V → V → Hp → VK → Prop
noncomputable def OpR (X : Cx) (f : Value → Value → Sem Value) (r : R2) : Prop :=
  ∀ (pins : List (Addr × Obj)) (s : Shared) (σ : St) (H : Hp) (x y : V) (v u : Value) (Q : VK), Inv X pins σ H s → RelV x v → RelV y u → r x y H Q →
    wpAny (model X.prog X.w) X.A (f v u) (EP X pins σ Q) X.xe s
noncomputable def UnR (X : Cx) (f : Value → Sem Value) (r : V → Hp → VK → Prop) : Prop :=
  ∀ (pins : List (Addr × Obj)) (s : Shared) (σ : St) (H : Hp) (x : V) (v : Value) (Q : VK), Inv X pins σ H s → RelV x v → r x H Q →
    wpAny (model X.prog X.w) X.A (f v) (EP X pins σ Q) X.xe s
noncomputable def CallR (X : Cx) (f : Value) (r : List V → Hp → VK → Prop) : Prop :=
  ∀ (pins : List (Addr × Obj)) (s : Shared) (σ : St) (H : Hp) (xs : List V) (us : List Value) (Q : VK), Inv X pins σ H s → Vals xs us → r xs H Q →
    wpAny (model X.prog X.w) X.A (call f us) (EP X pins σ Q) X.xe s
noncomputable def tOp (r : R2) (ta tb : TE) : TE := fun σ H Q => ta σ H fun x H1 => tb σ H1 fun y H2 => r x y H2 Q
noncomputable def tUn (r : V → Hp → VK → Prop) (ta : TE) : TE := fun σ H Q => ta σ H fun x H1 => r x H1 Q
noncomputable def rI (C : Int → Int → Prop) (g : Int → Int → V) : R2 := fun x y H Q => ∃ i j, x = .int i ∧ y = .int j ∧ C i j ∧ Q (g i j) H
noncomputable def rI0 (g : Int → Int → V) : R2 := fun x y H Q => ∃ i j, x = .int i ∧ y = .int j ∧ Q (g i j) H
noncomputable def rU (g : Int → V) : V → Hp → VK → Prop := fun x H Q => ∃ i, x = .int i ∧ Q (g i) H
section
variable {X : Cx} {a b c : Expr} {ta tb tc : TE} {pos : Pos}
theorem binT (ha : PE X a ta) (hb : PE X b tb) {pins : List (Addr × Obj)} {s : Shared} {σ : St} {H : Hp} {R : V → V → Hp → Prop} (I : Inv X pins σ H s)
    (h : ta σ H fun x H1 => tb σ H1 fun y H2 => R x y H2) {Q : Value → Shared → Prop} {f : Value → Value → Sem Value}
    (hf : ∀ v u s2 x y H2, Inv X pins σ H2 s2 → RelV x v → RelV y u → R x y H2 → wpAny (model X.prog X.w) X.A (f v u) Q X.xe s2) :
    wpAny (model X.prog X.w) X.A (eval a X.env) (fun v s₁ => wpAny (model X.prog X.w) X.A (eval b X.env) (fun u s₂ => wpAny (model X.prog X.w) X.A (f v u) Q X.xe s₂) X.xe s₁) X.xe s := by
  refine thn (ha pins s σ H _ I h) fun v s1 ⟨x, H1, I1, r1, q1⟩ => ?_
  refine thn (hb pins s1 σ H1 _ I1 q1) fun u s2 ⟨y, H2, I2, r2, q2⟩ => ?_
  exact hf v u s2 x y H2 I2 r1 r2 q2
theorem pe_op {op : Operator} {r : R2} (ho : OpR X (binaryOp op) r) (ha : PE X a ta) (hb : PE X b tb) : PE X (.BinOp a op b pos) (tOp r ta tb) := by
  intro pins s σ H Q I h
  exact wpAny_BinOp (binT ha hb I h fun v u s2 x y H2 I2 rx ry q => ho pins s2 σ H2 x y v u Q I2 rx ry q)
theorem pe_un {op : UnaryOp} {r : V → Hp → VK → Prop} (ho : UnR X (unaryOp op) r) (ha : PE X a ta) : PE X (.UnaryOp op a pos) (tUn r ta) := by
  intro pins s σ H Q I h
  exact UnaryOp_ (thn (ha pins s σ H _ I h) fun v s1 ⟨x, H1, I1, r1, q1⟩ => ho pins s1 σ H1 x v Q I1 r1 q1)
theorem opI {f : Value → Value → Sem Value} {C : Int → Int → Prop} {g : Int → Int → Int}
    (rule : ∀ (i j : Int) (t u : Tok) (s : Shared) (Q : Value → Shared → Prop) (E : Value → Shared → Prop), C i j → Q (.int (g i j) s.toks) { s with toks := s.toks + 1 } → wpAny (model X.prog X.w) X.A (f (.int i t) (.int j u)) Q E s) :
    OpR X f (rI C fun i j => .int (g i j)) := by
  intro pins s σ H x y v u Q I rx ry h
  obtain ⟨i, j, rfl, rfl, hc, q⟩ := h
  obtain ⟨t, rfl⟩ := rx
  obtain ⟨t', rfl⟩ := ry
  exact rule i j t t' s _ _ hc ⟨.int (g i j), H, I.tok _, ⟨_, rfl⟩, q⟩
theorem opI0 {f : Value → Value → Sem Value} {g : Int → Int → Int}
    (rule : ∀ (i j : Int) (t u : Tok) (s : Shared) (Q : Value → Shared → Prop) (E : Value → Shared → Prop), Q (.int (g i j) s.toks) { s with toks := s.toks + 1 } → wpAny (model X.prog X.w) X.A (f (.int i t) (.int j u)) Q E s) :
    OpR X f (rI0 fun i j => .int (g i j)) := by
  intro pins s σ H x y v u Q I rx ry h
  obtain ⟨i, j, rfl, rfl, q⟩ := h
  obtain ⟨t, rfl⟩ := rx
  obtain ⟨t', rfl⟩ := ry
  exact rule i j t t' s _ _ ⟨.int (g i j), H, I.tok _, ⟨_, rfl⟩, q⟩
theorem opB0 {f : Value → Value → Sem Value} {g : Int → Int → Bool}
    (rule : ∀ (i j : Int) (t u : Tok) (s : Shared) (Q : Value → Shared → Prop) (E : Value → Shared → Prop), Q (.bool (g i j)) s → wpAny (model X.prog X.w) X.A (f (.int i t) (.int j u)) Q E s) :
    OpR X f (rI0 fun i j => .bl (g i j)) := by
  intro pins s σ H x y v u Q I rx ry h
  obtain ⟨i, j, rfl, rfl, q⟩ := h
  obtain ⟨t, rfl⟩ := rx
  obtain ⟨t', rfl⟩ := ry
  exact rule i j t t' s _ _ ⟨.bl (g i j), H, I, rfl, q⟩
noncomputable def CMul (i j : Int) : Prop := (-(2 ^ 64) < i ∧ i < 2 ^ 64) ∨ (-(2 ^ 64) < j ∧ j < 2 ^ 64)
theorem CMul.ok {i j : Int} (h : CMul i j) : IntMulOk i j := by
  rcases h with ⟨h1, h2⟩ | ⟨h1, h2⟩
  · exact .of_left (intBits_le_64 h1 h2)
  · exact .of_right (intBits_le_64 h1 h2)
theorem op_add : OpR X (binaryOp .Add) (rI0 fun i j => .int (i + j)) := opI0 fun _ _ _ _ _ _ _ q => add_int q
theorem op_sub : OpR X (binaryOp .Sub) (rI0 fun i j => .int (i - j)) := opI0 fun _ _ _ _ _ _ _ q => sub_int q
theorem op_mul : OpR X (binaryOp .Mult) (rI CMul fun i j => .int (i * j)) := opI fun _ _ _ _ _ _ _ hc q => mul_int q hc.ok
theorem op_mod : OpR X (binaryOp .Mod) (rI (fun _ j => 0 < j) fun i j => .int (i % j)) := opI fun i j _ _ _ _ _ hc q => by
  have h1 : (0 : Int) < j := hc
  exact mod_int' (by omega) (by rw [Int.fmod_eq_emod_of_nonneg i (by omega)]; exact q)
theorem unI {f : Value → Sem Value} {g : Int → Int}
    (rule : ∀ (i : Int) (t : Tok) (s : Shared) (Q : Value → Shared → Prop) (E : Value → Shared → Prop), Q (.int (g i) s.toks) { s with toks := s.toks + 1 } → wpAny (model X.prog X.w) X.A (f (.int i t)) Q E s) :
    UnR X f (rU fun i => .int (g i)) := by
  intro pins s σ H x v Q I rx h
  obtain ⟨i, rfl, q⟩ := h
  obtain ⟨t, rfl⟩ := rx
  exact rule i t s _ _ ⟨.int (g i), H, I.tok _, ⟨_, rfl⟩, q⟩
theorem un_neg : UnR X (unaryOp .USub) (rU fun i => .int (-i)) := unI fun _ _ _ _ _ q => neg_int q
end
section
variable {X : Cx} {a b c : Expr} {ta tb tc : TE} {pos : Pos}
theorem op_lt : OpR X (compareOp .Lt) (rI0 fun i j => .bl (decide (i < j))) := opB0 fun _ _ _ _ _ _ _ q => lt_int q
theorem op_le : OpR X (compareOp .LtE) (rI0 fun i j => .bl (decide (i ≤ j))) := opB0 fun _ _ _ _ _ _ _ q => le_int q
theorem op_gt : OpR X (compareOp .Gt) (rI0 fun i j => .bl (decide (j < i))) := opB0 fun _ _ _ _ _ _ _ q => gt_int q
theorem op_ge : OpR X (compareOp .GtE) (rI0 fun i j => .bl (decide (j ≤ i))) := opB0 fun _ _ _ _ _ _ _ q => ge_int q
theorem nomark (b : Expr) {op : CmpOp} (h : op ≠ .In := by decide) (h2 : op ≠ .NotIn := by decide) : behindInMarks op b = false := by
  have e1 : (op == CmpOp.In) = false := by cases op <;> first | rfl | exact absurd rfl h
  have e2 : (op == CmpOp.NotIn) = false := by cases op <;> first | rfl | exact absurd rfl h2
  cases b <;> simp [behindInMarks, e1, e2]
theorem pe_cmpR {op : CmpOp} {r : R2} (ho : OpR X (compareOp op) r) (ha : PE X a ta) (hb : PE X b tb) (hm : behindInMarks op b = false) : PE X (.Compare a [op] [b] pos) (tOp r ta tb) := by
  intro pins s σ H Q I h
  exact wpAny_Compare1 (binT ha hb I h fun v u s2 x y H2 I2 rx ry q => ho pins s2 σ H2 x y v u Q I2 rx ry q) hm
noncomputable def tTest (t : TE) : TT := fun σ H Q => t σ H fun x H' => ∃ k, x = .bl k ∧ Q k H'
theorem pt_cmpR {op : CmpOp} {r : R2} (ho : OpR X (compareOp op) r) (ha : PE X a ta) (hb : PE X b tb) (hm : behindInMarks op b = false) : PT X (.Compare a [op] [b] pos) (tTest (tOp r ta tb)) := by
  intro pins s σ H Q I h
  refine wpAny_isTrue_Compare1 (thn (ha pins s σ H _ I h) fun v s1 ⟨x, H1, I1, r1, q1⟩ => thn (hb pins s1 σ H1 _ I1 q1) fun u s2 ⟨y, H2, I2, r2, q2⟩ =>
    thn (ho pins s2 σ H2 x y v u _ I2 r1 r2 q2) fun c s3 ⟨z, H3, I3, r3, k, e, q3⟩ => ?_) hm
  subst e
  cases r3
  exact wpAny_truthy_bool ⟨H3, I3, q3⟩
noncomputable def tChain (r r' : R2) (ta tb tc : TE) : TE := fun σ H Q => ta σ H fun x H1 => tb σ H1 fun y H2 => r x y H2 fun z H3 => ∃ k, z = .bl k ∧
  (if k = true then tc σ H3 fun w' H4 => r' y w' H4 Q else Q (.bl false) H3)
theorem pt_chain {op op' : CmpOp} {r r' : R2} (ho : OpR X (compareOp op) r) (ho' : OpR X (compareOp op') r') (ha : PE X a ta) (hb : PE X b tb) (hc : PE X c tc)
    (hm : lastMarks [op, op'] [b, c] = false := by with_unfolding_all rfl) : PT X (.Compare a [op, op'] [b, c] pos) (tTest (tChain r r' ta tb tc)) := by
  intro pins s σ H Q I h
  refine isTrue_chain (thn (ha pins s σ H _ I h) fun v s1 ⟨x, H1, I1, r1, q1⟩ => test_link (thn (hb pins s1 σ H1 _ I1 q1) fun u s2 ⟨y, H2, I2, r2, q2⟩ =>
    thn (ho pins s2 σ H2 x y v u _ I2 r1 r2 q2) fun d s3 ⟨z, H3, I3, r3, k, e, q3⟩ => ?_)) hm
  subst e
  cases r3
  refine wpAny_truthy_bool ?_
  cases k with
  | false =>
    obtain ⟨k', e', q'⟩ := q3
    cases e'
    exact ite_ff ⟨H3, I3, q'⟩
  | true =>
    refine ite_tt (test_last (thn (hc pins s3 σ H3 _ I3 q3) fun w' s4 ⟨z', H4, I4, r4, q4⟩ => thn (ho' pins s4 σ H4 y z' u w' _ I4 r2 r4 q4) fun d' s5 ⟨z2, H5, I5, r5, k2, e2, q5⟩ => ?_))
    subst e2
    cases r5
    exact wpAny_truthy_bool ⟨H5, I5, q5⟩
theorem line63 : (sizeLine : Nat) < 2 ^ 63 := by rw [sizeLine_eq]; decide
theorem vals1 {x : V} {us : List Value} (r : Vals [x] us) : ∃ u, us = [u] ∧ RelV x u := by
  cases r with
  | cons r1 r2 => cases r2; exact ⟨_, rfl, r1⟩
theorem call_abs : CallR X (.builtin "abs") (fun xs H Q => ∃ i, xs = [.int i] ∧ Q (.int (if i < 0 then -i else i)) H) := by
  intro pins s σ H xs us Q I r h
  obtain ⟨i, rfl, q⟩ := h
  obtain ⟨u, rfl, t, rfl⟩ := vals1 r
  exact call_abs_int fun u tk => ⟨.int (if i < 0 then -i else i), H, I.tok _, ⟨_, rfl⟩, q⟩
end
end L2
namespace L2
open PySem PySem.Spec PyProof.Rows
section
variable {prog : Program} {w : World} {A : Around} {E : Value → Shared → Prop} {s : Shared} {K : PySem.W.Frag} {x dx C f : Addr} {mA : Str → Option Value} {name : Str} {v : Value}
end
theorem RelO.some_of {v : V} {o : Option Value} (r : RelO (some v) o) : ∃ u, o = some u ∧ RelV v u := by
  cases o with
  | none => exact (show False from r).elim
  | some u => exact ⟨u, rfl, r⟩
section
variable {P : Program} {w : World} {H H' : Hp} {h h' : Heap} {a C dx : Addr} {fs fs' : List (Str × V)}
end
section
variable {X : Cx} {pins : List (Addr × Obj)} {σ : St} {H : Hp} {s : Shared} {a C dx : Addr} {fs : List (Str × V)} {f : Str} {v : V} {A : Around} {E : Value → Shared → Prop}
end
section
variable {X : Cx} {o e value : Expr} {f : Str} {pos pos' tpos : Pos} {ta tv : TE}
end
section
variable {X : Cx} {pins : List (Addr × Obj)} {σ : St} {H : Hp} {s : Shared} {A : Around} {E : Value → Shared → Prop} {Q : Value → Shared → Prop} {c : Value} {b : Bool}
end
end L2
namespace L2
open PySem PySem.Spec PyProof.Rows
structure Room (k : Nat) (A : Around) : Prop where
  hd : A.handled = none
  dp : A.depth + 3 * k + 5 < recursionLimit
  un : A.units + 16 * k + 200 < cLine
theorem Room.mono {j k : Nat} {A : Around} (r : Room k A) (h : j ≤ k) : Room j A := ⟨r.hd, by have := r.dp; omega, by have := r.un; omega⟩
theorem Room.deeper {k : Nat} {A : Around} (r : Room (k + 1) A) (env : Env) : Room k (A.deeper env) :=
  ⟨r.hd, by have := r.dp; show A.depth + 1 + 3 * k + 5 < _; omega, by have := r.un; show A.units + 3 + 16 * k + 200 < _; omega⟩
theorem Room.depth {k : Nat} {A : Around} (r : Room k A) : A.depth < recursionLimit := by have := r.dp; omega
theorem Room.units {k : Nat} {A : Around} (r : Room k A) : A.units + 64 < cLine := by have := r.un; omega
noncomputable def tNil : TA := fun _ H Q => Q [] H
noncomputable def tCons (ta : TE) (tr : TA) : TA := fun σ H Q => ta σ H fun x H1 => tr σ H1 fun xs H2 => Q (x :: xs) H2
section
variable {X : Cx} {e : Expr} {es : List Expr} {te : TE} {t : TA} {pos : Pos}
theorem pa_nil : PA X [] tNil := fun _ _ _ _ H Q I h => Calls.spliced_nil ⟨[], H, I, .nil, h⟩
theorem pa_cons (ha : PE X e te) (hr : PA X es t) (hs : starEach (e :: es) X.env = (false, eval e X.env) :: starEach es X.env := by rfl) : PA X (e :: es) (tCons te t) := by
  intro pos pins s σ H Q I h
  rw [hs]
  show wpAny _ _ (spliced ((false, eval e X.env) :: backTo pos (starEach es X.env))) _ _ s
  refine Calls.spliced_cons (thn (ha pins s σ H _ I h) fun u s1 ⟨x, H1, I1, r1, q1⟩ => ?_)
  exact thn (hr pos pins s1 σ H1 _ I1 q1) fun us s2 ⟨xs, H2, I2, r2, q2⟩ => ⟨x :: xs, H2, I2, .cons r1 r2, q2⟩
noncomputable def tLst (t : TA) : TE := fun σ H Q => t σ H fun xs H1 => xs.length ≤ sizeLine ∧ ∀ p, H1 p = none → Q (.ref p) (upd H1 p (.lst xs))
theorem pe_lst (h : PA X es t) : PE X (.List es pos) (tLst t) := by
  intro pins s σ H Q I hq
  refine wpAny_List_spliced (thn (h pos pins s σ H _ I hq) fun us s1 ⟨xs, H1, I1, r, z, q⟩ => ⟨by rw [← r.length]; exact z, ?_⟩)
  have hf : H1 s1.heap.objs.size = none := I1.hok.fresh (Nat.le_refl _)
  refine ⟨.ref s1.heap.objs.size, upd H1 s1.heap.objs.size (.lst xs), I1.laid (t' := s1.toks) (fun b u e => Heap.get?_push_of_some _ e) (Nat.le_refl _) ?_, rfl, q _ hf⟩
  exact ⟨z, us, 0, r, Heap.get?_push_size _ rfl⟩
end
noncomputable abbrev Sp := List V → Hp → VK → XK → Prop
noncomputable abbrev CXT := List Env → Hp → Shared → XK → Value → Shared → Prop
structure Env0 (P : Program) (w : World) (K : PySem.W.Frag) (mg : Str → Option Value) (base : Heap) (A : Around) (outer : List Env) (s : Shared) (H : Hp) : Prop where
  frames : A.frames = some outer
  mod : Mod K mg base
  bs : ∀ b o, base.get? b = some o → s.heap.get? b = some o ∧ H b = none
  bsz : base.objs.size ≤ s.heap.objs.size
  funs : s.heap.FunFrames base outer
  frf : ∀ b ∈ frs outer, H b = none
  hok : HOk P w H s.heap
  bare : AllBare s.gens
noncomputable def CE (outer : List Env) (P : Program) (w : World) (H : Hp) (s : Shared) (Q : VK) (u : Value) (s' : Shared) : Prop :=
  ∃ v H', s'.os = s.os ∧ AllBare s'.gens ∧ Un (frs outer) [] H H' s.heap s'.heap ∧ HOk P w H' s'.heap ∧ RelV v u ∧ Q v H'
noncomputable def CR (CX : CXT) (outer : List Env) (P : Program) (w : World) (H : Hp) (s : Shared) (Q : VK) (E : XK) (r : Result) (s' : Shared) : Prop :=
  match r with
  | .ok (.ret u) => CE outer P w H s Q u s'
  | .ok _ => False
  | .error e => CX outer H s E e s'
structure FnOk (P : Program) (w : World) (K : PySem.W.Frag) (mg : Str → Option Value) (base : Heap) (CX : CXT) (k : Nat) (f : Addr) (fd : FuncData) (ps : List Str) (sp : Sp) : Prop where
  len : ∀ vs H Q E, sp vs H Q E → vs.length = ps.length
  run : ∀ (A : Around) (outer : List Env) (s : Shared) (H : Hp) (args : Args) (us : List Value) (vs : List V) (Q : VK) (E : XK), Room k A → Env0 P w K mg base A outer s H → BindsTo s fd args (ps.zip us) → Vals vs us → sp vs H Q E →
    codeAny (model P w) A (.call (.ref f) args) (CR CX outer P w H s Q E) s
theorem FnOk.mono {P : Program} {w : World} {K : PySem.W.Frag} {mg : Str → Option Value} {base : Heap} {CX : CXT} {j k : Nat} {f : Addr} {fd : FuncData} {ps : List Str} {sp : Sp} (F : FnOk P w K mg base CX j f fd ps sp) (h : j ≤ k) :
    FnOk P w K mg base CX k f fd ps sp := ⟨F.len, fun A outer s H args us vs Q E hr => F.run A outer s H args us vs Q E (hr.mono h)⟩
theorem FnOk.imp {P : Program} {w : World} {K : PySem.W.Frag} {mg : Str → Option Value} {base : Heap} {CX : CXT} {k : Nat} {f : Addr} {fd : FuncData} {ps : List Str} {sp sp' : Sp} (F : FnOk P w K mg base CX k f fd ps sp)
    (h : ∀ vs H Q E, sp' vs H Q E → sp vs H Q E) : FnOk P w K mg base CX k f fd ps sp' :=
  ⟨fun vs H Q E q => F.len vs H Q E (h _ _ _ _ q), fun A outer s H args us vs Q E hr he hb hv hs => F.run A outer s H args us vs Q E hr he hb hv (h _ _ _ _ hs)⟩
section
variable {X : Cx} {pins : List (Addr × Obj)} {σ : St} {H : Hp} {s s' : Shared}
theorem Inv.env0 (I : Inv X pins σ H s) : Env0 X.prog X.w X.K X.mg X.base X.A X.stack s H :=
  ⟨I.ok.frames, I.ok.mod, I.bs, Nat.le_trans I.ok.bsz I.sz, I.stack, I.stkFree, I.hok, I.bare⟩
theorem Inv.after {Q : VK} {u : Value} (I : Inv X pins σ H s) (h : CE X.stack X.prog X.w H s Q u s') : EP X pins σ Q u s' := by
  obtain ⟨v, H', os, bare, un, hok, r, q⟩ := h
  obtain ⟨hh, g, d, t, os'⟩ := s'
  obtain rfl : os' = s.os := os
  exact ⟨v, H', I.call (h' := hh) (g' := g) (d' := d) (t' := t) (ch := []) un hok bare (fun b z => absurd z (by simp)), r, q⟩
end
noncomputable def tCall (sp : Sp) (dvs : List V) (E : XK) (t : TA) : TE := fun σ H Q => t σ H fun vs H1 => sp (vs ++ dvs) H1 Q E
noncomputable def Binds (K : PySem.W.Frag) (fd : FuncData) (ps : List Str) (ds : List Value) : Prop :=
  ∀ (s : Shared) (us : List Value), K.In s.heap → (us ++ ds).length = ps.length → BindsTo s fd ⟨us, []⟩ (ps.zip (us ++ ds))
theorem Binds.all {K : PySem.W.Frag} {fd : FuncData} {ps : List Str} (h : ∀ us : List Value, us.length = ps.length → bindArgs fd ⟨us, []⟩ = pure (ps.zip us)) : Binds K fd ps [] := fun s us _ hl => by
  rw [List.append_nil] at hl ⊢
  exact .of_eq (h us hl)
noncomputable def Passes (CX : CXT) (X : Cx) (E : XK) : Prop := ∀ (pins : List (Addr × Obj)) (σ : St) (H : Hp) (s : Shared) (e : Value) (s' : Shared), Inv X pins σ H s → CX X.stack H s E e s' → X.xe e s'
section
variable {X : Cx} {CX : CXT} {k : Nat} {f C : Addr} {fd : FuncData} {ps : List Str} {sp : Sp} {dvs : List V} {ds : List Value} {E : XK} {x m : Str} {p pos apos : Pos} {e o : Expr} {es : List Expr} {ta : TE} {t : TA}
theorem run_fn {pins : List (Addr × Obj)} {σ : St} {H : Hp} {s : Shared} {Q : VK} {us : List Value} {vs : List V} (F : FnOk X.prog X.w X.K X.mg X.base CX k f fd ps sp) (hr : Room k X.A) (hb : Binds X.K fd ps ds) (hd : Vals dvs ds) (hx : Passes CX X E)
    (I : Inv X pins σ H s) (r : Vals vs us) (h : sp (vs ++ dvs) H Q E) : wpAny (model X.prog X.w) X.A (call (.ref f) us) (EP X pins σ Q) X.xe s := by
  have r2 : Vals (vs ++ dvs) (us ++ ds) := r.append hd
  have hl : (us ++ ds).length = ps.length := by rw [← r2.length]; exact F.len _ _ _ _ h
  refine wpAny_call (codeAny_mono (F.run X.A X.stack s H ⟨us, []⟩ (us ++ ds) (vs ++ dvs) Q E hr I.env0 (hb s us I.kIn hl) r2 h) fun r s' hq => ?_)
  cases r with
  | error e => exact hx pins σ H s e s' I hq
  | ok fl =>
    cases fl with
    | ret u => exact I.after hq
    | next => exact False.elim hq
    | brk => exact False.elim hq
    | cont => exact False.elim hq
theorem pe_call (F : FnOk X.prog X.w X.K X.mg X.base CX k f fd ps sp) (hr : Room k X.A) (hg : Gl X x) (hm : X.mg x = some (.ref f)) (hk : PySem.W.keepIn X.K (.ref f) = true) (hb : Binds X.K fd ps ds) (hd : Vals dvs ds) (hx : Passes CX X E)
    (ha : PA X (e :: es) t) (hdb : (x == ("__debug__" : Str)) = false := by decide) (he : starEach (e :: es) X.env = (false, eval e X.env) :: starEach es X.env := by rfl) (hpl : (backTo pos (starEach es X.env)).any (·.1) = false := by rfl) :
    PE X (.Call (.Name x p) (e :: es) [] pos) (tCall sp dvs E t) := by
  intro pins s σ H Q I h
  refine wpAny_Call_Name_kw (ld_glob I hg hm ?_ hdb)
  refine PySem.W.callWith_K (h₀ := X.base) I.ok.mod.kin hk (thn (ha pos pins s σ H _ I h) fun us s1 ⟨vs, H1, I1, r, q⟩ => ⟨I1.kIn, ?_⟩) he hpl
  exact run_fn F hr hb hd hx I1 r q
end
section
variable {X : Cx} {CX : CXT} {k : Nat} {f C : Addr} {fd : FuncData} {ps ks : List Str} {sp : Sp} {E : XK} {x m : Str} {p pos apos kpos : Pos} {e o : Expr} {es : List Expr} {kws : List Keyword} {te ta : TE} {t tk : TA} {nm : Option Str}
variable {g : List Value → List Value → List Value} {gV : List V → List V → List V}
end
structure FnScope (N P : List Str) (sc : Scope) : Prop where
  kind : sc.kind = .function
  co : sc.isCoroutine = false
  gen : sc.isGenerator = false
  nd : N.Nodup
  pre : N.take P.length = P
  par : ∀ x ∈ P, sc.names.lookup x = some .local ∨ sc.names.lookup x = some .cell
  nofree : ∀ y ∈ sc.names, y.2 ≠ .free
theorem bindL_out {kindOf : Str → Option NameKind} {x : Str} : ∀ {binds : List (Str × Value)} {m : Str → Option Value}, (∀ v, (x, v) ∉ binds) → bindL kindOf binds m x = m x
  | [], _, _ => rfl
  | (n, v) :: r, m, h => by
    unfold bindL
    rw [bindL_out fun w hw => h w (List.mem_cons_of_mem _ hw)]
    split
    · have : x ≠ n := by rintro rfl; exact h v List.mem_cons_self
      simp [this]
    · rfl
theorem bindC_out {kindOf : Str → Option NameKind} {x : Str} : ∀ {binds : List (Str × Value)} {m : Str → Option Value}, (∀ v, (x, v) ∉ binds) → bindC kindOf binds m x = m x
  | [], _, _ => rfl
  | (n, v) :: r, m, h => by
    unfold bindC
    rw [bindC_out fun w hw => h w (List.mem_cons_of_mem _ hw)]
    split
    · rfl
    · have : x ≠ n := by rintro rfl; exact h v List.mem_cons_self
      simp [this]
theorem bindL_get {kindOf : Str → Option NameKind} {x : Str} {v : Value} : ∀ {P : List Str} {vs : List Value} {i : Nat} {m : Str → Option Value}, P.Nodup → P[i]? = some x → vs[i]? = some v → kindOf x = some .local →
    bindL kindOf (P.zip vs) m x = some v
  | [], _, _, _, _, h, _, _ => by simp at h
  | _ :: _, [], _, _, _, _, h, _ => by simp at h
  | p :: P, w :: vs, 0, m, nd, h1, h2, hk => by
    simp at h1 h2; subst h1; subst h2
    show bindL kindOf ((p, w) :: P.zip vs) m p = _
    unfold bindL
    rw [bindL_out fun v hv => (List.nodup_cons.mp nd).1 (List.of_mem_zip hv).1, if_pos hk]
    simp
  | p :: P, w :: vs, i + 1, m, nd, h1, h2, hk => by
    show bindL kindOf ((p, w) :: P.zip vs) m x = _
    unfold bindL
    exact bindL_get (i := i) (List.nodup_cons.mp nd).2 (by simpa using h1) (by simpa using h2) hk
theorem bindC_get {kindOf : Str → Option NameKind} {x : Str} {v : Value} : ∀ {P : List Str} {vs : List Value} {i : Nat} {m : Str → Option Value}, P.Nodup → P[i]? = some x → vs[i]? = some v → kindOf x ≠ some .local →
    bindC kindOf (P.zip vs) m x = some v
  | [], _, _, _, _, h, _, _ => by simp at h
  | _ :: _, [], _, _, _, _, h, _ => by simp at h
  | p :: P, w :: vs, 0, m, nd, h1, h2, hk => by
    simp at h1 h2; subst h1; subst h2
    show bindC kindOf ((p, w) :: P.zip vs) m p = _
    unfold bindC
    rw [bindC_out fun v hv => (List.nodup_cons.mp nd).1 (List.of_mem_zip hv).1, if_neg hk]
    simp
  | p :: P, w :: vs, i + 1, m, nd, h1, h2, hk => by
    show bindC kindOf ((p, w) :: P.zip vs) m x = _
    unfold bindC
    exact bindC_get (i := i) (List.nodup_cons.mp nd).2 (by simpa using h1) (by simpa using h2) hk
noncomputable def start (N : List Str) (vs : List V) : St := vs.map some ++ List.replicate (N.length - vs.length) none
noncomputable def cxOf (CX : CXT) (P : Program) (w : World) (K : PySem.W.Frag) (mg : Str → Option Value) (base : Heap) (N : List Str) (qual : Str) (scope : Scope) (f : Addr) (cd : Value) (A : Around) (outer : List Env) (s : Shared) (H : Hp) (E : XK) : Cx where
  prog := P
  w := w
  K := K
  mg := mg
  base := base
  A := A.deeper (envOfC qual scope s.heap.objs.size f cd)
  N := N
  s_0 := s
  H_0 := H
  env := envOfC qual scope s.heap.objs.size f cd
  outer := outer
  stack := envOfC qual scope s.heap.objs.size f cd :: outer
  ex := []
  calm := true
  fn := fun _ => true
  pn := []
  xe := fun e s' => wpAny (model P w) (A.deeper (envOfC qual scope s.heap.objs.size f cd)) (leaving (envOfC qual scope s.heap.objs.size f cd) e) (fun _ s'' => CX outer H s E e s'') (fun e' s'' => CX outer H s E e' s'') s'
theorem cell_has {sc : Scope} {n : Nat} {x : Str} (h : sc.names.lookup x = some .cell) : ∃ c, (cellsFrom n sc.names []).lookup x = some c := by
  have q := PySem.W.cellsFrom_some sc.names n [] (.inl h)
  exact Option.isSome_iff_exists.mp q
theorem inv_start {CX : CXT} {P : Program} {w : World} {K : PySem.W.Frag} {mg : Str → Option Value} {base : Heap} {N ps : List Str} {qual : Str} {scope : Scope} {f : Addr} {cd : Value} {A : Around} {outer : List Env} {s s1 : Shared} {H : Hp} {E : XK} {us : List Value} {vs : List V}
    (S : FnScope N ps scope) (hd : A.handled = none) (e0 : Env0 P w K mg base A outer s H) (hl : vs.length = ps.length) (r : Vals vs us)
    (x : InCallC s s.heap.objs.size (bindL (envOfC qual scope s.heap.objs.size f cd).kindOf (ps.zip us) fun _ => none) (cellsFrom (s.heap.objs.size + 1) scope.names []) (bindC (envOfC qual scope s.heap.objs.size f cd).kindOf (ps.zip us) fun _ => none) s1) :
    Inv (cxOf CX P w K mg base N qual scope f cd A outer s H E) [] (start N vs) H s1 := by
  have hpl : ps.length ≤ N.length := by have := congrArg List.length S.pre; rw [List.length_take] at this; omega
  obtain ⟨h1, tk, rfl, hk⟩ := x.done
  have noA : ∀ b : Addr, b ∉ (cxOf CX P w K mg base N qual scope f cd A outer s H E).ex := fun b z => absurd (show b ∈ ([] : List Addr) from z) (by simp)
  refine ⟨⟨e0.mod, S.kind, rfl, rfl, Nat.le_refl _, fun y z c h1 h2 => ?_, fun y hy => ?_, fun y c _ h => ?_, fun _ => hd, Around.frames_deeper e0.frames, .inr ⟨rfl, rfl⟩, fun b z => absurd z (noA b), e0.bs, e0.bsz, fun b _ _ => noA b, fun b z => absurd z (noA b), e0.funs, e0.frf⟩,
    rfl, e0.bare, Un.kept hk, ⟨_, x.toInCall.ns, fun i y v h1 h2 h3 => ?_⟩, fun y c h => ⟨_, x.cell y c h⟩, e0.hok.fresh (Nat.le_refl _), fun y c h => ?_, fun p hp => absurd (show p ∈ ([] : List (Addr × Obj)) from hp) (by simp), e0.hok.kept hk, ?_⟩
  · exact name_of_addr x.apart (PySem.mem_of_lookup h1) (PySem.mem_of_lookup h2)
  · have hy : scope.names.lookup y = some .cell ∨ scope.names.lookup y = some .free := hy
    rcases hy with hy | hy
    · exact cell_has hy
    · exact absurd rfl (S.nofree _ (PySem.mem_of_lookup hy))
  · exact Nat.le_of_lt (x.above y c (PySem.mem_of_lookup h))
  · have hi : i < vs.length := by
      unfold start at h2
      by_cases hi : i < vs.length
      · exact hi
      · rw [List.getElem?_append_right (by simpa using hi)] at h2
        rw [List.getElem?_replicate] at h2
        split at h2 <;> cases h2
    have ha : vs[i]? = some v := by
      unfold start at h2
      rw [List.getElem?_append_left (by simpa using hi), List.getElem?_map] at h2
      cases e : vs[i]? with
      | none => rw [e] at h2; cases h2
      | some a => rw [e] at h2; cases h2; rfl
    obtain ⟨u, hu, rv⟩ := r.get ha
    have hp : ps[i]? = some y := by
      rw [← S.pre, List.getElem?_take_of_lt (by omega)]; exact h1
    have ndP : ps.Nodup := by rw [← S.pre]; exact S.nd.sublist (List.take_sublist _ _)
    refine ⟨u, rv, ?_⟩
    rcases S.par y (List.mem_of_getElem? hp) with k | k
    · exact .inl ⟨k, bindL_get ndP hp hu k⟩
    · obtain ⟨c, e⟩ := cell_has (n := s.heap.objs.size + 1) k
      refine .inr ⟨.inl k, c, e, ?_⟩
      have q := x.cell y c e
      rw [bindC_get ndP hp hu (by show scope.names.lookup y ≠ _; rw [k]; decide)] at q
      exact q
  · exact e0.hok.fresh (Nat.le_of_lt (x.above y c (PySem.mem_of_lookup h)))
  · unfold start
    show _ = N.length
    rw [List.length_append, List.length_map, List.length_replicate]
    omega
theorem fn_of {CX : CXT} {P : Program} {w : World} {K : PySem.W.Frag} {mg : Str → Option Value} {base : Heap} {k : Nat} {f : Addr} {name qual : Str} {params : Arguments} {body : List Stmt} {scope : Scope} {dV kV doc pm cdv ct oc : Value} {an od : Option Addr}
    {osl : Array (Option Value)} {N ps : List Str} {sp : Sp} (lk : K.lookup f = some ⟨oc, od, .func (PySem.W.fnOf name qual params body scope dV kV doc pm an cdv ct), osl⟩) (hcd : PySem.W.codeIn K cdv qual = true) (S : FnScope N ps scope)
    (len : ∀ vs H Q E, sp vs H Q E → vs.length = ps.length)
    (hbody : ∀ (A : Around) (outer : List Env) (s : Shared) (H : Hp) (vs : List V) (Q : VK) (E : XK), Room k (A.deeper (envOfC qual scope s.heap.objs.size f cdv)) → sp vs H Q E →
      ∃ t, PSs (cxOf CX P w K mg base N qual scope f cdv A outer s H E) body t ∧ t { nx := fun _ H' => Q .non H', rt := Q } (start N vs) H) :
    FnOk P w K mg base CX (k + 1) f (PySem.W.fnOf name qual params body scope dV kV doc pm an cdv ct) ps sp := by
  refine ⟨len, fun A outer s H args us vs Q E hr e0 hb r hsp => ?_⟩
  have hl := len _ _ _ _ hsp
  have KX : K.In s.heap := e0.mod.kin.keeps fun b o e => (e0.bs b o e).1
  have lim : s.heap.NoLimit := e0.mod.nolimit.keeps fun b o e => (e0.bs b o e).1
  have hkind : ∀ y ∈ ps.zip us, scope.names.lookup y.1 = some .local ∨ (scope.names.lookup y.1 = some .cell ∧ ((cellsFrom (s.heap.objs.size + 1) scope.names []).lookup y.1).isSome = true) := fun ⟨n, v⟩ hy => by
    rcases S.par n (List.of_mem_zip hy).1 with q | q
    · exact .inl q
    · exact .inr ⟨q, PySem.W.cellsFrom_some _ _ _ (.inl q)⟩
  refine codeAny_call_function hr.depth (KX _ _ lk) rfl S.co S.gen rfl (PySem.W.codeRec_of KX hcd) (hb _ _ _ _ ?_)
  refine wpAny_newFunctionEnv_cells S.kind hkind fun env he s1 x => ?_
  subst he
  refine ⟨lim.keeps x.toInCall.keep, codeAny_func ?_⟩
  obtain ⟨t, ht, hq⟩ := hbody A outer s H vs Q E (hr.deeper _) hsp
  have I : Inv (cxOf CX P w K mg base N qual scope f cdv A outer s H E) [] (start N vs) H s1 := inv_start S hr.hd e0 hl r x
  refine wpAny_mono (ht [] s1 (start N vs) H _ I hq) (fun fl s' hs => ?_) fun e s' hs => hs
  have fin : ∀ {σ' : St} {H' : Hp} {v : V} {u : Value}, Inv (cxOf CX P w K mg base N qual scope f cdv A outer s H E) [] σ' H' s' → RelV v u → Q v H' → CE outer P w H s Q u s' :=
    fun {σ' H' v u} J rv q => ⟨v, H', J.os, J.bare, J.base, J.hok, rv, q⟩
  cases fl with
  | ret u =>
    obtain ⟨v, σ', H', J, rv, q⟩ := hs
    exact fin J rv q
  | next =>
    obtain ⟨σ', H', J, q⟩ := hs
    exact fin (v := V.non) (u := Value.none) J rfl q
  | brk =>
    obtain ⟨_, _, _, q⟩ := hs
    exact False.elim q
  | cont =>
    obtain ⟨_, _, _, q⟩ := hs
    exact False.elim q
end L2
namespace L2
open PySem PySem.Spec PyProof.Rows
section
variable {X : Cx} {x : Str} {p pos : Pos} {e : Expr} {es : List Expr} {t : TA} {id T : String} {r : List V → Hp → VK → Prop}
noncomputable def tCB (r : List V → Hp → VK → Prop) (t : TA) : TE := fun σ H Q => t σ H fun vs H1 => r vs H1 Q
theorem pe_callB (hc : CallR X (.builtin id) r) (hg : Gl X x) (hm : X.mg x = none) (hv : bootBuiltins x = some (.builtin id)) (ha : PA X (e :: es) t) (hn : x ≠ "__name__" := by decide) (hdb : (x == ("__debug__" : Str)) = false := by decide)
    (he : starEach (e :: es) X.env = (false, eval e X.env) :: starEach es X.env := by rfl) (hpl : (backTo pos (starEach es X.env)).any (·.1) = false := by rfl) : PE X (.Call (.Name x p) (e :: es) [] pos) (tCB r t) := by
  intro pins s σ H Q I h
  refine wpAny_Call_Name_kw (ld_blt I hg hm hv ?_ hn hdb)
  exact PyProof.Rows.callWith_builtin1 (thn (ha pos pins s σ H _ I h) fun us s1 ⟨vs, H1, I1, r1, q1⟩ => hc pins s1 σ H1 vs us Q I1 r1 q1) he hpl
theorem pe_callTy (hc : CallR X (.type T) r) (hg : Gl X x) (hm : X.mg x = none) (hv : bootBuiltins x = some (.type T)) (ha : PA X (e :: es) t) (hn : x ≠ "__name__" := by decide) (hdb : (x == ("__debug__" : Str)) = false := by decide)
    (he : starEach (e :: es) X.env = (false, eval e X.env) :: starEach es X.env := by rfl) (hpl : (backTo pos (starEach es X.env)).any (·.1) = false := by rfl) : PE X (.Call (.Name x p) (e :: es) [] pos) (tCB r t) := by
  intro pins s σ H Q I h
  refine wpAny_Call_Name_kw (ld_blt I hg hm hv ?_ hn hdb)
  exact PyProof.Rows.callWith_type1 (thn (ha pos pins s σ H _ I h) fun us s1 ⟨vs, H1, I1, r1, q1⟩ => hc pins s1 σ H1 vs us Q I1 r1 q1) he hpl
end
end L2
namespace HT
open PySem PyProof.Rows
section
open PySem.SeqAt
open PySem.AutoSeq1 (wpAny_loadPart')
open PySem.MeetsSeq PySem.MeetsSeq2 PySem.MeetsSeq3
end
section
variable {prog : Program} {w : World} {A : Around} {E : Value → Shared → Prop} {s : Shared}
noncomputable def sIx (n d : Nat) : Option Int → Nat
  | none => d
  | some v => if v < 0 then (v + (n : Int)).toNat else min v.toNat n
theorem sIx_none (n d : Nat) : sIx n d none = d := rfl
theorem sIx_nat (n d k : Nat) : sIx n d (some (k : Int)) = min k n := by
  show (if (k : Int) < 0 then ((k : Int) + (n : Int)).toNat else min (k : Int).toNat n) = min k n
  rw [if_neg (by omega), Int.toNat_natCast]
end
end HT
namespace L2
open PySem PySem.Spec PyProof.Rows
noncomputable abbrev TO := St → Hp → (Option Int → Hp → Prop) → Prop
noncomputable def PO (X : Cx) (e : Option Expr) (t : TO) : Prop :=
  ∀ (pins : List (Addr × Obj)) (s : Shared) (σ : St) (H : Hp) (Q : Option Int → Hp → Prop), Inv X pins σ H s → t σ H Q →
    wpAny (model X.prog X.w) X.A (evalPart e X.env) (fun u s' => ∃ o H', Inv X pins σ H' s' ∧ IsPart u o ∧ Q o H') X.xe s
noncomputable def tNoPart : TO := fun _ H Q => Q none H
noncomputable def tPart (t : TE) : TO := fun σ H Q => t σ H fun x H1 => ∃ i, x = .int i ∧ Q (some i) H1
section
variable {X : Cx} {e : Expr} {te : TE} {lo hi : Option Expr} {tl th : TO} {pos p2 : Pos}
theorem po_none : PO X none tNoPart := by
  intro pins s σ H Q I h
  rw [evalPart_none]
  exact wpAny_pure ⟨none, H, I, .none, h⟩
theorem po_some (h : PE X e te) : PO X (some e) (tPart te) := by
  intro pins s σ H Q I hw
  rw [evalPart_some]
  refine thn (h pins s σ H _ I hw) fun u s1 ⟨x, H1, I1, r1, q1⟩ => ?_
  obtain ⟨i, rfl, q⟩ := q1
  obtain ⟨t, rfl⟩ := r1
  exact ⟨some i, H1, I1, .int i t, q⟩
noncomputable def SlR (X : Cx) (r : V → Option Int → Option Int → Hp → VK → Prop) : Prop :=
  ∀ (pins : List (Addr × Obj)) (s : Shared) (σ : St) (H : Hp) (x : V) (v vl vu : Value) (lo hi : Option Int) (sl : Addr) (Q : VK), Inv X pins σ H s → RelV x v → s.heap.IsSliceOf sl vl vu .none → IsPart vl lo → IsPart vu hi → r x lo hi H Q →
    ∃ T id, typeLookup (.type T) "__getitem__" = pure (some (.builtin id)) ∧ s.TypeIs v T ∧ wpAny (model X.prog X.w) X.A (getItem v (.ref sl)) (EP X pins σ Q) X.xe s
noncomputable def tSl (r : V → Option Int → Option Int → Hp → VK → Prop) (te : TE) (tl th : TO) : TE := fun σ H Q => te σ H fun x H1 => tl σ H1 fun l H2 => th σ H2 fun u H3 => r x l u H3 Q
theorem pe_slice {r : V → Option Int → Option Int → Hp → VK → Prop} (hr : SlR X r) (he : PE X e te) (hl : PO X lo tl) (hu : PO X hi th) : PE X (.Subscript e (.Slice lo hi none p2) pos) (tSl r te tl th) := by
  intro pins s σ H Q I h
  refine Subscript_ (thn (he pins s σ H _ I h) fun v s1 ⟨x, H1, I1, r1, q1⟩ => ?_)
  refine wpAny_Slice (thn (hl pins s1 σ H1 _ I1 q1) fun vl s2 ⟨l, H2, I2, pl, q2⟩ => thn (hu pins s2 σ H2 _ I2 q2) fun vu s3 ⟨u, H3, I3, pu, q3⟩ => ?_)
  rw [evalPart_none]
  refine wpAny_pure ?_
  have I4 : Inv X pins σ H3 { s3 with heap := s3.heap.push { cls := .type "slice", data := .fields #[vl, vu, .none] } } := I3.kept (t' := s3.toks) fun b ob q => Heap.get?_push_of_some _ q
  obtain ⟨T, id, hT, ht, hg⟩ := hr pins { s3 with heap := s3.heap.push { cls := .type "slice", data := .fields #[vl, vu, .none] } } σ H3 x v vl vu l u s3.heap.objs.size Q I4 r1 (Heap.IsSliceOf.new ..) pl pu q3
  show wpAny (model X.prog X.w) X.A (subscriptTail e (.Slice lo hi none p2) v (.ref s3.heap.objs.size)) (EP X pins σ Q) X.xe { s3 with heap := s3.heap.push { cls := .type "slice", data := .fields #[vl, vu, .none] } }
  exact tail_any (ops := [.ref s3.heap.objs.size, v]) ht hT hg (by with_unfolding_all rfl)
noncomputable def cutV (xs : List V) (lo hi : Option Int) : List V := (xs.drop (HT.sIx xs.length 0 lo)).take (HT.sIx xs.length xs.length hi - HT.sIx xs.length 0 lo)
theorem cutV_length (xs : List V) (lo hi : Option Int) : (cutV xs lo hi).length ≤ xs.length := by
  unfold cutV
  rw [List.length_take, List.length_drop]
  omega
end
end L2
namespace L2
open PySem PySem.Spec PyProof.Rows
noncomputable def ixN (n : Nat) (i : Int) : Option Nat := if 0 ≤ i then (if i < n then some i.toNat else none) else if -(n : Int) ≤ i then some (i + n).toNat else none
noncomputable def atI {α : Type} (xs : List α) (i : Int) : Option α := (ixN xs.length i).bind fun j => xs[j]?
theorem ixN_seq {n : Nat} {i : Int} {j : Nat} (h : ixN n i = some j) : seqIndex? i n = some j ∧ j < n ∧ -(n : Int) ≤ i ∧ i < n := by
  unfold ixN at h
  by_cases h0 : 0 ≤ i
  · rw [if_pos h0] at h
    by_cases h1 : i < n
    · rw [if_pos h1] at h
      have e : i.toNat = j := Option.some.inj h
      exact ⟨by rw [seqIndex_of h0 h1, e], by omega, by omega, h1⟩
    · rw [if_neg h1] at h; cases h
  · rw [if_neg h0] at h
    by_cases h1 : -(n : Int) ≤ i
    · rw [if_pos h1] at h
      have e : (i + n).toNat = j := Option.some.inj h
      exact ⟨by rw [seqIndex_neg (by omega) h1, e], by omega, h1, by omega⟩
    · rw [if_neg h1] at h; cases h
theorem atI_get {α : Type} {xs : List α} {i : Int} {v : α} (h : atI xs i = some v) : ∃ j, seqIndex? i xs.length = some j ∧ xs[j]? = some v ∧ j < xs.length ∧ -(xs.length : Int) ≤ i ∧ i < xs.length := by
  unfold atI at h
  cases e : ixN xs.length i with
  | none => rw [e] at h; cases h
  | some j =>
    rw [e] at h
    obtain ⟨h1, h2, h3, h4⟩ := ixN_seq e
    exact ⟨j, h1, h, h2, h3, h4⟩
theorem atI_nat {α : Type} {xs : List α} {j : Nat} {v : α} (h : xs[j]? = some v) : atI xs (j : Int) = some v := by
  have hj : j < xs.length := (List.getElem?_eq_some_iff.mp h).1
  have e : ixN xs.length (j : Int) = some j := by
    unfold ixN
    rw [if_pos (by omega), if_pos (by omega)]; simp
  unfold atI; rw [e]; exact h
noncomputable def PlainIx (b : Expr) : Prop := ∀ o i, subscripted b false o i = operate [o, i] (getItem o i)
noncomputable def IxR (X : Cx) (r : R2) : Prop :=
  ∀ (value slice : Expr) (pins : List (Addr × Obj)) (s : Shared) (σ : St) (H : Hp) (x y : V) (v u : Value) (Q : VK), Inv X pins σ H s → RelV x v → RelV y u → r x y H Q →
    subscripted slice false v u = operate [v, u] (getItem v u) → wpAny (model X.prog X.w) X.A (subscriptTail value slice v u) (EP X pins σ Q) X.xe s
noncomputable def MtR (X : Cx) (id : String) (r : V → List V → Hp → VK → Prop) : Prop :=
  ∀ (pins : List (Addr × Obj)) (s : Shared) (σ : St) (H : Hp) (x : V) (xs : List V) (v : Value) (us : List Value) (Q : VK), Inv X pins σ H s → RelV x v → Vals xs us → r x xs H Q →
    wpAny (model X.prog X.w) X.A (call (.builtin id) (v :: us)) (EP X pins σ Q) X.xe s
section
variable {X : Cx} {a b : Expr} {ta tb : TE} {pos : Pos}
theorem pe_ix {r : R2} (hr : IxR X r) (ha : PE X a ta) (hb : PE X b tb) (hs : PlainIx b) : PE X (.Subscript a b pos) (tOp r ta tb) := by
  intro pins s σ H Q I h
  exact Subscript_ (binT ha hb I h fun v u s2 x y H2 I2 rx ry q => hr a b pins s2 σ H2 x y v u Q I2 rx ry q (hs _ _))
noncomputable def rIxL (K : PySem.W.Frag) : R2 := fun x y H Q => ∃ p xs i v, x = .ref p ∧ y = .int i ∧ SqL K H p xs ∧ atI xs i = some v ∧ Q v H
theorem ix_list : IxR X (rIxL X.K) := by
  intro value slice pins s σ H x y v u Q I rx ry h hs
  obtain ⟨p, xs, i, z, rfl, rfl, hq, he, q⟩ := h
  cases rx
  obtain ⟨t, rfl⟩ := ry
  obtain ⟨its, r, pl, hz⟩ := I.list hq
  obtain ⟨j, h1, h2, h3, h4, h5⟩ := atI_get he
  obtain ⟨w, ew, rw'⟩ := r.get h2
  have hl := r.length
  have hn := line63
  have fin : EP X pins σ Q w s := ⟨z, H, I, rw', q⟩
  by_cases h0 : 0 ≤ i
  · have hj : i.toNat = j := by
      rw [seqIndex_of h0 h5] at h1
      exact Option.some.inj h1
    exact item_listR pl.isList h0 (by omega) (by rw [hj]; simpa using ew) fin hs
  · have hj : (i + (its.toArray.size : Int)).toNat = j := by
      rw [seqIndex_neg (by omega) h4] at h1
      rw [List.size_toArray, ← hl]
      exact Option.some.inj h1
    exact subscriptTail_builtinR (x := w) pl.isList.typeIs slot_list_getitem.lookup
      (wpAny_getItem_list_neg (Q := fun r s' => r = w ∧ EP X pins σ Q r s') pl.isList (by omega) (by rw [List.size_toArray] <;> omega) (by omega) (by rw [hj]; simpa using ew) ⟨rfl, fin⟩) hs
theorem slice_bounds (lo hi : Option Int) (n : Nat) : (sliceBounds lo hi none n).1 = ((HT.sIx n 0 lo : Nat) : Int) ∧ (sliceBounds lo hi none n).2.1 = ((HT.sIx n n hi : Nat) : Int) ∧ (sliceBounds lo hi none n).2.2 = 1 := by
  refine ⟨?_, ?_, rfl⟩
  · cases lo with
    | none => simp [sliceBounds, HT.sIx]
    | some i =>
      simp only [sliceBounds, HT.sIx, Option.getD_none, show (1 : Int) > 0 by decide, if_true]
      by_cases h : i < 0
      · simp only [h, if_true] <;> omega
      · simp only [h, if_false] <;> omega
  · cases hi with
    | none => simp [sliceBounds, HT.sIx]
    | some i =>
      simp only [sliceBounds, HT.sIx, Option.getD_none, show (1 : Int) > 0 by decide, if_true]
      by_cases h : i < 0
      · simp only [h, if_true] <;> omega
      · simp only [h, if_false] <;> omega
theorem slicePick_cut (its : List Value) (lo hi : Option Int) : slicePick its.toArray lo hi none = ((its.drop (HT.sIx its.length 0 lo)).take (HT.sIx its.length its.length hi - HT.sIx its.length 0 lo)).toArray := by
  obtain ⟨h1, h2, h3⟩ := slice_bounds lo hi its.toArray.size
  unfold slicePick
  rw [h1, h2, h3]
  simp only [sliceRange_one, pick_run, List.size_toArray] <;> rfl
noncomputable def rSlL (K : PySem.W.Frag) : V → Option Int → Option Int → Hp → VK → Prop := fun x lo hi H Q => ∃ a xs, x = .ref a ∧ SqL K H a xs ∧ ∀ p, H p = none → Q (.ref p) (upd H p (.lst (cutV xs lo hi)))
theorem sl_list : SlR X (rSlL X.K) := by
  intro pins s σ H x v vl vu lo hi sl Q I rx hs pl pu h
  obtain ⟨a, xs, rfl, hx, q⟩ := h
  cases rx
  obtain ⟨its, r, ht, hz⟩ := I.list hx
  have hlen := r.length
  refine ⟨"list", _, slot_list_getitem.lookup, ht.isList.typeIs, ?_⟩
  refine wpAny_getItem_list_slice ht.isList hs pl pu .none (by simp) ?_ (by rw [List.size_toArray] <;> omega)
  rw [slicePick_cut, ← hlen]
  refine ⟨.ref s.heap.objs.size, _, I.laid (t' := s.toks) (o := .lst (cutV xs lo hi)) (fun b ob q => Heap.get?_push_of_some _ q) (Nat.le_refl _) ?_, rfl, q _ (I.hok.fresh (Nat.le_refl _))⟩
  exact ⟨Nat.le_trans (cutV_length xs lo hi) hz, _, 0, (r.drop (HT.sIx xs.length 0 lo)).take (HT.sIx xs.length xs.length hi - HT.sIx xs.length 0 lo), Heap.get?_push_size _ rfl⟩
theorem call_len_seq : CallR X (.builtin "len") (fun xs H Q => ∃ p ys, xs = [.ref p] ∧ (SqL X.K H p ys ∨ SqT X.K H p ys) ∧ Q (.int ys.length) H) := by
  intro pins s σ H xs us Q I r h
  obtain ⟨p, ys, rfl, hq, q⟩ := h
  obtain ⟨u, rfl, rx⟩ := vals1 r
  cases rx
  have hn := line63
  rcases hq with hq | hq
  · obtain ⟨its, r', pl, hz⟩ := I.list hq
    have hlen := r'.length
    exact Calls.call_len_list pl.isList (by simp only [List.size_toArray] <;> omega) ⟨.int ys.length, H, I.tok _, ⟨s.toks + 1, by rw [List.size_toArray, hlen]⟩, q⟩
  · obtain ⟨its, r', pl, hz⟩ := I.tuple hq
    have hlen := r'.length
    exact len_tuple pl (by simp only [List.size_toArray] <;> omega) ⟨.int ys.length, H, I.tok _, ⟨s.toks + 1, by rw [List.size_toArray, hlen]⟩, q⟩
noncomputable def tyV (K : PySem.W.Frag) (T : String) (x : V) (H : Hp) : Prop := match x with
  | .str _ => T = "str"
  | .int _ => T = "int"
  | .ref p => (T = "list" ∧ ∃ xs, SqL K H p xs) ∨ (T = "tuple" ∧ ∃ o, K.lookup p = some o ∧ o.cls = .type "tuple" ∧ o.dict = none) ∨
      (T = "dict" ∧ ((∃ kvs, H p = some (.dK kvs)) ∨ False)) ∨ (T = "set" ∧ ∃ S n, H p = some (.set S n))
  | _ => False
theorem tyV_is {pins : List (Addr × Obj)} {σ : St} {H : Hp} {s : Shared} {T : String} {x : V} {v : Value} (I : Inv X pins σ H s) (r : RelV x v) (ty : tyV X.K T x H) :
    s.TypeIs v T ∧ ∀ a, v = .ref a → ∃ ob, s.heap.get? a = some ob ∧ ob.dict = none := by
  cases x with
  | str z =>
    obtain ⟨t, rfl⟩ := r
    cases (show T = "str" from ty)
    exact ⟨typeIs_str s z t, fun _ e => nomatch e⟩
  | int i =>
    obtain ⟨t, rfl⟩ := r
    cases (show T = "int" from ty)
    exact ⟨typeIs_int s i t, fun _ e => nomatch e⟩
  | ref p =>
    cases r
    rcases ty with ⟨rfl, xs, hq⟩ | ⟨rfl, o, hk, hc, hd⟩ | ⟨rfl, hk⟩ | ⟨rfl, S, n, hk⟩
    · obtain ⟨its, _, pl, _⟩ := I.list hq
      refine ⟨pl.isList.typeIs, fun a e => ?_⟩
      cases e
      obtain ⟨o, n, e, c, hd, _⟩ := pl
      exact ⟨o, e, hd⟩
    · refine ⟨⟨o, I.kIn p o hk, hc⟩, fun a e => ?_⟩
      cases e
      exact ⟨o, I.kIn _ o hk, hd⟩
    · have z : ∃ o, s.heap.get? p = some o ∧ o.ExactDict := by
        rcases hk with ⟨kvs, hk⟩ | hk
        · obtain ⟨_, _, _, _, o, _, _, e, ex, _⟩ := I.hok p _ hk
          exact ⟨o, e, ex⟩
        · exact hk.elim
      obtain ⟨o, e, ex⟩ := z
      refine ⟨⟨o, e, ex.1⟩, fun a e2 => ?_⟩
      cases e2
      exact ⟨o, e, ex.2.1⟩
    · obtain ⟨o, _, _, _, e, ex, _⟩ := I.hok p _ hk
      refine ⟨⟨o, e, ex.1⟩, fun a e2 => ?_⟩
      cases e2
      exact ⟨o, e, ex.2.1⟩
  | _ => exact False.elim ty
noncomputable def tBM (K : PySem.W.Frag) (T : String) (r : V → List V → Hp → VK → Prop) (to : TE) (t : TA) : TE := fun σ H Q => to σ H fun x H1 => tyV K T x H1 ∧ t σ H1 fun xs H2 => r x xs H2 Q
variable {o e : Expr} {es : List Expr} {to : TE} {t : TA} {name : Str} {apos cpos : Pos} {T id : String} {r : V → List V → Hp → VK → Prop}
theorem pe_bm (pa : PlainAttrs T) (slot : Slot T name id) (hty : typeOf (.builtin id) = pure (.type "method_descriptor")) (hm : MtR X id r) (ho : PE X o to) (ha : PA X (e :: es) t)
    (hbase : attributeBase o name X.env (eval o X.env) = eval o X.env := by rfl)
    (hfew : ((backTo cpos (starEach (e :: es) X.env)).all (fun x => !x.1) && (backToKw cpos (keywordEach [] X.env)).all (fun x => x.1.isSome)
      && decide ((e :: es).length + ([] : List Keyword).length + (if ([] : List Keyword).isEmpty then 0 else 1) < 30)) = true := by rfl)
    (hline : (apos.endLine == cpos.line) = true := by rfl) (hs : starEach (e :: es) X.env = (false, eval e X.env) :: starEach es X.env := by rfl) (hplain : (backTo cpos (starEach es X.env)).any (·.1) = false := by rfl) :
    PE X (.Call (.Attribute o name apos) (e :: es) [] cpos) (tBM X.K T r to t) := by
  intro pins s σ H Q I h
  refine wpAny_Call_method_late hbase hfew hline rfl (thn (ho pins s σ H _ I h) fun v s1 ⟨x, H1, I1, r1, ty, q1⟩ => ?_)
  obtain ⟨h1, h2⟩ := tyV_is I1 r1 ty
  refine ⟨T, id, pa, slot, hty, h1, h2, ?_⟩
  have hA := ha cpos pins s1 σ H1 _ I1 q1
  rw [hs] at hA ⊢
  refine Calls.callWith_builtin (by show (false || (backTo cpos (starEach es X.env)).any (·.1)) = false; rw [hplain] <;> rfl) (Calls.evalArgs_plain ?_)
  exact thn hA fun us s2 ⟨vs, H2, I2, r2, q2⟩ => hm pins s2 σ H2 x vs v us Q I2 r1 r2 q2
end
end L2
namespace L2
open PySem PySem.Spec PyProof.Rows
noncomputable def MtM (X : Cx) (id : String) (r : V → List V → Hp → VK → Prop) : Prop :=
  ∀ (pins : List (Addr × Obj)) (s : Shared) (σ : St) (H : Hp) (x : V) (xs : List V) (v : Value) (us : List Value) (Q : VK), Inv X pins σ H s → RelV x v → Vals xs us → r x xs H Q →
    wpAny (model X.prog X.w) X.A (call (.builtin id) (v :: us)) (EP X pins σ Q) X.xe s
theorem Vals.one : ∀ {x : V} {us : List Value}, Vals [x] us → ∃ u, us = [u] ∧ RelV x u
  | _, _, .cons r .nil => ⟨_, rfl, r⟩
section
variable {X : Cx} {pins : List (Addr × Obj)} {σ : St} {H : Hp} {s : Shared} {l b : Addr} {xs ys zs : List V}
theorem Inv.lset {its its' : List Value} {n : Nat} {f : Array Value → Array Value} {t' : Nat} (I : Inv X pins σ H s) (hH : H l = some (.lst xs))
    (e : s.heap.get? l = some { cls := .type "list", data := .seq its.toArray n }) (hf : f its.toArray = its'.toArray) (hv : Vals ys its') (hz : ys.length ≤ sizeLine) :
    Inv X pins σ (upd H l (.lst ys)) { s with heap := s.heap.update l (Obj.mapSeq f), toks := t' } := by
  have q := PySem.IsL.update e f
  rw [hf] at q
  refine I.write (x := l) (e := l) (by rw [hH]; exact trivial) (.inl rfl) (fun b' u hb hu => (Heap.get?_update_other s.heap (Obj.mapSeq f) (Ne.symm hb)).trans hu) ⟨_, q⟩ ?_
  exact ⟨hz, its', _, hv, q⟩
theorem Inv.lnew {its : List Value} {t' : Nat} (I : Inv X pins σ H s) (hv : Vals ys its) (hz : ys.length ≤ sizeLine) :
    Inv X pins σ (upd H s.heap.objs.size (.lst ys)) { s with heap := s.heap.push { cls := .type "list", data := .seq its.toArray }, toks := t' } :=
  I.laid (fun _ _ q => Heap.get?_push_of_some _ q) (Nat.le_refl _) ⟨hz, its, 0, hv, Heap.get?_push_size _ rfl⟩
theorem Inv.fresh (I : Inv X pins σ H s) : H s.heap.objs.size = none := I.hok.fresh (Nat.le_refl _)
theorem Inv.lstM (I : Inv X pins σ H s) (hH : H l = some (.lst xs)) : xs.length ≤ sizeLine ∧ ∃ (its : List Value) (n : Nat), Vals xs its ∧ xs.length = its.length ∧ s.heap.get? l = some { cls := .type "list", data := .seq its.toArray n } := by
  obtain ⟨z, its, n, r, e⟩ := I.hok l _ hH
  exact ⟨z, its, n, r, r.length, e⟩
theorem notLongL {n : Nat} (h : n ≤ sizeLine) : Builtin.List.listTooLong n = false := by
  unfold Builtin.List.listTooLong
  exact decide_eq_false (by omega)
end
section
variable {X : Cx}
noncomputable def rAppend : V → List V → Hp → VK → Prop := fun x vs H Q => ∃ l xs y, x = .ref l ∧ vs = [y] ∧ H l = some (.lst xs) ∧ xs.length < sizeLine ∧ Q .non (upd H l (.lst (xs ++ [y])))
theorem mt_append : MtM X "list.append" rAppend := by
  intro pins s σ H x vs v us Q I rx rv h
  obtain ⟨l, xs, y, rfl, rfl, hH, hz, q⟩ := h
  cases rx
  obtain ⟨u, rfl, ru⟩ := rv.one
  obtain ⟨z, its, n, r, hl, e⟩ := I.lstM hH
  refine call_meets F.slot_list_append ⟨_, e, rfl⟩ F.entry_list_append (F.args_list_append_2 _ _) (PySem.list_append l its.toArray n u (by rw [List.size_toArray]; omega)) ⟨e, ?_⟩
  refine ⟨.non, _, I.lset (its' := its ++ [u]) hH e (by simp) (r.append (.cons ru .nil)) ?_, rfl, q⟩
  rw [List.length_append, List.length_singleton]
  omega
noncomputable def rExtend : V → List V → Hp → VK → Prop := fun x vs H Q => ∃ l b xs zs, x = .ref l ∧ vs = [.ref b] ∧ H l = some (.lst xs) ∧ H b = some (.lst zs) ∧ xs.length + zs.length ≤ sizeLine ∧ Q .non (upd H l (.lst (xs ++ zs)))
theorem mt_extend : MtM X "list.extend" rExtend := by
  intro pins s σ H x vs v us Q I rx rv h
  obtain ⟨l, b, xs, zs, rfl, rfl, hH, hB, hz, q⟩ := h
  cases rx
  obtain ⟨u, rfl, ru⟩ := rv.one
  cases ru
  obtain ⟨z, its, n, r, hl, e⟩ := I.lstM hH
  obtain ⟨z2, its2, n2, r2, hl2, e2⟩ := I.lstM hB
  have hsz : its.toArray.size + its2.toArray.size ≤ sizeLine := by rw [List.size_toArray, List.size_toArray]; omega
  have hlong : ¬ (!its.toArray.isEmpty && Builtin.List.listTooLong (its.toArray.size + its2.toArray.size)) = true := by
    rw [notLongL hsz, Bool.and_false]
    exact Bool.false_ne_true
  refine call_meets F.slot_list_extend ⟨_, e, rfl⟩ F.entry_list_extend (F.args_list_extend_2 _ _)
    (AutoSeq1.list_extend_list_list_0 l its.toArray n b its2.toArray n2 hlong (by rw [List.size_toArray]; omega) (by omega)) ⟨e, e2, ?_⟩
  refine ⟨.non, _, I.lset (its' := its ++ its2) hH e (by simp) (r.append r2) ?_, rfl, q⟩
  rw [List.length_append]
  omega
noncomputable def rCat : R2 := fun x y H Q => ∃ l b xs zs, x = .ref l ∧ y = .ref b ∧ H l = some (.lst xs) ∧ H b = some (.lst zs) ∧ xs.length + zs.length ≤ sizeLine ∧ ∀ p, H p = none → Q (.ref p) (upd H p (.lst (xs ++ zs)))
theorem op_cat : OpR X (binaryOp .Add) rCat := by
  intro pins s σ H x y v u Q I rx ry h
  obtain ⟨l, b, xs, zs, rfl, rfl, hH, hB, hz, q⟩ := h
  cases rx
  cases ry
  obtain ⟨z, its, n, r, hl, e⟩ := I.lstM hH
  obtain ⟨z2, its2, n2, r2, hl2, e2⟩ := I.lstM hB
  refine PySem.P.add_list e e2 ?_ (by rw [List.size_toArray, List.size_toArray]; omega)
  have ea : its.toArray ++ its2.toArray = (its ++ its2).toArray := by simp
  rw [ea]
  exact ⟨.ref _, _, I.lnew (t' := s.toks) (r.append r2) (by rw [List.length_append]; omega), rfl, q _ I.fresh⟩
end
section
variable {prog : Program} {w : World} {A : Around} {E : Value → Shared → Prop} {s : Shared}
end
section
variable {X : Cx}
end
end L2
namespace L2
open PySem PySem.Spec PyProof.Rows
theorem Vals.ints : ∀ {ns : List Int} {us : List Value}, Vals (ns.map V.int) us → IntsAre us ns
  | [], us, h => by
    rw [List.map_nil] at h
    cases h
    exact IntsAre.nil
  | n :: ns, us, h => by
    rw [List.map_cons] at h
    cases h with
    | cons r t =>
      obtain ⟨k, rfl⟩ := r
      exact IntsAre.cons n k (Vals.ints t)
theorem vals_of_ints : ∀ {us : List Value} {ns : List Int}, IntsAre us ns → Vals (ns.map V.int) us
  | _, _, .nil => by rw [List.map_nil]; exact Paired.nil
  | _, _, .cons n t h => by rw [List.map_cons]; exact Paired.cons (show RelV (V.int n) (Value.int n t) from ⟨t, rfl⟩) (vals_of_ints h)
theorem Vals.ref1 {a : Addr} {us : List Value} (r : Vals [V.ref a] us) : us = [Value.ref a] := by
  cases r with
  | cons r t =>
    cases t
    cases r
    rfl
section
variable {prog : Program} {w : World} {A : Around} {E : Value → Shared → Prop} {s : Shared} {l : Addr} {its : List Value} {ns : List Int} {Q : Value → Shared → Prop}
end
section
variable {X : Cx}
end
section
variable {X : Cx}
end
section
variable {X : Cx}
end
section
variable {X : Cx}
end
section
variable {X : Cx} {pins : List (Addr × Obj)} {σ : St} {H : Hp} {s : Shared}
end
section
variable {X : Cx}
end
end L2
namespace L2
open PySem PySem.Spec PyProof.Rows
section
variable {X : Cx} {pins : List (Addr × Obj)} {σ : St} {H : Hp} {s : Shared}
end
section
variable {X : Cx}
end
end L2
namespace L2
open PySem PySem.Spec PyProof.Rows
section
variable {prog : Program} {w : World} {A : Around} {R : Result → Shared → Prop} {s : Shared} {elt t0 i0 t1 i1 : Expr} {ifs0 ifs1 : List Expr} {scope : Scope} {pos : Pos} {it acc : Value} {env : Env}
end
section
variable {X : Cx}
end
end L2
namespace L2
open PySem PySem.Spec PyProof.Rows
section
variable {κ : Type} [DecidableEq κ]
noncomputable def valV (kvs : List (κ × V)) (k : κ) : Option V := (kvs.find? fun kv => decide (kv.1 = k)).map (·.2)
noncomputable def putK (kvs : List (κ × V)) (k : κ) (v : V) : List (κ × V) :=
  if (kvs.any fun kv => decide (kv.1 = k)) = true then kvs.map (fun kv => if kv.1 = k then (kv.1, v) else kv) else kvs ++ [(k, v)]
theorem valV_pos {p : κ × V} {r : List (κ × V)} {k : κ} (e : p.1 = k) : valV (p :: r) k = some p.2 := by simp [valV, List.find?_cons, e]
theorem valV_neg {p : κ × V} {r : List (κ × V)} {k : κ} (e : ¬ p.1 = k) : valV (p :: r) k = valV r k := by simp [valV, List.find?_cons, e]
theorem valV_any (k : κ) : ∀ kvs : List (κ × V), (kvs.any fun kv => decide (kv.1 = k)) = (valV kvs k).isSome
  | [] => rfl
  | p :: r => by
    rw [List.any_cons]
    by_cases e : p.1 = k
    · simp only [valV_pos e, decide_eq_true e, Bool.true_or, Option.isSome_some]
    · rw [valV_neg e, decide_eq_false e, Bool.false_or]; exact valV_any k r
theorem valV_map (k j : κ) (y : V) : ∀ kvs : List (κ × V), valV (kvs.map fun kv => if kv.1 = k then (kv.1, y) else kv) j = (valV kvs j).map fun x => if j = k then y else x
  | [] => rfl
  | p :: r => by
    have ih := valV_map k j y r
    rw [List.map_cons]
    by_cases h : p.1 = k
    · rw [if_pos h]
      by_cases e : p.1 = j
      · rw [valV_pos (p := (p.1, y)) e, valV_pos e, Option.map_some, if_pos (e.symm.trans h)]
      · rw [valV_neg (p := (p.1, y)) e, valV_neg e, ih]
    · rw [if_neg h]
      by_cases e : p.1 = j
      · rw [valV_pos (p := p) e, valV_pos e, Option.map_some, if_neg (fun z => h (e.trans z))]
      · rw [valV_neg (p := p) e, valV_neg e, ih]
theorem valV_snoc (k j : κ) (y : V) : ∀ kvs : List (κ × V), valV kvs k = none → valV (kvs ++ [(k, y)]) j = if j = k then some y else valV kvs j
  | [], _ => by
    by_cases e : k = j
    · rw [if_pos e.symm]; exact valV_pos (p := (k, y)) e
    · rw [if_neg (fun z => e z.symm)]; exact valV_neg (p := (k, y)) e
  | p :: r, hn => by
    rw [List.cons_append]
    have hk : ¬ p.1 = k := fun z => by rw [valV_pos z] at hn; cases hn
    rw [valV_neg hk] at hn
    have ih := valV_snoc k j y r hn
    by_cases e : p.1 = j
    · rw [valV_pos e, valV_pos e, if_neg (fun z => hk (e.trans z))]
    · rw [valV_neg e, valV_neg e, ih]
theorem valV_put (kvs : List (κ × V)) (k j : κ) (y : V) : valV (putK kvs k y) j = if j = k then some y else valV kvs j := by
  unfold putK
  by_cases a : (kvs.any fun kv => decide (kv.1 = k)) = true
  · rw [if_pos a, valV_map]
    rw [valV_any] at a
    by_cases e : j = k
    · obtain ⟨x, hx⟩ := Option.isSome_iff_exists.mp a
      rw [if_pos e, e, hx, Option.map_some, if_pos rfl]
    · rw [if_neg e]
      cases valV kvs j with
      | none => rfl
      | some x => rw [Option.map_some, if_neg e]
  · rw [if_neg a]
    refine valV_snoc k j y kvs ?_
    rw [valV_any] at a
    cases q : valV kvs k with
    | none => rfl
    | some x => rw [q] at a; exact (a rfl).elim
theorem length_putK (kvs : List (κ × V)) (k : κ) (v : V) : (putK kvs k v).length ≤ kvs.length + 1 := by
  unfold putK
  split
  · rw [List.length_map]; omega
  · rw [List.length_append, List.length_cons, List.length_nil]; omega
theorem RelO.isSome_eq {o : Option V} {u : Option Value} (r : RelO o u) : o.isSome = u.isSome := by
  cases o with
  | none => cases u with
    | none => rfl
    | some _ => exact (show False from r).elim
  | some _ => cases u with
    | none => exact (show False from r).elim
    | some _ => rfl
theorem RelO.getD {o : Option V} {u : Option Value} {d : V} {d' : Value} (r : RelO o u) (rd : RelV d d') : RelV (o.getD d) (u.getD d') := by
  cases o with
  | none => cases u with
    | none => exact rd
    | some _ => exact (show False from r).elim
  | some _ => cases u with
    | none => exact (show False from r).elim
    | some _ => exact r
theorem KV.val {kvs : List (κ × V)} {vs : List (κ × Value)} (r : KV kvs vs) (k : κ) : RelO (valV kvs k) (valueAt vs k) := by
  unfold KV at r
  induction r with
  | nil => exact True.intro
  | @cons p q ps qs h t ih =>
    obtain ⟨h1, h2⟩ := h
    by_cases e : p.1 = k
    · have e' : q.1 = k := h1.symm.trans e
      have b : valueAt (q :: qs) k = some q.2 := by simp [valueAt, List.find?_cons, e']
      rw [valV_pos e, b]; exact h2
    · have e' : ¬ q.1 = k := fun z => e (h1.trans z)
      have b : valueAt (q :: qs) k = valueAt qs k := by simp [valueAt, List.find?_cons, e']
      rw [valV_neg e, b]; exact ih
theorem KV.any {kvs : List (κ × V)} {vs : List (κ × Value)} (r : KV kvs vs) (k : κ) : (kvs.any fun kv => decide (kv.1 = k)) = vs.any fun kv => decide (kv.1 = k) := by
  unfold KV at r
  induction r with
  | nil => rfl
  | cons h t ih => rw [List.any_cons, List.any_cons, ih, h.1]
theorem KV.repl {kvs : List (κ × V)} {vs : List (κ × Value)} (r : KV kvs vs) (k : κ) {y : V} {u : Value} (ry : RelV y u) :
    KV (kvs.map fun kv => if kv.1 = k then (kv.1, y) else kv) (vs.map fun kv => if kv.1 = k then (kv.1, u) else kv) := by
  unfold KV at r ⊢
  induction r with
  | nil => exact .nil
  | @cons p q ps qs h t ih =>
    rw [List.map_cons, List.map_cons]
    refine .cons ?_ ih
    obtain ⟨h1, h2⟩ := h
    by_cases e : p.1 = k
    · rw [if_pos e, if_pos (h1.symm.trans e)]; exact ⟨h1, ry⟩
    · rw [if_neg e, if_neg (fun z => e (h1.trans z))]; exact ⟨h1, h2⟩
theorem KV.put {kvs : List (κ × V)} {vs : List (κ × Value)} (r : KV kvs vs) (k : κ) {y : V} {u : Value} (ry : RelV y u) : KV (putK kvs k y) (stored vs k u) := by
  unfold putK stored
  rw [r.any k]
  by_cases e : (vs.any fun kv => decide (kv.1 = k)) = true
  · rw [if_pos e, if_pos e]; exact r.repl k ry
  · rw [if_neg e, if_neg e]; exact Paired.snoc r ⟨rfl, ry⟩
theorem KV.keys {kvs : List (κ × V)} {vs : List (κ × Value)} (r : KV kvs vs) : kvs.map (·.1) = vs.map (·.1) := by
  unfold KV at r
  induction r with
  | nil => rfl
  | cons h t ih => rw [List.map_cons, List.map_cons, ih, h.1]
theorem KV.length {kvs : List (κ × V)} {vs : List (κ × Value)} (r : KV kvs vs) : kvs.length = vs.length := Paired.length r
end
theorem kV_is {P : Program} {w : World} {k : Key} {u : Value} (r : RelV (kV k) u) : (mixKind P w).is k u = true := by
  cases k with
  | inl i => obtain ⟨t, e⟩ := (show ∃ t, u = Value.int i t from r); subst e; exact mixKind_int P w i t
  | inr x => obtain ⟨t, e⟩ := (show ∃ t, u = Value.str x t from r); subst e; exact mixKind_str P w x t
section
variable {P : Program} {w : World} {H : Hp} {h : Heap} {a : Addr}
theorem rd_of {u : HO} (ok : HOk P w H h) (e : Rd H a u) : ObjOk P w H h a u := e.ok ok
theorem dk_rd {kvs : List (Key × V)} (ok : HOk P w H h) (e : Rd H a (.dK kvs)) : kvs.length ≤ sizeLine ∧ (a == sysModules) = false ∧ ∃ vs, KV kvs vs ∧ h.DictOf (mixKind P w) a vs :=
  show ObjOk P w H h a (.dK kvs) from rd_of ok e
theorem dk_of {kvs : List (Key × V)} (ok : HOk P w H h) (e : H a = some (.dK kvs)) : kvs.length ≤ sizeLine ∧ (a == sysModules) = false ∧ ∃ vs, KV kvs vs ∧ h.DictOf (mixKind P w) a vs := dk_rd ok (.inl e)
end
noncomputable def DGet (H : Hp) (a : Addr) (y : V) (r : Option V) : Prop :=
  (∃ kvs k, Rd H a (.dK kvs) ∧ y = kV k ∧ r = valV kvs k) ∨ False
noncomputable def DPut (H : Hp) (a : Addr) (y v : V) (H' : Hp) : Prop :=
  (∃ kvs k, H a = some (.dK kvs) ∧ y = kV k ∧ kvs.length < sizeLine ∧ H' = upd H a (.dK (putK kvs k v))) ∨
  False
theorem DGet.k {H : Hp} {a : Addr} {kvs : List (Key × V)} {k : Key} (e : H a = some (.dK kvs)) : DGet H a (kV k) (valV kvs k) := .inl ⟨kvs, k, .inl e, rfl, rfl⟩
theorem DPut.k {H : Hp} {a : Addr} {kvs : List (Key × V)} {k : Key} {v : V} (e : H a = some (.dK kvs)) (hl : kvs.length < sizeLine) : DPut H a (kV k) v (upd H a (.dK (putK kvs k v))) := .inl ⟨kvs, k, e, rfl, hl, rfl⟩
section
variable {X : Cx} {pins : List (Addr × Obj)} {σ : St} {H : Hp} {s : Shared} {a : Addr} {y v : V} {u r : Value} {o : Option V} {A : Around} {E : Value → Shared → Prop}
theorem Inv.big (I : Inv X pins σ H s) : sysModules < s.heap.objs.size := by
  have h : mainGlobals < s.heap.objs.size := (I.mod.glob.keeps I.bk).lt
  exact Nat.lt_trans (by decide) h
theorem d_getItem {Q : Value → Shared → Prop} (hu : A.units + 1 < cLine) (I : Inv X pins σ H s) (g : DGet H a y (some v)) (ry : RelV y u) (h : ∀ w' s', Inv X pins σ H s' → RelV v w' → Q w' s') :
    wpAny (model X.prog X.w) A (getItem (.ref a) u) Q E s := by
  rcases g with ⟨kvs, k, e, ey, l⟩ | z0
  · subst ey
    obtain ⟨z, hd, vs, rel, dd⟩ := dk_rd I.hok e
    obtain ⟨w', hw, rw'⟩ := RelO.some_of (v := v) (o := valueAt vs k) (by rw [l]; exact rel.val k)
    exact wpAny_getItem_of (kV_is ry) dd.mapOf hw (h w' _ (I.tok _) rw')
  · exact z0.elim
theorem d_notIn {Q : Value → Shared → Prop} (hu : A.units + 1 < cLine) (I : Inv X pins σ H s) (g : DGet H a y o) (ry : RelV y u) (h : ∀ s', Inv X pins σ H s' → Q (.bool (!o.isSome)) s') :
    wpAny (model X.prog X.w) A (compareOp .NotIn u (.ref a)) Q E s := by
  rcases g with ⟨kvs, k, e, ey, l⟩ | z0
  · subst ey
    obtain ⟨z, hd, vs, rel, dd⟩ := dk_rd I.hok e
    refine wpAny_notIn_of (kV_is ry) hd dd.mapOf ?_
    rw [← (rel.val k).isSome_eq, ← l]
    exact h _ (I.tok _)
  · exact z0.elim
theorem d_write {h' : Heap} {t' : Nat} {ob : HO} (I : Inv X pins σ H s) (mu : Mut (H a)) (hs : Heap.SameBut a s.heap h') (he : ∃ q, h'.get? a = some q) (new : ObjOk X.prog X.w (upd H a ob) h' a ob) :
    Inv X pins σ (upd H a ob) { s with heap := h', toks := t' } :=
  I.write (x := a) (e := a) mu (.inl rfl) (fun b q hb z => (hs.2 b hb).trans z) he new
theorem dk_new {P : Program} {w : World} {H' : Hp} {h' : Heap} {kvs : List (Key × V)} {vs : List (Key × Value)} (z : kvs.length ≤ sizeLine) (hd : (a == sysModules) = false) (rel : KV kvs vs) (dd : h'.DictOf (mixKind P w) a vs) :
    ObjOk P w H' h' a (.dK kvs) := ⟨z, hd, vs, rel, dd⟩
theorem d_setItem {H' : Hp} {Q : Unit → Shared → Prop} (hu : A.units + 1 < cLine) (I : Inv X pins σ H s) (g : DPut H a y v H') (ry : RelV y u) (rv : RelV v r) (h : ∀ s', Inv X pins σ H' s' → Q () s') :
    wpAny (model X.prog X.w) A (setItem (.ref a) u r) Q E s := by
  rcases g with ⟨kvs, k, e, ey, l, eH⟩ | z0
  · subst ey eH
    obtain ⟨z, hd, vs, rel, dd⟩ := dk_of I.hok e
    have hz : vs.length ≤ sizeLine := by rw [← rel.length]; exact z
    have hl : (putK kvs k v).length ≤ sizeLine := by have := length_putK kvs k v; omega
    refine wpAny_setItem_pairs (hsz := hz) (kV_is ry) dd fun h' dd' hs => h _ ?_
    have he : ∃ q, h'.get? a = some q := let ⟨q, _, _, hq, _⟩ := dd'; ⟨q, hq⟩
    exact d_write I (by rw [e]; exact True.intro) hs he (dk_new hl hd (rel.put k rv) dd')
  · exact z0.elim
end
section
variable {X : Cx} {pins : List (Addr × Obj)} {σ : St} {H : Hp} {s : Shared} {a : Addr} {kvs : List (Key × V)} {k : Key} {u : Value} {A : Around} {E : Value → Shared → Prop}
theorem d_len {Q : Value → Shared → Prop} (I : Inv X pins σ H s) (e : Rd H a (.dK kvs)) (h : ∀ t s', Inv X pins σ H s' → Q (.int kvs.length t) s') : wpAny (model X.prog X.w) A (call (.builtin "len") [.ref a]) Q E s := by
  obtain ⟨z, hd, vs, rel, dd⟩ := dk_rd I.hok e
  refine call_len_dict hd dd (by rw [← rel.length]; rw [sizeLine_eq] at z; omega) ?_
  rw [← rel.length]
  exact h _ _ (I.tok _)
end
noncomputable def NoSl (i : Expr) : Prop := ∀ ov iv, subscripted i false ov iv = operate [ov, iv] (getItem ov iv)
theorem subD_of {prog : Program} {w : World} {A : Around} {E : Value → Shared → Prop} {s : Shared} {env : Env} {value slice : Expr} {pos : Pos} {T id : String} {Q : Value → Shared → Prop}
    (hl : typeLookup (.type T) "__getitem__" = pure (some (.builtin id))) (hs : NoSl slice)
    (h : wpAny (model prog w) A (eval value env) (fun o s₁ => wpAny (model prog w) A (eval slice env) (fun i s₂ => s₂.TypeIs o T ∧ wpAny (model prog w) A (getItem o i) Q E s₂) E s₁) E s) :
    wpAny (model prog w) A (eval (.Subscript value slice pos) env) Q E s := by
  refine Subscript_ (wpAny_mono h (fun o s₁ h₁ => wpAny_mono h₁ (fun i s₂ h₂ => ?_) fun _ _ x => x) fun _ _ x => x)
  obtain ⟨hT, h₂⟩ := h₂
  unfold subscriptTail
  refine wpAny_bind ?_
  rw [getitemInPython_of_ne hT.not_modules]
  refine wpAny_bind (wpAny_specialOf hT hl ?_)
  have fin : wpAny (model prog w) A (subscripted slice false o i) (fun r s₃ => wpAny (model prog w) A (letTemporaryGo value o r >>= fun _ => pure r) Q E s₃) E s₂ := by
    rw [hs o i]
    exact wpAny_operating (wpAny_mono h₂ (fun r s₃ h₃ => wpAny_bind (wpAny_letTemporaryGo (wpAny_pure h₃))) fun _ _ x => x)
  first
    | exact wpAny_pure (wpAny_bind fin)
    | exact wpAny_bind (wpAny_pure (wpAny_bind fin))
    | exact wpAny_bind fin
theorem dict_typeIs {X : Cx} {pins : List (Addr × Obj)} {σ : St} {H : Hp} {s : Shared} {a : Addr} {y : V} {o : Option V} (I : Inv X pins σ H s) (g : DGet H a y o) : s.TypeIs (.ref a) "dict" := by
  rcases g with ⟨kvs, k, e, _, _⟩ | z0
  · obtain ⟨_, _, vs, _, dd⟩ := dk_rd I.hok e
    exact dd.typeIs
  · exact z0.elim
noncomputable def tDGet (td ty : TE) : TE := fun σ H Q => td σ H fun x H1 => ty σ H1 fun y H2 => ∃ a v, x = .ref a ∧ DGet H2 a y (some v) ∧ Q v H2
noncomputable def tDNotIn (ty td : TE) : TE := fun σ H Q => ty σ H fun y H1 => td σ H1 fun x H2 => ∃ a o, x = .ref a ∧ DGet H2 a y o ∧ Q (.bl (!o.isSome)) H2
noncomputable def sDPut (td ty tv : TE) : TS := fun D σ H => tv σ H fun v H1 => td σ H1 fun x H2 => ty σ H2 fun y H3 => ∃ a H4, x = .ref a ∧ DPut H3 a y v H4 ∧ D.nx σ H4
section
variable {X : Cx} {o i e value : Expr} {pos pos' tpos : Pos} {td ty tv : TE}
theorem pe_dget (hu : X.A.units + 1 < cLine) (ho : PE X o td) (hi : PE X i ty) (hs : NoSl i) : PE X (.Subscript o i pos) (tDGet td ty) := by
  intro pins s σ H Q I h
  refine subD_of PySem.F.slot_dict_getitem.lookup hs (thn (ho pins s σ H _ I h) fun u s1 ⟨x, H1, I1, rx, q1⟩ => thn (hi pins s1 σ H1 _ I1 q1) fun iv s2 ⟨y, H2, I2, ry, a, v, ex, g, q2⟩ => ?_)
  subst ex
  obtain rfl : u = Value.ref a := rx
  exact ⟨dict_typeIs I2 g, d_getItem hu I2 g ry fun w' s3 I3 rw' => ⟨v, H2, I3, rw', q2⟩⟩
theorem pc_dnotin (hu : X.A.units + 1 < cLine) (hi : PE X i ty) (ho : PE X o td) : PC X .NotIn i o (tDNotIn ty td) := by
  intro pins s σ H Q I h
  refine thn (hi pins s σ H _ I h) fun iv s1 ⟨y, H1, I1, ry, q1⟩ => thn (ho pins s1 σ H1 _ I1 q1) fun u s2 ⟨x, H2, I2, rx, a, ov, ex, g, q2⟩ => ?_
  subst ex
  obtain rfl : u = Value.ref a := rx
  exact d_notIn hu I2 g ry fun s3 I3 => ⟨.bl (!ov.isSome), H2, I3, rfl, q2⟩
theorem ps_dput (hu : X.A.units + 1 < cLine) (ho : PE X o td) (hi : PE X i ty) (hv : PE X value tv) (hs : swapsWith value (some (.Subscript o i pos')) pos.line X.env = pure false) :
    PS X (.Assign [.Subscript o i pos'] value pos) (sDPut td ty tv) := by
  intro pins s σ H D I h
  refine wpAny_Assign_Subscript (thn (hv pins s σ H _ I h) fun r s1 ⟨v, H1, I1, rv, q1⟩ => thn (ho pins s1 σ H1 _ I1 q1) fun u s2 ⟨x, H2, I2, rx, q2⟩ => thn (hi pins s2 σ H2 _ I2 q2) fun iv s3 ⟨y, H3, I3, ry, a, H4, ex, g, q3⟩ => ?_) hs
  subst ex
  obtain rfl : u = Value.ref a := rx
  exact d_setItem hu I3 g ry rv fun s4 I4 => ⟨σ, H4, I4, q3⟩
end
theorem dk_empty {P : Program} {w : World} {H : Hp} (h : Heap) (hb : sysModules < h.objs.size) : ObjOk P w H (h.push { cls := .type "dict", data := .dict #[] }) h.objs.size (.dK []) :=
  ⟨Nat.zero_le _, beq_eq_false_iff_ne.mpr (Ne.symm (Nat.ne_of_lt hb)), [], .nil, Heap.DictOf.new h⟩
noncomputable def tDNewK : TE := fun _ H Q => ∀ p, H p = none → Q (.ref p) (upd H p (.dK []))
section
variable {X : Cx} {pos : Pos}
theorem pe_dnewK : PE X (.Dict [] [] pos) tDNewK := fun pins s σ H Q I h =>
  wpAny_Dict_empty ⟨.ref s.heap.objs.size, _, I.laid (a := s.heap.objs.size) (o := .dK []) (t' := s.toks) (fun _ _ q => Heap.get?_push_of_some _ q) (Nat.le_refl _) (dk_empty s.heap I.big), rfl, h _ (I.hok.fresh (Nat.le_refl _))⟩
end
noncomputable def tPairs : List (TE × TE) → St → Hp → (List (V × V) → Hp → Prop) → Prop
  | [], _, H, Q => Q [] H
  | (tk, tv) :: r, σ, H, Q => tk σ H fun x H1 => tv σ H1 fun y H2 => tPairs r σ H2 fun ps H3 => Q ((x, y) :: ps) H3
noncomputable abbrev VV : List (V × V) → List (Value × Value) → Prop := Paired fun p q => RelV p.1 q.1 ∧ RelV p.2 q.2
noncomputable def PPs (X : Cx) (pos : Pos) (keys : List (Option Expr)) (values : List Expr) (trs : List (TE × TE)) : Prop :=
  ∀ (pins : List (Addr × Obj)) (s : Shared) (σ : St) (H : Hp) (Q : List (V × V) → Hp → Prop), Inv X pins σ H s → tPairs trs σ H Q →
    wpAny (model X.prog X.w) X.A (evalPairs (pairTrees keys values X.env pos)) (fun vs s' => ∃ ps H', Inv X pins σ H' s' ∧ VV ps vs ∧ Q ps H') X.xe s
theorem pps_nil {X : Cx} {pos : Pos} : PPs X pos [] [] [] := fun pins s σ H Q I h => pairTrees_nil_walk ⟨[], H, I, .nil, h⟩
theorem pps_cons {X : Cx} {pos : Pos} {k v : Expr} {ks : List (Option Expr)} {vs : List Expr} {tk tv : TE} {trs : List (TE × TE)} (hk : PE X k tk) (hv : PE X v tv) (hr : PPs X pos ks vs trs) :
    PPs X pos (some k :: ks) (v :: vs) ((tk, tv) :: trs) := fun pins s σ H Q I h =>
  pairTrees_cons_walk (thn (hk pins s σ H _ I h) fun u s1 ⟨x, H1, I1, rx, q1⟩ => thn (hv pins s1 σ H1 _ I1 q1) fun w2 s2 ⟨y, H2, I2, ry, q2⟩ =>
    thn (hr pins s2 σ H2 _ I2 q2) fun ws s3 ⟨ps, H3, I3, rel, q3⟩ => ⟨(x, y) :: ps, H3, I3, .cons ⟨rx, ry⟩ rel, q3⟩)
noncomputable def mergeK (kvs more : List (Key × V)) : List (Key × V) := more.foldl (fun acc kv => putK acc kv.1 kv.2) kvs
theorem KV.merge : ∀ {more : List (Key × V)} {rs : List (Key × Value)} {kvs : List (Key × V)} {vs : List (Key × Value)}, KV more rs → KV kvs vs → KV (mergeK kvs more) (merged vs rs) := by
  intro more rs kvs vs r
  unfold KV at r
  induction r generalizing kvs vs with
  | nil => intro q; exact q
  | @cons p q ps qs h t ih =>
    intro r0
    have e : KV (putK kvs p.1 p.2) (stored vs q.1 q.2) := by
      have := r0.put p.1 h.2
      rw [← h.1]; exact this
    exact ih e
theorem length_mergeK : ∀ (more kvs : List (Key × V)), (mergeK kvs more).length ≤ kvs.length + more.length
  | [], kvs => by show kvs.length ≤ kvs.length + 0; omega
  | p :: r, kvs => by
    have h1 := length_mergeK r (putK kvs p.1 p.2)
    have h2 := length_putK kvs p.1 p.2
    show (mergeK (putK kvs p.1 p.2) r).length ≤ _
    rw [List.length_cons]; omega
theorem carries_of {P : Program} {w : World} : ∀ {kvs : List (Key × V)} {ws : List (Value × Value)}, VV (kvs.map fun kv => (kV kv.1, kv.2)) ws → ∃ rs, Carries (mixKind P w) ws rs ∧ KV kvs rs
  | [], _, r => by rw [List.map_nil] at r; cases r; exact ⟨[], True.intro, .nil⟩
  | p :: kvs, _, r => by
    rw [List.map_cons] at r
    cases r with
    | @cons a b as bs h t =>
      obtain ⟨rs, c, q⟩ := carries_of (P := P) (w := w) t
      obtain ⟨b1, b2⟩ := b
      exact ⟨(p.1, b2) :: rs, ⟨kV_is h.1, rfl, c⟩, .cons ⟨rfl, h.2⟩ q⟩
noncomputable def tDisp (trs : List (TE × TE)) : TE := fun σ H Q => ∀ p, H p = none → tPairs trs σ (upd H p (.dK [])) fun ps H2 => H2 p = some (.dK []) ∧ ∃ kvs : List (Key × V), ps = kvs.map (fun kv => (kV kv.1, kv.2)) ∧ kvs.length ≤ 15 ∧ Q (.ref p) (upd H2 p (.dK (mergeK [] kvs)))
theorem pe_disp {X : Cx} {pos : Pos} {keys : List (Option Expr)} {values : List Expr} {trs : List (TE × TE)} (h : PPs X pos keys values trs) (hall : keys.all (·.isSome) = true) (hl : keys.length = values.length) (h0 : keys ≠ [])
    (h15 : keys.length ≤ 15) : PE X (.Dict keys values pos) (tDisp trs) := by
  intro pins s σ H Q I q
  have hn := I.hok.fresh (Nat.le_refl s.heap.objs.size)
  have I1 := I.laid (a := s.heap.objs.size) (o := .dK []) (h' := s.heap.push { cls := .type "dict", data := .dict #[] }) (t' := s.toks) (fun _ _ q => Heap.get?_push_of_some _ q) (Nat.le_refl _) (dk_empty s.heap I.big)
  refine wpAny_Dict_walk (knd := mixKind X.prog X.w) hall hl h0 h15 (thn (h pins _ σ _ _ I1 (q _ hn)) fun ws s2 ⟨ps, H2, I2, rel, e, kvs, ep, lk, q2⟩ => ?_)
  subst ep
  obtain ⟨rs, c, rk⟩ := carries_of (P := X.prog) (w := X.w) rel
  obtain ⟨z, hd, vs0, r0, dd⟩ := dk_of I2.hok e
  cases r0
  refine ⟨rs, c, dd, fun h' dd' hs => ⟨.ref s.heap.objs.size, _, ?_, rfl, q2⟩⟩
  have hz : (mergeK [] kvs).length ≤ sizeLine := by
    have h1 := length_mergeK kvs []
    rw [List.length_nil] at h1
    rw [sizeLine_eq]; omega
  have he : ∃ q, h'.get? s.heap.objs.size = some q := let ⟨q, _, _, hq, _⟩ := dd'; ⟨q, hq⟩
  exact d_write I2 (by rw [e]; exact True.intro) hs he (dk_new hz hd (rk.merge .nil) dd')
structure M2 (X : Cx) (o : Expr) (m : Str) (apos : Pos) (e f : Expr) (cpos : Pos) : Prop where
  base : attributeBase o m X.env (eval o X.env) = eval o X.env
  few : ((backTo cpos (starEach [e, f] X.env)).all (fun x => !x.1) && (backToKw cpos (keywordEach [] X.env)).all (fun x => x.1.isSome)
    && decide (([e, f] : List Expr).length + ([] : List Keyword).length + (if ([] : List Keyword).isEmpty then 0 else 1) < 30)) = true
  line : (apos.endLine == cpos.line) = true
  trees : backTo cpos (starEach [e, f] X.env) = [(false, eval e X.env), (false, eval f X.env)]
noncomputable def IsD (H : Hp) (a : Addr) : Prop := (∃ kvs, Rd H a (.dK kvs)) ∨ False
theorem isD_at {X : Cx} {pins : List (Addr × Obj)} {σ : St} {H : Hp} {s : Shared} {a : Addr} (I : Inv X pins σ H s) (d : IsD H a) :
    s.TypeIs (.ref a) "dict" ∧ (∀ b, Value.ref a = .ref b → ∃ ob, s.heap.get? b = some ob ∧ ob.dict = none) ∧ (a == sysModules) = false := by
  rcases d with ⟨kvs, e⟩ | z0
  · obtain ⟨_, hd, vs, _, dd⟩ := dk_rd I.hok e
    refine ⟨dd.typeIs, fun b q => ?_, hd⟩
    cases q
    obtain ⟨ob, _, _, h1, h2, _⟩ := dd
    exact ⟨ob, h1, h2.2.1⟩
  · exact z0.elim
section
variable {X : Cx} {pins : List (Addr × Obj)} {σ : St} {H : Hp} {s : Shared} {a : Addr} {y d : V} {u r : Value} {o : Option V} {A : Around} {E : Value → Shared → Prop}
theorem d_get2 {Q : Value → Shared → Prop} (hu : A.units + 1 < cLine) (I : Inv X pins σ H s) (g : DGet H a y o) (ry : RelV y u) (rd : RelV d r) (h : ∀ w' s', Inv X pins σ H s' → RelV (o.getD d) w' → Q w' s') :
    wpAny (model X.prog X.w) A (call (.builtin "dict.get") [.ref a, u, r]) Q E s := by
  rcases g with ⟨kvs, k, e, ey, l⟩ | z0
  · subst ey
    obtain ⟨z, hd, vs, rel, dd⟩ := dk_rd I.hok e
    refine call_meetsIn PySem.F.slot_dict_get dd.typeIs PySem.F.entry_dict_get (PySem.F.args_dict_get_3 _ _ _) (meets_dict_get_default (mixKind X.prog X.w) a (kV_is ry) hd r) ⟨_, dd.mapOf, h _ _ (I.tok _) ?_⟩
    rw [l]
    exact (rel.val k).getD rd
  · exact z0.elim
end
noncomputable def tDGet2 (td ty tx : TE) : TE := fun σ H Q => td σ H fun x H1 => ∃ a, x = .ref a ∧ IsD H1 a ∧ ty σ H1 fun y H2 => tx σ H2 fun z H3 => ∃ o, DGet H3 a y o ∧ Q (o.getD z) H3
section
variable {X : Cx} {o e f : Expr} {apos cpos : Pos} {td ty tx : TE}
theorem pe_dget2 (hu : X.A.units + 1 < cLine) (ho : PE X o td) (he : PE X e ty) (hf : PE X f tx) (m : M2 X o "get" apos e f cpos) : PE X (.Call (.Attribute o "get" apos) [e, f] [] cpos) (tDGet2 td ty tx) := by
  intro pins s σ H Q I h
  refine wpAny_Call_method m.base m.few m.line PySem.F.plainAttrs_dict PySem.F.slot_dict_get PySem.F.type_dict_get (thn (ho pins s σ H _ I h) fun u s1 ⟨x, H1, I1, rx, a, ex, d, q1⟩ => ?_)
  subst ex
  obtain rfl : u = Value.ref a := rx
  obtain ⟨t1, t2, _⟩ := isD_at I1 d
  refine ⟨t1, t2, ?_⟩
  rw [m.trees]
  refine Calls.callWith_builtin rfl (Calls.evalArgs_plain (Calls.spliced_cons (thn (he pins s1 σ H1 _ I1 q1) fun iv s2 ⟨y, H2, I2, ry, q2⟩ =>
    Calls.spliced_cons (thn (hf pins s2 σ H2 _ I2 q2) fun fv s3 ⟨z, H3, I3, rz, ov, g, q3⟩ => Calls.spliced_nil ?_))))
  exact d_get2 hu I3 g ry rz fun w' s4 I4 rw' => ⟨_, H3, I4, rw', q3⟩
end
section
variable {X : Cx} {pins : List (Addr × Obj)} {σ : St} {H : Hp} {s : Shared} {a : Addr} {kvs : List (Key × V)} {A : Around} {E : Value → Shared → Prop}
end
section
variable {X : Cx} {pins : List (Addr × Obj)} {σ : St} {H : Hp} {s : Shared} {a : Addr} {y : V} {u : Value} {A : Around} {E : Value → Shared → Prop}
end
end L2
namespace L2
open PySem PySem.Spec PyProof.Rows
section
variable {prog : Program} {w : World} {A : Around} {E : Value → Shared → Prop}
end
section
variable {X : Cx}
end
end L2
namespace L2
open PySem PySem.Spec PyProof.Rows
theorem boot_reversed5 : bootBuiltins "reversed" = some (.type "reversed") := by decide +kernel
section
variable {X : Cx} {pins : List (Addr × Obj)} {σ : St} {H : Hp} {s : Shared} {h' : Heap}
theorem Inv.turnedNew {t' : Nat} {ch : List Addr} {T : Addr} {ob : HO} (I : Inv X pins σ H s) (k : ∀ b o, b ∉ ch → s.heap.get? b = some o → h'.get? b = some o) (hf : ∀ b ∈ ch, FpOk X pins H b) (hT : s.heap.objs.size ≤ T)
    (new : ObjOk X.prog X.w (upd H T ob) h' T ob) : Inv X pins σ (upd H T ob) { s with heap := h', toks := t' } := by
  have hn : H T = none := I.hok.fresh hT
  have nit : ∀ b u, H b = some u → b ∉ ch := fun b u e z => by
    have q := (hf b z).1
    rw [q] at e; cases e
  refine I.step (g' := s.gens) (d' := s.drawn) (ch := ch) (fun b hb => ⟨(hf b hb).2.2.2.1, (hf b hb).2.1, (hf b hb).2.2.2.2.1, (hf b hb).2.2.2.2.2⟩) (fun b o _ _ hc e _ => k b o hc e) (fun b o _ _ hc e _ => ⟨o.slots, k b o hc e⟩)
    (fun b o _ e n => ?_) (fun b o hc e => ⟨o, k b o hc e⟩) (fun b xs e => ?_) (fun b o u e => ?_) (fun b ps e => ⟨#[], ?_⟩) (fun m hm => ?_) (fun b u e => ?_) I.bare
  · rw [upd_ne (Nat.ne_of_lt (Nat.lt_of_lt_of_le (Heap.lt_size e) hT))]; exact n
  · rw [upd_ne (ne_of_none e hn)]; exact e
  · rw [upd_ne (ne_of_none e hn)]; exact e
  · rw [upd_ne (ne_of_none e hn), e]; simp
  · obtain ⟨o, es, ep, ho, r⟩ := hm
    exact ⟨o, es, ep, k _ o (fun z => (hf _ z).2.1 rfl) ho, r⟩
  · by_cases hb : b = T
    · subst hb
      rw [upd_same] at e
      cases e
      exact new
    · rw [upd_ne hb] at e
      refine (I.hok b u e).stay (fun c v hc q => k c v ?_ q) (fun c q => by rw [upd_ne (ne_of_none q hn)]; exact q) fun c xs q => by rw [upd_ne (ne_of_none q hn)]; exact q
      rcases hc with z | z
      · rw [z]; exact nit b u e
      · exact nit c _ z
theorem Inv.lock {d : Addr} {u : HO} (I : Inv X pins σ H s) (h : H d = some u) (mu : Mut (some u)) : ∃ od, Inv X pins σ (upd H d (.frz od u)) s := by
  have x := I.hok d u h
  have ex : ∃ od, s.heap.get? d = some od := by
    cases u with
    | lst xs => obtain ⟨_, _, _, _, e⟩ := x; exact ⟨_, e⟩
    | dK kvs => obtain ⟨_, _, _, _, o, _, _, e, _⟩ := x; exact ⟨o, e⟩
    | set S n => obtain ⟨o, _, _, _, e, _⟩ := x; exact ⟨o, e⟩
    | ins C dx fs => obtain ⟨_, _, _, e, _⟩ := x; exact ⟨_, e⟩
    | ext φ => obtain ⟨_, ⟨_, e⟩, _⟩ := x; exact ⟨_, e⟩
    | _ => exact False.elim mu
  obtain ⟨od, e⟩ := ex
  have new : ObjOk X.prog X.w (upd H d (.frz od u)) s.heap d (.frz od u) := by
    refine ⟨e, x.stay (fun b v _ q => q) (fun b q => ?_) fun b xs q => ?_⟩
    · rw [upd_ne (fun z => by rw [z, h] at q; cases q; exact mu)]; exact q
    · rw [upd_ne (fun z => by rw [z, h] at q; cases q; exact mu)]; exact q
  exact ⟨od, I.write (x := d) (e := d) (t' := s.toks) (h' := s.heap) (by rw [h]; exact mu) (.inl rfl) (fun b v _ q => q) ⟨od, e⟩ new⟩
end
section
variable {X : Cx}
theorem pi_one {tg : Expr} {pins : List (Addr × Obj)} {σ : St} {H : Hp} {s : Shared} {R : It → Hp → Prop} {J : It} {tn : Nat → Heap → Prop} {tk : Nat} (I : Inv X pins σ H s) (o : Obj)
    (T : Turn X.prog X.w X.K tg J [s.heap.objs.size] s.heap.objs.size tn) (st : tn 0 (s.heap.push o)) (q : R J H) : PIE X pins σ tg R (.ref s.heap.objs.size) { s with heap := s.heap.push o, toks := tk } := by
  refine ⟨s.heap.objs.size, [s.heap.objs.size], tn, J, H, rfl, I.kept fun b ob e => Heap.get?_push_of_some _ e, T, st, fun b hb => ?_, q⟩
  have e : b = s.heap.objs.size := by simpa using hb
  subst e
  exact I.fpOk (Nat.le_refl _) (I.hok.fresh (Nat.le_refl _))
end
noncomputable def Itc (lo c : Int) (n : Nat) : It := ⟨fun i _ => i < n, fun i H x H' => H' = H ∧ x = .int (lo + (i : Nat) * c), fun i _ => n ≤ i⟩
theorem turn_rangeC {P : Program} {w : World} {K : PySem.W.Frag} {tg : Expr} (it : Addr) (lo c : Int) (n : Nat) : Turn P w K tg (Itc lo c n) [it] it (fun i h => IsRangeIter h it (lo + (i : Nat) * c) ((n : Int) - (i : Nat)) c) where
  mem := by simp
  obj := fun i h st b hb => by
    have e : b = it := by simpa using hb
    subst e
    exact ⟨_, st, fun v z => nomatch z⟩
  keep := fun i h h' st k => k it (by simp) _ st
  item := by
    intro X hP hw hK hc i pins s σ H E I hf st hg
    subst hP hw hK
    obtain ⟨f0, f1, f2, f3, f4, f5⟩ := hf it (by simp)
    have W := Walks.range (prog := X.prog) (w := X.w) (I.ok.hd hc) it lo c n
    refine W.item i s _ _ hg st fun v h' tk hv st' kk => ?_
    obtain ⟨t, rfl⟩ := hv
    have I1 : Inv X pins σ H { s with heap := h', toks := tk } := I.turned (fun b o hb e => kk b o (by simpa using hb) e) f0 f1 f3 f4 f5
    exact ⟨_, rfl, go_of (s := { s with heap := h', toks := tk }) (n := "range_iterator") st' rfl rfl (by decide) ⟨.int (lo + (i : Nat) * c), H, I1, ⟨t, rfl⟩, ⟨rfl, rfl⟩, st', fun b hb => (hf b hb).1⟩⟩
  done := by
    intro X hP hw hK hc i pins s σ H E I hf st hg
    subst hP hw hK
    obtain ⟨f0, f1, f2, f3, f4, f5⟩ := hf it (by simp)
    exact wpAny_pyNext_range_end (I.ok.hd hc) st (by have : n ≤ i := hg; omega) fun h' eb => ⟨rfl, I.turned (t' := s.toks) (fun b o hb e => eb b o hb e) f0 f1 f3 f4 f5⟩
  self := fun A i s Q E st h => wpAny_pyIter_rangeiter st h
noncomputable def RgC (i j c : Int) (n : Nat) : Prop := c ≠ 0 ∧ c.natAbs < 1073741824 ∧ Builtin.Range.small i j c = true ∧ Builtin.Range.rangeSize i j c = n
noncomputable def iRng3 (ta : TA) : TI := fun σ H R => ta σ H fun vs H1 => ∃ (i j c : Int) (n : Nat), vs = [.int i, .int j, .int c] ∧ RgC i j c n ∧ R (Itc i c n) H1
section
variable {X : Cx} {tg : Expr}
theorem pi_range3 {a b c : Expr} {ta : TA} {p pos : Pos} (hg : Gl X "range") (hm : X.mg "range" = none) (ha : PA X [a, b, c] ta)
    (hs : starEach [a, b, c] X.env = (false, eval a X.env) :: starEach [b, c] X.env := by rfl) (hpl : (backTo pos (starEach [b, c] X.env)).any (·.1) = false := by rfl) :
    PI X tg (.Call (.Name "range" p) [a, b, c] [] pos) (iRng3 ta) := by
  intro pins s σ H R I h
  refine Call_ (ld_blt I hg hm boot_range (PyProof.Rows.callWith_type1 (thn (ha pos pins s σ H _ I h) fun us s1 ⟨vs, H1, I1, r1, q1⟩ => ?_) hs hpl))
  obtain ⟨i, j, k, n, e, ⟨c0, c1, c2, c3⟩, q⟩ := q1
  subst e
  cases r1 with
  | cons r rr =>
    cases rr with
    | cons r' rr =>
      cases rr with
      | cons r'' rr =>
        cases rr
        obtain ⟨t, rfl⟩ := r
        obtain ⟨t', rfl⟩ := r'
        obtain ⟨t'', rfl⟩ := r''
        refine call_range_3 c0 ?_ (.inl (PyProof.noPylong_small c1))
        refine wpAny_pyIter_range (IsRange.new ..) c2 ?_
        have I2 : Inv X pins σ H1 { s1 with heap := s1.heap.push { cls := .type "range", data := .fields #[.int i t, .int j t', .int k t''] } } := I1.kept (t' := s1.toks) fun b o e => Heap.get?_push_of_some _ e
        refine pi_one (tk := s1.toks) I2 _ (turn_rangeC _ i k n) ?_ q
        have e1 : i + ((0 : Nat) : Int) * k = i := by simp
        have e2 : (n : Int) - ((0 : Nat) : Int) = Builtin.Range.rangeSize i j k := by rw [c3]; simp
        show IsRangeIter _ _ (i + ((0 : Nat) : Int) * k) ((n : Int) - ((0 : Nat) : Int)) k
        rw [e1, e2]
        exact Heap.get?_push_size _ rfl
end
theorem for_rangeC {lo c : Int} {n : Nat} {g : TG} {tb : TS} {D : Ends} {σ : St} {H : Hp} (Pv : Nat → St → Hp → Prop) (h0 : Pv 0 σ H)
    (hs : ∀ i σ H, i < n → Pv i σ H → g (.int (lo + (i : Nat) * c)) σ H fun σ2 H2 => tb { D with nx := Pv (i + 1), ct := Pv (i + 1), bk := D.nx } σ2 H2) (hd : ∀ σ H, Pv n σ H → D.nx σ H) :
    ∃ W : Nat → Nat → St → Hp → Prop, (∃ m, W 0 m σ H) ∧ ∀ i m σ H, W i m σ H →
      ((Itc lo c n).stop i H ∧ D.nx σ H) ∨ ((Itc lo c n).go i H ∧ ∃ N : St → Hp → Prop, (∀ σ' H', N σ' H' → ∃ m', m' < m ∧ W (i + 1) m' σ' H') ∧ ∀ x H', (Itc lo c n).yld i H x H' → g x σ H' fun σ2 H2 => tb { D with nx := N, ct := N, bk := D.nx } σ2 H2) := by
  refine ⟨fun i m σ H => m = n - i ∧ i ≤ n ∧ Pv i σ H, ⟨n, by simp, Nat.zero_le _, h0⟩, ?_⟩
  rintro i m σ H ⟨rfl, hi, p⟩
  by_cases hlt : i < n
  · refine .inr ⟨hlt, Pv (i + 1), fun σ' H' p' => ⟨n - (i + 1), by omega, rfl, hlt, p'⟩, fun x H' y => ?_⟩
    obtain ⟨e, y⟩ := y
    subst e y
    exact hs i σ _ hlt p
  · have e : i = n := by omega
    subst e
    exact .inl ⟨Nat.le_refl _, hd σ H p⟩
section
variable {X : Cx} {tg : Expr}
end
section
variable {prog : Program} {w : World} {A : Around} {E : Value → Shared → Prop} {s : Shared}
end
theorem kv_get {κ : Type} {kvs : List (κ × V)} {vs : List (κ × Value)} (h : KV kvs vs) : ∀ {i : Nat} {k : κ} {v : V}, kvs[i]? = some (k, v) → ∃ u, vs[i]? = some (k, u) ∧ RelV v u := by
  unfold KV at h
  induction h with
  | nil => intro i k v e; simp at e
  | @cons a b l₁ l₂ r t ih =>
    intro i k v e
    cases i with
    | zero =>
      simp only [List.getElem?_cons_zero, Option.some.injEq] at e
      subst e
      refine ⟨b.2, ?_, r.2⟩
      simp only [List.getElem?_cons_zero]
      exact congrArg some (Prod.ext r.1.symm rfl)
    | succ j =>
      simp only [List.getElem?_cons_succ] at e ⊢
      exact ih e
theorem relV_key {k : Key} {u : Value} (h : keyIs k u = true) : RelV (kV k) u := by
  rcases keyIs_shape h with ⟨i, t, rfl, rfl⟩ | ⟨x, t, rfl, rfl⟩
  · exact ⟨t, rfl⟩
  · exact ⟨t, rfl⟩
section
variable {X : Cx} {pins : List (Addr × Obj)} {σ : St} {H : Hp} {s : Shared} {d : Addr} {o : Obj}
theorem Inv.frzK {kvs : List (Key × V)} (I : Inv X pins σ H s) (h : H d = some (.frz o (.dK kvs))) :
    (d == sysModules) = false ∧ s.heap.get? d = some o ∧ o.ExactDict ∧ ∃ (es : Array DictEntry) (ep : Nat) (vs : List (Key × Value)), o.data = .dict es ep ∧ es.size = kvs.length ∧ KV kvs vs ∧ s.heap.DictAt (mixKind X.prog X.w) d vs ep := by
  obtain ⟨hd, z, hs, vs, kv, o', es, ep, ho, hx, hdt, r⟩ := I.hok d _ h
  rw [hd] at ho
  cases ho
  refine ⟨hs, hd, hx, es, ep, vs, hdt, ?_, kv, o, es, hd, hx, hdt, r⟩
  have l1 := r.2.1.length
  have l2 : kvs.length = vs.length := Paired.length kv
  rw [Array.length_toList] at l1
  omega
end
noncomputable def Itd (d : Addr) (o : Obj) (kvs : List (Key × V)) : It :=
  ⟨fun i H => H d = some (.frz o (.dK kvs)) ∧ i < kvs.length, fun i H x H' => H' = H ∧ ∃ k, kvs[i]? = some (k, x), fun i H => H d = some (.frz o (.dK kvs)) ∧ kvs.length ≤ i⟩
noncomputable def Iti (d : Addr) (o : Obj) (kvs : List (Key × V)) : It :=
  ⟨fun i H => H d = some (.frz o (.dK kvs)) ∧ i < kvs.length, fun i H x H' => ∃ T k v, kvs[i]? = some (k, v) ∧ x = .ref T ∧ H T = none ∧ H' = upd H T (.tup [kV k, v]), fun i H => H d = some (.frz o (.dK kvs)) ∧ kvs.length ≤ i⟩
theorem dict_ep {o : Obj} {es es' : Array DictEntry} {ep ep' : Nat} (h : o.data = .dict es ep) (h' : o.data = .dict es' ep') : es' = es ∧ ep' = ep := by
  rw [h] at h'
  cases h'
  exact ⟨rfl, rfl⟩
section
variable {P : Program} {w : World} {K : PySem.W.Frag} {tg : Expr} {d : Addr} {o : Obj} {es : Array DictEntry} {ep : Nat}
theorem turn_vals {kvs : List (Key × V)} (it : Addr) (hod : o.data = .dict es ep) : Turn P w K tg (Itd d o kvs) [it] it (fun i h => h.IsValIter it d i kvs.length ep) where
  mem := by simp
  obj := fun i h st b hb => by
    have e : b = it := by simpa using hb
    subst e
    obtain ⟨oi, e, c, dd⟩ := st
    exact ⟨oi, e, fun v z => by rw [dd] at z; cases z⟩
  keep := fun i h h' st k => st.at fun oi e => k it (by simp) oi e
  item := by
    intro X hP hw hK hc i pins s σ H E I hf st hg
    subst hP hw hK
    obtain ⟨hd, hi⟩ := hg
    obtain ⟨f0, f1, f2, f3, f4, f5⟩ := hf it (by simp)
    obtain ⟨hs, hgd, hx, es', ep', vs, hdt, hsz, kv, hm⟩ := I.frzK hd
    obtain ⟨rfl, rfl⟩ := dict_ep hod hdt
    obtain ⟨⟨k, v⟩, hkv⟩ : ∃ p, kvs[i]? = some p := ⟨kvs[i], List.getElem?_eq_getElem hi⟩
    obtain ⟨u, hu, ru⟩ := kv_get kv hkv
    have hl : kvs.length = vs.length := Paired.length kv
    rw [hl] at st
    refine wpAny_pyNext_values_item st hm hu fun h' st' sb => ?_
    have I1 : Inv X pins σ H { s with heap := h' } := I.turned (t' := s.toks) (fun b ob hb e => (sb.2 b hb).trans e) f0 f1 f3 f4 f5
    obtain ⟨oi, e, c, dd⟩ := id st'
    refine ⟨u, rfl, go_of (s := { s with heap := h' }) e c dd (by decide) ⟨v, H, I1, ru, ⟨rfl, k, hkv⟩, ?_, fun b hb => (hf b hb).1⟩⟩
    show h'.IsValIter it d (i + 1) kvs.length _
    rw [hl]
    exact st'
  done := by
    intro X hP hw hK hc i pins s σ H E I hf st hg
    subst hP hw hK
    obtain ⟨hd, hi⟩ := hg
    obtain ⟨f0, f1, f2, f3, f4, f5⟩ := hf it (by simp)
    obtain ⟨hs, hgd, hx, es', ep', vs, hdt, hsz, kv, hm⟩ := I.frzK hd
    obtain ⟨rfl, rfl⟩ := dict_ep hod hdt
    have hl : kvs.length = vs.length := Paired.length kv
    rw [hl] at st
    exact wpAny_pyNext_values_end (I.ok.hd hc) st hm (List.getElem?_eq_none (by omega)) fun h' eb => ⟨rfl, I.turned (t' := s.toks) (fun b ob hb e => eb b ob hb e) f0 f1 f3 f4 f5⟩
  self := fun A i s Q E st h => wpAny_pyIter_valiter st h
theorem turn_items {kvs : List (Key × V)} {elts : List Expr} {kk : Nat} {tpos : Pos} (it : Addr) (hod : o.data = .dict es ep) :
    Turn P w K (.Tuple elts kk tpos) (Iti d o kvs) [it] it (fun i h => ∃ ok ov, IsItemIter h it d i kvs.length ep ok ov) where
  mem := by simp
  obj := fun i h st b hb => by
    have e : b = it := by simpa using hb
    subst e
    obtain ⟨ok, ov, e⟩ := st
    exact ⟨_, e, fun v z => nomatch z⟩
  keep := fun i h h' st k => let ⟨ok, ov, e⟩ := st; ⟨ok, ov, k it (by simp) _ e⟩
  item := by
    intro X hP hw hK hc i pins s σ H E I hf st hg
    subst hP hw hK
    obtain ⟨hd, hi⟩ := hg
    obtain ⟨hs, hgd, hx, es', ep', vs, hdt, hsz, kv, hm⟩ := I.frzK hd
    obtain ⟨rfl, rfl⟩ := dict_ep hod hdt
    obtain ⟨⟨k, v⟩, hkv⟩ : ∃ p, kvs[i]? = some p := ⟨kvs[i], List.getElem?_eq_getElem hi⟩
    obtain ⟨u, hu, ru⟩ := kv_get kv hkv
    have hl : kvs.length = vs.length := Paired.length kv
    obtain ⟨ok, ov, he⟩ := st
    rw [hl] at he
    have hlt : it < s.heap.objs.size := Heap.lt_size he
    refine wpAny_pyNext_items_item he hm hu fun key h' hkey ho hT hz hk => ?_
    refine ⟨_, rfl, wpAny_letOwnedTupleGo_items (s := { s with heap := h' }) ho fun h'' he' sb => ?_⟩
    have hT2 : h''.get? s.heap.objs.size = some { cls := .type "tuple", data := .seq #[key, u] } := (sb.2 _ (Nat.ne_of_gt hlt)).trans hT
    have new : ObjOk X.prog X.w (upd H s.heap.objs.size (.tup [kV k, v])) h'' s.heap.objs.size (.tup [kV k, v]) :=
      ⟨by show 2 ≤ sizeLine; decide, [key, u], .cons (relV_key (show keyIs k key = true from hkey)) (.cons ru .nil), ⟨_, hT2, rfl, _, rfl⟩⟩
    have I1 : Inv X pins σ (upd H s.heap.objs.size (.tup [kV k, v])) { s with heap := h'' } :=
      I.turnedNew (t' := s.toks) (ch := [it]) (fun b ob hb e => (sb.2 b (by simpa using hb)).trans (hk b ob (by simpa using hb) e)) hf (Nat.le_refl _) new
    refine ⟨.ref s.heap.objs.size, _, I1, rfl, ⟨_, k, v, hkv, rfl, I.hok.fresh (Nat.le_refl _), rfl⟩, ⟨key, u, ?_⟩, fun b hb => ?_⟩
    · rw [hl]; exact he'
    · have e : b = it := by simpa using hb
      rw [e, upd_ne (Nat.ne_of_lt hlt)]
      exact (hf it (by simp)).1
  done := by
    intro X hP hw hK hc i pins s σ H E I hf st hg
    subst hP hw hK
    obtain ⟨hd, hi⟩ := hg
    obtain ⟨f0, f1, f2, f3, f4, f5⟩ := hf it (by simp)
    obtain ⟨hs, hgd, hx, es', ep', vs, hdt, hsz, kv, hm⟩ := I.frzK hd
    obtain ⟨rfl, rfl⟩ := dict_ep hod hdt
    have hl : kvs.length = vs.length := Paired.length kv
    obtain ⟨ok, ov, he⟩ := st
    rw [hl] at he
    exact wpAny_pyNext_items_end (I.ok.hd hc) he hm (List.getElem?_eq_none (by omega)) fun h' eb => ⟨rfl, I.turned (t' := s.toks) (fun b ob hb e => eb b ob hb e) f0 f1 f3 f4 f5⟩
  self := fun A i s Q E st h => let ⟨_, _, e⟩ := st; PySem.W.kcp_self e h
end
noncomputable def iVals (td : TE) : TI := fun σ H R => td σ H fun x H1 => ∃ d o kvs, x = .ref d ∧ H1 d = some (.frz o (.dK kvs)) ∧ R (Itd d o kvs) H1
noncomputable def iItems (td : TE) : TI := fun σ H R => td σ H fun x H1 => ∃ d o kvs, x = .ref d ∧ H1 d = some (.frz o (.dK kvs)) ∧ R (Iti d o kvs) H1
section
variable {X : Cx} {tg e : Expr} {td : TE} {apos cpos : Pos}
theorem pi_values (he : PE X e td) (hbase : attributeBase e "values" X.env (eval e X.env) = eval e X.env := by rfl) (hline : (apos.endLine == cpos.line) = true := by rfl) : PI X tg (.Call (.Attribute e "values" apos) [] [] cpos) (iVals td) := by
  intro pins s σ H R I h
  refine wpAny_Call_method (T := "dict") (id := "dict.values") hbase rfl hline F.plainAttrs_dict F.slot_dict_values F.type_dict_values (thn (he pins s σ H _ I h) fun u s1 ⟨x, H1, I1, rx, d, o, kvs, ex, hd, q⟩ => ?_)
  subst ex
  obtain rfl : u = Value.ref d := rx
  obtain ⟨hs, hgd, hx, es, ep, vs, hdt, hsz, kv, hm⟩ := I1.frzK hd
  have hl : kvs.length = vs.length := Paired.length kv
  refine ⟨hm.dictOf.typeIs, hm.dictOf.mapOf.noDict, ?_⟩
  have I2 : Inv X pins σ H1 { s1 with heap := s1.heap.push { cls := .type "dict_values", data := .fields #[.ref d] } } := I1.kept (t' := s1.toks) fun b ob q => Heap.get?_push_of_some _ q
  have fin : wpAny (model X.prog X.w) X.A (pyIter (.ref s1.heap.objs.size)) (PIE X pins σ tg R) X.xe { s1 with heap := s1.heap.push { cls := .type "dict_values", data := .fields #[.ref d] } } := by
    refine wpAny_pyIter_values (d := d) (knd := mixKind X.prog X.w) ⟨_, Heap.get?_push_size _ rfl, rfl, rfl⟩ (hm.push _) (pi_one (tk := s1.toks) I2 _ (turn_vals _ hdt) ⟨_, Heap.get?_push_size _ rfl, rfl, ?_⟩ q)
    rw [hl] <;> rfl
  show wpAny _ _ (callWith cpos (.builtin "dict.values") [.ref d] [] []) _ X.xe s1
  exact method_meetsIn F.slot_dict_values F.entry_dict_values rfl (PySem.evalArgs_none ⟨rfl, hm.dictOf.typeIs, F.args_dict_values_1 _, _, meets_dict_values (mixKind X.prog X.w) d hs, ⟨vs, hm.dictOf⟩, fin⟩)
theorem pi_items {elts : List Expr} {kk : Nat} {tpos : Pos} (he : PE X e td) (hbase : attributeBase e "items" X.env (eval e X.env) = eval e X.env := by rfl) (hline : (apos.endLine == cpos.line) = true := by rfl) :
    PI X (.Tuple elts kk tpos) (.Call (.Attribute e "items" apos) [] [] cpos) (iItems td) := by
  intro pins s σ H R I h
  refine wpAny_Call_method (T := "dict") (id := "dict.items") hbase rfl hline F.plainAttrs_dict F.slot_dict_items F.type_dict_items (thn (he pins s σ H _ I h) fun u s1 ⟨x, H1, I1, rx, d, o, kvs, ex, hd, q⟩ => ?_)
  subst ex
  obtain rfl : u = Value.ref d := rx
  obtain ⟨hs, hgd, hx, es, ep, vs, hdt, hsz, kv, hm⟩ := I1.frzK hd
  have hl : kvs.length = vs.length := Paired.length kv
  refine ⟨hm.dictOf.typeIs, hm.dictOf.mapOf.noDict, ?_⟩
  have I2 : Inv X pins σ H1 { s1 with heap := s1.heap.push { cls := .type "dict_items", data := .fields #[.ref d] } } := I1.kept (t' := s1.toks) fun b ob q => Heap.get?_push_of_some _ q
  have fin : wpAny (model X.prog X.w) X.A (pyIter (.ref s1.heap.objs.size)) (PIE X pins σ (.Tuple elts kk tpos) R) X.xe { s1 with heap := s1.heap.push { cls := .type "dict_items", data := .fields #[.ref d] } } := by
    refine wpAny_pyIter_items (d := d) (knd := mixKind X.prog X.w) ⟨_, Heap.get?_push_size _ rfl, rfl, rfl⟩ (hm.push _) (pi_one (tk := s1.toks) I2 _ (turn_items _ hdt) ⟨.none, .none, ?_⟩ q)
    rw [hl]
    exact Heap.get?_push_size _ rfl
  show wpAny _ _ (callWith cpos (.builtin "dict.items") [.ref d] [] []) _ X.xe s1
  exact method_meetsIn F.slot_dict_items F.entry_dict_items rfl (PySem.evalArgs_none ⟨rfl, hm.dictOf.typeIs, F.args_dict_items_1 _, _, meets_dict_items (mixKind X.prog X.w) d hs, ⟨vs, hm.dictOf⟩, fin⟩)
end
end L2
section 
namespace Bits
open PySem PyProof.Rows
end Bits
end 
section 
namespace TL
open PySem PySem.Builtin PySem.Builtin.Str PySem.StrLaws
end TL
end 
namespace L2
open PySem PySem.Spec PyProof.Rows
section
variable {X : Cx} {pins : List (Addr × Obj)} {σ : St} {H : Hp} {s : Shared} {Q : VK}
end
section
variable {X : Cx}
end
section
variable {X : Cx} {o e : Expr} {to te : TE}
end
end L2
namespace L2
open PySem PySem.Spec PyProof.Rows
section
variable {X : Cx}
end
end L2
namespace Att
open PySem PySem.W PySem.Calls PyProof.Rows
section
variable {prog : Program} {w : World} {A : Around} {E : Value → Shared → Prop} {s : Shared} {K : Frag}
end
end Att
namespace L2
open PySem PySem.Spec PyProof.Rows
end L2
namespace L2
open PySem PySem.Spec PyProof.Rows
end L2
namespace L2
open PySem PySem.Spec PyProof.Rows
noncomputable def defArgs (s : Stmt) : Arguments := match s with
  | .FunctionDef _ a _ _ _ _ _ _ _ _ => a
  | _ => { posonlyargs := [], args := [], vararg := none, kwonlyargs := [], kw_defaults := [], kwarg := none, defaults := [] }
noncomputable def defBody (s : Stmt) : List Stmt := match s with
  | .FunctionDef _ _ b _ _ _ _ _ _ _ => b
  | _ => []
noncomputable def defScope (s : Stmt) : Scope := match s with
  | .FunctionDef _ _ _ _ _ _ sc _ _ _ => sc
  | _ => { kind := .function, names := [], isGenerator := false, isCoroutine := false }
noncomputable abbrev CX0 : CXT := fun _ _ _ _ _ _ => False
noncomputable abbrev E0 : XK := fun _ _ _ => False
theorem pass0 {X : Cx} : Passes CX0 X E0 := fun _ _ _ _ _ _ _ h => h.elim
structure Fun (K : PySem.W.Frag) (x qual : Str) (st : Stmt) (f : Addr) (fd : FuncData) : Prop where
  ex : ∃ (oc : Value) (od : Option Addr) (kV doc pm : Value) (an : Option Addr) (cdv ct : Value) (osl : Array (Option Value)),
    fd = PySem.W.fnOf x qual (defArgs st) (defBody st) (defScope st) .none kV doc pm an cdv ct ∧ K.lookup f = some ⟨oc, od, .func fd, osl⟩ ∧ PySem.W.codeIn K cdv qual = true
  kp : PySem.W.keepIn K (.ref f) = true
section
variable {P : Program} {w : World} {K : PySem.W.Frag} {mg : Str → Option Value} {base : Heap}
theorem Fun.ok {x qual : Str} {st : Stmt} {f : Addr} {fd : FuncData} {N ps : List Str} {k : Nat} {sp : Sp} (F : Fun K x qual st f fd) (S : FnScope N ps (defScope st)) (len : ∀ vs H Q E, sp vs H Q E → vs.length = ps.length)
    (hbody : ∀ (cdv : Value) (A : Around) (outer : List Env) (s : Shared) (H : Hp) (vs : List V) (Q : VK) (E : XK), Room k (A.deeper (envOfC qual (defScope st) s.heap.objs.size f cdv)) → sp vs H Q E →
      ∃ t, PSs (cxOf CX0 P w K mg base N qual (defScope st) f cdv A outer s H E).nox (defBody st) t ∧ t { nx := fun _ H' => Q .non H', rt := Q } (start N vs) H) : FnOk P w K mg base CX0 (k + 1) f fd ps sp := by
  obtain ⟨oc, od, kV, doc, pm, an, cdv, ct, osl, rfl, lk, hcd⟩ := F.ex
  refine fn_of lk hcd S len fun A outer s H vs Q E hr hsp => ?_
  obtain ⟨t, h, q⟩ := hbody cdv A outer s H vs Q E hr hsp
  exact ⟨t, h.nox, q⟩
theorem Fun.binds {x qual : Str} {st : Stmt} {f : Addr} {fd : FuncData} {ps : List Str} (F : Fun K x qual st f fd)
    (h : ∀ (kV doc pm : Value) (an : Option Addr) (cdv ct : Value) (us : List Value), us.length = ps.length → bindArgs (PySem.W.fnOf x qual (defArgs st) (defBody st) (defScope st) .none kV doc pm an cdv ct) ⟨us, []⟩ = pure (ps.zip us)) : Binds K fd ps [] := by
  obtain ⟨oc, od, kV, doc, pm, an, cdv, ct, osl, rfl, lk, hcd⟩ := F.ex
  exact .all (h kV doc pm an cdv ct)
theorem fun_mk {x qual : Str} {st : Stmt} {f : Addr} {oc : Value} {od an : Option Addr} {osl : Array (Option Value)} {kV doc pm cdv ct : Value} (l : K.lookup f = some ⟨oc, od, .func (PySem.W.fnOf x qual (defArgs st) (defBody st) (defScope st) .none kV doc pm an cdv ct), osl⟩)
    (c : PySem.W.codeIn K cdv qual = true) (k : PySem.W.keepIn K (.ref f) = true) : Fun K x qual st f (PySem.W.fnOf x qual (defArgs st) (defBody st) (defScope st) .none kV doc pm an cdv ct) := ⟨⟨oc, od, kV, doc, pm, an, cdv, ct, osl, rfl, l, c⟩, k⟩
end
theorem hu_of {A : Around} {k : Nat} (hr : Room k A) : A.units + 1 < cLine := Nat.lt_of_le_of_lt (Nat.add_le_add_left (by decide : 1 ≤ 64) _) hr.units
section
variable {X : Cx}
theorem pv (i : Nat) {x : Str} {pos : Pos} (hN : X.N[i]? = some x := by rfl) (hv : Vis X.env.scope x := by first | exact Or.inl rfl | exact Or.inr (Or.inl rfl) | exact Or.inr (Or.inr rfl)) (hd : (x == ("__debug__" : Str)) = false := by decide)
    (hcd : (x == ("__classdict__" : Str)) = false := by decide) : PE X (.Name x pos) (tVar i) := pe_var hN hv hd hcd
end
theorem iteF {A B : Prop} (h : B) : if false = true then A else B := by
  rw [if_neg Bool.false_ne_true]
  exact h
theorem iteT {A B : Prop} (h : A) : if true = true then A else B := by
  rw [if_pos rfl]
  exact h
noncomputable def Same (H H' : Hp) : Prop := ∀ b o, H b = some o → H' b = some o
theorem Same.refl (H : Hp) : Same H H := fun _ _ h => h
theorem Same.trans {H H1 H2 : Hp} (a : Same H H1) (b : Same H1 H2) : Same H H2 := fun c o h => b c o (a c o h)
theorem Same.free {H H' : Hp} (e : Same H H') {l : Addr} (h : H' l = Option.none) : H l = Option.none := by
  cases q : H l with
  | none => rfl
  | some o =>
    rw [e l o q] at h
    cases h
theorem Same.seq {K : PySem.W.Frag} {H H' : Hp} {a : Addr} {xs : List V} (e : Same H H') (h : SqL K H a xs) : SqL K H' a xs := by
  rcases h with (h | ⟨o, h⟩) | h
  · exact .inl (.inl (e _ _ h))
  · exact .inl (.inr ⟨o, e _ _ h⟩)
  · exact .inr h
section
variable {κ : Type} [DecidableEq κ]
end
theorem at_of {xs : List V} {z : Int} {j : Nat} {v : V} (e : z = (j : Int)) (h : xs[j]? = some v) : atI xs z = some v := by
  rw [e]
  exact atI_nat h
theorem nd_ix {α : Type} {l : List α} (hN : l.Nodup) {i j : Nat} {x : α} (a : l[i]? = some x) (b : l[j]? = some x) : i = j := by
  obtain ⟨h1, e1⟩ := List.getElem?_eq_some_iff.mp a
  obtain ⟨h2, e2⟩ := List.getElem?_eq_some_iff.mp b
  exact (List.getElem_inj hN).mp (e1.trans e2.symm)
end L2
end
section
section
set_option Elab.async false
set_option linter.all false
set_option maxRecDepth 100000
set_option maxHeartbeats 2000000
namespace L2
open PySem PySem.Spec PyProof.Rows
open PySem.W (WData Codec OpenSpec Well WellAll ReadsW ReadsAllW)
mutual
/-- x stands for the datum d, lists and tuples all the way -/
inductive Dw (K : PySem.W.Frag) (H : Hp) : V → WData → Prop
  | non : Dw K H .non .none
  | bl (b : Bool) : Dw K H (.bl b) (.bool b)
  | int (i : Int) : Dw K H (.int i) (.int i)
  | str (x : Str) : Dw K H (.str x) (.str x)
  | byt (b : Array UInt8) : Dw K H (.byt b) (.bytes b.toList)
  | lst {a : Addr} {xs : List V} {ds : List WData} : SqL K H a xs → DwAll K H xs ds → Dw K H (.ref a) (.list ds)
  | tup {a : Addr} {xs : List V} {ds : List WData} : SqT K H a xs → DwAll K H xs ds → Dw K H (.ref a) (.tuple ds)
inductive DwAll (K : PySem.W.Frag) (H : Hp) : List V → List WData → Prop
  | nil : DwAll K H [] []
  | cons {v : V} {vs : List V} {d : WData} {ds : List WData} : Dw K H v d → DwAll K H vs ds → DwAll K H (v :: vs) (d :: ds)
end
theorem dw_ints {K : PySem.W.Frag} {H : Hp} : ∀ ns : List Int, DwAll K H (ns.map V.int) (ns.map WData.int)
  | [] => .nil
  | n :: r => .cons (.int n) (dw_ints r)
theorem ints_dw {K : PySem.W.Frag} {H : Hp} : ∀ (ns : List Int) (xs : List V), DwAll K H xs (ns.map WData.int) → xs = ns.map V.int
  | [], xs, h => by
    cases h
    rfl
  | n :: r, xs, h => by
    cases h with
    | cons h1 h2 =>
      cases h1
      rw [ints_dw r _ h2] <;> rfl
section
variable {P : Program} {w : World} {K : PySem.W.Frag} {H : Hp} {h : Heap} {R : PySem.W.WRecords} {cl : Str → Option Addr}
theorem sqL_at {a : Addr} {xs : List V} (hok : HOk P w H h) (KX : K.In h) (q : SqL K H a xs) : ∃ (its : List Value) (o : Obj) (n : Nat), Vals xs its ∧ h.get? a = some o ∧ o.cls = .type "list" ∧ o.data = .seq its.toArray n := by
  rcases q with q | ⟨o, its, n, e, hc, _, hd, _, hv⟩
  · obtain ⟨_, its, n, hv, e⟩ := (show ObjOk P w H h a (.lst xs) from q.ok hok)
    exact ⟨its, _, n, hv, e, rfl, rfl⟩
  · exact ⟨its.toList, o, n, hv, KX _ _ e, hc, by simp [hd]⟩
theorem sqT_at {a : Addr} {xs : List V} (hok : HOk P w H h) (KX : K.In h) (q : SqT K H a xs) : ∃ (its : List Value) (o : Obj) (n : Nat), Vals xs its ∧ h.get? a = some o ∧ o.cls = .type "tuple" ∧ o.data = .seq its.toArray n := by
  rcases q with q | ⟨o, its, n, e, hc, hd, _, hv⟩
  · obtain ⟨_, its, hv, o, e, hc, n, hd⟩ := (show ObjOk P w H h a (.tup xs) from q.ok hok)
    exact ⟨its, o, n, hv, e, hc, hd⟩
  · exact ⟨its.toList, o, n, hv, KX _ _ e, hc, by simp [hd]⟩
mutual
theorem Dw.reads (hok : HOk P w H h) (KX : K.In h) : ∀ (d : WData) (v : V) (u : Value), Dw K H v d → RelV v u → ∃ as, ReadsW R cl h u d as
  | .none, _, _, x, r => by
    cases x
    cases r
    exact ⟨_, ReadsW.none⟩
  | .bool b, _, _, x, r => by
    cases x
    cases r
    exact ⟨_, ReadsW.bool b⟩
  | .int i, _, _, x, r => by
    cases x
    obtain ⟨t, rfl⟩ := r
    exact ⟨_, ReadsW.int i t⟩
  | .str s, _, _, x, r => by
    cases x
    obtain ⟨t, rfl⟩ := r
    exact ⟨_, ReadsW.str s t⟩
  | .bytes b, _, _, x, r => by
    cases x
    obtain ⟨t, rfl⟩ := r
    exact ⟨_, ReadsW.bytes _ t⟩
  | .list ds, _, _, x, r => by
    cases x with
    | lst hs ha =>
      cases r
      obtain ⟨its, o, n, rv, ho, hc, hd⟩ := sqL_at hok KX hs
      obtain ⟨as, hr⟩ := Dw.readsAll hok KX ds _ its ha rv
      exact ⟨_, ReadsW.list ho hc hd hr⟩
  | .tuple ds, _, _, x, r => by
    cases x with
    | tup hs ha =>
      cases r
      obtain ⟨its, o, n, rv, ho, hc, hd⟩ := sqT_at hok KX hs
      obtain ⟨as, hr⟩ := Dw.readsAll hok KX ds _ its ha rv
      exact ⟨_, ReadsW.tuple ho hc hd hr⟩
  | .float _, _, _, x, _ => by cases x
  | .dict _, _, _, x, _ => by cases x
  | .bytearray _, _, _, x, _ => by cases x
  | .set _, _, _, x, _ => by cases x
  | .frozenset _, _, _, x, _ => by cases x
  | .obj _ _, _, _, x, _ => by cases x
theorem Dw.readsAll (hok : HOk P w H h) (KX : K.In h) : ∀ (ds : List WData) (vs : List V) (us : List Value), DwAll K H vs ds → Vals vs us → ∃ as, ReadsAllW R cl h us ds as
  | [], _, _, x, r => by
    cases x
    cases r
    exact ⟨_, ReadsAllW.nil⟩
  | d :: ds, _, _, x, r => by
    cases x with
    | cons h1 h2 =>
      cases r with
      | cons r1 r2 =>
        obtain ⟨as, q1⟩ := Dw.reads hok KX d _ _ h1 r1
        obtain ⟨bs, q2⟩ := Dw.readsAll hok KX ds _ _ h2 r2
        exact ⟨_, ReadsAllW.cons q1 q2⟩
end
end
mutual
/-- data that a codec tells -/
noncomputable def plW : WData → Bool
  | .none => true
  | .bool _ => true
  | .int _ => true
  | .str _ => true
  | .bytes _ => true
  | .list xs => plWs xs
  | .tuple xs => plWs xs
  | _ => false
noncomputable def plWs : List WData → Bool
  | [] => true
  | x :: r => plW x && plWs r
end
theorem plWs_map {α : Type} {f : α → WData} (h : ∀ a, plW (f a) = true) : ∀ l : List α, plWs (l.map f) = true
  | [] => rfl
  | x :: r => by
    show (plW (f x) && plWs (r.map f)) = true
    rw [h x, plWs_map h r] <;> rfl
theorem pl_enc : ∀ (c : Codec) (a : c.denote), plW (c.enc a) = true
  | .unit, _ => rfl
  | .bool, _ => rfl
  | .int _ _, _ => rfl
  | .nat _ _, _ => rfl
  | .u8, _ => rfl
  | .bytes _ _, _ => rfl
  | .text _ _ _ _, _ => rfl
  | .list _ _ c, a => plWs_map (fun x => pl_enc c x) a
  | .pair c d, a => by
    show (plW (c.enc a.1) && (plW (d.enc a.2) && true)) = true
    rw [pl_enc c a.1, pl_enc d a.2] <;> rfl
  | .triple c d e, a => by
    show (plW (c.enc a.1) && (plW (d.enc a.2.1) && (plW (e.enc a.2.2) && true))) = true
    rw [pl_enc c a.1, pl_enc d a.2.1, pl_enc e a.2.2] <;> rfl
  | .option c, none => rfl
  | .option c, some x => pl_enc c x
theorem pl_encAll : ∀ (cs : List Codec) (a : Codec.denoteAll cs), plWs (Codec.encAll cs a) = true
  | [], _ => rfl
  | c :: cs, a => by
    show (plW (c.enc a.1) && plWs (Codec.encAll cs a.2)) = true
    rw [pl_enc c a.1, pl_encAll cs a.2] <;> rfl
theorem weight_mem : ∀ {xs : List WData} {d : WData}, d ∈ xs → d.weight ≤ WData.weightAll xs
  | [], d, h => absurd h (by simp)
  | x :: r, d, h => by
    show d.weight ≤ x.weight + 1 + WData.weightAll r
    rcases List.mem_cons.mp h with e | m
    · rw [e]
      omega
    · have z := weight_mem m
      omega
noncomputable def toV : Value → V
  | .none => .non
  | .bool b => .bl b
  | .int i _ => .int i
  | .str x _ => .str x
  | .bytes b _ => .byt b
  | .ref a => .ref a
  | _ => .non
noncomputable def OkU (A : List Addr) : Value → Prop
  | .none => True
  | .bool _ => True
  | .int _ _ => True
  | .str _ _ => True
  | .bytes _ _ => True
  | .ref a => a ∈ A
  | _ => False
theorem OkU.mono {A B : List Addr} (h : ∀ a ∈ A, a ∈ B) : ∀ {u : Value}, OkU A u → OkU B u := fun {u} x => by
  cases u with
  | ref a => exact h a x
  | none => trivial
  | bool b => trivial
  | int i t => trivial
  | str s t => trivial
  | bytes b t => trivial
  | _ => exact False.elim x
theorem relV_toV {A : List Addr} {u : Value} (x : OkU A u) : RelV (toV u) u := by
  cases u with
  | ref a => rfl
  | none => rfl
  | bool b => rfl
  | int i t => exact ⟨t, rfl⟩
  | str s t => exact ⟨t, rfl⟩
  | bytes b t => exact ⟨t, rfl⟩
  | _ => exact False.elim x
theorem vals_toV {A : List Addr} : ∀ {vs : List Value}, (∀ u ∈ vs, OkU A u) → Vals (vs.map toV) vs
  | [], _ => .nil
  | u :: r, h => .cons (relV_toV (h u (List.mem_cons_self ..))) (vals_toV fun x hx => h x (List.mem_cons_of_mem _ hx))
noncomputable def ArgOb (h : Heap) (A : List Addr) (a : Addr) : Prop := ∃ vs : List Value, vs.length ≤ sizeLine ∧ (∀ u ∈ vs, OkU A u) ∧
  (h.get? a = some { cls := .type "list", data := .seq vs.toArray } ∨ h.get? a = some { cls := .type "tuple", data := .seq vs.toArray })
theorem ArgOb.mono {h : Heap} {A B : List Addr} {a : Addr} (k : ∀ a ∈ A, a ∈ B) (x : ArgOb h A a) : ArgOb h B a := by
  obtain ⟨vs, h1, h2, h3⟩ := x
  exact ⟨vs, h1, fun u hu => (h2 u hu).mono k, h3⟩
theorem wellAll_len {P : Params} {h : Heap} : ∀ {vs : List Value} {ds : List WData}, WellAll P h vs ds → vs.length = ds.length
  | _, _, .nil => rfl
  | _, _, .cons _ b => by
    show _ + 1 = _ + 1
    rw [wellAll_len b]
theorem well_list {P : Params} {h : Heap} {v : Value} {ds : List WData} (x : Well P h v (.list ds)) : ∃ (a : Addr) (vs : List Value), v = .ref a ∧ h.get? a = some { cls := .type "list", data := .seq vs.toArray } ∧ WellAll P h vs ds := by
  cases x with
  | list ho hall => exact ⟨_, _, rfl, ho, hall⟩
theorem well_tuple {P : Params} {h : Heap} {v : Value} {ds : List WData} (x : Well P h v (.tuple ds)) : ∃ (a : Addr) (vs : List Value), v = .ref a ∧ h.get? a = some { cls := .type "tuple", data := .seq vs.toArray } ∧ WellAll P h vs ds := by
  cases x with
  | tuple ho hall => exact ⟨_, _, rfl, ho, hall⟩
theorem well_cons {P : Params} {h : Heap} {us : List Value} {d : WData} {ds : List WData} (x : WellAll P h us (d :: ds)) : ∃ (v : Value) (vs : List Value), us = v :: vs ∧ Well P h v d ∧ WellAll P h vs ds := by
  cases x with
  | cons a b => exact ⟨_, _, rfl, a, b⟩
theorem line_of {n : Nat} (h : n ≤ 1048576) : n ≤ sizeLine := Nat.le_trans h (by decide)
section
variable {P : Params} {h : Heap}
mutual
theorem area_one : ∀ (d : WData) (v : Value), Well P h v d → plW d = true → d.weight ≤ 1048576 → ∃ A : List Addr, OkU A v ∧ ∀ a ∈ A, ArgOb h A a
  | .none, _, x, _, _ => by
    cases x
    exact ⟨[], trivial, fun a m => absurd m (by simp)⟩
  | .bool b, _, x, _, _ => by
    cases x
    exact ⟨[], trivial, fun a m => absurd m (by simp)⟩
  | .int i, _, x, _, _ => by
    cases x
    exact ⟨[], trivial, fun a m => absurd m (by simp)⟩
  | .str s, _, x, _, _ => by
    cases x
    exact ⟨[], trivial, fun a m => absurd m (by simp)⟩
  | .bytes b, _, x, _, _ => by
    cases x
    exact ⟨[], trivial, fun a m => absurd m (by simp)⟩
  | .list ds, _, x, p, z => by
    obtain ⟨a, vs, rfl, ho, hall⟩ := well_list x
    have z2 : WData.weightAll ds ≤ 1048576 := z
    obtain ⟨A, h1, h2⟩ := area_all ds _ hall p fun d hd => Nat.le_trans (weight_mem hd) z2
    have k : ∀ b ∈ A, b ∈ a :: A := fun b hb => List.mem_cons_of_mem _ hb
    refine ⟨a :: A, List.mem_cons_self .., fun b hb => ?_⟩
    rcases List.mem_cons.mp hb with e | m
    · rw [e]
      exact ⟨vs, line_of (by rw [wellAll_len hall]; exact Nat.le_trans (PySem.W.length_le_weightAllW ds) z2), fun u hu => (h1 u hu).mono k, .inl ho⟩
    · exact (h2 b m).mono k
  | .tuple ds, _, x, p, z => by
    obtain ⟨a, vs, rfl, ho, hall⟩ := well_tuple x
    have z2 : WData.weightAll ds ≤ 1048576 := z
    obtain ⟨A, h1, h2⟩ := area_all ds _ hall p fun d hd => Nat.le_trans (weight_mem hd) z2
    have k : ∀ b ∈ A, b ∈ a :: A := fun b hb => List.mem_cons_of_mem _ hb
    refine ⟨a :: A, List.mem_cons_self .., fun b hb => ?_⟩
    rcases List.mem_cons.mp hb with e | m
    · rw [e]
      exact ⟨vs, line_of (by rw [wellAll_len hall]; exact Nat.le_trans (PySem.W.length_le_weightAllW ds) z2), fun u hu => (h1 u hu).mono k, .inr ho⟩
    · exact (h2 b m).mono k
  | .float _, _, _, p, _ => Bool.noConfusion (show false = true from p)
  | .dict _, _, _, p, _ => Bool.noConfusion (show false = true from p)
  | .bytearray _, _, _, p, _ => Bool.noConfusion (show false = true from p)
  | .set _, _, _, p, _ => Bool.noConfusion (show false = true from p)
  | .frozenset _, _, _, p, _ => Bool.noConfusion (show false = true from p)
  | .obj _ _, _, _, p, _ => Bool.noConfusion (show false = true from p)
theorem area_all : ∀ (ds : List WData) (vs : List Value), WellAll P h vs ds → plWs ds = true → (∀ d ∈ ds, d.weight ≤ 1048576) → ∃ A : List Addr, (∀ u ∈ vs, OkU A u) ∧ ∀ a ∈ A, ArgOb h A a
  | [], _, x, _, _ => by
    cases x
    exact ⟨[], fun u m => absurd m (by simp), fun a m => absurd m (by simp)⟩
  | d :: ds, _, x, p, z => by
    obtain ⟨v, vs, rfl, x1, x2⟩ := well_cons x
    have q : plW d = true ∧ plWs ds = true := Bool.and_eq_true_iff.mp p
    obtain ⟨A, a1, a2⟩ := area_one d v x1 q.1 (z d (List.mem_cons_self ..))
    obtain ⟨B, b1, b2⟩ := area_all ds vs x2 q.2 fun e he => z e (List.mem_cons_of_mem _ he)
    have kA : ∀ b ∈ A, b ∈ A ++ B := fun b hb => List.mem_append.mpr (.inl hb)
    have kB : ∀ b ∈ B, b ∈ A ++ B := fun b hb => List.mem_append.mpr (.inr hb)
    refine ⟨A ++ B, fun u hu => ?_, fun b hb => ?_⟩
    · rcases List.mem_cons.mp hu with e | m
      · rw [e]
        exact a1.mono kA
      · exact (b1 u m).mono kB
    · rcases List.mem_append.mp hb with m | m
      · exact (a2 b m).mono kA
      · exact (b2 b m).mono kB
end
end
noncomputable def hoOf (o : Obj) : Option HO := match o.data with
  | .seq vs _ => if (o.cls == Value.type "list") = true then some (.frz o (.lst (vs.toList.map toV))) else some (.frz o (.tup (vs.toList.map toV)))
  | _ => none
noncomputable def argH (K : PySem.W.Frag) (h : Heap) (A : List Addr) : Hp := fun b => if b ∈ A then (if (K.lookup b).isNone = true then (h.get? b).bind hoOf else none) else none
noncomputable def OnlyF (H : Hp) : Prop := ∀ b, H b = none ∨ ∃ o u, H b = some (.frz o u)
theorem hoOf_lst (vs : List Value) : hoOf { cls := .type "list", data := .seq vs.toArray } = some (.frz { cls := .type "list", data := .seq vs.toArray } (.lst (vs.map toV))) := by
  show (if (Value.type "list" == Value.type "list") = true then some (HO.frz { cls := .type "list", data := .seq vs.toArray } (.lst (vs.toArray.toList.map toV))) else some (HO.frz { cls := .type "list", data := .seq vs.toArray } (.tup (vs.toArray.toList.map toV)))) = _
  rw [if_pos (beq_self_eq_true _)]
theorem hoOf_tup (vs : List Value) : hoOf { cls := .type "tuple", data := .seq vs.toArray } = some (.frz { cls := .type "tuple", data := .seq vs.toArray } (.tup (vs.map toV))) := by
  show (if (Value.type "tuple" == Value.type "list") = true then some (HO.frz { cls := .type "tuple", data := .seq vs.toArray } (.lst (vs.toArray.toList.map toV))) else some (HO.frz { cls := .type "tuple", data := .seq vs.toArray } (.tup (vs.toArray.toList.map toV)))) = _
  rw [if_neg (by decide)]
section
variable {P : Program} {w : World} {K : PySem.W.Frag} {h : Heap} {A : List Addr}
theorem argH_at {b : Addr} {o : Obj} (hb : b ∈ A) (hk : K.lookup b = none) (e : h.get? b = some o) : argH K h A b = hoOf o := by
  unfold argH
  rw [if_pos hb, hk, if_pos (show (none : Option Obj).isNone = true from rfl), e] <;> rfl
theorem of_argH {b : Addr} {u : HO} (q : argH K h A b = some u) : b ∈ A ∧ K.lookup b = none := by
  unfold argH at q
  by_cases hb : b ∈ A
  · rw [if_pos hb] at q
    cases hk : K.lookup b with
    | none => exact ⟨hb, rfl⟩
    | some o =>
      rw [hk, if_neg (by simp)] at q
      cases q
  · rw [if_neg hb] at q
    cases q
theorem argH_is (ar : ∀ a ∈ A, ArgOb h A a) {b : Addr} {u : HO} (q : argH K h A b = some u) : K.lookup b = none ∧ ∃ vs : List Value, vs.length ≤ sizeLine ∧ (∀ u ∈ vs, OkU A u) ∧
    ((h.get? b = some { cls := .type "list", data := .seq vs.toArray } ∧ u = .frz { cls := .type "list", data := .seq vs.toArray } (.lst (vs.map toV))) ∨
     (h.get? b = some { cls := .type "tuple", data := .seq vs.toArray } ∧ u = .frz { cls := .type "tuple", data := .seq vs.toArray } (.tup (vs.map toV)))) := by
  obtain ⟨hb, hk⟩ := of_argH q
  obtain ⟨vs, h1, h2, h3⟩ := ar b hb
  refine ⟨hk, vs, h1, h2, ?_⟩
  rcases h3 with e | e
  · rw [argH_at hb hk e, hoOf_lst] at q
    exact .inl ⟨e, (Option.some.inj q).symm⟩
  · rw [argH_at hb hk e, hoOf_tup] at q
    exact .inr ⟨e, (Option.some.inj q).symm⟩
theorem argH_only (ar : ∀ a ∈ A, ArgOb h A a) : OnlyF (argH K h A) := fun b => by
  cases q : argH K h A b with
  | none => exact .inl rfl
  | some u =>
    obtain ⟨_, vs, _, _, ⟨_, e⟩ | ⟨_, e⟩⟩ := argH_is ar q
    · exact .inr ⟨_, _, by rw [e]⟩
    · exact .inr ⟨_, _, by rw [e]⟩
theorem argH_ok (ar : ∀ a ∈ A, ArgOb h A a) : HOk P w (argH K h A) h := fun b u q => by
  obtain ⟨_, vs, h1, h2, ⟨e, rfl⟩ | ⟨e, rfl⟩⟩ := argH_is ar q
  · exact ⟨e, by rw [List.length_map]; exact h1, vs, _, vals_toV h2, e⟩
  · exact ⟨e, by rw [List.length_map]; exact h1, vs, vals_toV h2, _, e, rfl, _, rfl⟩
theorem seq_inj {c c' : Value} {vs us : List Value} (e : (some { cls := c, data := .seq vs.toArray } : Option Obj) = some { cls := c', data := .seq us.toArray }) : c = c' ∧ vs = us := by
  have e1 := Option.some.inj e
  have e2 : c = c' := congrArg Obj.cls e1
  have e3 : Data.seq vs.toArray = Data.seq us.toArray := congrArg Obj.data e1
  injection e3 with e4
  refine ⟨e2, ?_⟩
  have e5 := congrArg Array.toList e4
  simpa using e5
theorem argL (KX : K.In h) (ar : ∀ a ∈ A, ArgOb h A a) {a : Addr} {vs : List Value} (ha : a ∈ A) (e : h.get? a = some { cls := .type "list", data := .seq vs.toArray }) : (∀ u ∈ vs, OkU A u) ∧ SqL K (argH K h A) a (vs.map toV) := by
  obtain ⟨us, h1, h2, h3⟩ := ar a ha
  have hu : us = vs := by
    rcases h3 with q | q
    · rw [e] at q
      exact (seq_inj q).2.symm
    · rw [e] at q
      exact absurd (Value.type.inj (seq_inj q).1) (by decide)
  subst hu
  refine ⟨h2, ?_⟩
  cases hk : K.lookup a with
  | none => exact .inl (.inr ⟨_, by rw [argH_at ha hk e, hoOf_lst]⟩)
  | some o =>
    have e2 := KX a o hk
    rw [e] at e2
    obtain rfl := Option.some.inj e2
    exact .inr ⟨_, us.toArray, _, hk, rfl, rfl, rfl, by rw [List.size_toArray]; exact h1, by simpa using vals_toV h2⟩
theorem argT (KX : K.In h) (ar : ∀ a ∈ A, ArgOb h A a) {a : Addr} {vs : List Value} (ha : a ∈ A) (e : h.get? a = some { cls := .type "tuple", data := .seq vs.toArray }) : (∀ u ∈ vs, OkU A u) ∧ SqT K (argH K h A) a (vs.map toV) := by
  obtain ⟨us, h1, h2, h3⟩ := ar a ha
  have hu : us = vs := by
    rcases h3 with q | q
    · rw [e] at q
      exact absurd (Value.type.inj (seq_inj q).1) (by decide)
    · rw [e] at q
      exact (seq_inj q).2.symm
  subst hu
  refine ⟨h2, ?_⟩
  cases hk : K.lookup a with
  | none => exact .inl (.inr ⟨_, by rw [argH_at ha hk e, hoOf_tup]⟩)
  | some o =>
    have e2 := KX a o hk
    rw [e] at e2
    obtain rfl := Option.some.inj e2
    exact .inr ⟨_, us.toArray, _, hk, rfl, rfl, by rw [List.size_toArray]; exact h1, by simpa using vals_toV h2⟩
mutual
theorem dw_one {Pm : Params} (KX : K.In h) (ar : ∀ a ∈ A, ArgOb h A a) : ∀ (d : WData) (v : Value), Well Pm h v d → plW d = true → OkU A v → Dw K (argH K h A) (toV v) d
  | .none, _, x, _, _ => by
    cases x
    exact .non
  | .bool b, _, x, _, _ => by
    cases x
    exact .bl b
  | .int i, _, x, _, _ => by
    cases x
    exact .int i
  | .str s, _, x, _, _ => by
    cases x
    exact .str s
  | .bytes b, _, x, _, _ => by
    cases x
    have z := Dw.byt (K := K) (H := argH K h A) b.toArray
    exact z
  | .list ds, _, x, p, hu => by
    obtain ⟨a, vs, rfl, ho, hall⟩ := well_list x
    obtain ⟨h2, hs⟩ := argL KX ar hu ho
    exact .lst hs (dw_all KX ar ds _ hall p h2)
  | .tuple ds, _, x, p, hu => by
    obtain ⟨a, vs, rfl, ho, hall⟩ := well_tuple x
    obtain ⟨h2, hs⟩ := argT KX ar hu ho
    exact .tup hs (dw_all KX ar ds _ hall p h2)
  | .float _, _, _, p, _ => Bool.noConfusion (show false = true from p)
  | .dict _, _, _, p, _ => Bool.noConfusion (show false = true from p)
  | .bytearray _, _, _, p, _ => Bool.noConfusion (show false = true from p)
  | .set _, _, _, p, _ => Bool.noConfusion (show false = true from p)
  | .frozenset _, _, _, p, _ => Bool.noConfusion (show false = true from p)
  | .obj _ _, _, _, p, _ => Bool.noConfusion (show false = true from p)
theorem dw_all {Pm : Params} (KX : K.In h) (ar : ∀ a ∈ A, ArgOb h A a) : ∀ (ds : List WData) (vs : List Value), WellAll Pm h vs ds → plWs ds = true → (∀ u ∈ vs, OkU A u) → DwAll K (argH K h A) (vs.map toV) ds
  | [], _, x, _, _ => by
    cases x
    exact .nil
  | d :: ds, _, x, p, hu => by
    obtain ⟨v, vs, rfl, x1, x2⟩ := well_cons x
    have q : plW d = true ∧ plWs ds = true := Bool.and_eq_true_iff.mp p
    exact .cons (dw_one KX ar d v x1 q.1 (hu _ (List.mem_cons_self ..))) (dw_all KX ar ds vs x2 q.2 fun u m => hu u (List.mem_cons_of_mem _ m))
end
end
theorem spec_call {P : Program} {w : World} {K : PySem.W.Frag} {mg mb : Str → Option Value} {CX : CXT} {k : Nat} {fa : Addr} {fd : FuncData} {ps : List Str} {sp : Sp} {s₁ : Shared} {vals : List Value} {ds : List WData} {R : PySem.W.WRecords} {cl : Str → Option Addr} {d0 : WData}
    (KX : K.In s₁.heap) (hns : s₁.heap.Ns mainGlobals mg) (hb : s₁.heap.Ns builtinsNs mb) (hbb : ∀ x : Str, x ≠ "__name__" → mb x = bootBuiltins x) (hlim : s₁.heap.NoLimit) (hg : s₁.gens = #[])
    (hwl : WellAll w.params s₁.heap vals ds) (hpl : plWs ds = true) (hwt : ∀ d ∈ ds, d.weight ≤ 1048576) (hr : Room k callerA)
    (F : ∀ base : Heap, K.In base → base.Ns mainGlobals mg → FnOk P w K mg base CX k fa fd ps sp) (hbind : ∀ (s : Shared) (us : List Value), us.length = ps.length → BindsTo s fd ⟨us, []⟩ (ps.zip us)) (hlen : ds.length = ps.length)
    (hsp : ∀ (H : Hp) (xs : List V), OnlyF H → DwAll K H xs ds → sp xs H (fun v H' => Dw K H' v d0) fun _ _ _ => False)
    (hCX : ∀ H e s', CX [] H s₁ (fun _ _ _ => False) e s' → False) :
    codeAny (model P w) callerA (.call (.ref fa) ⟨vals, []⟩) (fun r s' => ∃ u as, r = .ok (.ret u) ∧ ReadsW R cl s'.heap u d0 as ∧ OldK s₁.heap s'.heap ∧ s'.os = s₁.os ∧ AllBare s'.gens) s₁ := by
  obtain ⟨A, ho, ar⟩ := area_all ds vals hwl hpl hwt
  have hO : OnlyF (argH K s₁.heap A) := argH_only ar
  have hok : HOk P w (argH K s₁.heap A) s₁.heap := argH_ok ar
  have hS := dw_all KX ar ds vals hwl hpl ho
  have hV := vals_toV ho
  have hK : ∀ b u, argH K s₁.heap A b = some u → K.lookup b = none := fun b u q => (argH_is ar q).1
  have noA : ∀ {b : Addr} {o : Obj} {es : Array DictEntry} {ep : Nat}, s₁.heap.get? b = some o → o.data = .dict es ep → argH K s₁.heap A b = none := fun {b o es ep} e d => by
    cases q : argH K s₁.heap A b with
    | none => rfl
    | some u =>
      obtain ⟨_, vs, _, _, ⟨e2, _⟩ | ⟨e2, _⟩⟩ := argH_is ar q
      · rw [e2] at e
        cases e
        have d' : Data.seq vs.toArray _ = Data.dict es ep := d
        cases d'
      · rw [e2] at e
        cases e
        have d' : Data.seq vs.toArray _ = Data.dict es ep := d
        cases d'
  generalize argH K s₁.heap A = H at hO hok hS hK noA
  have base_of : ∀ {b : Addr} {o : Obj}, s₁.heap.get? b = some o → H b = none → (hidT s₁.heap H).get? b = some o := fun e n => hidT_get e n
  have nsK : ∀ {b : Addr} {m : Str → Option Value}, s₁.heap.Ns b m → (hidT s₁.heap H).Ns b m := fun {b m} ⟨o, es, ep, e, d, r⟩ => ⟨o, es, ep, base_of e (noA e d), d, r⟩
  have nK : ∀ b o, K.lookup b = some o → H b = none := fun b o e => by
    cases q : H b with
    | none => rfl
    | some u =>
      rw [hK b u q] at e
      cases e
  have hKb : K.In (hidT s₁.heap H) := fun b o e => base_of (KX b o e) (nK b o e)
  have hM : Mod K mg (hidT s₁.heap H) := ⟨hKb, nsK hns, ⟨mb, nsK hb, hbb⟩, let ⟨mc, h1, h2⟩ := hlim; ⟨mc, nsK h1, h2⟩⟩
  have e0 : Env0 P w K mg (hidT s₁.heap H) callerA [] s₁ H := ⟨rfl, hM, fun b o e => of_hidT e, Nat.le_of_eq (hidT_size _ _), trivial, fun b hb => absurd (show b ∈ ([] : List Addr) from hb) (by simp), hok, .of_eq hg⟩
  have hl : vals.length = ps.length := by rw [wellAll_len hwl]; exact hlen
  refine codeAny_mono ((F _ hKb (nsK hns)).run callerA [] s₁ H ⟨vals, []⟩ vals (vals.map toV) _ _ hr e0 (hbind s₁ vals hl) hV (hsp H _ hO hS)) fun r s' x => ?_
  cases r with
  | error e => exact (hCX H e s' x).elim
  | ok fl =>
    cases fl with
    | next => exact False.elim x
    | brk => exact False.elim x
    | cont => exact False.elim x
    | ret u =>
      obtain ⟨v, H', os, bare, un, hok', r', q⟩ := x
      have kept : ∀ b o, s₁.heap.get? b = some o → s'.heap.get? b = some o := fun b o e => by
        cases q2 : H b with
        | none => exact un.keep b o e q2 (by intro z; exact absurd (show b ∈ ([] : List Addr) from z) (by simp)) (by simp)
        | some u2 =>
          rcases hO b with z | ⟨ob, u3, z⟩
          · rw [q2] at z
            cases z
          · have z2 := un.frzs b ob _ z
            obtain ⟨e1, _⟩ := hok b _ z
            obtain ⟨e2, _⟩ := hok' b _ z2
            rw [e] at e1
            cases e1
            exact e2
      have KX' : K.In s'.heap := fun b o e => kept b o (KX b o e)
      obtain ⟨as, hrd⟩ := Dw.reads (R := R) (cl := cl) hok' KX' d0 v u q r'
      exact ⟨u, as, rfl, hrd, OldK.of_keep kept, os, bare⟩
theorem layable_weight {ds : List WData} (h : WData.layableAll ds = true) : ∀ d ∈ ds, d.weight ≤ 1048576 := fun d hd =>
  (PySem.W.layableW_iff.mp (List.all_eq_true.mp h d hd)).2.2
theorem encAll_len : ∀ (cs : List Codec) (a : Codec.denoteAll cs), (Codec.encAll cs a).length = cs.length
  | [], _ => rfl
  | c :: cs, a => by
    show (Codec.encAll cs a.2).length + 1 = cs.length + 1
    rw [encAll_len cs a.2]
theorem walk_spec {r : OpenSpec} {k : Nat} {q : Program} {loose : List Str} {XP : (Str → Option Value) → Heap → Prop} {YP : World → Heap → Prop} {d : DefRec} {K : Params → PySem.W.Frag} {CX : World → CXT} {ps : List Str} {sp : World → Sp}
    (hwell : r.wellSaid = true) (hdf : d.params.defaults = []) (hlen : r.args.length = ps.length) (hr : Room k callerA)
    (hY : ∀ (w : World) (h : Heap), YP w h → (K w.params).In h)
    (F : ∀ (w : World) (mg : Str → Option Value) (fa : Addr) (h : Heap), YP w h → (K w.params).In h → h.Ns mainGlobals mg → mg d.name = some (.ref fa) →
      ∃ fd : FuncData, (∀ (s : Shared) (us : List Value), us.length = ps.length → BindsTo s fd ⟨us, []⟩ (ps.zip us)) ∧
        ∀ base : Heap, (K w.params).In base → base.Ns mainGlobals mg → FnOk r.prog w (K w.params) mg base (CX w) k fa fd ps (sp w))
    (hsp : ∀ (w : World) (H : Hp) (xs : List V) (a : Codec.denoteAll r.args), OnlyF H → Codec.withinAll r.args a = true → Codec.app r.args r.asked a = true → DwAll (K w.params) H xs (Codec.encAll r.args a) →
      sp w xs H (fun v H' => Dw (K w.params) H' v (r.ret.enc (Codec.app r.args r.f a))) fun _ _ _ => False)
    (hCX : ∀ (w : World) (H : Hp) (s : Shared) (e : Value) (s' : Shared), CX w [] H s (fun _ _ _ => False) e s' → False) :
    PySem.W.WalkOS q loose XP YP r d [] (fun f vs => PySem.call f vs) := by
  intro w s_0 s₁ mg mb G Y fa o pm cd doc dV kV ho hd hcd hD hmg hg args vals as hpre hlay hrd hwl hlo
  obtain ⟨a, e1, e2⟩ := PySem.W.os_pre_some hpre
  obtain ⟨e3, hwi⟩ := Codec.encAll_of_decAll r.args args a e1
  subst e3
  have KX := hY w _ Y
  obtain ⟨fd, hb, hF⟩ := F w mg fa _ Y KX G.T.g hmg
  refine PySem.W.enter_call (codeAny_mono (spec_call (R := []) (cl := classAt s_0.heap) (d0 := r.ret.enc (Codec.app r.args r.f a)) KX G.T.g G.T.b G.T.builtins G.T.nolimit hg hwl (pl_encAll _ _) (layable_weight hlay) hr hF hb (by rw [encAll_len]; exact hlen)
    (fun H xs hO hS => hsp w H xs a hO hwi e2 hS) fun H e s' => hCX w H s₁ e s') fun r' s' hq => ?_)
  obtain ⟨u, as', rfl, h1, h2, h3, h4⟩ := hq
  exact ⟨.inl ⟨u, _, as', rfl, fun _ => rfl, h1, (OpenSpec.post_iff hwell hwi _ _).mpr rfl, fun z => Bool.noConfusion (show false = true from z)⟩, h2, h3, h4⟩
theorem walk_specK {r : OpenSpec} {k : Nat} {q : Program} {loose : List Str} {XP : (Str → Option Value) → Heap → Prop} {YP : World → Heap → Prop} {d : DefRec} {K : Params → PySem.W.Frag} {CX : CXT} {ps : List Str} {sp : PySem.W.Frag → Sp}
    (hwell : r.wellSaid = true) (hdf : d.params.defaults = []) (hlen : r.args.length = ps.length) (hr : Room k callerA)
    (hY : ∀ (w : World) (h : Heap), YP w h → (K w.params).In h)
    (F : ∀ (w : World) (mg : Str → Option Value) (fa : Addr) (h : Heap), YP w h → (K w.params).In h → h.Ns mainGlobals mg → mg d.name = some (.ref fa) →
      ∃ fd : FuncData, (∀ (s : Shared) (us : List Value), us.length = ps.length → BindsTo s fd ⟨us, []⟩ (ps.zip us)) ∧
        ∀ base : Heap, (K w.params).In base → base.Ns mainGlobals mg → FnOk r.prog w (K w.params) mg base CX k fa fd ps (sp (K w.params)))
    (hsp : ∀ (K : PySem.W.Frag) (H : Hp) (xs : List V) (a : Codec.denoteAll r.args), OnlyF H → Codec.withinAll r.args a = true → Codec.app r.args r.asked a = true → DwAll K H xs (Codec.encAll r.args a) →
      sp K xs H (fun v H' => Dw K H' v (r.ret.enc (Codec.app r.args r.f a))) fun _ _ _ => False)
    (hCX : ∀ (H : Hp) (s : Shared) (e : Value) (s' : Shared), CX [] H s (fun _ _ _ => False) e s' → False) :
    PySem.W.WalkOS q loose XP YP r d [] (fun f vs => PySem.call f vs) :=
  walk_spec (K := K) (CX := fun _ => CX) (sp := fun w => sp (K w.params)) hwell hdf hlen hr hY F (fun w H xs a h1 h2 h3 h4 => hsp (K w.params) H xs a h1 h2 h3 h4) fun _ H s e s' => hCX H s e s'
end L2
end
end
section
set_option Elab.async false
set_option linter.all false
set_option maxRecDepth 100000
set_option maxHeartbeats 2000000
namespace L2
open PySem PySem.Spec PyProof.Rows
structure Fly (P : Program) (w : World) (outer : List Env) (H0 : Hp) (h0 : Heap) (H' : Hp) (e : Addr) (cls : Value) (h' : Heap) : Prop where
  un : Un (frs outer) [] H0 H' h0 h'
  fly : ∃ (B : Heap) (a0 : Value), (∀ b o, h0.get? b = some o → H0 b = none → b ∉ frs outer → B.get? b = some o) ∧ (∀ b o, h0.get? b = some o → b ∉ frs outer → ∃ o', B.get? b = some o') ∧
    HOk P w H' B ∧ Heap.FlyingW B outer e cls a0 h'
theorem Fly.hok {P : Program} {w : World} {outer : List Env} {H0 H' : Hp} {h0 h' : Heap} {e : Addr} {cls : Value} (F : Fly P w outer H0 h0 H' e cls h') : HOk P w H' h' := by
  obtain ⟨B, a0, _, _, k3, fl⟩ := F.fly
  exact k3.kept fl.1
theorem Fly.ty {P : Program} {w : World} {outer : List Env} {H0 H' : Hp} {h0 h' : Heap} {e : Addr} {cls : Value} {M : Model} (F : Fly P w outer H0 h0 H' e cls h') : PySem.W.Looks M h' (typeOf (.ref e)) cls := by
  obtain ⟨B, a0, _, _, k3, fl⟩ := F.fly
  obtain ⟨ob, hob, hc⟩ := fl.there
  subst hc
  exact (PySem.W.Looks.ld hob).andThen .now
theorem Fly.same {P : Program} {w : World} {outer : List Env} {H0 H' : Hp} {h0 h' h'' B : Heap} {e : Addr} {cls a0 : Value} (u : Un (frs outer) [] H0 H' h0 h')
    (k1 : ∀ b o, h0.get? b = some o → H0 b = none → b ∉ frs outer → B.get? b = some o) (k2 : ∀ b o, h0.get? b = some o → b ∉ frs outer → ∃ o', B.get? b = some o') (k3 : HOk P w H' B)
    (fl : Heap.FlyingW B outer e cls a0 h') (fl' : Heap.FlyingW B outer e cls a0 h'') (us : h'.UpToSlots h'') (fr0 : ∀ b ∈ frs outer, H0 b = none) : Fly P w outer H0 h0 H' e cls h'' := by
  have slot : ∀ b o, h0.get? b = some o → H0 b = none → b ∈ frs outer → ∃ sl, h''.get? b = some { o with slots := sl } := fun b o q n hb => by
    obtain ⟨sl, e1⟩ := u.slot b o q n hb (by simp)
    obtain ⟨_, o', ho', hd⟩ := fl.2.2.1.mem hb
    rw [e1] at ho'
    cases ho'
    obtain ⟨sl', e2⟩ := us b _ e1 hd
    exact ⟨sl', e2⟩
  refine ⟨⟨fun b o q n hb _ => fl'.1 _ _ (k1 b o q n hb), fun b o q n hb _ => slot b o q n hb, u.free, fun b o q _ => ?_, u.tups, u.frzs, u.tbls⟩, B, a0, k1, k2, k3, fl'⟩
  by_cases hb : b ∈ frs outer
  · obtain ⟨sl, e1⟩ := slot b o q (fr0 b hb) hb
    exact ⟨_, e1⟩
  · obtain ⟨o', e1⟩ := k2 b o q hb
    exact ⟨o', fl'.1 _ _ e1⟩
noncomputable def CXR (P : Program) (w : World) : CXT := fun outer H0 s0 E ev s' => ∃ (e : Addr) (cls : Value) (H' : Hp), ev = .ref e ∧ E cls none H' ∧ s'.os = s0.os ∧ AllBare s'.gens ∧ Fly P w outer H0 s0.heap H' e cls s'.heap
section
variable {X : Cx} {pins : List (Addr × Obj)} {σ : St} {H1 H' : Hp} {s1 : Shared}
theorem Inv.ndf (I : Inv X pins σ H1 s1) {b : Addr} {o : Obj} (e : X.s_0.heap.get? b = some o) (hb : b ∉ X.fs) : b ∉ frs X.stack := fun z =>
  (List.mem_cons.mp (I.stkSub b z)).elim (fun q => absurd (Nat.lt_of_lt_of_le (Heap.lt_size e) I.ok.above) (by rw [q]; exact Nat.lt_irrefl _)) hb
theorem fly_out {hm h'' B : Heap} {e : Addr} {cls a0 : Value} (I : Inv X pins σ H1 s1) (hex : X.ex = []) (u : Un (frs X.stack) [] H1 H' s1.heap hm)
    (k1 : ∀ b o, s1.heap.get? b = some o → H1 b = none → b ∉ frs X.stack → B.get? b = some o) (k2 : ∀ b o, s1.heap.get? b = some o → b ∉ frs X.stack → ∃ o', B.get? b = some o')
    (k3 : HOk X.prog X.w H' B) (fl : Heap.FlyingW B X.outer e cls a0 h'') (us : hm.UpToSlots h'') : Fly X.prog X.w X.outer X.H_0 X.s_0.heap H' e cls h'' := by
  have nx : ∀ b : Addr, b ∉ X.ex := fun b => by rw [hex]; simp
  have K1 : ∀ b o, X.s_0.heap.get? b = some o → X.H_0 b = none → b ∉ frs X.outer → B.get? b = some o := fun b o q n hb =>
    k1 b o (I.base.keep b o q n hb (nx b)) (I.base.free b o q n (nx b)) (I.ndf q hb)
  have K2 : ∀ b o, X.s_0.heap.get? b = some o → b ∉ frs X.outer → ∃ o', B.get? b = some o' := fun b o q hb => by
    obtain ⟨o1, e1⟩ := I.base.there b o q (nx b)
    exact k2 b o1 e1 (I.ndf q hb)
  have slot : ∀ b o, X.s_0.heap.get? b = some o → X.H_0 b = none → b ∈ X.fs → ∃ sl, h''.get? b = some { o with slots := sl } := fun b o q n hb => by
    obtain ⟨sl, e1⟩ := I.base.slot b o q n hb (nx b)
    obtain ⟨sl', e2⟩ := u.any e1 (I.base.free b o q n (nx b)) (by simp)
    obtain ⟨_, o', ho', hd⟩ := I.ok.funs.mem hb
    rw [q] at ho'
    cases ho'
    obtain ⟨sl'', e3⟩ := us b _ e2 hd
    exact ⟨sl'', e3⟩
  refine ⟨⟨fun b o q n hb _ => fl.1 _ _ (K1 b o q n hb), fun b o q n hb _ => slot b o q n hb, fun b o q n _ => ?_, fun b o q _ => ?_, fun b xs q => u.tups b xs (I.base.tups b xs q), fun b o xs q => u.frzs b o xs (I.base.frzs b o xs q), fun b ps q => ?_⟩, B, a0, K1, K2, k3, fl⟩
  · obtain ⟨o1, e1⟩ := I.base.there b o q (nx b)
    exact u.free b o1 e1 (I.base.free b o q n (nx b)) (by simp)
  · by_cases hb : b ∈ frs X.outer
    · obtain ⟨sl, e1⟩ := slot b o q (I.ok.frf b hb) hb
      exact ⟨_, e1⟩
    · obtain ⟨o', e1⟩ := K2 b o q hb
      exact ⟨o', fl.1 _ _ e1⟩
  · obtain ⟨m1, e1⟩ := I.base.tbls b ps q
    obtain ⟨m2, e2⟩ := u.tbls b _ e1
    exact ⟨m1 ++ m2, by rw [e2, Array.append_assoc]⟩
theorem Inv.hidden (I : Inv X pins σ H1 s1) : HOk X.prog X.w H1 (PySem.W.hideAll s1.heap (frs X.stack)) := fun a o q => by
  have nm : ∀ b u, H1 b = some u → b ∉ frs X.stack := fun b u q z => by rw [I.stkFree b z] at q; cases q
  refine (I.hok a o q).stay (fun b u hb e => PySem.W.hideAll_get _ e ?_) (fun _ z => z) (fun _ _ z => z)
  rcases hb with rfl | hb
  · exact nm _ _ q
  · exact nm _ _ hb
end
section
variable {P : Program} {w : World} {K : PySem.W.Frag} {mg : Str → Option Value} {base : Heap} {N : List Str} {qual : Str} {scope : Scope} {f : Addr} {cd : Value} {A : Around} {outer : List Env} {s : Shared} {H : Hp} {E : XK}
theorem passR {E' : XK} (h : ∀ cls H', E' cls none H' → E cls none H') : Passes (CXR P w) (cxOf (CXR P w) P w K mg base N qual scope f cd A outer s H E) E' := by
  intro pins σ H1 s1 ev s' I ⟨e, cls, H', e1, q, os, bare, F⟩
  subst e1
  obtain ⟨B, a0, k1, k2, k3, fl⟩ := F.fly
  show wpAny _ _ (leaving _ (.ref e)) _ _ _
  refine wpAny_leaves_onW I.ok.frames rfl fl fun h' fl' us => ?_
  exact ⟨e, cls, H', rfl, h _ _ q, os.trans I.os, bare, fly_out I rfl F.un k1 k2 k3 fl' us⟩
theorem passR' : Passes (CXR P w) (cxOf (CXR P w) P w K mg base N qual scope f cd A outer s H E) E := passR fun _ _ z => z
theorem ownR : PassesOwn (model P w) (A.deeper (envOfC qual scope s.heap.objs.size f cd)) (envOfC qual scope s.heap.objs.size f cd) (cxOf (CXR P w) P w K mg base N qual scope f cd A outer s H E).xe := PassesOwn.leaving
end
structure Exc (K : PySem.W.Frag) (C : Addr) : Prop where
  ex : ∃ bm ns nm qn bs hd sn sub ab col dd k0 k1 k2 k3 k5, K.lookup C = some ⟨.type "type", dd, .cls ⟨nm, bs, .ref C :: bm, ns, qn, hd, sn, sub, ab, col, false⟩, #[k0, k1, k2, k3, some (.builtin "ValueError.__new__"), k5]⟩ ∧
    PySem.W.nsOkIn K ns = true ∧ PySem.W.nsIn K ns "__init__" = some none ∧ PySem.W.tailIn K [.type "ValueError", .type "Exception", .type "BaseException", .type "object"] bm = true
theorem Exc.own {K : PySem.W.Frag} {C : Addr} (x : Exc K C) {h : Heap} {mg : Str → Option Value} {n : Str} (X : K.In h) (e : mg n = some (.ref C)) : OwnCls n C [.type "ValueError", .type "Exception", .type "BaseException", .type "object"] "ValueError.__new__" mg h := by
  obtain ⟨bm, ns, nm, qn, bs, hd, sn, sub, ab, col, dd, k0, k1, k2, k3, k5, ho, hok, hni, ht⟩ := x.ex
  exact ⟨e, bm, ns, nm, qn, bs, hd, sn, sub, ab, col, dd, k0, k1, k2, k3, k5, _, X _ _ ho, .of_isNs (PySem.W.isNs_of_in X hok), PySem.W.nsMap_none_of_in X hok hni, PySem.W.tail_of_in X ht⟩
section
variable {P : Program} {w : World} {K : PySem.W.Frag} {mg : Str → Option Value} {base : Heap} {N : List Str} {qual : Str} {scope : Scope} {f : Addr} {cd : Value} {A : Around} {outer : List Env} {s : Shared} {H : Hp} {E : XK}
noncomputable def tRaise (E : XK) (C : Addr) (t : TA) : TS := fun _ σ H => t σ H fun vs H1 => vs.length ≤ sizeLine ∧ E (.ref C) none H1
theorem ps_raise {x : Str} {C : Addr} {np cpos pos : Pos} {e₀ : Expr} {rest : List Expr} {t : TA} (x1 : Exc K C) (hm : mg x = some (.ref C)) (hd : A.handled = none)
    (hg : Gl (cxOf (CXR P w) P w K mg base N qual scope f cd A outer s H E) x) (ha : PA (cxOf (CXR P w) P w K mg base N qual scope f cd A outer s H E) (e₀ :: rest) t)
    (he : starEach (e₀ :: rest) (envOfC qual scope s.heap.objs.size f cd) = (false, eval e₀ (envOfC qual scope s.heap.objs.size f cd)) :: starEach rest (envOfC qual scope s.heap.objs.size f cd) := by rfl)
    (hplain : (backTo cpos (starEach rest (envOfC qual scope s.heap.objs.size f cd))).any (·.1) = false := by rfl) (hdb : (x == ("__debug__" : Str)) = false := by decide) :
    PS (cxOf (CXR P w) P w K mg base N qual scope f cd A outer s H E) (.Raise (some (.Call (.Name x np) (e₀ :: rest) [] cpos)) none pos) (tRaise E C t) := by
  intro pins s1 σ H1 D I h
  obtain ⟨tl, Nn, nm, q, bs, hdct, sn, sub, ab, col, dd, k0, k1, k2, k3, k5, mN, hC, hN, hni, T⟩ := (x1.own (h := base) (n := x) I.ok.mod.kin hm).obj
  have FB := PySem.F.excBase_ValueError
  refine wpAny_Raise_call_subU (C := C) (nm := nm) (q := q) (N := Nn) (bs := bs) (bm := tl) (hdct := hdct) (sn := sn) (sub := sub) (ab := ab) (col := col) (dd := dd) (k0 := k0) (k1 := k1) (k2 := k2) (k3 := k3) (k5 := k5)
    FB FB.hasB FB (mN := mN) (T.hasType FB.hasBase) hd (by
      show (backTo cpos (starEach (e₀ :: rest) (envOfC qual scope s.heap.objs.size f cd))).any (·.1) = false
      rw [he]; show (false || (backTo cpos (starEach rest (envOfC qual scope s.heap.objs.size f cd))).any (·.1)) = false; rw [hplain]; rfl) hni (ld_glob I hg hm ⟨rfl, ?_⟩ hdb)
  have h2 := ha cpos pins s1 σ H1 _ I h
  have he' : starEach (e₀ :: rest) (cxOf (CXR P w) P w K mg base N qual scope f cd A outer s H E).env = (false, eval e₀ (cxOf (CXR P w) P w K mg base N qual scope f cd A outer s H E).env) :: starEach rest (cxOf (CXR P w) P w K mg base N qual scope f cd A outer s H E).env := he
  rw [he'] at h2 ⊢
  refine Calls.evalArgs_plain (wpAny_mono h2 (fun us s2 ⟨vs, H2, I2, rv, q1, q2⟩ => ⟨rfl, by rw [← rv.length]; exact q1, I2.bk _ _ hC, hN.keeps I2.bk, T.keeps I2.bk, fun h' e hx => ?_⟩) fun _ _ y => y)
  show wpAny _ _ (leaving _ (.ref e)) _ _ _
  have hin : ∀ env ∈ (cxOf (CXR P w) P w K mg base N qual scope f cd A outer s H E).stack, ∀ b, env.frame = some b → b ∈ frs (cxOf (CXR P w) P w K mg base N qual scope f cd A outer s H E).stack := fun env he b hb => List.mem_filterMap.mpr ⟨env, he, hb⟩
  refine wpAny_leaves_madeW (base := PySem.W.hideAll s2.heap (frs (cxOf (CXR P w) P w K mg base N qual scope f cd A outer s H E).stack)) (h := s2.heap) I2.ok.frames rfl (fun b o q => PySem.W.of_hideAll _ q) (PySem.W.funFrames_hide I2.stack hin) hx fun h'' t fl _ _ us => ?_
  refine ⟨e, _, H2, rfl, q2, I2.os, I2.bare, fly_out I2 rfl (Un.kept hx.keeps) (fun b o q _ hb => PySem.W.hideAll_get _ q hb) (fun b o q hb => ⟨o, PySem.W.hideAll_get _ q hb⟩) I2.hidden fl us⟩
end
theorem Fun.okx {P : Program} {w : World} {K : PySem.W.Frag} {mg : Str → Option Value} {base : Heap} {x qual : Str} {st : Stmt} {f : Addr} {fd : FuncData} {N ps : List Str} {k : Nat} {sp : Sp} (F : Fun K x qual st f fd) (S : FnScope N ps (defScope st)) (len : ∀ vs H Q E, sp vs H Q E → vs.length = ps.length)
    (hbody : ∀ (cdv : Value) (A : Around) (outer : List Env) (s : Shared) (H : Hp) (vs : List V) (Q : VK) (E : XK), Room k (A.deeper (envOfC qual (defScope st) s.heap.objs.size f cdv)) → sp vs H Q E →
      ∃ t, PSs (cxOf (CXR P w) P w K mg base N qual (defScope st) f cdv A outer s H E) (defBody st) t ∧ t { nx := fun _ H' => Q .non H', rt := Q } (start N vs) H) : FnOk P w K mg base (CXR P w) (k + 1) f fd ps sp := by
  obtain ⟨oc, od, kV, doc, pm, an, cdv, ct, osl, rfl, lk, hcd⟩ := F.ex
  exact fn_of lk hcd S len fun A outer s H vs Q E hr hsp => hbody cdv A outer s H vs Q E hr hsp
noncomputable abbrev Cx.mk' (X : Cx) (e : Addr) : Cx := { X with A := X.A.mark (some (.ref e)), calm := false, xe := fun _ _ => False }
section
variable {X : Cx} {pins : List (Addr × Obj)} {σ : St} {H : Hp} {s : Shared}
theorem Inv.mk' (I : Inv X pins σ H s) (e : Addr) : Inv (X.mk' e) pins σ H s :=
  ⟨⟨I.ok.mod, I.ok.kind, I.ok.glob, I.ok.blt, I.ok.above, I.ok.inj, I.ok.has, I.ok.cab, (fun z => by cases z), I.ok.frames, I.ok.stk, I.ok.exf, I.ok.bs, I.ok.bsz, I.ok.noex, I.ok.exfs, I.ok.funs, I.ok.frf⟩,
    I.os, I.bare, I.base, I.loc, I.cell, I.free, I.freeC, I.pin, I.hok, I.len⟩
theorem Inv.unmk {e : Addr} (ok : X.Ok) (I : Inv (X.mk' e) pins σ H s) : Inv X pins σ H s := ⟨ok, I.os, I.bare, I.base, I.loc, I.cell, I.free, I.freeC, I.pin, I.hok, I.len⟩
theorem SP.unmk {e : Addr} (ok : X.Ok) {D : Ends} {f : Flow} (h : SP (X.mk' e) pins D f s) : SP X pins D f s := by
  cases f with
  | next => obtain ⟨σ', H', I, q⟩ := h; exact ⟨σ', H', I.unmk ok, q⟩
  | brk => obtain ⟨σ', H', I, q⟩ := h; exact ⟨σ', H', I.unmk ok, q⟩
  | cont => obtain ⟨σ', H', I, q⟩ := h; exact ⟨σ', H', I.unmk ok, q⟩
  | ret u => obtain ⟨v, σ', H', I, r, q⟩ := h; exact ⟨v, σ', H', I.unmk ok, r, q⟩
end
noncomputable def PH (X : Cx) (cls : Value) (hs : List ExceptHandler) (t : TS) : Prop :=
  ∀ (pins : List (Addr × Obj)) (s1 : Shared) (σ : St) (H1 H' : Hp) (e : Addr) (s' : Shared) (D : Ends), Inv X pins σ H1 s1 → s'.os = s1.os → AllBare s'.gens → Fly X.prog X.w X.stack H1 s1.heap H' e cls s'.heap → t D σ H' →
    wpAny (model X.prog X.w) X.A (handleBy (.ref e) X.env hs) (SP X pins D) X.xe s'
section
variable {X : Cx} {cls c : Value} {x : Str} {np pos : Pos} {rest : List ExceptHandler} {t : TS}
theorem Inv.flown {pins : List (Addr × Obj)} {σ : St} {H1 H' : Hp} {s1 s' : Shared} {e : Addr} (I : Inv X pins σ H1 s1) (os : s'.os = s1.os) (bare : AllBare s'.gens) (F : Fly X.prog X.w X.stack H1 s1.heap H' e cls s'.heap) : Inv X pins σ H' s' :=
  I.call' (ch := []) os F.un F.hok bare (fun b z => absurd z (by simp))
theorem ph_pass {nm : Option Str} {body : List Stmt} (hg : Gl X x) (hm : X.mg x = some c) (hx : PySem.W.exmOne X.K cls c = some false) (h : PH X cls rest t) (hdb : (x == ("__debug__" : Str)) = false := by decide) :
    PH X cls (.ExceptHandler (some (.Name x np)) nm body pos :: rest) t := by
  intro pins s1 σ H1 H' e s' D I os bare F q
  have I' := I.flown os bare F
  refine wpAny_handleBy_cons (codeAny_handlers_test (ld_glob (I'.mk' e) hg hm ?_ hdb)) (by intro q; cases q)
  exact (PySem.W.exm_one I'.kIn F.ty hx) _ _ _ _ (fun _ _ z => z) (h pins s1 σ H1 H' e s' D I os bare F q)
theorem ph_hit {b₀ : Stmt} {suite : List Stmt} (hg : Gl X x) (hm : X.mg x = some c) (hx : PySem.W.exmOne X.K cls c = some true) (h : ∀ e, PSs (X.mk' e) (b₀ :: suite) t) (hdb : (x == ("__debug__" : Str)) = false := by decide) :
    PH X cls (.ExceptHandler (some (.Name x np)) none (b₀ :: suite) pos :: rest) t := by
  intro pins s1 σ H1 H' e s' D I os bare F q
  have I' := I.flown os bare F
  refine wpAny_handleBy_cons (codeAny_handlers_test (ld_glob (I'.mk' e) hg hm ?_ hdb)) (by intro q; cases q)
  refine (PySem.W.exm_one I'.kIn F.ty hx) _ _ _ _ (fun _ _ z => z) (codeAny_handlers_suite ?_)
  obtain ⟨B, a0, k1, k2, k3, fl⟩ := F.fly
  refine lands_againW fl fun h₆ fl₆ us => ?_
  have F6 : Fly X.prog X.w X.stack H1 s1.heap H' e cls h₆ := Fly.same F.un k1 k2 k3 fl fl₆ us I.stkFree
  have I6 : Inv X pins σ H' { s' with heap := h₆ } := I.flown (s' := { s' with heap := h₆ }) os bare F6
  refine wpAny_mono (h e pins _ σ H' D (I6.mk' e) q) (fun f s'' hs => hs.unmk I.ok) fun _ _ z => False.elim z
end
noncomputable abbrev Cx.tr (X : Cx) (pins : List (Addr × Obj)) (W : Value → Shared → Prop) : Cx := { X with pn := X.pn ++ pins, xe := W }
section
variable {X : Cx}
theorem Inv.tr {pins : List (Addr × Obj)} {σ : St} {H : Hp} {s : Shared} (I : Inv X pins σ H s) (W : Value → Shared → Prop) : Inv (X.tr pins W) [] σ H s :=
  ⟨⟨I.ok.mod, I.ok.kind, I.ok.glob, I.ok.blt, I.ok.above, I.ok.inj, I.ok.has, I.ok.cab, I.ok.hd, I.ok.frames, I.ok.stk, I.ok.exf, I.ok.bs, I.ok.bsz, I.ok.noex, I.ok.exfs, I.ok.funs, I.ok.frf⟩,
    I.os, I.bare, I.base, I.loc, I.cell, I.free, I.freeC, fun p hp => I.pin p (by simpa using hp), I.hok, I.len⟩
theorem Inv.untr {pins pins' : List (Addr × Obj)} {σ : St} {H : Hp} {s : Shared} {W : Value → Shared → Prop} (ok : X.Ok) (I : Inv (X.tr pins W) pins' σ H s) : Inv X pins σ H s :=
  ⟨ok, I.os, I.bare, I.base, I.loc, I.cell, I.free, I.freeC, fun p hp => I.pin p (List.mem_append_left _ hp), I.hok, I.len⟩
theorem SP.untr {pins pins' : List (Addr × Obj)} {W : Value → Shared → Prop} (ok : X.Ok) {D : Ends} {f : Flow} {s : Shared} (h : SP (X.tr pins W) pins' D f s) : SP X pins D f s := by
  cases f with
  | next => obtain ⟨σ', H', I, q⟩ := h; exact ⟨σ', H', I.untr ok, q⟩
  | brk => obtain ⟨σ', H', I, q⟩ := h; exact ⟨σ', H', I.untr ok, q⟩
  | cont => obtain ⟨σ', H', I, q⟩ := h; exact ⟨σ', H', I.untr ok, q⟩
  | ret u => obtain ⟨v, σ', H', I, r, q⟩ := h; exact ⟨v, σ', H', I.untr ok, r, q⟩
noncomputable def eTry (th : Value → Option TS) (D : Ends) : XK := fun cls _ H => ∃ t, th cls = some t ∧ ∀ σ, t D σ H
noncomputable def tTry (tb : XK → TS) (th : Value → Option TS) : TS := fun D σ H => tb (eTry th D) D σ H
theorem ps_try {body : List Stmt} {h₀ : ExceptHandler} {hs : List ExceptHandler} {pos : Pos} {tb : XK → TS} {th : Value → Option TS} {L : Addr} {outer : List Env} (hst : X.stack = X.env :: outer) (hfr : X.env.frame = some L)
    (hb : ∀ (pins : List (Addr × Obj)) (W : Value → Shared → Prop) (E : XK), Passes (CXR X.prog X.w) (X.tr pins W) E → PSs (X.tr pins W) body (tb E))
    (hh : ∀ cls t, th cls = some t → PH X cls (h₀ :: hs) t) : PS X (.Try body (h₀ :: hs) [] [] pos) (tTry tb th) := by
  intro pins s σ H D I h
  refine wpAny_Try_except ?_
  have key : Passes (CXR X.prog X.w) (X.tr pins fun e s₁ => wpAny (model X.prog X.w) X.A (noteFrame e X.env) (fun _ s₂ => wpAny (model X.prog X.w) X.A (setFlight e none) (fun _ s₃ => wpAny (model X.prog X.w) X.A (handleBy e X.env (h₀ :: hs)) (SP X pins D) X.xe s₃) X.xe s₂) X.xe s₁) (eTry th D) := by
    intro pins' σ' H1 s1 ev s' J ⟨e, cls, H', e1, ⟨t, ht, q⟩, os, bare, F⟩
    subst e1
    have J' : Inv X pins σ' H1 s1 := J.untr I.ok
    obtain ⟨B, a0, k1, k2, k3, fl⟩ := F.fly
    have fl0 : Heap.FlyingW B (X.env :: outer) e cls a0 s'.heap := by rw [← hst]; exact fl
    have hfs : X.A.frames = some (X.env :: outer) := by rw [← hst]; exact I.ok.frames
    show wpAny _ _ (noteFrame (.ref e) X.env) _ _ _
    refine wpAny_looks_onW hfs hfr fl0 fun h₄ held₄ us₄ => ?_
    refine wpAny_landsW held₄ fun h₅ fl₅ us₅ => ?_
    have fl5 : Heap.FlyingW B X.stack e cls a0 h₅ := by rw [hst]; exact fl₅
    have F5 : Fly X.prog X.w X.stack H1 s1.heap H' e cls h₅ := Fly.same F.un k1 k2 k3 fl fl5 (us₄.trans us₅) J'.stkFree
    exact hh cls t ht pins s1 σ' H1 H' e { s' with heap := h₅ } D J' os bare F5 (q σ')
  refine wpAny_mono (hb pins _ (eTry th D) key [] s σ H D (I.tr _) h) (fun f s₁ hs => ?_) fun _ _ z => z
  have hs' := hs.untr I.ok
  cases f with
  | next => obtain ⟨σ', H', I', q⟩ := hs'; exact wpAny_execs_nil ⟨σ', H', I', q⟩
  | brk => exact hs'
  | cont => exact hs'
  | ret u => exact hs'
end
end L2
end
section
set_option Elab.async false
namespace Ev
open Dx
noncomputable def wt : Weights → Int → Nat
  | [], _ => 0
  | x :: r, v => (if x.1 = v then x.2 else 0) + wt r v
theorem wt_append (v : Int) : ∀ l m : Weights, wt (l ++ m) v = wt l v + wt m v
  | [], m => by simp [wt]
  | x :: r, m => by
    show (if x.1 = v then x.2 else 0) + wt (r ++ m) v = (if x.1 = v then x.2 else 0) + wt r v + wt m v
    rw [wt_append v r m]; omega
theorem wt_perm {l m : Weights} (h : l.Perm m) (v : Int) : wt l v = wt m v := by
  induction h with
  | nil => rfl
  | cons x _ ih => show _ + _ = _ + _; rw [ih]
  | swap x y l => show _ + (_ + _) = _ + (_ + _); omega
  | trans _ _ i1 i2 => rw [i1, i2]
theorem wt_zero {v : Int} : ∀ {l : Weights}, (∀ y ∈ l, y.1 ≠ v) → wt l v = 0
  | [], _ => rfl
  | x :: r, h => by
    show (if x.1 = v then x.2 else 0) + wt r v = 0
    rw [if_neg (h x (.head _)), wt_zero fun y hy => h y (.tail _ hy)]
theorem wt_pos_mem {v : Int} : ∀ {l : Weights}, 0 < wt l v → ∃ y ∈ l, y.1 = v
  | [], h => absurd h (by simp [wt])
  | x :: r, h => by
    by_cases e : x.1 = v
    · exact ⟨x, .head _, e⟩
    · have h' : 0 < wt r v := by
        have : wt (x :: r) v = 0 + wt r v := by show (if x.1 = v then x.2 else 0) + wt r v = _; rw [if_neg e]
        omega
      obtain ⟨y, hy, q⟩ := wt_pos_mem h'
      exact ⟨y, .tail _ hy, q⟩
theorem wt_ge {v : Int} {x : Int × Nat} : ∀ {l : Weights}, x ∈ l → x.1 = v → x.2 ≤ wt l v
  | y :: r, h, e => by
    show x.2 ≤ (if y.1 = v then y.2 else 0) + wt r v
    rcases List.mem_cons.mp h with q | q
    · subst q; rw [if_pos e]; omega
    · have := wt_ge q e; omega
theorem wt_filter (v : Int) : ∀ l : Weights, wt (l.filter fun x => decide (0 < x.2)) v = wt l v
  | [] => rfl
  | x :: r => by
    rw [List.filter_cons]
    split
    · show _ + _ = _ + _; rw [wt_filter v r]
    · rename_i h
      have h0 : x.2 = 0 := by simp at h; omega
      show _ = (if x.1 = v then x.2 else 0) + wt r v
      rw [wt_filter v r, h0]; split <;> omega
theorem merged_cons (x : Int × Nat) (r : Weights) : merged (x :: r) = match merged r with
    | [] => [x]
    | y :: l => if x.1 = y.1 then (x.1, x.2 + y.2) :: l else x :: y :: l := rfl
theorem wt_merged (v : Int) : ∀ l : Weights, wt (merged l) v = wt l v
  | [] => rfl
  | x :: r => by
    have ih := wt_merged v r
    rw [merged_cons]
    split
    · rename_i e; rw [e] at ih; show _ + _ = _ + _; rw [← ih]
    · rename_i y l e
      rw [e] at ih
      split
      · rename_i q
        show (if x.1 = v then x.2 + y.2 else 0) + wt l v = (if x.1 = v then x.2 else 0) + wt r v
        rw [← ih]; show _ = _ + ((if y.1 = v then y.2 else 0) + wt l v)
        rw [← q]; split <;> omega
      · show _ + _ = _ + _; rw [ih]
structure Canon (l : Weights) : Prop where
  srt : l.Pairwise fun a b => a.1 < b.1
  pos : ∀ x ∈ l, 0 < x.2
theorem Canon.tail {x : Int × Nat} {l : Weights} (c : Canon (x :: l)) : Canon l := ⟨(List.pairwise_cons.mp c.srt).2, fun y h => c.pos y (.tail _ h)⟩
theorem Canon.head {x : Int × Nat} {l : Weights} (c : Canon (x :: l)) : ∀ y ∈ l, x.1 < y.1 := (List.pairwise_cons.mp c.srt).1
theorem Canon.nil : Canon [] := ⟨.nil, fun _ h => nomatch h⟩
theorem Canon.nd {l : Weights} (c : Canon l) : (l.map (·.1)).Nodup := List.pairwise_map.mpr (c.srt.imp fun h => Int.ne_of_lt h)
theorem wt_head {x : Int × Nat} {l : Weights} (c : Canon (x :: l)) : wt (x :: l) x.1 = x.2 := by
  show (if x.1 = x.1 then x.2 else 0) + wt l x.1 = x.2
  rw [if_pos rfl, wt_zero fun y hy => by have := c.head y hy; omega]; rfl
theorem wt_below {v : Int} {x : Int × Nat} {l : Weights} (c : Canon (x :: l)) (h : v < x.1) : wt (x :: l) v = 0 := wt_zero fun y hy => by
  rcases List.mem_cons.mp hy with q | q
  · rw [q]; omega
  · have := c.head y q; omega
theorem canon_ext : ∀ {l m : Weights}, Canon l → Canon m → (∀ v, wt l v = wt m v) → l = m
  | [], [], _, _, _ => rfl
  | [], y :: m, _, c, h => by
    have e := h y.1
    rw [wt_head c] at e
    have := c.pos y (.head _)
    have z : wt [] y.1 = 0 := rfl
    omega
  | x :: l, [], c, _, h => by
    have e := h x.1
    rw [wt_head c] at e
    have := c.pos x (.head _)
    have z : wt [] x.1 = 0 := rfl
    omega
  | x :: l, y :: m, c, d, h => by
    have px := c.pos x (.head _)
    have py := d.pos y (.head _)
    have e1 : x.1 = y.1 := by
      rcases Int.lt_trichotomy x.1 y.1 with q | q | q
      · have e := h x.1; rw [wt_head c, wt_below d q] at e; omega
      · exact q
      · have e := h y.1; rw [wt_head d, wt_below c q] at e; omega
    have e2 : x.2 = y.2 := by
      have e := h x.1
      rw [wt_head c, e1, wt_head d] at e; exact e
    have e3 : x = y := Prod.ext e1 e2
    subst e3
    refine congrArg (x :: ·) (canon_ext c.tail d.tail fun v => ?_)
    have e : (if x.1 = v then x.2 else 0) + wt l v = (if x.1 = v then x.2 else 0) + wt m v := h v
    omega
theorem wt_mem {x : Int × Nat} : ∀ {l : Weights}, (l.map (·.1)).Nodup → x ∈ l → wt l x.1 = x.2
  | y :: r, nd, h => by
    have nd' := List.nodup_cons.mp (show (y.1 :: r.map (·.1)).Nodup from nd)
    show (if y.1 = x.1 then y.2 else 0) + wt r x.1 = x.2
    rcases List.mem_cons.mp h with q | q
    · subst q
      rw [if_pos rfl, wt_zero fun z hz e => nd'.1 (by rw [← e]; exact List.mem_map_of_mem hz)]; rfl
    · have ne : y.1 ≠ x.1 := fun e => nd'.1 (by rw [e]; exact List.mem_map_of_mem q)
      rw [if_neg ne, wt_mem nd'.2 q]; omega
theorem merged_vals : ∀ (l : Weights) (y : Int × Nat), y ∈ merged l → ∃ z ∈ l, z.1 = y.1
  | [], y, h => nomatch h
  | x :: r, y, h => by
    rw [merged_cons] at h
    split at h
    · rw [List.mem_singleton.mp h]; exact ⟨x, .head _, rfl⟩
    · rename_i z l e
      split at h
      · rcases List.mem_cons.mp h with q | q
        · rw [q]; exact ⟨x, .head _, rfl⟩
        · obtain ⟨u, hu, eu⟩ := merged_vals r y (by rw [e]; exact .tail _ q)
          exact ⟨u, .tail _ hu, eu⟩
      · rcases List.mem_cons.mp h with q | q
        · rw [q]; exact ⟨x, .head _, rfl⟩
        · obtain ⟨u, hu, eu⟩ := merged_vals r y (by rw [e]; exact q)
          exact ⟨u, .tail _ hu, eu⟩
theorem merged_canon : ∀ {l : Weights}, l.Pairwise (fun a b => a.1 ≤ b.1) → (∀ x ∈ l, 0 < x.2) → Canon (merged l)
  | [], _, _ => .nil
  | x :: r, hs, hp => by
    have hs' := List.pairwise_cons.mp hs
    have c := merged_canon hs'.2 fun y hy => hp y (.tail _ hy)
    have px := hp x (.head _)
    have le : ∀ y ∈ merged r, x.1 ≤ y.1 := fun y hy => by
      obtain ⟨z, hz, e⟩ := merged_vals r y hy
      rw [← e]; exact hs'.1 z hz
    rw [merged_cons]
    split
    · exact ⟨List.pairwise_singleton .., fun y hy => by rw [List.mem_singleton.mp hy]; exact px⟩
    · rename_i y l e
      rw [e] at c le
      split
      · rename_i q
        refine ⟨List.pairwise_cons.mpr ⟨fun z hz => ?_, c.tail.srt⟩, fun z hz => ?_⟩
        · show x.1 < z.1; rw [q]; exact c.head z hz
        · rcases List.mem_cons.mp hz with u | u
          · rw [u]; show 0 < x.2 + y.2; omega
          · exact c.tail.pos z u
      · rename_i q
        refine ⟨List.pairwise_cons.mpr ⟨fun z hz => ?_, c.srt⟩, fun z hz => ?_⟩
        · have h1 : x.1 < y.1 := by have := le y (.head _); omega
          rcases List.mem_cons.mp hz with u | u
          · rw [u]; exact h1
          · have := c.head z u; omega
        · rcases List.mem_cons.mp hz with u | u
          · rw [u]; exact px
          · exact c.pos z u
noncomputable def norm (l : Weights) : Weights := merged ((l.filter fun (x : Int × Nat) => decide (0 < x.2)).mergeSort fun (x y : Int × Nat) => decide (x.1 ≤ y.1))
theorem norm_wt (l : Weights) (v : Int) : wt (norm l) v = wt l v := by
  unfold norm
  rw [wt_merged, wt_perm (List.mergeSort_perm _ _), wt_filter]
theorem norm_canon (l : Weights) : Canon (norm l) := by
  refine merged_canon ?_ fun x hx => ?_
  · refine (List.pairwise_mergeSort (fun a b c h1 h2 => ?_) (fun a b => ?_) _).imp fun h => of_decide_eq_true h
    · have := of_decide_eq_true h1; have := of_decide_eq_true h2; exact decide_eq_true (by omega)
    · rw [Bool.or_eq_true]
      rcases Int.le_total a.1 b.1 with q | q
      · exact .inl (decide_eq_true q)
      · exact .inr (decide_eq_true q)
  · have := (List.mergeSort_perm _ _).mem_iff.mp hx
    exact of_decide_eq_true (List.mem_filter.mp this).2
theorem lowest_norm (l : Weights) : lowest l = (norm l).map fun x => (x.1, x.2 / divisor (norm l)) := rfl
theorem norm_congr {l m : Weights} (h : ∀ v, wt l v = wt m v) : norm l = norm m := canon_ext (norm_canon l) (norm_canon m) fun v => by rw [norm_wt, norm_wt, h]
theorem lowest_congr {l m : Weights} (h : ∀ v, wt l v = wt m v) : lowest l = lowest m := by rw [lowest_norm, lowest_norm, norm_congr h]
theorem gcd_fold (k : Nat) : ∀ (l : Weights) (g : Nat), k ∣ l.foldl (fun (g : Nat) (x : Int × Nat) => Nat.gcd g x.2) g ↔ k ∣ g ∧ ∀ x ∈ l, k ∣ x.2
  | [], g => ⟨fun h => ⟨h, fun _ z => nomatch z⟩, fun h => h.1⟩
  | x :: r, g => by
    rw [List.foldl_cons, gcd_fold k r, Nat.dvd_gcd_iff]
    constructor
    · intro ⟨⟨a, b⟩, c⟩
      exact ⟨a, fun y hy => by rcases List.mem_cons.mp hy with q | q; (rw [q]; exact b); exact c y q⟩
    · intro ⟨a, c⟩
      exact ⟨⟨a, c x (.head _)⟩, fun y hy => c y (.tail _ hy)⟩
theorem dvd_divisor {k : Nat} {l : Weights} : k ∣ divisor l ↔ ∀ x ∈ l, k ∣ x.2 := by
  unfold divisor
  rw [gcd_fold]
  exact ⟨fun h => h.2, fun h => ⟨Nat.dvd_zero k, h⟩⟩
theorem divisor_dvd {l : Weights} {x : Int × Nat} (h : x ∈ l) : divisor l ∣ x.2 := dvd_divisor.mp (Nat.dvd_refl _) x h
theorem divisor_same {l m : Weights} (h : ∀ k, (∀ x ∈ l, k ∣ x.2) ↔ ∀ x ∈ m, k ∣ x.2) : divisor l = divisor m :=
  Nat.dvd_antisymm (dvd_divisor.mpr ((h _).mp (dvd_divisor.mp (Nat.dvd_refl _)))) (dvd_divisor.mpr ((h _).mpr (dvd_divisor.mp (Nat.dvd_refl _))))
theorem divisor_pos {l : Weights} {x : Int × Nat} (h : x ∈ l) (hp : 0 < x.2) : 0 < divisor l := Nat.pos_of_dvd_of_pos (divisor_dvd h) hp
theorem lowest_canon (l : Weights) : Canon (lowest l) := by
  rw [lowest_norm]
  have c := norm_canon l
  refine ⟨List.pairwise_map.mpr c.srt, fun x hx => ?_⟩
  obtain ⟨y, hy, rfl⟩ := List.mem_map.mp hx
  have p := c.pos y hy
  exact Nat.div_pos (Nat.le_of_dvd p (divisor_dvd hy)) (divisor_pos hy p)
theorem lowest_vals (l : Weights) : (lowest l).map (·.1) = (norm l).map (·.1) := by rw [lowest_norm, List.map_map]; rfl
theorem mem_norm_vals {l : Weights} {v : Int} (h : 0 < wt l v) : v ∈ (norm l).map (·.1) := by
  rw [← norm_wt] at h
  obtain ⟨y, hy, rfl⟩ := wt_pos_mem h
  exact List.mem_map_of_mem hy
theorem nodup_len {α : Type} [DecidableEq α] : ∀ {l m : List α}, l.Nodup → (∀ x ∈ l, x ∈ m) → l.length ≤ m.length
  | [], m, _, _ => Nat.zero_le _
  | a :: l, m, nd, h => by
    have nd' := List.nodup_cons.mp nd
    have ha := h a (.head _)
    have ih := nodup_len (l := l) (m := m.erase a) nd'.2 fun x hx => (List.mem_erase_of_ne fun e => nd'.1 (by rw [← e]; exact hx)).mpr (h x (.tail _ hx))
    have e := List.length_erase_of_mem ha
    have : 0 < m.length := List.length_pos_of_mem ha
    show l.length + 1 ≤ m.length
    omega
theorem many {l : Weights} {ks : List Int} (nd : ks.Nodup) (h : ∀ v ∈ ks, 0 < wt l v) : ks.length ≤ (lowest l).length := by
  have e : (lowest l).length = ((norm l).map (·.1)).length := by rw [← lowest_vals, List.length_map]
  rw [e]
  exact nodup_len nd fun v hv => mem_norm_vals (h v hv)
theorem low_dict {d l : Weights} {ks : List Int} (nd : (d.map (·.1)).Nodup) (hp : ks.Perm (d.map (·.1))) (hs : ks.Pairwise (· ≤ ·)) (hw : ∀ v, wt d v = wt l v) :
    ((ks.filter fun v => decide (0 < wt d v)).map fun v => (v, wt d v / divisor d)) = lowest l := by
  have ndk : ks.Nodup := hp.nodup_iff.mpr nd
  have srt : ks.Pairwise (· < ·) := (hs.and ndk).imp fun h => by omega
  have cc : Canon ((ks.filter fun v => decide (0 < wt d v)).map fun v => (v, wt d v)) := by
    refine ⟨List.pairwise_map.mpr (srt.filter _), fun x hx => ?_⟩
    obtain ⟨v, hv, rfl⟩ := List.mem_map.mp hx
    exact of_decide_eq_true (List.mem_filter.mp hv).2
  have ew : ∀ v, wt ((ks.filter fun v => decide (0 < wt d v)).map fun v => (v, wt d v)) v = wt d v := fun v => by
    by_cases h : 0 < wt d v
    · obtain ⟨y, hy, e⟩ := wt_pos_mem h
      have hk : v ∈ ks := hp.mem_iff.mpr (by rw [← e]; exact List.mem_map_of_mem hy)
      exact wt_mem (x := (v, wt d v)) cc.nd (List.mem_map.mpr ⟨v, List.mem_filter.mpr ⟨hk, decide_eq_true h⟩, rfl⟩)
    · have h0 : wt d v = 0 := by omega
      rw [h0]
      refine wt_zero fun y hy e => ?_
      obtain ⟨u, hu, rfl⟩ := List.mem_map.mp hy
      have := of_decide_eq_true (List.mem_filter.mp hu).2
      have e' : u = v := e
      subst e'
      exact h this
  have en : ((ks.filter fun v => decide (0 < wt d v)).map fun v => (v, wt d v)) = norm l := canon_ext cc (norm_canon l) fun v => by rw [ew, norm_wt, hw]
  have ed : divisor d = divisor (norm l) := by
    rw [← en]
    refine divisor_same fun k => ⟨fun h x hx => ?_, fun h x hx => ?_⟩
    · obtain ⟨v, hv, rfl⟩ := List.mem_map.mp hx
      have hp' := of_decide_eq_true (List.mem_filter.mp hv).2
      obtain ⟨y, hy, e⟩ := wt_pos_mem hp'
      have := wt_mem nd hy
      show k ∣ wt d v
      rw [← e, this]; exact h y hy
    · by_cases h0 : x.2 = 0
      · rw [h0]; exact Nat.dvd_zero k
      · have e := wt_mem nd hx
        have := h (x.1, wt d x.1) (List.mem_map.mpr ⟨x.1, List.mem_filter.mpr ⟨hp.mem_iff.mpr (List.mem_map_of_mem hx), decide_eq_true (by omega)⟩, rfl⟩)
        rw [← e]; exact this
  rw [lowest_norm, ← en, List.map_map, en, ← ed]
  rfl
noncomputable def sumIf (q : Int → Bool) : Weights → Nat
  | [] => 0
  | x :: r => (if q x.1 = true then x.2 else 0) + sumIf q r
theorem sumOf_acc (q : Int → Bool) : ∀ (l : Weights) (a : Nat), l.foldl (fun (s : Nat) (x : Int × Nat) => if q x.1 = true then s + x.2 else s) a = a + sumIf q l
  | [], a => by simp [sumIf]
  | x :: r, a => by
    rw [List.foldl_cons, sumOf_acc q r]
    show _ = a + ((if q x.1 = true then x.2 else 0) + sumIf q r)
    split <;> omega
theorem sumOf_eq (q : Int → Bool) (l : Weights) : sumOf q l = sumIf q l := by unfold sumOf; rw [sumOf_acc]; omega
theorem tot_eq (l : Weights) : tot l = (l.map (·.2)).sum := by
  unfold tot; rw [sumOf_eq]
  induction l with
  | nil => rfl
  | cons x r ih => show (if true = true then x.2 else 0) + _ = _; rw [if_pos rfl, ih]; rfl
theorem tot_cons (x : Int × Nat) (l : Weights) : tot (x :: l) = x.2 + tot l := by rw [tot_eq, tot_eq]; rfl
theorem tot_nil : tot [] = 0 := rfl
theorem le_tot {l : Weights} {x : Int × Nat} (h : x ∈ l) : x.2 ≤ tot l := by
  induction l with
  | nil => cases h
  | cons y r ih =>
    rw [tot_cons]
    rcases List.mem_cons.mp h with q | q
    · rw [q]; omega
    · have := ih q; omega
theorem sumIf_le (q : Int → Bool) : ∀ l : Weights, sumIf q l ≤ tot l
  | [] => Nat.le_refl _
  | x :: r => by
    rw [tot_cons]
    show (if q x.1 = true then x.2 else 0) + sumIf q r ≤ _
    have := sumIf_le q r
    split <;> omega
theorem wt_le_tot (l : Weights) (v : Int) : wt l v ≤ tot l := by
  induction l with
  | nil => exact Nat.le_refl _
  | cons x r ih => rw [tot_cons]; show (if x.1 = v then x.2 else 0) + wt r v ≤ _; split <;> omega
theorem sumIf_congr {p q : Int → Bool} : ∀ {l : Weights}, (∀ x ∈ l, p x.1 = q x.1) → sumIf p l = sumIf q l
  | [], _ => rfl
  | x :: r, h => by
    show (if p x.1 = true then x.2 else 0) + _ = (if q x.1 = true then x.2 else 0) + _
    rw [h x (.head _), sumIf_congr fun y hy => h y (.tail _ hy)]
noncomputable def conv (f : Int → Int → Int) (l m : Weights) : Weights := l.flatMap fun (x : Int × Nat) => m.map fun (y : Int × Nat) => (f x.1 y.1, x.2 * y.2)
theorem both_conv (f : Int → Int → Int) (l m : Weights) : both f l m = lowest (conv f l m) := rfl
noncomputable def dbl1 (r : Int → Bool) (a : Nat) : Weights → Nat
  | [] => 0
  | y :: m => (if r y.1 = true then a * y.2 else 0) + dbl1 r a m
noncomputable def dbl (r : Int → Int → Bool) : Weights → Weights → Nat
  | [], _ => 0
  | x :: l, m => dbl1 (r x.1) x.2 m + dbl r l m
theorem dbl1_mul (r : Int → Bool) (a : Nat) : ∀ m : Weights, dbl1 r a m = a * sumIf r m
  | [] => rfl
  | y :: m => by
    show (if r y.1 = true then a * y.2 else 0) + dbl1 r a m = a * ((if r y.1 = true then y.2 else 0) + sumIf r m)
    rw [dbl1_mul r a m, Nat.mul_add]; split <;> simp
theorem wt_map (f : Int → Int) (a : Nat) (v : Int) : ∀ m : Weights, wt (m.map fun y => (f y.1, a * y.2)) v = dbl1 (fun y => decide (f y = v)) a m
  | [] => rfl
  | y :: m => by
    show (if f y.1 = v then a * y.2 else 0) + _ = (if decide (f y.1 = v) = true then a * y.2 else 0) + _
    rw [wt_map f a v m]; simp
theorem wt_conv (f : Int → Int → Int) (v : Int) : ∀ l m : Weights, wt (conv f l m) v = dbl (fun x y => decide (f x y = v)) l m
  | [], _ => rfl
  | x :: l, m => by
    show wt ((m.map fun y => (f x.1 y.1, x.2 * y.2)) ++ conv f l m) v = dbl1 _ x.2 m + dbl _ l m
    rw [wt_append, wt_map (f x.1), wt_conv f v l m]
theorem dbl_and (p q : Int → Bool) : ∀ l m : Weights, dbl (fun x y => p x && q y) l m = sumIf p l * sumIf q m
  | [], m => by show 0 = 0 * _; rw [Nat.zero_mul]
  | x :: l, m => by
    show dbl1 (fun y => p x.1 && q y) x.2 m + dbl _ l m = ((if p x.1 = true then x.2 else 0) + sumIf p l) * sumIf q m
    rw [dbl_and p q l m, dbl1_mul, Nat.add_mul]
    congr 1
    cases e : p x.1 with
    | true => simp
    | false =>
      simp
      have : ∀ m : Weights, sumIf (fun _ => false) m = 0 := fun m => by
        induction m with
        | nil => rfl
        | cons y r ih => show (if false = true then _ else 0) + _ = 0; rw [ih]; rfl
      rw [this m, Nat.mul_zero]
theorem dbl1_split {r p q : Int → Bool} (a : Nat) : ∀ {m : Weights}, (∀ y ∈ m, (r y.1 = true ↔ p y.1 = true ∨ q y.1 = true) ∧ ¬ (p y.1 = true ∧ q y.1 = true)) → dbl1 r a m = dbl1 p a m + dbl1 q a m
  | [], _ => rfl
  | y :: m, h => by
    obtain ⟨h1, h2⟩ := h y (.head _)
    have ih := dbl1_split (r := r) (p := p) (q := q) a (m := m) fun z hz => h z (.tail _ hz)
    show (if r y.1 = true then a * y.2 else 0) + dbl1 r a m = ((if p y.1 = true then a * y.2 else 0) + dbl1 p a m) + ((if q y.1 = true then a * y.2 else 0) + dbl1 q a m)
    rw [ih]
    by_cases e1 : p y.1 = true <;> by_cases e2 : q y.1 = true
    · exact absurd ⟨e1, e2⟩ h2
    · rw [if_pos (h1.mpr (.inl e1)), if_pos e1, if_neg e2]; omega
    · rw [if_pos (h1.mpr (.inr e2)), if_neg e1, if_pos e2]; omega
    · rw [if_neg (fun z => (h1.mp z).elim e1 e2), if_neg e1, if_neg e2]; omega
theorem dbl_split {r p q : Int → Int → Bool} : ∀ {l m : Weights}, (∀ x ∈ l, ∀ y ∈ m, (r x.1 y.1 = true ↔ p x.1 y.1 = true ∨ q x.1 y.1 = true) ∧ ¬ (p x.1 y.1 = true ∧ q x.1 y.1 = true)) → dbl r l m = dbl p l m + dbl q l m
  | [], _, _ => rfl
  | x :: l, m, h => by
    show dbl1 (r x.1) x.2 m + dbl r l m = (dbl1 (p x.1) x.2 m + dbl p l m) + (dbl1 (q x.1) x.2 m + dbl q l m)
    rw [dbl1_split (p := p x.1) (q := q x.1) x.2 (h x (.head _)), dbl_split (p := p) (q := q) fun z hz => h z (.tail _ hz)]
    omega
theorem dbl_nil_right (r : Int → Int → Bool) : ∀ l : Weights, dbl r l [] = 0
  | [] => rfl
  | _ :: l => by show 0 + dbl r l [] = 0; rw [dbl_nil_right r l]
theorem dbl_cons_right (r : Int → Int → Bool) (y : Int × Nat) (m : Weights) : ∀ l : Weights, dbl r l (y :: m) = dbl1 (fun x => r x y.1) y.2 l + dbl r l m
  | [] => rfl
  | x :: l => by
    show ((if r x.1 y.1 = true then x.2 * y.2 else 0) + dbl1 (r x.1) x.2 m) + dbl r l (y :: m) = ((if r x.1 y.1 = true then y.2 * x.2 else 0) + dbl1 _ y.2 l) + (dbl1 (r x.1) x.2 m + dbl r l m)
    rw [dbl_cons_right r y m l, Nat.mul_comm y.2 x.2]; omega
theorem dbl_swap (r : Int → Int → Bool) : ∀ l m : Weights, dbl r l m = dbl (fun x y => r y x) m l
  | l, [] => dbl_nil_right r l
  | l, y :: m => by
    rw [dbl_cons_right, dbl_swap r l m]; rfl
theorem conv_comm {f : Int → Int → Int} (hf : ∀ x y, f x y = f y x) (l m : Weights) (v : Int) : wt (conv f l m) v = wt (conv f m l) v := by
  rw [wt_conv, wt_conv, dbl_swap]
  have : (fun x y => decide (f y x = v)) = fun x y => decide (f x y = v) := by funext x y; rw [hf]
  rw [this]
theorem both_comm {f : Int → Int → Int} (hf : ∀ x y, f x y = f y x) (l m : Weights) : both f l m = both f m l := lowest_congr (conv_comm hf l m)
theorem conv_pos {f : Int → Int → Int} {l m : Weights} {x y : Int × Nat} (cl : ∀ x ∈ l, 0 < x.2) (cm : ∀ x ∈ m, 0 < x.2) (hx : x ∈ l) (hy : y ∈ m) : 0 < wt (conv f l m) (f x.1 y.1) := by
  have h : (f x.1 y.1, x.2 * y.2) ∈ conv f l m := List.mem_flatMap.mpr ⟨x, hx, List.mem_map.mpr ⟨y, hy, rfl⟩⟩
  exact Nat.lt_of_lt_of_le (Nat.mul_pos (cl x hx) (cm y hy)) (wt_ge h rfl)
noncomputable def putW (d : Weights) (v : Int) (w : Nat) : Weights := if (d.any fun x => decide (x.1 = v)) = true then d.map (fun x => if x.1 = v then (x.1, w) else x) else d ++ [(v, w)]
theorem any_mem {d : Weights} {v : Int} : (d.any fun x => decide (x.1 = v)) = true ↔ v ∈ d.map (·.1) := by
  rw [List.any_eq_true]
  constructor
  · intro ⟨x, hx, e⟩; rw [← of_decide_eq_true e]; exact List.mem_map_of_mem hx
  · intro h; obtain ⟨x, hx, e⟩ := List.mem_map.mp h; exact ⟨x, hx, decide_eq_true e⟩
theorem putW_keys (d : Weights) (v : Int) (w : Nat) : (putW d v w).map (·.1) = if v ∈ d.map (·.1) then d.map (·.1) else d.map (·.1) ++ [v] := by
  unfold putW
  by_cases h : v ∈ d.map (·.1)
  · rw [if_pos (any_mem.mpr h), if_pos h, List.map_map]
    refine List.map_congr_left fun x _ => ?_
    show (if x.1 = v then (x.1, w) else x).1 = x.1
    split <;> rfl
  · rw [if_neg (fun z => h (any_mem.mp z)), if_neg h, List.map_append]; rfl
theorem putW_nd {d : Weights} (nd : (d.map (·.1)).Nodup) (v : Int) (w : Nat) : ((putW d v w).map (·.1)).Nodup := by
  rw [putW_keys]
  split
  · exact nd
  · rename_i h
    refine List.nodup_append.mpr ⟨nd, List.nodup_cons.mpr ⟨by simp, .nil⟩, fun a ha b hb e => ?_⟩
    rw [List.mem_singleton.mp hb] at e
    exact h (by rw [← e]; exact ha)
theorem wt_repl (v : Int) (w : Nat) (u : Int) : ∀ {d : Weights}, (d.map (·.1)).Nodup → v ∈ d.map (·.1) → wt (d.map fun x => if x.1 = v then (x.1, w) else x) u = if u = v then w else wt d u
  | [], _, h => nomatch h
  | x :: r, nd, h => by
    have nd' := List.nodup_cons.mp (show (x.1 :: r.map (·.1)).Nodup from nd)
    by_cases e : x.1 = v
    · have er : (r.map fun x => if x.1 = v then (x.1, w) else x) = r := by
        refine (List.map_congr_left fun y hy => if_neg fun q => nd'.1 ?_).trans (List.map_id r)
        rw [e, ← q]; exact List.mem_map_of_mem hy
      rw [List.map_cons, er, if_pos e]
      show (if x.1 = u then w else 0) + wt r u = if u = v then w else (if x.1 = u then x.2 else 0) + wt r u
      by_cases q : u = v
      · rw [if_pos q, if_pos (e.trans q.symm), wt_zero fun y hy z => nd'.1 (by rw [e, ← q, ← z]; exact List.mem_map_of_mem hy)]; rfl
      · rw [if_neg q, if_neg fun z => q (z.symm.trans e), if_neg fun z => q (z.symm.trans e)]
    · have hr : v ∈ r.map (·.1) := (List.mem_cons.mp (show v ∈ x.1 :: r.map (·.1) from h)).elim (fun q => absurd q.symm e) id
      rw [List.map_cons, if_neg e]
      show (if x.1 = u then x.2 else 0) + wt _ u = if u = v then w else (if x.1 = u then x.2 else 0) + wt r u
      rw [wt_repl v w u nd'.2 hr]
      by_cases q : u = v
      · rw [if_pos q, if_pos q, if_neg fun z => e (z.trans q)]; omega
      · rw [if_neg q, if_neg q]
theorem wt_putW {d : Weights} (nd : (d.map (·.1)).Nodup) (v : Int) (w : Nat) (u : Int) : wt (putW d v w) u = if u = v then w else wt d u := by
  by_cases h : v ∈ d.map (·.1)
  · unfold putW
    rw [if_pos (any_mem.mpr h)]
    exact wt_repl v w u nd h
  · unfold putW
    rw [if_neg (fun z => h (any_mem.mp z)), wt_append]
    show _ + ((if v = u then w else 0) + 0) = _
    by_cases e : u = v
    · rw [if_pos e, if_pos e.symm, wt_zero fun y hy q => h (by rw [← e, ← q]; exact List.mem_map_of_mem hy)]; omega
    · rw [if_neg e, if_neg fun q => e q.symm]; omega
theorem putW_len (d : Weights) (v : Int) (w : Nat) : (putW d v w).length ≤ d.length + 1 := by
  unfold putW
  split
  · rw [List.length_map]; omega
  · rw [List.length_append]; exact Nat.le_refl _
theorem putW_new {d : Weights} {v : Int} (w : Nat) (h : v ∉ d.map (·.1)) : putW d v w = d ++ [(v, w)] := by
  unfold putW
  rw [if_neg (fun z => h (any_mem.mp z))]
noncomputable def addW (d : Weights) (p : Int × Nat) : Weights := putW d p.1 (wt d p.1 + p.2)
noncomputable def addAll (d : Weights) (L : Weights) : Weights := L.foldl addW d
theorem addAll_snoc (d L : Weights) (p : Int × Nat) : addAll d (L ++ [p]) = addW (addAll d L) p := by unfold addAll; rw [List.foldl_append]; rfl
theorem addAll_nd : ∀ {L d : Weights}, (d.map (·.1)).Nodup → ((addAll d L).map (·.1)).Nodup
  | [], _, h => h
  | p :: L, d, h => addAll_nd (L := L) (d := addW d p) (putW_nd h _ _)
theorem wt_addAll (u : Int) : ∀ {L d : Weights}, (d.map (·.1)).Nodup → wt (addAll d L) u = wt d u + wt L u
  | [], _, _ => by show _ = _ + 0; rfl
  | p :: L, d, h => by
    show wt (addAll (addW d p) L) u = wt d u + ((if p.1 = u then p.2 else 0) + wt L u)
    rw [wt_addAll u (L := L) (d := addW d p) (putW_nd h _ _)]
    unfold addW
    rw [wt_putW h]
    by_cases e : u = p.1
    · rw [if_pos e, if_pos e.symm, e]; omega
    · rw [if_neg e, if_neg fun q => e q.symm]; omega
theorem addAll_len : ∀ (L d : Weights), (addAll d L).length ≤ d.length + L.length
  | [], _ => Nat.le_refl _
  | p :: L, d => by
    have := addAll_len L (addW d p)
    have := putW_len d p.1 (wt d p.1 + p.2)
    show (addAll (addW d p) L).length ≤ d.length + (L.length + 1)
    unfold addW at *
    omega
theorem addAll_keys : ∀ {L d : Weights} {v : Int}, v ∈ (addAll d L).map (·.1) → v ∈ d.map (·.1) ∨ v ∈ L.map (·.1)
  | [], _, _, h => .inl h
  | p :: L, d, v, h => by
    rcases addAll_keys (L := L) (d := addW d p) h with q | q
    · unfold addW at q
      rw [putW_keys] at q
      split at q
      · exact .inl q
      · rcases List.mem_append.mp q with z | z
        · exact .inl z
        · rw [List.mem_singleton.mp z]; exact .inr (.head _)
    · exact .inr (.tail _ q)
theorem addAll_wt0 (L : Weights) (u : Int) : wt (addAll [] L) u = wt L u := by rw [wt_addAll u (d := []) (show (([] : Weights).map (·.1)).Nodup from List.nodup_nil)]; show 0 + _ = _; omega
structure Good (l : Weights) : Prop where
  canon : Canon l
  fits : fits l = true
theorem fits_iff {l : Weights} : fits l = true ↔ l.length ≤ 256 ∧ tot l ≤ 1099511627776 ∧ ∀ x ∈ l, -2147483647 ≤ x.1 ∧ x.1 ≤ 2147483647 := by
  unfold Dx.fits VALUES HEAVY FAR
  rw [Bool.and_eq_true, Bool.and_eq_true, List.all_eq_true]
  constructor
  · intro ⟨a, b, c⟩
    refine ⟨of_decide_eq_true a, of_decide_eq_true b, fun x hx => ?_⟩
    have := of_decide_eq_true (c x hx)
    omega
  · intro ⟨a, b, c⟩
    refine ⟨decide_eq_true a, decide_eq_true b, fun x hx => decide_eq_true ?_⟩
    have := c x hx
    omega
theorem Good.len {l : Weights} (g : Good l) : l.length ≤ 256 := (fits_iff.mp g.fits).1
theorem Good.tot {l : Weights} (g : Good l) : tot l ≤ 1099511627776 := (fits_iff.mp g.fits).2.1
theorem Good.far {l : Weights} (g : Good l) {x : Int × Nat} (h : x ∈ l) : -2147483647 ≤ x.1 ∧ x.1 ≤ 2147483647 := (fits_iff.mp g.fits).2.2 x h
theorem Good.wt {l : Weights} (g : Good l) (v : Int) : wt l v ≤ 1099511627776 := Nat.le_trans (wt_le_tot l v) g.tot
theorem Good.w {l : Weights} (g : Good l) {x : Int × Nat} (h : x ∈ l) : x.2 ≤ 1099511627776 := Nat.le_trans (le_tot h) g.tot
theorem Good.of {l : Weights} (h : Dx.fits (lowest l) = true) : Good (lowest l) := ⟨lowest_canon l, h⟩
theorem good_one : Good [(0, 1)] := ⟨⟨List.pairwise_singleton .., fun x h => by rw [List.mem_singleton.mp h]; exact Nat.one_pos⟩, by decide⟩
theorem conv_take_mem {f : Int → Int → Int} {l m : Weights} {i : Nat} {v : Int} (h : v ∈ (conv f (l.take i) m).map (·.1)) : ∃ x ∈ l, ∃ y ∈ m, v = f x.1 y.1 := by
  obtain ⟨p, hp, rfl⟩ := List.mem_map.mp h
  obtain ⟨x, hx, q⟩ := List.mem_flatMap.mp hp
  obtain ⟨y, hy, rfl⟩ := List.mem_map.mp q
  exact ⟨x, List.mem_of_mem_take hx, y, hy, rfl⟩
theorem too_many {f : Int → Int → Int} {l m : Weights} {i : Nat} (gl : Canon l) (gm : Canon m) (h : 256 < (addAll [] (conv f (l.take i) m)).length) : Dx.fits (both f l m) = false := by
  have nd : ((addAll [] (conv f (l.take i) m)).map (·.1)).Nodup := addAll_nd List.nodup_nil
  have hle := many (l := conv f l m) nd fun v hv => by
    rcases addAll_keys hv with q | q
    · exact absurd q (by simp)
    · obtain ⟨x, hx, y, hy, rfl⟩ := conv_take_mem q
      exact conv_pos gl.pos gm.pos hx hy
  rw [List.length_map] at hle
  cases e : Dx.fits (both f l m) with
  | false => rfl
  | true =>
    have := (fits_iff.mp e).1
    rw [both_conv] at this
    omega
noncomputable def cum (f : Weights) : List Int → Nat
  | [] => 0
  | u :: P => wt f u + cum f P
theorem cum_append (f : Weights) : ∀ P Q : List Int, cum f (P ++ Q) = cum f P + cum f Q
  | [], Q => by show cum f Q = 0 + _; omega
  | u :: P, Q => by show wt f u + cum f (P ++ Q) = wt f u + cum f P + cum f Q; rw [cum_append f P Q]; omega
theorem cum_snoc (f : Weights) (P : List Int) (u : Int) : cum f (P ++ [u]) = cum f P + wt f u := by rw [cum_append]; rfl
theorem cum_cons (x : Int × Nat) (f : Weights) : ∀ {P : List Int}, P.Nodup → cum (x :: f) P = (if x.1 ∈ P then x.2 else 0) + cum f P
  | [], _ => by simp [cum]
  | u :: P, nd => by
    have nd' := List.nodup_cons.mp nd
    show ((if x.1 = u then x.2 else 0) + wt f u) + cum (x :: f) P = _ + (wt f u + cum f P)
    rw [cum_cons x f nd'.2]
    by_cases e : x.1 = u
    · rw [if_pos e, if_neg (by rw [e]; exact nd'.1), if_pos (by rw [e]; exact .head _)]; omega
    · by_cases q : x.1 ∈ P
      · rw [if_neg e, if_pos q, if_pos (.tail _ q)]; omega
      · rw [if_neg e, if_neg q, if_neg fun z => (List.mem_cons.mp z).elim e q]; omega
theorem cum_sum {P : List Int} (nd : P.Nodup) : ∀ f : Weights, cum f P = sumIf (fun u => decide (u ∈ P)) f
  | [] => by
    have : ∀ P : List Int, cum [] P = 0 := fun P => by induction P with | nil => rfl | cons u P ih => show 0 + cum [] P = 0; rw [ih]
    rw [this]; rfl
  | x :: f => by
    rw [cum_cons x f nd, cum_sum nd f]
    show _ = (if decide (x.1 ∈ P) = true then x.2 else 0) + _
    simp
theorem cum_le (f : Weights) {P : List Int} (nd : P.Nodup) : cum f P ≤ tot f := by rw [cum_sum nd]; exact sumIf_le _ _
theorem later_wt {op : Int → Int → Int} {f g : Weights} {P : List Int} {v : Int} (nd : (P ++ [v]).Nodup)
    (h : ∀ x ∈ f, ∀ y ∈ g, op x.1 y.1 = v ↔ ((x.1 ∈ P ++ [v] ∧ y.1 ∈ P ++ [v]) ∧ ¬ (x.1 ∈ P ∧ y.1 ∈ P))) :
    cum f (P ++ [v]) * cum g (P ++ [v]) = wt (conv op f g) v + cum f P * cum g P := by
  have ndP : P.Nodup := (List.nodup_append.mp nd).1
  rw [cum_sum nd, cum_sum nd, cum_sum ndP, cum_sum ndP, ← dbl_and, ← dbl_and, wt_conv]
  refine dbl_split fun x hx y hy => ?_
  have k := h x hx y hy
  simp only [Bool.and_eq_true, decide_eq_true_eq]
  constructor
  · constructor
    · intro q
      by_cases z : x.1 ∈ P ∧ y.1 ∈ P
      · exact .inr z
      · exact .inl (k.mpr ⟨q, z⟩)
    · intro q
      rcases q with q | q
      · exact (k.mp q).1
      · exact ⟨List.mem_append_left _ q.1, List.mem_append_left _ q.2⟩
  · intro ⟨a, b⟩
    exact (k.mp a).2 b
noncomputable def laterW (f g : Weights) : List Int → List Int → Weights
  | _, [] => []
  | P, v :: R => (v, cum f (P ++ [v]) * cum g (P ++ [v]) - cum f P * cum g P) :: laterW f g (P ++ [v]) R
theorem laterW_keys (f g : Weights) : ∀ R P : List Int, (laterW f g P R).map (·.1) = R
  | [], _ => rfl
  | v :: R, P => by show v :: (laterW f g (P ++ [v]) R).map (·.1) = v :: R; rw [laterW_keys f g R]
theorem laterW_snoc (f g : Weights) (v : Int) : ∀ R P : List Int, laterW f g P (R ++ [v]) = laterW f g P R ++ [(v, cum f (P ++ R ++ [v]) * cum g (P ++ R ++ [v]) - cum f (P ++ R) * cum g (P ++ R))]
  | [], P => by simp [laterW]
  | u :: R, P => by
    show _ :: laterW f g (P ++ [u]) (R ++ [v]) = _ :: laterW f g (P ++ [u]) R ++ _
    rw [laterW_snoc f g v R (P ++ [u])]
    simp [List.append_assoc]
theorem laterW_wt {op : Int → Int → Int} {f g : Weights} (u : Int) : ∀ (R P : List Int), (P ++ R).Nodup → (∀ (P' : List Int) (v : Int) (R' : List Int), P' ++ v :: R' = P ++ R → ∀ x ∈ f, ∀ y ∈ g, op x.1 y.1 = v ↔ ((x.1 ∈ P' ++ [v] ∧ y.1 ∈ P' ++ [v]) ∧ ¬ (x.1 ∈ P' ∧ y.1 ∈ P'))) →
    wt (laterW f g P R) u = if u ∈ R then wt (conv op f g) u else 0
  | [], _, _, _ => by simp [laterW, wt]
  | v :: R, P, nd, h => by
    have e : P ++ v :: R = P ++ [v] ++ R := by simp
    have ih := laterW_wt (op := op) u R (P ++ [v]) (by rw [← e]; exact nd) fun P' v' R' q => h P' v' R' (q.trans e.symm)
    have nd1 : (P ++ [v]).Nodup := (List.nodup_append.mp (by rw [← e]; exact nd)).1
    have nv : v ∉ R := (List.nodup_cons.mp (List.nodup_append.mp nd).2.1).1
    have k := later_wt nd1 (h P v R rfl)
    show (if v = u then _ else 0) + wt (laterW f g (P ++ [v]) R) u = _
    rw [ih]
    by_cases q : v = u
    · subst q
      rw [if_pos rfl, if_neg nv, if_pos (.head _)]
      omega
    · rw [if_neg q]
      by_cases z : u ∈ R
      · rw [if_pos z, if_pos (.tail _ z)]; omega
      · rw [if_neg z, if_neg fun y => (List.mem_cons.mp y).elim (fun t => q t.symm) z]
theorem laterW_all {op : Int → Int → Int} {f g : Weights} {R : List Int} (nd : R.Nodup) (hf : ∀ x ∈ f, x.1 ∈ R) (hg : ∀ x ∈ g, x.1 ∈ R) (hop : ∀ x y, op x y = x ∨ op x y = y)
    (h : ∀ (P : List Int) (v : Int) (R' : List Int), P ++ v :: R' = R → ∀ x ∈ f, ∀ y ∈ g, op x.1 y.1 = v ↔ ((x.1 ∈ P ++ [v] ∧ y.1 ∈ P ++ [v]) ∧ ¬ (x.1 ∈ P ∧ y.1 ∈ P))) (u : Int) : wt (laterW f g [] R) u = wt (conv op f g) u := by
  rw [laterW_wt (op := op) u R [] nd (fun P v R' q => h P v R' q)]
  split
  · rfl
  · rename_i q
    refine (wt_zero fun p hp e => q ?_).symm
    obtain ⟨x, hx, z⟩ := List.mem_flatMap.mp hp
    obtain ⟨y, hy, rfl⟩ := List.mem_map.mp z
    rw [← e]
    rcases hop x.1 y.1 with k | k
    · show op x.1 y.1 ∈ R; rw [k]; exact hf x hx
    · show op x.1 y.1 ∈ R; rw [k]; exact hg y hy
theorem in_upto {lt : Int → Int → Prop} (irr : ∀ a, ¬ lt a a) (asy : ∀ a b, lt a b → ¬ lt b a) {P R : List Int} {v x : Int} (hs : (P ++ v :: R).Pairwise lt) (hx : x ∈ P ++ v :: R) : (x ∈ P ++ [v] ↔ ¬ lt v x) ∧ (x ∈ P ↔ lt x v) := by
  have hp := List.pairwise_append.mp hs
  have hv := List.pairwise_cons.mp hp.2.1
  rcases List.mem_append.mp hx with q | q
  · have l := hp.2.2 x q v (.head _)
    exact ⟨⟨fun _ => asy _ _ l, fun _ => List.mem_append_left _ q⟩, ⟨fun _ => l, fun _ => q⟩⟩
  · rcases List.mem_cons.mp q with z | z
    · subst z
      exact ⟨⟨fun _ => irr x, fun _ => List.mem_append_right _ (.head _)⟩, ⟨fun h => absurd (hp.2.2 x h x (.head _)) (irr x), fun h => absurd h (irr x)⟩⟩
    · have l := hv.1 x z
      refine ⟨⟨fun h => ?_, fun h => absurd l h⟩, ⟨fun h => ?_, fun h => absurd h (asy _ _ l)⟩⟩
      · rcases List.mem_append.mp h with y | y
        · exact absurd (hp.2.2 x y v (.head _)) (asy _ _ l)
        · rw [List.mem_singleton.mp y] at l; exact absurd l (irr v)
      · exact absurd (hp.2.2 x h v (.head _)) (asy _ _ l)
noncomputable def opG (p q : Int) : Int := if p ≤ q then q else p
noncomputable def opL (p q : Int) : Int := if p ≤ q then p else q
theorem later_great {f g : Weights} {R : List Int} (hs : R.Pairwise (· < ·)) (hf : ∀ x ∈ f, x.1 ∈ R) (hg : ∀ x ∈ g, x.1 ∈ R) (u : Int) : wt (laterW f g [] R) u = wt (conv opG f g) u := by
  refine laterW_all (hs.imp fun h => Int.ne_of_lt h) hf hg (fun x y => by unfold opG; split <;> simp) (fun P v R' e x hx y hy => ?_) u
  have ax := in_upto (lt := (· < ·)) (fun a => Int.lt_irrefl a) (fun a b h => by omega) (P := P) (R := R') (v := v) (by rw [e]; exact hs) (by rw [e]; exact hf x hx)
  have ay := in_upto (lt := (· < ·)) (fun a => Int.lt_irrefl a) (fun a b h => by omega) (P := P) (R := R') (v := v) (by rw [e]; exact hs) (by rw [e]; exact hg y hy)
  rw [ax.1, ax.2, ay.1, ay.2]
  unfold opG
  split <;> omega
theorem later_less {f g : Weights} {R : List Int} (hs : R.Pairwise (fun a b => b < a)) (hf : ∀ x ∈ f, x.1 ∈ R) (hg : ∀ x ∈ g, x.1 ∈ R) (u : Int) : wt (laterW f g [] R) u = wt (conv opL f g) u := by
  refine laterW_all (hs.imp fun h => (Int.ne_of_lt h).symm) hf hg (fun x y => by unfold opL; split <;> simp) (fun P v R' e x hx y hy => ?_) u
  have ax := in_upto (lt := fun a b => b < a) (fun a => Int.lt_irrefl a) (fun a b h => by omega) (P := P) (R := R') (v := v) (by rw [e]; exact hs) (by rw [e]; exact hf x hx)
  have ay := in_upto (lt := fun a b => b < a) (fun a => Int.lt_irrefl a) (fun a b h => by omega) (P := P) (R := R') (v := v) (by rw [e]; exact hs) (by rw [e]; exact hg y hy)
  rw [ax.1, ax.2, ay.1, ay.2]
  unfold opL
  split <;> omega
theorem wt_scale (c : Nat) (v : Int) : ∀ l : Weights, wt (l.map fun x => (x.1, c * x.2)) v = c * wt l v
  | [] => rfl
  | x :: r => by
    show (if x.1 = v then c * x.2 else 0) + _ = c * ((if x.1 = v then x.2 else 0) + wt r v)
    rw [wt_scale c v r, Nat.mul_add]; split <;> simp
noncomputable def mixW (a b : Nat) (f g : Weights) : Weights := addAll (f.map fun x => (x.1, a * tot g * x.2)) (g.map fun x => (x.1, b * tot f * x.2))
theorem mix_low {a b : Nat} {f g : Weights} (nd : (f.map (·.1)).Nodup) (u : Int) : wt (mixW a b f g) u = wt ((f.map fun (x : Int × Nat) => (x.1, a * x.2 * tot g)) ++ g.map fun (x : Int × Nat) => (x.1, b * x.2 * tot f)) u := by
  unfold mixW
  have nd' : ((f.map fun x => (x.1, a * tot g * x.2)).map (·.1)).Nodup := by rw [List.map_map]; exact nd
  rw [wt_addAll u nd', wt_append]
  have e : ∀ (c t : Nat) (l : Weights), (l.map fun (x : Int × Nat) => (x.1, c * x.2 * t)) = l.map fun x => (x.1, c * t * x.2) := fun c t l => List.map_congr_left fun x _ => by rw [Nat.mul_right_comm]
  rw [e, e]
theorem times_step (l m : Weights) : both (fun a b => a + b) l m = both (fun a b => a + b) m l := both_comm (fun x y => Int.add_comm x y) l m
theorem times_good {l : Weights} : ∀ {n : Nat} {m : Weights}, Dx.times l n = some m → Good m
  | 0, m, h => by
    have e : [((0 : Int), 1)] = m := Option.some.inj h
    rw [← e]; exact good_one
  | n + 1, m, h => by
    have h' : ((Dx.times l n).bind fun (m : Weights) => let s := both (fun (a b : Int) => a + b) l m; if fits s = true then some s else none) = some m := h
    cases e : Dx.times l n with
    | none => rw [e] at h'; cases h'
    | some k =>
      rw [e] at h'
      have h2 : (if fits (both (fun (a b : Int) => a + b) l k) = true then some (both (fun (a b : Int) => a + b) l k) else none) = some m := h'
      split at h2
      · rename_i q
        have e2 := Option.some.inj h2
        rw [← e2]; exact Good.of q
      · cases h2
theorem times_succ {l : Weights} {n : Nat} {m : Weights} (h : Dx.times l n = some m) : Dx.times l (n + 1) = if fits (both (fun (a b : Int) => a + b) m l) = true then some (both (fun (a b : Int) => a + b) m l) else none := by
  show ((Dx.times l n).bind fun (m : Weights) => let s := both (fun (a b : Int) => a + b) l m; if fits s = true then some s else none) = _
  rw [h, times_step m l]; rfl
theorem times_none {l : Weights} {n : Nat} (h : Dx.times l n = none) : ∀ k, Dx.times l (n + k) = none
  | 0 => h
  | k + 1 => by
    show ((Dx.times l (n + k)).bind _) = none
    rw [times_none h k]; rfl
end Ev
end
section
set_option maxHeartbeats 1000000
namespace Ev
open Dx
noncomputable def partL (lo hi : Int) (l : Weights) : Weights := l.filter fun (x : Int × Nat) => decide (lo ≤ x.1) && decide (x.1 ≤ hi)
theorem partL_cons (lo hi : Int) (x : Int × Nat) (l : Weights) : partL lo hi (x :: l) = if lo ≤ x.1 ∧ x.1 ≤ hi then x :: partL lo hi l else partL lo hi l := by
  unfold partL
  rw [List.filter_cons]
  by_cases h : lo ≤ x.1 ∧ x.1 ≤ hi
  · rw [if_pos h, if_pos (by simp [h.1, h.2])]
  · rw [if_neg h, if_neg (by simpa using h)]
theorem partL_snoc (lo hi : Int) (l : Weights) (x : Int × Nat) : partL lo hi (l ++ [x]) = if lo ≤ x.1 ∧ x.1 ≤ hi then partL lo hi l ++ [x] else partL lo hi l := by
  unfold partL
  rw [List.filter_append, List.filter_cons]
  by_cases h : lo ≤ x.1 ∧ x.1 ≤ hi
  · rw [if_pos h, if_pos (by simp [h.1, h.2])]; rfl
  · rw [if_neg h, if_neg (by simpa using h)]; simp
theorem partL_sub (lo hi : Int) (l : Weights) : (partL lo hi l).Sublist l := List.filter_sublist
theorem partL_nd {lo hi : Int} {l : Weights} (nd : (l.map (·.1)).Nodup) : ((partL lo hi l).map (·.1)).Nodup := ((partL_sub lo hi l).map _).nodup nd
theorem partL_len (lo hi : Int) (l : Weights) : (partL lo hi l).length ≤ l.length := (partL_sub lo hi l).length_le
theorem tot_part (lo hi : Int) (l : Weights) : tot (partL lo hi l) = inRange lo hi l := by
  unfold inRange
  rw [sumOf_eq]
  induction l with
  | nil => rfl
  | cons x l ih =>
    rw [partL_cons]
    show _ = (if (decide (lo ≤ x.1) && decide (x.1 ≤ hi)) = true then x.2 else 0) + sumIf _ l
    by_cases h : lo ≤ x.1 ∧ x.1 ≤ hi
    · rw [if_pos h, if_pos (by simp [h.1, h.2]), tot_cons, ih]
    · rw [if_neg h, if_neg (by simpa using h), ih]; omega
theorem part_nil {lo hi : Int} {l : Weights} (pos : ∀ x ∈ l, 0 < x.2) : partL lo hi l = [] ↔ inRange lo hi l = 0 := by
  rw [← tot_part]
  constructor
  · intro h; rw [h]; rfl
  · intro h
    cases e : partL lo hi l with
    | nil => rfl
    | cons x r =>
      have hx : x ∈ partL lo hi l := by rw [e]; exact .head _
      have h1 := le_tot hx
      have h2 := pos x ((partL_sub lo hi l).mem hx)
      omega
noncomputable def bsum (f g : Weights) : List Int → List Int → Nat
  | _, [] => 0
  | P, v :: R => wt f v * cum g P + bsum f g (P ++ [v]) R
theorem bsum_snoc (f g : Weights) (v : Int) : ∀ R P : List Int, bsum f g P (R ++ [v]) = bsum f g P R + wt f v * cum g (P ++ R)
  | [], P => by show wt f v * cum g P + 0 = 0 + wt f v * cum g (P ++ []); rw [List.append_nil]; omega
  | u :: R, P => by
    show wt f u * cum g P + bsum f g (P ++ [u]) (R ++ [v]) = wt f u * cum g P + bsum f g (P ++ [u]) R + _
    rw [bsum_snoc f g v R (P ++ [u]), show P ++ [u] ++ R = P ++ u :: R by simp]; omega
noncomputable def sumR (h : Int → Nat) : List Int → Nat
  | [] => 0
  | v :: R => h v + sumR h R
theorem sumR_zero {h : Int → Nat} : ∀ {R : List Int}, (∀ v ∈ R, h v = 0) → sumR h R = 0
  | [], _ => rfl
  | v :: R, k => by show h v + sumR h R = 0; rw [k v (.head _), sumR_zero fun u hu => k u (.tail _ hu)]
theorem sumR_add (h k : Int → Nat) : ∀ R : List Int, sumR (fun v => h v + k v) R = sumR h R + sumR k R
  | [] => rfl
  | v :: R => by show h v + k v + sumR _ R = h v + sumR h R + (k v + sumR k R); rw [sumR_add h k R]; omega
theorem sumR_one (u : Int) (a : Nat) (c : Int → Nat) : ∀ {R : List Int}, R.Nodup → u ∈ R → sumR (fun v => (if u = v then a else 0) * c v) R = a * c u
  | v :: R, nd, hu => by
    have nd' := List.nodup_cons.mp nd
    show (if u = v then a else 0) * c v + sumR _ R = _
    by_cases e : u = v
    · subst e
      rw [if_pos rfl, sumR_zero fun w hw => by rw [if_neg (show ¬ u = w from fun q => nd'.1 (by rw [q]; exact hw))]; omega]; omega
    · rw [if_neg e, sumR_one u a c nd'.2 ((List.mem_cons.mp hu).resolve_left e)]; omega
noncomputable def wsum (c : Int → Nat) : Weights → Nat
  | [] => 0
  | x :: f => x.2 * c x.1 + wsum c f
theorem sumR_wt (c : Int → Nat) {R : List Int} (nd : R.Nodup) : ∀ {f : Weights}, (∀ x ∈ f, x.1 ∈ R) → sumR (fun v => wt f v * c v) R = wsum c f
  | [], _ => sumR_zero fun v _ => by show 0 * _ = 0; omega
  | x :: f, h => by
    show sumR (fun v => ((if x.1 = v then x.2 else 0) + wt f v) * c v) R = x.2 * c x.1 + wsum c f
    rw [show (fun v => ((if x.1 = v then x.2 else 0) + wt f v) * c v) = fun v => (if x.1 = v then x.2 else 0) * c v + wt f v * c v from funext fun v => Nat.add_mul _ _ _,
      sumR_add, sumR_one x.1 x.2 c nd (h x (.head _)), sumR_wt c nd fun y hy => h y (.tail _ hy)]
theorem beats_acc (g : Weights) : ∀ (f : Weights) (a : Nat), f.foldl (fun (s : Nat) (x : Int × Nat) => s + x.2 * sumOf (fun (v : Int) => decide (v < x.1)) g) a = a + wsum (fun u => sumIf (fun v => decide (v < u)) g) f
  | [], a => rfl
  | x :: f, a => by
    rw [List.foldl_cons, beats_acc g f, sumOf_eq]
    show _ = a + (x.2 * sumIf (fun v => decide (v < x.1)) g + wsum _ f); omega
theorem beats_wsum (f g : Weights) : Dx.beats f g = wsum (fun u => sumIf (fun v => decide (v < u)) g) f := by unfold Dx.beats; rw [beats_acc]; omega
theorem bsum_sumR {f g : Weights} {c : Int → Nat} : ∀ (R P : List Int), (∀ (P' : List Int) (v : Int) (R' : List Int), P' ++ v :: R' = P ++ R → cum g P' = c v) → bsum f g P R = sumR (fun v => wt f v * c v) R
  | [], _, _ => rfl
  | v :: R, P, h => by
    show wt f v * cum g P + bsum f g (P ++ [v]) R = wt f v * c v + sumR _ R
    rw [h P v R rfl, bsum_sumR R (P ++ [v]) fun P' v' R' e => h P' v' R' (by rw [e]; simp)]
theorem bsum_beats {f g : Weights} {R : List Int} (hs : R.Pairwise (· < ·)) (hf : ∀ x ∈ f, x.1 ∈ R) (hg : ∀ x ∈ g, x.1 ∈ R) : bsum f g [] R = Dx.beats f g := by
  have nd : R.Nodup := hs.imp fun h => Int.ne_of_lt h
  rw [beats_wsum, ← sumR_wt _ nd hf]
  refine bsum_sumR R [] fun P v R' e => ?_
  rw [List.nil_append] at e
  have nd' : P.Nodup := by
    have h2 := nd
    rw [← e] at h2
    exact (List.nodup_append.mp h2).1
  rw [cum_sum nd']
  refine sumIf_congr fun x hx => ?_
  have h1 := (in_upto (lt := (· < ·)) (fun a => Int.lt_irrefl a) (fun a b h k => Int.lt_irrefl a (Int.lt_trans h k)) (P := P) (R := R') (v := v) (x := x.1) (by rw [e]; exact hs) (by rw [e]; exact hg x hx)).2
  by_cases q : x.1 ∈ P
  · rw [decide_eq_true q, decide_eq_true (h1.mp q)]
  · rw [decide_eq_false q, decide_eq_false fun z => q (h1.mpr z)]
theorem moment_snoc (f : Weights) (x : Int × Nat) : moment (f ++ [x]) = moment f + x.1 * (x.2 : Int) := by unfold moment; rw [List.foldl_append]; rfl
theorem sumIf_upto : ∀ {l : Weights} {k : Nat} {x : Int × Nat}, Canon l → l[k]? = some x → sumIf (fun u => decide (u ≤ x.1)) l = tot (l.take (k + 1))
  | y :: l, 0, x, c, h => by
    have e : y = x := Option.some.inj h
    subst e
    show (if decide (y.1 ≤ y.1) = true then y.2 else 0) + sumIf _ l = _
    rw [if_pos (by simp), show (y :: l).take (0 + 1) = [y] from rfl, tot_cons, tot_nil]
    have : sumIf (fun u => decide (u ≤ y.1)) l = sumIf (fun _ => false) l := sumIf_congr fun z hz => decide_eq_false (by have := c.head z hz; omega)
    rw [this]
    have z : ∀ l : Weights, sumIf (fun _ => false) l = 0 := fun l => by
      induction l with
      | nil => rfl
      | cons w l ih => show (if false = true then w.2 else 0) + sumIf _ l = 0; rw [ih]; rfl
    rw [z]
  | y :: l, k + 1, x, c, h => by
    have h' : l[k]? = some x := h
    have hx := c.head x (List.mem_of_getElem? h')
    show (if decide (y.1 ≤ x.1) = true then y.2 else 0) + sumIf _ l = _
    rw [if_pos (decide_eq_true (by omega)), sumIf_upto c.tail h', show (y :: l).take (k + 1 + 1) = y :: l.take (k + 1) from rfl, tot_cons]
theorem quantile_at {l : Weights} {a b k : Nat} {x : Int × Nat} (c : Canon l) (hk : l[k]? = some x) (h1 : a * tot l ≤ tot (l.take (k + 1)) * b) (h2 : ∀ j, j < k → tot (l.take (j + 1)) * b < a * tot l) : Dx.quantile l a b = x.1 := by
  unfold Dx.quantile
  obtain ⟨hlt, e⟩ := List.getElem?_eq_some_iff.mp hk
  have hf : (l.find? fun (x : Int × Nat) => decide (a * tot l ≤ b * sumOf (fun (u : Int) => decide (u ≤ x.1)) l)) = some x := by
    refine List.find?_eq_some_iff_getElem.mpr ⟨?_, k, hlt, e, fun j hj => ?_⟩
    · rw [sumOf_eq, sumIf_upto c hk]; exact decide_eq_true (by rw [Nat.mul_comm b]; exact h1)
    · have hj' : l[j]? = some l[j] := List.getElem?_eq_getElem (by omega)
      rw [sumOf_eq, sumIf_upto c hj', decide_eq_false (by rw [Nat.mul_comm b]; exact Nat.not_le.mpr (h2 j hj))]; rfl
  rw [hf]; rfl
theorem tot_take_snoc {l : Weights} {k : Nat} {x : Int × Nat} (h : l[k]? = some x) : tot (l.take (k + 1)) = tot (l.take k) + x.2 := by
  obtain ⟨hk, e⟩ := List.getElem?_eq_some_iff.mp h
  rw [List.take_succ_eq_append_getElem hk, e, tot_eq, tot_eq, List.map_append, List.sum_append]; simp
theorem tot_take_le (l : Weights) (k : Nat) : tot (l.take k) ≤ tot l := by
  have e : tot l = tot (l.take k) + tot (l.drop k) := by
    rw [tot_eq, tot_eq, tot_eq, ← List.sum_append, ← List.map_append, List.take_append_drop]
  omega
noncomputable def fracL (n : Int) (d : Nat) : List Int := [n / ((Nat.gcd n.natAbs d : Nat) : Int), ((d / Nat.gcd n.natAbs d : Nat) : Int)]
noncomputable def fracBad (n : Int) (d : Nat) : Prop := 2 ^ 63 ≤ n.natAbs / Nat.gcd n.natAbs d ∨ 2 ^ 63 ≤ d / Nat.gcd n.natAbs d
theorem frac_bad {n : Int} {d : Nat} (h : fracBad n d) : Dx.frac n d = .refused 2 := by unfold Dx.frac; exact if_pos h
theorem frac_good {n : Int} {d : Nat} (h : ¬ fracBad n d) : Dx.frac n d = .told (fracL n d) := by unfold Dx.frac; exact if_neg h
theorem frac_abs (n : Int) (d : Nat) : (n / ((Nat.gcd n.natAbs d : Nat) : Int)).natAbs = n.natAbs / Nat.gcd n.natAbs d := by
  have h : ((Nat.gcd n.natAbs d : Nat) : Int) ∣ n := Int.dvd_natAbs.mp (Int.ofNat_dvd.mpr (Nat.gcd_dvd_left _ _))
  rw [Int.natAbs_ediv_of_dvd h, Int.natAbs_natCast]
theorem lowest_pos_of {l : Weights} {x : Int × Nat} (hx : x ∈ l) (h : 0 < x.2) : ∃ v, 0 < wt l v := ⟨x.1, Nat.lt_of_lt_of_le h (wt_ge hx rfl)⟩
theorem tot_zero_iff {l : Weights} : tot l = 0 ↔ ∀ v, wt l v = 0 := by
  constructor
  · intro h v
    have := wt_le_tot l v
    omega
  · intro h
    rw [tot_eq]
    have : ∀ x ∈ l, x.2 = 0 := fun x hx => by
      have := wt_ge hx rfl
      have := h x.1
      omega
    clear h
    induction l with
    | nil => rfl
    | cons x l ih => rw [List.map_cons, List.sum_cons, this x (.head _), ih fun y hy => this y (.tail _ hy)]
end Ev
end
section
set_option Elab.async false
set_option linter.all false
set_option maxRecDepth 100000
set_option maxHeartbeats 2000000
namespace L2
open PySem PySem.Spec PyProof.Rows
noncomputable def tFrz (t : TE) : TE := fun σ H Q => t σ H fun v H1 => ∃ d u, v = .ref d ∧ H1 d = some u ∧ Mut (some u) ∧ ∀ od, Q v (upd H1 d (.frz od u))
theorem pe_frz {X : Cx} {e : Expr} {t : TE} (h : PE X e t) : PE X e (tFrz t) := by
  intro pins s σ H Q I hw
  refine thn (h pins s σ H _ I hw) fun v s1 ⟨x, H1, I1, r, d, u, e1, hd, mu, q⟩ => ?_
  obtain ⟨od, I2⟩ := I1.lock hd mu
  exact ⟨x, _, I2, r, q od⟩
section
variable {prog : Program} {w : World} {A : Around} {E : Value → Shared → Prop} {s : Shared} {T : String} {r d : Addr} {n : Nat} {P : Nat → Value → Prop} {OK : Heap → Prop} {Q : Value → Shared → Prop}
theorem src_fp (K : PySem.W.KdlSrc prog w T r d n P OK) (hok : OK s.heap) (oI : Obj) : ∀ b ∈ [s.heap.objs.size, d], b < (s.heap.push oI).objs.size := fun b hb => by
  rw [size_push']
  rcases List.mem_cons.mp hb with e | hb
  · rw [e]; exact Nat.lt_succ_self _
  · rw [List.mem_singleton.mp hb]; exact Nat.lt_succ_of_lt (K.there _ hok).2
theorem src_old {oI : Obj} {h' : Heap} (hk : ∀ b o, b ∉ [s.heap.objs.size] → (s.heap.push oI).get? b = some o → h'.get? b = some o) : ∀ b o, s.heap.get? b = some o → h'.get? b = some o := fun b o e =>
  hk b o (fun hI => absurd (Heap.lt_size e) (by rw [List.mem_singleton.mp hI]; exact Nat.lt_irrefl _)) (Heap.get?_push_of_some _ e)
theorem src_sum (K : PySem.W.KdlSrc prog w T r d n P OK) (hh : A.handled = none) (hok : OK s.heap) (val : Nat → Int) (hval : ∀ (i : Nat) (v : Value), P i v → ∃ t : Tok, v = Value.int (val i) t)
    (h : ∀ (h' : Heap) (tk : Nat) (t' : Tok), (∀ b o, s.heap.get? b = some o → h'.get? b = some o) → Q (.int (preSum val n) t') { s with heap := h', toks := tk }) : wpAny (model prog w) A (call (.builtin "sum") [.ref r]) Q E s := by
  refine call_sum_walkAnyS ?_
  obtain ⟨oI, St, hit, W, st⟩ := K.iter A.in1 s hh hok
  refine hit _ _ ⟨s.heap.objs.size, _, _, _, n, P, _, val, rfl, W.toS, st, src_fp K hok oI, hval, fun s' t' hm => ?_⟩
  rw [Moved.eq_with hm]
  exact h s'.heap s'.toks t' (src_old fun b o hb e => hm.heap b o hb e)
theorem src_min (K : PySem.W.KdlSrc prog w T r d n P OK) (hh : A.handled = none) (hok : OK s.heap) (hn : 0 < n) (val : Nat → Int) (hval : ∀ (i : Nat) (v : Value), P i v → ∃ t : Tok, v = Value.int (val i) t)
    (h : ∀ (h' : Heap) (tk : Nat) (t' : Tok) (i : Nat), i < n → (∀ j, j < n → val i ≤ val j) → (∀ b o, s.heap.get? b = some o → h'.get? b = some o) → Q (.int (val i) t') { s with heap := h', toks := tk }) : wpAny (model prog w) A (call (.builtin "min") [.ref r]) Q E s := by
  refine call_min_walk ?_
  obtain ⟨oI, St, hit, W, st⟩ := K.iter A.in1 s hh hok
  refine hit _ _ ⟨s.heap.objs.size, _, _, n, P, St, _, rfl, W, st, src_fp K hok oI, hn, CmpOf.ints_lt val hval, fun v h' tk hv hk => ?_⟩
  obtain ⟨t, rfl⟩ := hval _ _ hv
  obtain ⟨h1, h2⟩ := argBest_lt val (n - 1)
  exact h h' tk t _ (by omega) (fun j hj => h2 j (by omega)) (src_old hk)
theorem src_max (K : PySem.W.KdlSrc prog w T r d n P OK) (hh : A.handled = none) (hok : OK s.heap) (hn : 0 < n) (val : Nat → Int) (hval : ∀ (i : Nat) (v : Value), P i v → ∃ t : Tok, v = Value.int (val i) t)
    (h : ∀ (h' : Heap) (tk : Nat) (t' : Tok) (i : Nat), i < n → (∀ j, j < n → val j ≤ val i) → (∀ b o, s.heap.get? b = some o → h'.get? b = some o) → Q (.int (val i) t') { s with heap := h', toks := tk }) : wpAny (model prog w) A (call (.builtin "max") [.ref r]) Q E s := by
  refine call_max_walk ?_
  obtain ⟨oI, St, hit, W, st⟩ := K.iter A.in1 s hh hok
  refine hit _ _ ⟨s.heap.objs.size, _, _, n, P, St, _, rfl, W, st, src_fp K hok oI, hn, CmpOf.ints_gt val hval, fun v h' tk hv hk => ?_⟩
  obtain ⟨t, rfl⟩ := hval _ _ hv
  obtain ⟨h1, h2⟩ := argBest_gt val (n - 1)
  exact h h' tk t _ (by omega) (fun j hj => h2 j (by omega)) (src_old hk)
theorem src_collect {R : List Value → Shared → Prop} (K : PySem.W.KdlSrc prog w T r d n P OK) (hh : A.handled = none) (hok : OK s.heap) (hn : n ≤ sizeLine)
    (h : ∀ (h' : Heap) (tk : Nat) (acc : Array Value), (∀ b o, s.heap.get? b = some o → h'.get? b = some o) → s.heap.objs.size < h'.objs.size → ItemsOf P acc n → R acc.toList { s with heap := h', toks := tk }) :
    wpAny (model prog w) A (collect (.ref r)) R E s := by
  have hlt := K.there _ hok
  unfold collect
  refine wpAny_bind (wpAny_runValue (codeAny_builtin entry_proto_collect' ?_))
  rw [Around.under_plainId PySem.F.plain_proto_collect _]
  show wpAny _ A.in1 (newList [] >>= fun l => again (.builtin "list.__iadd__" ⟨[l, .ref r], []⟩)) _ _ s
  refine wpAny_bind (wpAny_newObj_type ?_)
  refine wpAny_pure ⟨plainId_quiet PySem.F.plain_list_iadd _, codeAny_builtin entry_list_iadd' ?_⟩
  rw [Around.under_plainId PySem.F.plain_list_iadd _]
  have hS₁ : (s.heap.push { cls := .type "list", data := .seq ([] : List Value).toArray }).get? s.heap.objs.size = some { cls := .type "list", data := .seq #[] } := Heap.get?_push_size _ rfl
  show wpAny _ A.in1 (Builtin.List.listExtendWith (.ref s.heap.objs.size) (.ref r) (.ref s.heap.objs.size)) _ _ _
  have key := PySem.W.kdl_extend (A := A) (s := { s with heap := s.heap.push { cls := .type "list", data := .seq ([] : List Value).toArray } })
    (R := fun (q : Result) (s' : Shared) => ∃ (h' : Heap) (tk : Nat) (acc' : Array Value) (c' : Nat), q = .ok (.ret (.ref s.heap.objs.size)) ∧ s' = { s with heap := h', toks := tk } ∧
      (∀ b o, s.heap.get? b = some o → h'.get? b = some o) ∧ h'.get? s.heap.objs.size = some { cls := .type "list", dict := none, data := .seq acc' c', slots := #[] } ∧ ItemsOf P acc' n)
    K hh (K.keep _ _ hok fun b _ o e => Heap.get?_push_of_some _ e) s.heap.objs.size (Nat.ne_of_gt hlt.1) (Nat.ne_of_gt hlt.2) (.ref s.heap.objs.size) 0 hS₁
    (fun h' tk acc' c' hk hS' hacc => ⟨h', tk, acc', c', rfl, rfl, fun b o e => hk b o (Nat.ne_of_lt (Heap.lt_size e)) (Heap.get?_push_of_some _ e), hS', hacc⟩) hn
  refine wpAny_mono key (fun fin s' x => ?_) fun e s' x => ?_
  · cases fin with
    | done f =>
      obtain ⟨h', tk, acc', c', e, rfl, hk, hS', hacc⟩ := x
      cases e
      show wpAny _ A (load s.heap.objs.size >>= _) _ _ _
      refine wpAny_bind (wpAny_load hS' ?_)
      exact wpAny_pure (h h' tk acc' hk (Heap.lt_size hS') hacc)
    | again c₁ =>
      refine ⟨x.1, codeAny_mono x.2 fun q s₂ y => ?_⟩
      obtain ⟨h', tk, acc', c', rfl, rfl, hk, hS', hacc⟩ := y
      show wpAny _ A (load s.heap.objs.size >>= _) _ _ _
      refine wpAny_bind (wpAny_load hS' ?_)
      exact wpAny_pure (h h' tk acc' hk (Heap.lt_size hS') hacc)
  · obtain ⟨_, _, _, _, e', _⟩ := x
    cases e'
theorem src_sorted (K : PySem.W.KdlSrc prog w T r d n P OK) (hh : A.handled = none) (hok : OK s.heap) (hn : n ≤ sizeLine) {ns : List Int} (hns : ∀ vs : List Value, vs.length = n → (∀ (j : Nat) (v : Value), vs[j]? = some v → P j v) → IntsAre vs ns)
    (h : ∀ (h' : Heap) (tk : Nat) (D : Addr) (out : List Value) (ms : List Int) (e : Nat), (∀ b o, s.heap.get? b = some o → h'.get? b = some o) → s.heap.objs.size ≤ D → h'.get? D = some { cls := .type "list", data := .seq out.toArray e } → IntsAre out ms → ms.Perm ns → ms.Pairwise (· ≤ ·) →
      Q (.ref D) { s with heap := h', toks := tk }) : wpAny (model prog w) A (call (.builtin "sorted") [.ref r]) Q E s := by
  refine Calls.call_function_entry kind_sorted plain_sorted entry_sorted (args_sorted1 _) ?_
  unfold Builtin.«sorted»
  refine wpAny_bind (m := checkCount "sorted" 1 1 _) (wpAny_pure ?_)
  refine wpAny_bind (src_collect (A := A.in1) K hh hok hn fun h' tk acc hk hsz hacc => ?_)
  have hl : acc.toList.length = n := by rw [Array.length_toList]; exact hacc.1
  have hI : IntsAre acc.toList ns := hns acc.toList hl fun j v e => hacc.2 j v (by rw [← Array.getElem?_toList]; exact e)
  refine wpAny_bind (wpAny_newList ?_ (by rw [hl]; exact hn))
  have hoL : (h'.push (seqObj "list" acc.toList.toArray 0)).get? h'.objs.size = some (seqObj "list" acc.toList.toArray 0) := Heap.get?_push_size _ rfl
  have hL : acc.toList.length ≤ sizeLine := by rw [hl]; exact hn
  refine wpAny_bind (wpAny_holding (wpAny_call_entry slot_list_sort ⟨_, hoL, rfl⟩ entry_list_sort (list_sort_treeAny hoL hI hL fun out ms a1 a2 a3 => ⟨_, rfl, ?_⟩) (args_list_sort _)))
  refine wpAny_pure ⟨_, rfl, ?_⟩
  obtain ⟨e, he⟩ := sortedHeap_at (out := out) hoL
  refine h _ tk _ out.toList ms e (fun b o q => ?_) (Nat.le_of_lt hsz) (by rw [Array.toArray_toList]; exact he) a1 a2 a3
  have hb := hk b o q
  rw [sortedHeap_old (Nat.ne_of_lt (Heap.lt_size hb)) (by rw [size_push']; exact Nat.lt_succ_of_lt (Heap.lt_size hb))]
  exact Heap.get?_push_of_some _ hb
end
noncomputable def IKeys (kvs : List (Key × V)) (ns : List Int) : Prop := kvs.map (·.1) = ns.map Sum.inl
section
variable {X : Cx} {pins : List (Addr × Obj)} {σ : St} {H : Hp} {s : Shared} {d : Addr} {kvs : List (Key × V)}
theorem Inv.dictAt (I : Inv X pins σ H s) (e : Rd H d (.dK kvs)) : kvs.length ≤ sizeLine ∧ (d == sysModules) = false ∧ ∃ vs ep, KV kvs vs ∧ s.heap.DictAt (mixKind X.prog X.w) d vs ep := by
  obtain ⟨z, y, vs, kv, hD⟩ := dk_rd I.hok e
  obtain ⟨ep, hat⟩ := hD.dictAt
  exact ⟨z, y, vs, ep, kv, hat⟩
theorem keys_at {ns : List Int} {vs : List (Key × Value)} (hk : IKeys kvs ns) (kv : KV kvs vs) {i : Nat} {k : Key} {x : Value} (e : vs[i]? = some (k, x)) : ∃ n, ns[i]? = some n ∧ k = Sum.inl n := by
  have e1 : (vs.map (·.1))[i]? = some k := by rw [List.getElem?_map, e]; rfl
  rw [← kv.keys, hk, List.getElem?_map] at e1
  cases q : ns[i]? with
  | none => rw [q] at e1; cases e1
  | some n => rw [q] at e1; exact ⟨n, rfl, (Option.some.inj e1).symm⟩
theorem ints_by {ns : List Int} : ∀ {vs : List Value}, vs.length = ns.length → (∀ (j : Nat) (v : Value), vs[j]? = some v → ∃ n t, ns[j]? = some n ∧ v = Value.int n t) → IntsAre vs ns := by
  intro vs hl h
  refine (Vals.ints (ns := ns) ?_)
  induction vs generalizing ns with
  | nil =>
    cases ns with
    | nil => exact .nil
    | cons n r => simp at hl
  | cons v vs ih =>
    cases ns with
    | nil => simp at hl
    | cons n r =>
      obtain ⟨m, t, e1, e2⟩ := h 0 v rfl
      have e1' : n = m := Option.some.inj e1
      subst e1'
      exact .cons ⟨t, e2⟩ (ih (by simpa using hl) fun j u hu => h (j + 1) u hu)
theorem keyInt {P : Program} {w : World} {n : Int} {v : Value} (h : (mixKind P w).is (Sum.inl n) v = true) : ∃ t, v = Value.int n t := by
  rcases keyIs_shape (k := Sum.inl n) (v := v) h with ⟨i, t, e1, e2⟩ | ⟨x, t, e1, _⟩
  · cases e1; exact ⟨t, e2⟩
  · cases e1
end
section
variable {X : Cx}
theorem call_lenR : CallR X (.builtin "len") (fun xs H Q => ∃ a kvs, xs = [V.ref a] ∧ Rd H a (.dK kvs) ∧ Q (.int kvs.length) H) := by
  intro pins s σ H xs us Q I r h
  obtain ⟨a, kvs, rfl, ha, q⟩ := h
  obtain ⟨u, rfl, ru⟩ := vals1 r
  cases ru
  exact d_len I ha fun t s' I' => ⟨.int kvs.length, H, I', ⟨t, rfl⟩, q⟩
noncomputable def rSortedD : List V → Hp → VK → Prop := fun xs H Q => ∃ (d : Addr) (kvs : List (Key × V)) (ns : List Int), xs = [V.ref d] ∧ Rd H d (.dK kvs) ∧ IKeys kvs ns ∧
  ∀ (ms : List Int) (p : Addr), ms.Perm ns → ms.Pairwise (· ≤ ·) → H p = none → Q (.ref p) (upd H p (.lst (ms.map V.int)))
theorem cr_sortedD (hc : X.calm = true) : CallR X (.builtin "sorted") rSortedD := by
  intro pins s σ H xs us Q I r h
  obtain ⟨d, kvs, ns, rfl, hd, hk, q⟩ := h
  rw [Vals.ref1 r]
  obtain ⟨z, lo, vs, ep, kv, hat⟩ := I.dictAt hd
  have hl : kvs.length = vs.length := kv.length
  have hl2 : kvs.length = ns.length := by have := congrArg List.length hk; simpa using this
  refine src_sorted (ns := ns) (PySem.W.kdl_dict (knd := mixKind X.prog X.w) (kvs := vs) (ep := ep) lo) (I.ok.hd hc) hat (by rw [← hl]; exact z) (fun us hu hP => ?_) fun h' tk D out ms e hkp hD he a1 a2 a3 => ?_
  · refine ints_by (by omega) fun j v hv => ?_
    obtain ⟨k, x, e1, e2⟩ := hP j v hv
    obtain ⟨n, hn, rfl⟩ := keys_at hk kv e1
    obtain ⟨t, rfl⟩ := keyInt e2
    exact ⟨n, t, hn, rfl⟩
  · have hlen : (ms.map V.int).length ≤ sizeLine := by rw [List.length_map, a2.length_eq, ← hl2]; exact z
    exact ⟨.ref _, upd H D (.lst (ms.map V.int)), I.laid (t' := tk) hkp hD ⟨hlen, out, e, vals_of_ints a1, he⟩, rfl, q ms _ a2 a3 (I.hok.fresh hD)⟩
noncomputable def rMinD : List V → Hp → VK → Prop := fun xs H Q => ∃ (d : Addr) (kvs : List (Key × V)) (ns : List Int), xs = [V.ref d] ∧ Rd H d (.dK kvs) ∧ IKeys kvs ns ∧ 0 < ns.length ∧ ∀ m, m ∈ ns → (∀ y, y ∈ ns → m ≤ y) → Q (.int m) H
noncomputable def rMaxD : List V → Hp → VK → Prop := fun xs H Q => ∃ (d : Addr) (kvs : List (Key × V)) (ns : List Int), xs = [V.ref d] ∧ Rd H d (.dK kvs) ∧ IKeys kvs ns ∧ 0 < ns.length ∧ ∀ m, m ∈ ns → (∀ y, y ∈ ns → y ≤ m) → Q (.int m) H
theorem getD_at {ns : List Int} {i : Nat} {n : Int} (e : ns[i]? = some n) : ns.getD i 0 = n := by rw [List.getD_eq_getElem?_getD, e]; rfl
theorem cr_minD (hc : X.calm = true) : CallR X (.builtin "min") rMinD := by
  intro pins s σ H xs us Q I r h
  obtain ⟨d, kvs, ns, rfl, hd, hk, hpos, q⟩ := h
  rw [Vals.ref1 r]
  obtain ⟨z, lo, vs, ep, kv, hat⟩ := I.dictAt hd
  have hl : kvs.length = vs.length := kv.length
  have hl2 : kvs.length = ns.length := by have := congrArg List.length hk; simpa using this
  refine src_min (PySem.W.kdl_dict (knd := mixKind X.prog X.w) (kvs := vs) (ep := ep) lo) (I.ok.hd hc) hat (by omega) (fun i => ns.getD i 0) (fun i v hv => ?_) fun h' tk t' i hi hmin hkp => ?_
  · obtain ⟨k, x, e1, e2⟩ := hv
    obtain ⟨n, hn, rfl⟩ := keys_at hk kv e1
    obtain ⟨t, rfl⟩ := keyInt e2
    exact ⟨t, by rw [getD_at hn]⟩
  · refine ⟨.int _, H, I.kept (t' := tk) hkp, ⟨_, rfl⟩, q _ (PySem.getD_mem (by omega)) fun y hy => ?_⟩
    obtain ⟨j, hj, rfl⟩ := mem_getD hy
    exact hmin j (by omega)
theorem cr_maxD (hc : X.calm = true) : CallR X (.builtin "max") rMaxD := by
  intro pins s σ H xs us Q I r h
  obtain ⟨d, kvs, ns, rfl, hd, hk, hpos, q⟩ := h
  rw [Vals.ref1 r]
  obtain ⟨z, lo, vs, ep, kv, hat⟩ := I.dictAt hd
  have hl : kvs.length = vs.length := kv.length
  have hl2 : kvs.length = ns.length := by have := congrArg List.length hk; simpa using this
  refine src_max (PySem.W.kdl_dict (knd := mixKind X.prog X.w) (kvs := vs) (ep := ep) lo) (I.ok.hd hc) hat (by omega) (fun i => ns.getD i 0) (fun i v hv => ?_) fun h' tk t' i hi hmax hkp => ?_
  · obtain ⟨k, x, e1, e2⟩ := hv
    obtain ⟨n, hn, rfl⟩ := keys_at hk kv e1
    obtain ⟨t, rfl⟩ := keyInt e2
    exact ⟨t, by rw [getD_at hn]⟩
  · refine ⟨.int _, H, I.kept (t' := tk) hkp, ⟨_, rfl⟩, q _ (PySem.getD_mem (by omega)) fun y hy => ?_⟩
    obtain ⟨j, hj, rfl⟩ := mem_getD hy
    exact hmax j (by omega)
theorem preSum_list (ns : List Int) : ∀ k, k ≤ ns.length → preSum (fun i => ns.getD i 0) k = (ns.take k).sum
  | 0, _ => rfl
  | k + 1, h => by
    show preSum _ k + ns.getD k 0 = _
    have hk : k < ns.length := h
    rw [preSum_list ns k (by omega), List.take_succ_eq_append_getElem hk, List.sum_append, List.getD_eq_getElem?_getD, List.getElem?_eq_getElem hk]
    simp
noncomputable def tSumV (td : TE) : TE := fun σ H Q => td σ H fun x H1 => ∃ (d : Addr) (kvs : List (Key × V)) (ws : List Int), x = .ref d ∧ Rd H1 d (.dK kvs) ∧ kvs.map (·.2) = ws.map V.int ∧ Q (.int ws.sum) H1
theorem vals_at {kvs : List (Key × V)} {ws : List Int} {vs : List (Key × Value)} (hk : kvs.map (·.2) = ws.map V.int) (kv : KV kvs vs) {i : Nat} {k : Key} {x : Value} (e : vs[i]? = some (k, x)) : ∃ n t, ws[i]? = some n ∧ x = Value.int n t := by
  obtain ⟨⟨k', v⟩, e1⟩ : ∃ p, kvs[i]? = some p := ⟨kvs[i]'(by have := kv.length; have := (List.getElem?_eq_some_iff.mp e).1; omega), List.getElem?_eq_getElem _⟩
  obtain ⟨u, e2, ru⟩ := kv_get kv e1
  rw [e] at e2
  cases e2
  have e3 : (kvs.map (·.2))[i]? = some v := by rw [List.getElem?_map, e1]; rfl
  rw [hk, List.getElem?_map] at e3
  cases q : ws[i]? with
  | none => rw [q] at e3; cases e3
  | some n =>
    rw [q] at e3
    have : V.int n = v := Option.some.inj e3
    subst this
    obtain ⟨t, ht⟩ := ru
    exact ⟨n, t, rfl, ht⟩
theorem pe_sumV {e : Expr} {td : TE} {apos cpos p pos : Pos} (hc : X.calm = true) (hg : Gl X "sum") (hm : X.mg "sum" = none) (he : PE X e td) (hbase : attributeBase e "values" X.env (eval e X.env) = eval e X.env := by rfl) (hline : (apos.endLine == cpos.line) = true := by rfl)
    (hs : starEach [.Call (.Attribute e "values" apos) [] [] cpos] X.env = [(false, eval (.Call (.Attribute e "values" apos) [] [] cpos) X.env)] := by rfl) :
    PE X (.Call (.Name "sum" p) [.Call (.Attribute e "values" apos) [] [] cpos] [] pos) (tSumV td) := by
  intro pins s σ H Q I h
  refine wpAny_Call_Name_kw (ld_blt I hg hm boot_sum ?_)
  refine PyProof.Rows.callWith_builtin1 (e := .Call (.Attribute e "values" apos) [] [] cpos) (rest := []) ?_ hs rfl
  rw [hs]
  refine Calls.spliced_cons ?_
  refine wpAny_Call_method (T := "dict") (id := "dict.values") hbase rfl hline F.plainAttrs_dict F.slot_dict_values F.type_dict_values (thn (he pins s σ H _ I h) fun u s1 ⟨x, H1, I1, rx, d, kvs, ws, ex, hd, hw, q⟩ => ?_)
  subst ex
  obtain rfl : u = Value.ref d := rx
  obtain ⟨z, lo, vs, ep, kv, hm'⟩ := I1.dictAt hd
  have hl : kvs.length = vs.length := kv.length
  have hl2 : kvs.length = ws.length := by have := congrArg List.length hw; simpa using this
  refine ⟨hm'.dictOf.typeIs, hm'.dictOf.mapOf.noDict, ?_⟩
  have I2 : Inv X pins σ H1 { s1 with heap := s1.heap.push { cls := .type "dict_values", data := .fields #[.ref d] } } := I1.kept (t' := s1.toks) fun b ob q => Heap.get?_push_of_some _ q
  have fin : wpAny (model X.prog X.w) X.A (call (.builtin "sum") [.ref s1.heap.objs.size]) (EP X pins σ Q) X.xe { s1 with heap := s1.heap.push { cls := .type "dict_values", data := .fields #[.ref d] } } := by
    refine src_sum (PySem.W.kdl_values (r := s1.heap.objs.size) (knd := mixKind X.prog X.w) (kvs := vs) (ep := ep)) (I1.ok.hd hc) ⟨⟨_, Heap.get?_push_size _ rfl, rfl, rfl⟩, hm'.push _⟩ (fun i => ws.getD i 0) (fun i v hv => ?_) fun h' tk t' hkp => ?_
    · obtain ⟨k, e1⟩ := hv
      obtain ⟨n, t, hn, rfl⟩ := vals_at hw kv e1
      exact ⟨t, by rw [getD_at hn]⟩
    · have e : preSum (fun i => ws.getD i 0) vs.length = ws.sum := by rw [preSum_list ws _ (by omega), List.take_of_length_le (by omega)]
      exact ⟨.int _, H1, I2.kept (t' := tk) hkp, ⟨t', by rw [e]⟩, q⟩
  show wpAny _ _ (callWith cpos (.builtin "dict.values") [.ref d] [] []) _ X.xe s1
  exact method_meetsIn F.slot_dict_values F.entry_dict_values rfl (PySem.evalArgs_none ⟨rfl, hm'.dictOf.typeIs, F.args_dict_values_1 _, _, meets_dict_values (mixKind X.prog X.w) d lo, ⟨vs, hm'.dictOf⟩, Calls.spliced_nil fin⟩)
noncomputable def CDivB (i j : Int) : Prop := 0 < j ∧ j.natAbs.log2 < 9000
theorem op_fdivB : OpR X (binaryOp .FloorDiv) (rI CDivB fun i j => .int (i / j)) := opI fun i j _ _ _ _ _ hc q => by
  refine floordiv_int (by have := hc.1; omega) ?_ (.inl (PyProof.noPylong_of_log2 hc.2))
  rw [Int.fdiv_eq_ediv_of_nonneg _ (Int.le_of_lt hc.1)]
  exact q
end
end L2
end
section
set_option Elab.async false
set_option linter.all false
set_option maxRecDepth 100000
set_option maxHeartbeats 2000000
namespace L2
open PySem PySem.Spec PyProof.Rows
theorem turn_longrange {P : Program} {w : World} {K : PySem.W.Frag} {tg : Expr} (it : Addr) (lo : Int) (n : Nat) : Turn P w K tg (Itr lo n) [it] it (fun i h => IsLongIter h it (lo + (i : Nat) * 1) ((n : Int) - (i : Nat)) 1) where
  mem := by simp
  obj := fun i h st b hb => by
    have e : b = it := by simpa using hb
    subst e
    exact ⟨_, st, fun v z => by
      have z' : Data.fields _ = Data.cell v := z
      cases z'⟩
  keep := fun i h h' st k => k it (by simp) _ st
  item := by
    intro X hP hw hK hc i pins s σ H E I hf st hg
    subst hP hw hK
    obtain ⟨f0, f1, f2, f3, f4, f5⟩ := hf it (by simp)
    have W := Walks.longrange (prog := X.prog) (w := X.w) (I.ok.hd hc) it lo 1 n
    refine W.item i s _ _ hg st fun v h' tk hv st' kk => ?_
    obtain ⟨t, rfl⟩ := hv
    have I1 : Inv X pins σ H { s with heap := h', toks := tk } := I.turned (fun b o hb e => kk b o (by simpa using hb) e) f0 f1 f3 f4 f5
    refine ⟨_, rfl, go_of (s := { s with heap := h', toks := tk }) (n := "longrange_iterator") st' rfl rfl (by decide) ⟨.int (lo + i), H, I1, ⟨t, ?_⟩, ⟨rfl, rfl⟩, st', fun b hb => (hf b hb).1⟩⟩
    rw [Int.mul_one]
  done := by
    intro X hP hw hK hc i pins s σ H E I hf st hg
    subst hP hw hK
    obtain ⟨f0, f1, f2, f3, f4, f5⟩ := hf it (by simp)
    exact wpAny_pyNext_long_end (I.ok.hd hc) st (by have : n ≤ i := hg; omega) fun h' eb => ⟨rfl, I.turned (t' := s.toks) (fun b o hb e => eb b o hb e) f0 f1 f3 f4 f5⟩
  self := fun _ _ _ _ _ st h => wpAny_pyIter_longiter st h
section
variable {X : Cx} {tg : Expr}
theorem range_any {pins : List (Addr × Obj)} {σ : St} {H : Hp} {s : Shared} {R : It → Hp → Prop} {E : Value → Shared → Prop} {lo hi : Int} {t u v : Tok} {tk : Nat} (I : Inv X pins σ H s)
    (q : R (Itr lo (hi - lo).toNat) H) : wpAny (model X.prog X.w) X.A (pyIter (.ref s.heap.objs.size)) (PIE X pins σ tg R) E { s with heap := s.heap.push { cls := .type "range", data := .fields #[.int lo t, .int hi u, .int 1 v] }, toks := tk } := by
  have I1 : Inv X pins σ H { s with heap := s.heap.push { cls := .type "range", data := .fields #[.int lo t, .int hi u, .int 1 v] }, toks := tk } := I.kept fun b o e => Heap.get?_push_of_some _ e
  have e1 : lo + ((0 : Nat) : Int) * 1 = lo := by simp
  have e2 : (((hi - lo).toNat : Nat) : Int) - ((0 : Nat) : Int) = Builtin.Range.rangeSize lo hi 1 := by rw [rangeSize_one]; split <;> omega
  have fpk : ∀ b ∈ [(s.heap.push { cls := .type "range", data := .fields #[.int lo t, .int hi u, .int 1 v] }).objs.size], FpOk X pins H b := fun b hb => by
    have e : b = (s.heap.push { cls := .type "range", data := .fields #[.int lo t, .int hi u, .int 1 v] }).objs.size := by simpa using hb
    subst e
    exact I1.fpOk (Nat.le_refl _) (I1.hok.fresh (Nat.le_refl _))
  cases hb : Builtin.Range.small lo hi 1 with
  | true =>
    refine wpAny_pyIter_range (IsRange.new ..) hb ?_
    refine ⟨_, [(s.heap.push { cls := .type "range", data := .fields #[.int lo t, .int hi u, .int 1 v] }).objs.size], _, _, H, rfl, I1.kept (t' := tk) fun b o e => Heap.get?_push_of_some _ e, turn_range _ lo (hi - lo).toNat, ?_, fpk, q⟩
    show IsRangeIter _ _ (lo + ((0 : Nat) : Int) * 1) ((((hi - lo).toNat : Nat) : Int) - ((0 : Nat) : Int)) 1
    rw [e1, e2]
    exact Heap.get?_push_size _ rfl
  | false =>
    refine wpAny_pyIter_longrange (IsRange.new ..) hb ?_
    refine ⟨_, [(s.heap.push { cls := .type "range", data := .fields #[.int lo t, .int hi u, .int 1 v] }).objs.size], _, _, H, rfl, I1.kept (t' := tk) fun b o e => Heap.get?_push_of_some _ e, turn_longrange _ lo (hi - lo).toNat, ?_, fpk, q⟩
    show IsLongIter _ _ (lo + ((0 : Nat) : Int) * 1) ((((hi - lo).toNat : Nat) : Int) - ((0 : Nat) : Int)) 1
    rw [e1, e2]
    exact Heap.get?_push_size _ rfl
noncomputable def iRngL (ta : TA) : TI := fun σ H R => ta σ H fun vs H1 => ∃ i j : Int, vs = [.int i, .int j] ∧ R (Itr i (j - i).toNat) H1
theorem pi_rangeL {a b : Expr} {ta : TA} {p pos : Pos} (hg : Gl X "range") (hm : X.mg "range" = none) (ha : PA X [a, b] ta) (hs : starEach [a, b] X.env = [(false, eval a X.env), (false, eval b X.env)] := by rfl) (hs2 : starEach [b] X.env = [(false, eval b X.env)] := by rfl) :
    PI X tg (.Call (.Name "range" p) [a, b] [] pos) (iRngL ta) := by
  intro pins s σ H R I h
  refine Call_ (ld_blt I hg hm boot_range (PyProof.Rows.callWith_type1 (thn (ha pos pins s σ H _ I h) fun us s1 ⟨vs, H1, I1, r1, q1⟩ => ?_) (by rw [hs, hs2]) (by rw [hs2]; rfl)))
  obtain ⟨i, j, e, q⟩ := q1
  subst e
  cases r1 with
  | cons r rr =>
    cases rr with
    | cons r' rr =>
      cases rr
      obtain ⟨t, rfl⟩ := r
      obtain ⟨t', rfl⟩ := r'
      exact call_range_2 (range_any I1 q)
theorem RgC.two (m : Nat) (h : m ≤ 100000) : RgC 0 (2 * (m : Int)) 2 m := by
  have e : Builtin.Range.rangeSize 0 (2 * (m : Int)) 2 = m := by
    unfold Builtin.Range.rangeSize
    rw [if_pos (by decide)]
    split <;> omega
  refine ⟨by decide, by decide, ?_, e⟩
  have fl : ∀ x : Int, -1000000 ≤ x → x ≤ 1000000 → Builtin.Range.rangeFitsLong x = true := fun x h1 h2 => by
    unfold Builtin.Range.rangeFitsLong
    rw [Bool.and_eq_true]
    refine ⟨decide_eq_true ?_, decide_eq_true ?_⟩ <;> omega
  unfold Builtin.Range.small
  rw [e, if_pos (by decide), fl 0 (by decide) (by decide), fl (2 * (m : Int)) (by omega) (by omega), fl 2 (by decide) (by decide), fl (m : Int) (by omega) (by omega), fl (2 * (m : Int) + (2 - 1)) (by omega) (by omega)]
  simp
end
end L2
end
section
set_option Elab.async false
set_option linter.all false
set_option maxRecDepth 100000
set_option maxHeartbeats 2000000
namespace L2
open PySem PySem.Spec PyProof.Rows
section
variable {d : Addr} {o : Obj} {kvs : List (Key × V)} {g : TG} {tb : TS} {D : Ends} {σ : St} {H : Hp}
theorem for_items (Pv : Nat → St → Hp → Prop) (h0 : Pv 0 σ H) (hl : ∀ i σ H, i ≤ kvs.length → Pv i σ H → H d = some (.frz o (.dK kvs)))
    (hs : ∀ i k v σ H T, kvs[i]? = some (k, v) → Pv i σ H → H T = none → g (.ref T) σ (upd H T (.tup [kV k, v])) fun σ2 H2 => tb { D with nx := Pv (i + 1), ct := Pv (i + 1), bk := D.nx } σ2 H2) (hd : ∀ σ H, Pv kvs.length σ H → D.nx σ H) :
    ∃ W : Nat → Nat → St → Hp → Prop, (∃ m, W 0 m σ H) ∧ ∀ i m σ H, W i m σ H →
      ((Iti d o kvs).stop i H ∧ D.nx σ H) ∨ ((Iti d o kvs).go i H ∧ ∃ N : St → Hp → Prop, (∀ σ' H', N σ' H' → ∃ m', m' < m ∧ W (i + 1) m' σ' H') ∧ ∀ x H', (Iti d o kvs).yld i H x H' → g x σ H' fun σ2 H2 => tb { D with nx := N, ct := N, bk := D.nx } σ2 H2) := by
  refine ⟨fun i m σ H => m = kvs.length - i ∧ i ≤ kvs.length ∧ Pv i σ H, ⟨kvs.length, by simp, Nat.zero_le _, h0⟩, ?_⟩
  rintro i m σ H ⟨rfl, hi, p⟩
  have q := hl i σ H hi p
  by_cases hlt : i < kvs.length
  · refine .inr ⟨⟨q, hlt⟩, Pv (i + 1), fun σ' H' p' => ⟨kvs.length - (i + 1), by omega, rfl, hlt, p'⟩, fun x H' y => ?_⟩
    obtain ⟨T, k, v, e1, rfl, e2, rfl⟩ := y
    exact hs i k v σ H T e1 p e2
  · have e : i = kvs.length := by omega
    subst e
    exact .inl ⟨⟨q, Nat.le_refl _⟩, hd σ H p⟩
theorem for_vals (Pv : Nat → St → Hp → Prop) (h0 : Pv 0 σ H) (hl : ∀ i σ H, i ≤ kvs.length → Pv i σ H → H d = some (.frz o (.dK kvs)))
    (hs : ∀ i k v σ H, kvs[i]? = some (k, v) → Pv i σ H → g v σ H fun σ2 H2 => tb { D with nx := Pv (i + 1), ct := Pv (i + 1), bk := D.nx } σ2 H2) (hd : ∀ σ H, Pv kvs.length σ H → D.nx σ H) :
    ∃ W : Nat → Nat → St → Hp → Prop, (∃ m, W 0 m σ H) ∧ ∀ i m σ H, W i m σ H →
      ((Itd d o kvs).stop i H ∧ D.nx σ H) ∨ ((Itd d o kvs).go i H ∧ ∃ N : St → Hp → Prop, (∀ σ' H', N σ' H' → ∃ m', m' < m ∧ W (i + 1) m' σ' H') ∧ ∀ x H', (Itd d o kvs).yld i H x H' → g x σ H' fun σ2 H2 => tb { D with nx := N, ct := N, bk := D.nx } σ2 H2) := by
  refine ⟨fun i m σ H => m = kvs.length - i ∧ i ≤ kvs.length ∧ Pv i σ H, ⟨kvs.length, by simp, Nat.zero_le _, h0⟩, ?_⟩
  rintro i m σ H ⟨rfl, hi, p⟩
  have q := hl i σ H hi p
  by_cases hlt : i < kvs.length
  · refine .inr ⟨⟨q, hlt⟩, Pv (i + 1), fun σ' H' p' => ⟨kvs.length - (i + 1), by omega, rfl, hlt, p'⟩, fun x H' y => ?_⟩
    obtain ⟨rfl, k, e1⟩ := y
    exact hs i k x σ _ e1 p
  · have e : i = kvs.length := by omega
    subst e
    exact .inl ⟨⟨q, Nat.le_refl _⟩, hd σ H p⟩
end
end L2
namespace Ev
open PySem PySem.Spec PyProof.Rows L2 Dx
noncomputable def enc (l : Weights) : List (Key × V) := l.map fun x => (Sum.inl x.1, V.int (x.2 : Int))
theorem enc_len (l : Weights) : (enc l).length = l.length := by unfold enc; rw [List.length_map]
theorem enc_keys (l : Weights) : IKeys (enc l) (l.map (·.1)) := by unfold IKeys enc; rw [List.map_map, List.map_map]; rfl
theorem enc_vals (l : Weights) : (enc l).map (·.2) = (l.map fun x => (x.2 : Int)).map V.int := by unfold enc; rw [List.map_map, List.map_map]; rfl
theorem enc_get {l : Weights} {i : Nat} {k : Key} {v : V} (e : (enc l)[i]? = some (k, v)) : ∃ x, l[i]? = some x ∧ k = Sum.inl x.1 ∧ v = V.int (x.2 : Int) := by
  unfold enc at e
  rw [List.getElem?_map] at e
  cases q : l[i]? with
  | none => rw [q] at e; cases e
  | some x => rw [q] at e; cases e; exact ⟨x, rfl, rfl, rfl⟩
theorem enc_append (l m : Weights) : enc (l ++ m) = enc l ++ enc m := by unfold enc; rw [List.map_append]
theorem enc_any (l : Weights) (v : Int) : ((enc l).any fun kv => decide (kv.1 = (Sum.inl v : Key))) = l.any fun x => decide (x.1 = v) := by
  unfold enc
  rw [List.any_map]
  congr 1
  funext x
  show decide ((Sum.inl x.1 : Key) = Sum.inl v) = decide (x.1 = v)
  by_cases e : x.1 = v
  · rw [decide_eq_true e, decide_eq_true (congrArg Sum.inl e)]
  · rw [decide_eq_false e, decide_eq_false fun q => e (Sum.inl.inj q)]
theorem enc_put (l : Weights) (v : Int) (w : Nat) : putK (enc l) (Sum.inl v) (V.int (w : Int)) = enc (putW l v w) := by
  unfold putK putW
  rw [enc_any]
  by_cases h : (l.any fun x => decide (x.1 = v)) = true
  · rw [if_pos h, if_pos h]
    unfold enc
    rw [List.map_map, List.map_map]
    refine List.map_congr_left fun x _ => ?_
    show (if (Sum.inl x.1 : Key) = Sum.inl v then ((Sum.inl x.1 : Key), V.int (w : Int)) else (Sum.inl x.1, V.int (x.2 : Int))) = ((Sum.inl (if x.1 = v then (x.1, w) else x).1 : Key), V.int ((if x.1 = v then (x.1, w) else x).2 : Int))
    by_cases e : x.1 = v
    · rw [if_pos (congrArg Sum.inl e), if_pos e]
    · rw [if_neg (fun q => e (Sum.inl.inj q)), if_neg e]
  · rw [if_neg h, if_neg h, enc_append]; rfl
theorem enc_val {l : Weights} (nd : (l.map (·.1)).Nodup) (v : Int) : ((valV (enc l) (Sum.inl v)).getD (.int 0)) = V.int (wt l v : Int) := by
  induction l with
  | nil => rfl
  | cons x r ih =>
    have nd' := List.nodup_cons.mp (show (x.1 :: r.map (·.1)).Nodup from nd)
    show (valV ((Sum.inl x.1, V.int (x.2 : Int)) :: enc r) (Sum.inl v)).getD (.int 0) = V.int (((if x.1 = v then x.2 else 0) + wt r v : Nat) : Int)
    by_cases e : x.1 = v
    · rw [valV_pos (show ((Sum.inl x.1 : Key), V.int (x.2 : Int)).1 = Sum.inl v by rw [e]), if_pos e, wt_zero fun y hy q => nd'.1 (by rw [e, ← q]; exact List.mem_map_of_mem hy)]; rfl
    · rw [valV_neg (fun q => e (Sum.inl.inj q)), ih nd'.2, if_neg e]; congr 1; omega
theorem enc_some {l : Weights} (nd : (l.map (·.1)).Nodup) {v : Int} (h : v ∈ l.map (·.1)) : valV (enc l) (Sum.inl v) = some (V.int (wt l v : Int)) := by
  induction l with
  | nil => cases h
  | cons x r ih =>
    have nd' := List.nodup_cons.mp (show (x.1 :: r.map (·.1)).Nodup from nd)
    show valV ((Sum.inl x.1, V.int (x.2 : Int)) :: enc r) (Sum.inl v) = some (V.int (((if x.1 = v then x.2 else 0) + wt r v : Nat) : Int))
    by_cases e : x.1 = v
    · rw [valV_pos (show ((Sum.inl x.1 : Key), V.int (x.2 : Int)).1 = Sum.inl v by rw [e]), if_pos e, wt_zero fun y hy q => nd'.1 (by rw [e, ← q]; exact List.mem_map_of_mem hy)]; rfl
    · have hr : v ∈ r.map (·.1) := (List.mem_cons.mp (show v ∈ x.1 :: r.map (·.1) from h)).elim (fun q => absurd q.symm e) id
      rw [valV_neg (fun q => e (Sum.inl.inj q)), ih nd'.2 hr, if_neg e]; congr 2; omega
noncomputable def FD (H : Hp) (a : Addr) (l : Weights) : Prop := ∃ o, H a = some (.frz o (.dK (enc l)))
theorem FD.rd {H : Hp} {a : Addr} {l : Weights} (h : FD H a l) : Rd H a (.dK (enc l)) := let ⟨o, e⟩ := h; .inr ⟨o, e⟩
theorem FD.mono {H H' : Hp} {a : Addr} {l : Weights} (h : FD H a l) (s : Same H H') : FD H' a l := let ⟨o, e⟩ := h; ⟨o, s _ _ e⟩
theorem FD.isD {H : Hp} {a : Addr} {l : Weights} (h : FD H a l) : IsD H a := .inl ⟨_, h.rd⟩
theorem FD.get {H : Hp} {a : Addr} {l : Weights} (h : FD H a l) (v : Int) : DGet H a (.int v) (valV (enc l) (Sum.inl v)) := .inl ⟨_, Sum.inl v, h.rd, rfl, rfl⟩
theorem isD_of {H : Hp} {a : Addr} {kvs : List (Key × V)} (h : H a = some (.dK kvs)) : IsD H a := .inl ⟨_, .inl h⟩
theorem Same.upd {H H' : Hp} (s : Same H H') {a : Addr} {o : HO} (h : H' a = none) : Same H (upd H' a o) := fun b u e => by rw [upd_ne (ne_of_none (s b u e) h)]; exact s b u e
theorem Same.upd2 {H H' : Hp} (s : Same H H') {a : Addr} {o : HO} (h : H a = none) : Same H (L2.upd H' a o) := fun b u e => by rw [upd_ne (ne_of_none e h)]; exact s b u e
theorem ifB {c : Bool} {A B : Prop} (h1 : c = true → A) (h2 : c = false → B) : if c = true then A else B := by
  cases c with
  | true => rw [if_pos rfl]; exact h1 rfl
  | false => rw [if_neg Bool.false_ne_true]; exact h2 rfl
theorem ifD {p : Prop} [Decidable p] {A B : Prop} (h1 : p → A) (h2 : ¬ p → B) : if decide p = true then A else B := ifB (fun h => h1 (of_decide_eq_true h)) fun h => h2 (of_decide_eq_false h)
theorem ifN {p : Prop} [Decidable p] {A B : Prop} (h1 : ¬ p → A) (h2 : p → B) : if (!decide p) = true then A else B := ifB (fun h => h1 (by simpa using h)) fun h => h2 (by simpa using h)
theorem small {n m : Nat} (h : n ≤ m) (hm : m ≤ 16777216) : n ≤ sizeLine := by rw [sizeLine_eq]; omega
theorem small' {n m : Nat} (h : n ≤ m) (hm : m < 16777216) : n < sizeLine := by rw [sizeLine_eq]; omega
end Ev
end
section
set_option Elab.async false
set_option linter.all false
namespace EvS
open PySem
noncomputable def cc : Nat → Nat
  | 0 => 0
  | k + 1 => 5 * cc k + 1
noncomputable def FF (k x : Nat) : Nat := 5 ^ k * x + cc k
theorem FF_zero (x : Nat) : FF 0 x = x := by simp [FF, cc]
theorem FF_succ (k x : Nat) : FF (k + 1) x = 5 * FF k x + 1 := by
  unfold FF; rw [show cc (k + 1) = 5 * cc k + 1 from rfl, Nat.pow_succ]; grind
theorem FF_add (a b x : Nat) : FF (a + b) x = FF a (FF b x) := by
  induction a with
  | zero => rw [Nat.zero_add, FF_zero]
  | succ a ih => rw [Nat.succ_add, FF_succ, FF_succ, ih]
theorem pow5 : ∀ m : Nat, ∃ q r, 5 ^ (2 ^ m) = 1 + 2 ^ (m + 2) * q ∧ cc (2 ^ m) = 2 ^ m * (1 + 2 * r)
  | 0 => ⟨1, 0, by decide, by decide⟩
  | m + 1 => by
    obtain ⟨q, r, h1, h2⟩ := pow5 m
    have a : 2 ^ (m + 1) = 2 ^ m + 2 ^ m := by rw [Nat.pow_succ]; omega
    have c : 2 ^ (m + 2) = 4 * 2 ^ m := by rw [show m + 2 = (m + 1) + 1 from rfl, Nat.pow_succ, Nat.pow_succ]; omega
    have d : 2 ^ (m + 1 + 2) = 8 * 2 ^ m := by rw [show m + 1 + 2 = (m + 2) + 1 from rfl, Nat.pow_succ, c]; omega
    have f := FF_add (2 ^ m) (2 ^ m) 0
    have f0 : ∀ k, FF k 0 = cc k := fun k => by simp [FF]
    rw [f0, f0] at f
    unfold FF at f
    rw [h1, c, h2] at f
    refine ⟨q + 2 * 2 ^ m * q * q, r + 2 ^ m * q * (1 + 2 * r), ?_, ?_⟩
    · rw [a, Nat.pow_add, h1, c, d]; generalize 2 ^ m = A; clear f f0 h1 h2 a c d; grind
    · rw [a, f]; generalize 2 ^ m = A; clear f f0 h1 h2 a c d; grind
theorem turn_m (m y : Nat) : ∃ z, FF (2 ^ m) y = y + 2 ^ m + 2 ^ (m + 1) * z := by
  obtain ⟨q, r, h1, h2⟩ := pow5 m
  unfold FF
  rw [h1, h2, show 2 ^ (m + 2) = 4 * 2 ^ m by rw [show m + 2 = (m + 1) + 1 from rfl, Nat.pow_succ, Nat.pow_succ]; omega, Nat.pow_succ]
  exact ⟨2 * q * y + r, by grind⟩
theorem flip_mod {N u v : Nat} (hu : u < N + N) (hv : v < N + N) (e : u % N = v % N) (hne : u ≠ v) : (u + N) % (N + N) = v := by
  rcases Nat.lt_or_ge u N with c1 | c1
  · rw [Nat.mod_eq_of_lt c1] at e
    rcases Nat.lt_or_ge v N with c2 | c2
    · rw [Nat.mod_eq_of_lt c2] at e; exact absurd e hne
    · rw [Nat.mod_eq_sub_mod c2, Nat.mod_eq_of_lt (by omega)] at e
      rw [Nat.mod_eq_of_lt (by omega)]; omega
  · rw [Nat.mod_eq_sub_mod c1, Nat.mod_eq_of_lt (by omega)] at e
    rcases Nat.lt_or_ge v N with c2 | c2
    · rw [Nat.mod_eq_of_lt c2] at e
      rw [Nat.mod_eq_sub_mod (by omega), Nat.mod_eq_of_lt (by omega)]; omega
    · rw [Nat.mod_eq_sub_mod c2, Nat.mod_eq_of_lt (by omega)] at e; omega
theorem cover : ∀ (m x j : Nat), ∃ k, k < 2 ^ m ∧ FF k x % 2 ^ m = j % 2 ^ m
  | 0, x, j => ⟨0, by decide, by simp [Nat.mod_one]⟩
  | m + 1, x, j => by
    obtain ⟨k, hk, e⟩ := cover m x j
    have hp : 2 ^ (m + 1) = 2 ^ m + 2 ^ m := by rw [Nat.pow_succ]; exact Nat.mul_two _
    have pos : 0 < 2 ^ (m + 1) := Nat.two_pow_pos (m + 1)
    obtain ⟨z, hz⟩ := turn_m m (FF k x)
    have e1 : FF (2 ^ m + k) x % 2 ^ (m + 1) = (FF k x % 2 ^ (m + 1) + 2 ^ m) % 2 ^ (m + 1) := by rw [FF_add, hz, Nat.add_mul_mod_self_left, Nat.mod_add_mod]
    by_cases h : FF k x % 2 ^ (m + 1) = j % 2 ^ (m + 1)
    · exact ⟨k, by rw [hp]; exact Nat.lt_add_right _ hk, h⟩
    · refine ⟨2 ^ m + k, by rw [hp]; exact Nat.add_lt_add_left hk _, ?_⟩
      have b1 := Nat.mod_lt (FF k x) pos
      have b2 := Nat.mod_lt j pos
      have d := Nat.pow_dvd_pow 2 (Nat.le_succ m)
      have f := flip_mod (N := 2 ^ m) (Nat.lt_of_lt_of_eq b1 hp) (Nat.lt_of_lt_of_eq b2 hp) ((Nat.mod_mod_of_dvd _ d).trans (e.trans (Nat.mod_mod_of_dvd _ d).symm)) h
      rw [← hp] at f
      rw [e1]; exact f
noncomputable def lp (mask : Nat) : Nat → Nat × Nat → Nat × Nat
  | 0, p => p
  | k + 1, p => lp mask k (SetTable.leap mask p.1 p.2)
theorem lp_snd (mask : Nat) : ∀ (k : Nat) (p : Nat × Nat), (lp mask k p).2 = p.2 / 32 ^ k
  | 0, p => by simp [lp]
  | k + 1, p => by
    show (lp mask k (SetTable.leap mask p.1 p.2)).2 = _
    rw [lp_snd mask k]
    show p.2 / 32 / 32 ^ k = _
    rw [Nat.div_div_eq_div_mul, Nat.pow_succ, Nat.mul_comm]
theorem lp_add (mask : Nat) : ∀ (a b : Nat) (p : Nat × Nat), lp mask (a + b) p = lp mask b (lp mask a p)
  | 0, b, p => by rw [Nat.zero_add]; rfl
  | a + 1, b, p => by rw [Nat.succ_add]; exact lp_add mask a b _
theorem lp_FF (m : Nat) : ∀ (k i : Nat), i < 2 ^ m → (lp (2 ^ m - 1) k (i, 0)) = (FF k i % 2 ^ m, 0)
  | 0, i, h => by rw [FF_zero, Nat.mod_eq_of_lt h]; rfl
  | k + 1, i, h => by
    have pos : 0 < 2 ^ m := Nat.two_pow_pos m
    show lp (2 ^ m - 1) k (SetTable.leap (2 ^ m - 1) i 0) = _
    have e : SetTable.leap (2 ^ m - 1) i 0 = ((5 * i + 1) % 2 ^ m, 0) := by
      unfold SetTable.leap
      rw [show 2 ^ m - 1 + 1 = 2 ^ m by omega, Nat.zero_div, Nat.add_zero, Nat.mul_comm]
    rw [e, lp_FF m k _ (Nat.mod_lt _ pos)]
    have e2 : FF (k + 1) i = FF k (5 * i + 1) := by
      rw [FF_add k 1 i]
      rw [show FF 1 i = 5 * i + 1 by rw [show (1 : Nat) = 0 + 1 from rfl, FF_succ, FF_zero]]
    rw [e2]
    have e3 : FF k ((5 * i + 1) % 2 ^ m) % 2 ^ m = FF k (5 * i + 1) % 2 ^ m := by
      unfold FF
      rw [Nat.add_mod, Nat.mul_mod, Nat.mod_mod, ← Nat.mul_mod, ← Nat.add_mod]
    rw [e3]
theorem lp_lt (m : Nat) : ∀ (k : Nat) (p : Nat × Nat), p.1 < 2 ^ m → (lp (2 ^ m - 1) k p).1 < 2 ^ m
  | 0, p, h => h
  | k + 1, p, h => by
    have pos : 0 < 2 ^ m := Nat.two_pow_pos m
    refine lp_lt m k _ ?_
    show (p.1 * 5 + 1 + p.2 / 32) % (2 ^ m - 1 + 1) < _
    rw [show 2 ^ m - 1 + 1 = 2 ^ m by omega]
    exact Nat.mod_lt _ pos
theorem met (m : Nat) {i p j : Nat} (hi : i < 2 ^ m) (hp : p < 2 ^ 64) (hj : j < 2 ^ m) : ∃ k, k < SetTable.turns (2 ^ m - 1) ∧ (lp (2 ^ m - 1) k (i, p)).1 = j := by
  have pos : 0 < 2 ^ m := Nat.two_pow_pos m
  have e0 : (lp (2 ^ m - 1) 13 (i, p)).2 = 0 := by
    rw [lp_snd]
    exact Nat.div_eq_of_lt (Nat.lt_trans hp (by decide))
  obtain ⟨k, hk, e⟩ := cover m (lp (2 ^ m - 1) 13 (i, p)).1 j
  refine ⟨13 + k, by unfold SetTable.turns; omega, ?_⟩
  rw [lp_add]
  have e1 : lp (2 ^ m - 1) 13 (i, p) = ((lp (2 ^ m - 1) 13 (i, p)).1, 0) := Prod.ext rfl e0
  rw [e1, lp_FF m k _ (lp_lt m 13 _ hi)]
  show FF k _ % 2 ^ m = j
  rw [e, Nat.mod_eq_of_lt hj]
theorem bits_lt (h : Int) : SetTable.bits h < 2 ^ 64 := by
  unfold SetTable.bits
  have := Int.emod_lt_of_pos h (show (0 : Int) < 2 ^ 64 by decide)
  have := Int.emod_nonneg h (show (2 ^ 64 : Int) ≠ 0 by decide)
  omega
theorem runEnd_ge (mask i : Nat) : i ≤ SetTable.runEnd mask i := by unfold SetTable.runEnd; split <;> omega
theorem runEnd_le {mask i : Nat} (h : i ≤ mask) : SetTable.runEnd mask i ≤ mask := by unfold SetTable.runEnd; split <;> omega
theorem runEnd_nine (mask i : Nat) : SetTable.runEnd mask i - i ≤ 9 := by unfold SetTable.runEnd; split <;> omega
theorem free_none {mask : Nat} {owner : Array (Option Nat)} : ∀ (fuel i p : Nat), SetTable.layClean.free mask owner fuel i p = none → ∀ k, k < fuel → (owner.getD (lp mask k (i, p)).1 (some 0)).isNone = false
  | 0, _, _, _, k, hk => absurd hk (Nat.not_lt_zero k)
  | fuel + 1, i, p, h, k, hk => by
    unfold SetTable.layClean.free at h
    split at h
    · cases h
    · rename_i hf
      cases k with
      | zero =>
        have := List.find?_eq_none.mp hf 0 (List.mem_range.mpr (by have := runEnd_ge mask i; omega))
        cases q : (owner.getD i (some 0)).isNone with
        | false => exact q
        | true => exact absurd q this
      | succ k => exact free_none fuel _ _ h k (by omega)
theorem free_some {mask : Nat} {owner : Array (Option Nat)} : ∀ (fuel i p : Nat) {j : Nat}, SetTable.layClean.free mask owner fuel i p = some j → (owner.getD j (some 0)).isNone = true
  | 0, _, _, _, h => by cases h
  | fuel + 1, i, p, j, h => by
    unfold SetTable.layClean.free at h
    split at h
    · rename_i k hf
      cases h
      exact List.find?_some (p := fun k => (owner.getD (i + k) (some 0)).isNone) hf
    · exact free_some fuel _ _ h
theorem getD_none {owner : Array (Option Nat)} {j : Nat} (h : (owner.getD j (some 0)).isNone = true) : j < owner.size ∧ owner[j]? = some none := by
  by_cases hj : j < owner.size
  · refine ⟨hj, ?_⟩
    rw [Array.getD_eq_getD_getElem?, Array.getElem?_eq_getElem hj] at h
    rw [Array.getElem?_eq_getElem hj]
    simpa using h
  · rw [Array.getD_eq_getD_getElem?, Array.getElem?_eq_none (by omega)] at h
    cases h
theorem free_ok {m : Nat} {owner : Array (Option Nat)} (hs : owner.size = 2 ^ m) {j : Nat} (hj : j < 2 ^ m) (hn : owner[j]? = some none) (h : Int) :
    ∃ j', SetTable.layClean.free (2 ^ m - 1) owner (SetTable.turns (2 ^ m - 1)) (SetTable.bits h % (2 ^ m - 1 + 1)) (SetTable.bits h) = some j' ∧ j' < 2 ^ m ∧ owner[j']? = some none := by
  have pos : 0 < 2 ^ m := Nat.two_pow_pos m
  cases e : SetTable.layClean.free (2 ^ m - 1) owner (SetTable.turns (2 ^ m - 1)) (SetTable.bits h % (2 ^ m - 1 + 1)) (SetTable.bits h) with
  | some j' =>
    have := getD_none (free_some _ _ _ e)
    exact ⟨j', rfl, by omega, this.2⟩
  | none =>
    obtain ⟨k, hk, ek⟩ := met m (i := SetTable.bits h % (2 ^ m - 1 + 1)) (p := SetTable.bits h) (by rw [show 2 ^ m - 1 + 1 = 2 ^ m by omega]; exact Nat.mod_lt _ pos) (bits_lt h) hj
    have := free_none _ _ _ e k hk
    rw [ek, Array.getD_eq_getD_getElem?, hn] at this
    cases this
noncomputable def liveL (owner : Array (Option Nat)) : Nat → List (Nat × Nat)
  | 0 => []
  | n + 1 => liveL owner n ++ ((owner.getD n none).map fun k => (n, k)).toList
theorem liveL_eq (owner : Array (Option Nat)) : ∀ n, ((List.range n).filterMap fun j => (owner.getD j none).map (j, ·)) = liveL owner n
  | 0 => rfl
  | n + 1 => by
    rw [List.range_succ, List.filterMap_append, liveL_eq owner n]
    show _ = liveL owner n ++ _
    have h1 : ([n].filterMap fun j => (owner.getD j none).map (j, ·)) = ((owner.getD n none).map fun k => (n, k)).toList := by
      rw [List.filterMap_cons]
      cases owner.getD n none <;> rfl
    rw [h1]
theorem liveL_lt (owner : Array (Option Nat)) : ∀ n, ∀ x ∈ liveL owner n, x.1 < n
  | 0, x, h => nomatch h
  | n + 1, x, h => by
    rcases List.mem_append.mp h with q | q
    · have := liveL_lt owner n x q; omega
    · cases e : owner.getD n none with
      | none => rw [e] at q; cases q
      | some k =>
        rw [e] at q
        have h2 : x = (n, k) := by simpa using q
        rw [h2]; exact Nat.lt_succ_self n
theorem liveL_rise (owner : Array (Option Nat)) : ∀ n, ((liveL owner n).map (·.1)).Pairwise (· < ·)
  | 0 => .nil
  | n + 1 => by
    show ((liveL owner n ++ _).map (·.1)).Pairwise _
    rw [List.map_append]
    refine List.pairwise_append.mpr ⟨liveL_rise owner n, ?_, fun a ha b hb => ?_⟩
    · cases owner.getD n none <;> simp
    · obtain ⟨x, hx, rfl⟩ := List.mem_map.mp ha
      have h1 := liveL_lt owner n x hx
      cases e : owner.getD n none with
      | none => rw [e] at hb; simp at hb
      | some k =>
        rw [e] at hb
        have h2 : b = n := by simpa using hb
        omega
theorem liveL_set {owner : Array (Option Nat)} {j k : Nat} (hj : owner[j]? = some none) : ∀ n, j < n → (liveL (owner.setIfInBounds j (some k)) n).Perm ((j, k) :: liveL owner n) := by
  have same : ∀ i, i ≠ j → (owner.setIfInBounds j (some k)).getD i none = owner.getD i none := fun i hi => by
    rw [Array.getD_eq_getD_getElem?, Array.getD_eq_getD_getElem?, Array.getElem?_setIfInBounds_ne (fun q => hi q.symm)]
  have below : ∀ n, n ≤ j → liveL (owner.setIfInBounds j (some k)) n = liveL owner n := fun n => by
    induction n with
    | zero => intro _; rfl
    | succ n ih => intro h; show liveL _ n ++ _ = liveL _ n ++ _; rw [ih (by omega), same n (by omega)]
  have hlt : j < owner.size := (Array.getElem?_eq_some_iff.mp hj).1
  intro n
  induction n with
  | zero => intro h; exact absurd h (Nat.not_lt_zero j)
  | succ n ih =>
    intro h
    show (liveL _ n ++ _).Perm ((j, k) :: (liveL owner n ++ _))
    by_cases e : n = j
    · subst e
      have e1 : (owner.setIfInBounds n (some k)).getD n none = some k := by rw [Array.getD_eq_getD_getElem?, Array.getElem?_setIfInBounds_self_of_lt hlt]; rfl
      have e2 : owner.getD n none = none := by rw [Array.getD_eq_getD_getElem?, hj]; rfl
      rw [below n (Nat.le_refl _), e1, e2]
      simpa using List.perm_append_singleton (n, k) (liveL owner n)
    · rw [same n e]
      exact (ih (by omega)).append_right _
theorem liveL_full {owner : Array (Option Nat)} : ∀ n, (∀ j, j < n → owner.getD j none ≠ none) → (liveL owner n).length = n
  | 0, _ => rfl
  | n + 1, h => by
    show (liveL owner n ++ _).length = _
    rw [List.length_append, liveL_full n fun j hj => h j (by omega)]
    cases e : owner.getD n none with
    | none => exact absurd e (h n (Nat.lt_succ_self n))
    | some k => rfl
noncomputable def layStep (mask : Nat) (acc : Option (Array (Option Nat) × Nat)) (h : Int) : Option (Array (Option Nat) × Nat) := do
    let (owner, k) ← acc
    let j ← SetTable.layClean.free mask owner (SetTable.turns mask) (SetTable.bits h % (mask + 1)) (SetTable.bits h)
    pure (owner.setIfInBounds j (some k), k + 1)
theorem lay_fold (m : Nat) : ∀ (hs : List Int) (owner : Array (Option Nat)) (k : Nat), owner.size = 2 ^ m → ((liveL owner (2 ^ m)).map (·.2)).Perm (List.range k) → k + hs.length < 2 ^ m →
    ∃ owner', hs.foldl (layStep (2 ^ m - 1)) (some (owner, k)) = some (owner', k + hs.length) ∧ owner'.size = 2 ^ m ∧ ((liveL owner' (2 ^ m)).map (·.2)).Perm (List.range (k + hs.length))
  | [], owner, k, h1, h2, _ => ⟨owner, rfl, h1, h2⟩
  | h :: hs, owner, k, h1, h2, h3 => by
    have h3' : k + (hs.length + 1) < 2 ^ m := h3
    have len : (liveL owner (2 ^ m)).length = k := by
      have := h2.length_eq
      rw [List.length_map, List.length_range] at this; exact this
    have ex : ∃ j, j < 2 ^ m ∧ owner[j]? = some none := by
      apply Classical.byContradiction
      intro hne
      have := liveL_full (owner := owner) (2 ^ m) fun j hj e => hne ⟨j, hj, by
        rw [Array.getD_eq_getD_getElem?, Array.getElem?_eq_getElem (by omega)] at e
        rw [Array.getElem?_eq_getElem (by omega)]
        simpa using e⟩
      omega
    obtain ⟨j, hj, hn⟩ := ex
    obtain ⟨j', e1, hj', hn'⟩ := free_ok h1 hj hn h
    have hp := (liveL_set (k := k) hn' (2 ^ m) hj').map (·.2)
    obtain ⟨o', f1, f2, f3⟩ := lay_fold m hs (owner.setIfInBounds j' (some k)) (k + 1) (by rw [Array.size_setIfInBounds]; exact h1)
      (by rw [List.range_succ]; exact hp.trans ((List.Perm.cons k h2).trans (List.perm_append_singleton k _).symm)) (by omega)
    refine ⟨o', ?_, f2, ?_⟩
    · rw [List.foldl_cons]
      have e2 : layStep (2 ^ m - 1) (some (owner, k)) h = some (owner.setIfInBounds j' (some k), k + 1) := by
        show (do let j ← SetTable.layClean.free (2 ^ m - 1) owner (SetTable.turns (2 ^ m - 1)) (SetTable.bits h % (2 ^ m - 1 + 1)) (SetTable.bits h); pure (owner.setIfInBounds j (some k), k + 1)) = _
        rw [e1]; rfl
      rw [e2, f1, List.length_cons]; congr 2; omega
    · rw [List.length_cons, show k + (hs.length + 1) = k + 1 + hs.length by omega]; exact f3
theorem laid_ok (m finger moves : Nat) (led plain : Bool) (hashes : Array Int) (h : hashes.size < 2 ^ m) :
    ∃ (place order : Array Nat), SetTable.laid (2 ^ m - 1) finger moves led plain hashes = some ({ mask := 2 ^ m - 1, place := place, dummies := #[], finger := finger, led := led, moves := moves, plain := plain }, order) ∧
      place.size = hashes.size ∧ place.toList.Pairwise (· < ·) ∧ (∀ j ∈ place.toList, j < 2 ^ m) ∧ order.toList.Perm (List.range hashes.size) := by
  have pos : 0 < 2 ^ m := Nat.two_pow_pos m
  have l0 : ∀ n, liveL (Array.replicate (2 ^ m - 1 + 1) none) n = [] := fun n => by
    induction n with
    | zero => rfl
    | succ n ih =>
      show liveL _ n ++ _ = []
      rw [ih]
      have : (Array.replicate (2 ^ m - 1 + 1) (none : Option Nat)).getD n none = none := by
        rw [Array.getD_eq_getD_getElem?, Array.getElem?_replicate]; split <;> rfl
      rw [this]; rfl
  obtain ⟨o', f1, f2, f3⟩ := lay_fold m hashes.toList (Array.replicate (2 ^ m - 1 + 1) none) 0 (by simp; omega) (by rw [l0]; exact .nil) (by rw [Array.length_toList]; omega)
  rw [Nat.zero_add, Array.length_toList] at f1 f3
  have e1 : SetTable.layClean (2 ^ m - 1) hashes = some o' := by
    unfold SetTable.layClean
    rw [← Array.foldl_toList]
    have : (fun (acc : Option (Array (Option Nat) × Nat)) (h : Int) => (do
      let (owner, k) ← acc
      let j ← SetTable.layClean.free (2 ^ m - 1) owner (SetTable.turns (2 ^ m - 1)) (SetTable.bits h % (2 ^ m - 1 + 1)) (SetTable.bits h)
      pure (owner.setIfInBounds j (some k), k + 1))) = layStep (2 ^ m - 1) := rfl
    show Option.map _ (hashes.toList.foldl (layStep (2 ^ m - 1)) _) = _
    rw [f1]; rfl
  refine ⟨((liveL o' (2 ^ m)).map (·.1)).toArray, ((liveL o' (2 ^ m)).map (·.2)).toArray, ?_, ?_, ?_, ?_, ?_⟩
  · unfold SetTable.laid
    rw [e1]
    show some _ = some _
    rw [show 2 ^ m - 1 + 1 = 2 ^ m by omega, liveL_eq]
  · have := f3.length_eq
    rw [List.length_map, List.length_range] at this
    simp [this]
  · exact liveL_rise o' _
  · intro j hj
    obtain ⟨x, hx, rfl⟩ := List.mem_map.mp (show j ∈ (liveL o' (2 ^ m)).map (·.1) from hj)
    exact liveL_lt o' _ x hx
  · exact f3
end EvS
end
section
set_option Elab.async false
set_option linter.all false
namespace EvS
open PySem
structure Part (xs : List Nat) (j i : Nat) : Prop where
  le : i ≤ xs.length
  lo : ∀ k (h : k < xs.length), k < i → xs[k] < j
  hi : ∀ k (h : k < xs.length), i ≤ k → j ≤ xs[k]
theorem rise_lt {xs : List Nat} (hr : xs.Pairwise (· < ·)) {a b : Nat} (hb : b < xs.length) (h : a < b) : xs[a] < xs[b] := List.pairwise_iff_getElem.mp hr a b (by omega) hb h
theorem below_go {xs : Array Nat} (hr : xs.toList.Pairwise (· < ·)) (j : Nat) : ∀ (fuel lo hi : Nat), hi - lo ≤ fuel → lo ≤ hi → hi ≤ xs.size → (∀ k (h : k < xs.toList.length), k < lo → xs.toList[k] < j) → (∀ k (h : k < xs.toList.length), hi ≤ k → j ≤ xs.toList[k]) →
    Part xs.toList j (SetTable.below.go xs j fuel lo hi)
  | 0, lo, hi, h1, h2, h3, h4, h5 => by
    show Part _ _ lo
    exact ⟨by rw [Array.length_toList]; omega, h4, fun k hk q => h5 k hk (by omega)⟩
  | fuel + 1, lo, hi, h1, h2, h3, h4, h5 => by
    unfold SetTable.below.go
    by_cases hl : lo < hi
    · rw [if_pos hl]
      have hm : (lo + hi) / 2 < xs.size := by omega
      have hm' : (lo + hi) / 2 < xs.toList.length := by rw [Array.length_toList]; exact hm
      have eg : xs.getD ((lo + hi) / 2) j = xs.toList[(lo + hi) / 2] := by rw [Array.getD_eq_getD_getElem?, Array.getElem?_eq_getElem hm]; simp
      show Part _ _ (if xs.getD ((lo + hi) / 2) j < j then _ else _)
      rw [eg]
      by_cases hc : xs.toList[(lo + hi) / 2] < j
      · rw [if_pos hc]
        refine below_go hr j fuel _ _ (by omega) (by omega) h3 (fun k hk q => ?_) h5
        rcases Nat.lt_or_ge k ((lo + hi) / 2) with z | z
        · exact Nat.lt_trans (rise_lt hr hm' z) hc
        · have : k = (lo + hi) / 2 := by omega
          subst this; exact hc
      · rw [if_neg hc]
        refine below_go hr j fuel _ _ (by omega) (by omega) (by omega) h4 (fun k hk q => ?_)
        rcases Nat.lt_or_ge ((lo + hi) / 2) k with z | z
        · have := rise_lt hr hk z; omega
        · have : k = (lo + hi) / 2 := by omega
          subst this; omega
    · rw [if_neg hl]
      exact ⟨by rw [Array.length_toList]; omega, h4, fun k hk q => h5 k hk (by omega)⟩
theorem below_ok {xs : Array Nat} (hr : xs.toList.Pairwise (· < ·)) (j : Nat) : Part xs.toList j (SetTable.below xs j) :=
  below_go hr j xs.size 0 xs.size (by omega) (Nat.zero_le _) (Nat.le_refl _) (fun k _ q => absurd q (Nat.not_lt_zero k)) (fun k h q => by rw [Array.length_toList] at h; omega)
theorem Part.uniq {xs : List Nat} {j i i' : Nat} (a : Part xs j i) (b : Part xs j i') : i = i' := by
  rcases Nat.lt_trichotomy i i' with h | h | h
  · have hl : i < xs.length := by have := b.le; omega
    have := a.hi i hl (Nat.le_refl _); have := b.lo i hl h; omega
  · exact h
  · have hl : i' < xs.length := by have := a.le; omega
    have := b.hi i' hl (Nat.le_refl _); have := a.lo i' hl h; omega
theorem below_mem {xs : Array Nat} (hr : xs.toList.Pairwise (· < ·)) {j : Nat} : xs[SetTable.below xs j]? = some j ↔ j ∈ xs.toList := by
  have P := below_ok hr j
  constructor
  · intro h
    obtain ⟨hi, e⟩ := Array.getElem?_eq_some_iff.mp h
    rw [← e]; exact Array.getElem_mem_toList ..
  · intro h
    obtain ⟨k, hk, e⟩ := List.getElem_of_mem h
    have hle : SetTable.below xs j ≤ k := by
      rcases Nat.lt_or_ge k (SetTable.below xs j) with q | q
      · have := P.lo k hk q; omega
      · exact q
    have hk' : SetTable.below xs j < xs.toList.length := by omega
    have h2 := P.hi _ hk' (Nat.le_refl _)
    have h3 : ¬ SetTable.below xs j < k := fun q => by have := rise_lt hr hk q; omega
    have h4 : SetTable.below xs j = k := by omega
    rw [← Array.getElem?_toList, List.getElem?_eq_some_iff]
    exact ⟨hk', by simp only [h4]; exact e⟩
structure Tidy (t : SetTable) (m n : Nat) : Prop where
  mask : t.mask = 2 ^ m - 1
  size : t.place.size = n
  rise : t.place.toList.Pairwise (· < ·)
  lt : ∀ j ∈ t.place.toList, j < 2 ^ m
  dum : t.dummies = #[]
  plain : t.plain = true
  room : n < 2 ^ m
theorem Tidy.fill {t : SetTable} {m n : Nat} (T : Tidy t m n) : t.fill = n := by unfold SetTable.fill; rw [T.size, T.dum]; rfl
theorem Tidy.fits {t : SetTable} {m n : Nat} (T : Tidy t m n) : t.fits n = true := by
  unfold SetTable.fits
  rw [T.size, T.fill, T.mask]
  have := T.room
  simp; omega
theorem has_nil (j : Nat) : SetTable.has #[] j = false := by
  unfold SetTable.has; simp
theorem slot_tidy {t : SetTable} {m n : Nat} (T : Tidy t m n) (j : Nat) : (j ∉ t.place.toList → t.slot j = .empty) ∧ (j ∈ t.place.toList → ∃ i, t.slot j = .live i) := by
  unfold SetTable.slot
  rw [T.dum, has_nil]
  constructor
  · intro h
    have : ¬ t.place[SetTable.below t.place j]? = some j := fun q => h ((below_mem T.rise).mp q)
    simp [this]
  · intro h
    have := (below_mem T.rise).mpr h
    exact ⟨SetTable.below t.place j, by simp [this]⟩
theorem pigeon {xs : List Nat} (hr : xs.Nodup) : ∀ N, xs.length < N → ∃ j, j < N ∧ j ∉ xs := by
  intro N h
  apply Classical.byContradiction
  intro hne
  have all : ∀ j, j ∈ List.range N → j ∈ xs := fun j hj => by
    apply Classical.byContradiction
    intro q
    exact hne ⟨j, List.mem_range.mp hj, q⟩
  have key : ∀ (l m : List Nat), l.Nodup → (∀ x ∈ l, x ∈ m) → l.length ≤ m.length := by
    intro l
    induction l with
    | nil => intro m _ _; exact Nat.zero_le _
    | cons a l ih =>
      intro m nd hm
      have nd' := List.nodup_cons.mp nd
      have ha := hm a (.head _)
      have := ih (m.erase a) nd'.2 fun x hx => (List.mem_erase_of_ne fun e => nd'.1 (by rw [← e]; exact hx)).mpr (hm x (.tail _ hx))
      have e := List.length_erase_of_mem ha
      have : 0 < m.length := List.length_pos_of_mem ha
      show l.length + 1 ≤ m.length
      omega
  have := key (List.range N) xs List.nodup_range all
  rw [List.length_range] at this
  omega
theorem go_mono {t : SetTable} {ha : Nat → Int} {h : Int} : ∀ (a b : Nat) (p : SetTable.Probe), SetTable.probe.go t ha h (a + b) p = none → SetTable.probe.go t ha h a p = none
  | 0, _, _, _ => rfl
  | a + 1, b, p, e => by
    rw [Nat.succ_add] at e
    unfold SetTable.probe.go at e ⊢
    split
    · rename_i q; rw [q] at e; cases e
    · rename_i q; rw [q] at e; exact go_mono a b _ e
    · rename_i i q
      rw [q] at e
      dsimp only at e ⊢
      by_cases c : (ha i == h) = true
      · rw [if_pos c] at e; cases e
      · rw [if_neg c] at e ⊢; exact go_mono a b _ e
theorem go_run {t : SetTable} {m n : Nat} (T : Tidy t m n) {h : Int} : ∀ (r fuel j i p : Nat), SetTable.probe.go t (fun _ => h + 1) h (fuel + (r + 1)) { j := j, more := r, i := i, perturb := p, dummy := none } = none →
    t.slot j ≠ .empty ∧ SetTable.probe.go t (fun _ => h + 1) h fuel { j := (SetTable.leap t.mask i p).1, more := SetTable.runEnd t.mask (SetTable.leap t.mask i p).1 - (SetTable.leap t.mask i p).1, i := (SetTable.leap t.mask i p).1, perturb := (SetTable.leap t.mask i p).2, dummy := none } = none := by
  have hne : ((h + 1) == h) = false := beq_false_of_ne (by omega)
  have sl : ∀ j, t.slot j = .empty ∨ ∃ i, t.slot j = .live i := fun j => by
    by_cases q : j ∈ t.place.toList
    · exact .inr ((slot_tidy T j).2 q)
    · exact .inl ((slot_tidy T j).1 q)
  intro r
  induction r with
  | zero =>
    intro fuel j i p e
    unfold SetTable.probe.go at e
    rcases sl j with q | ⟨k, q⟩
    · rw [q] at e; cases e
    · rw [q] at e
      dsimp only at e
      rw [hne] at e
      simp only [Bool.false_eq_true, if_false] at e
      exact ⟨(by rw [q]; intro z; cases z), e⟩
  | succ r ih =>
    intro fuel j i p e
    unfold SetTable.probe.go at e
    rcases sl j with q | ⟨k, q⟩
    · rw [q] at e; cases e
    · rw [q] at e
      dsimp only at e
      rw [hne] at e
      simp only [Bool.false_eq_true, if_false] at e
      have e' : SetTable.probe.go t (fun _ => h + 1) h (fuel + (r + 1)) { j := j + 1, more := r, i := i, perturb := p, dummy := none } = none := e
      exact ⟨(by rw [q]; intro z; cases z), (ih fuel (j + 1) i p e').2⟩
theorem go_none {t : SetTable} {m n : Nat} (T : Tidy t m n) {h : Int} : ∀ (F i p : Nat), SetTable.probe.go t (fun _ => h + 1) h (10 * F) { j := i, more := SetTable.runEnd t.mask i - i, i := i, perturb := p, dummy := none } = none →
    ∀ k, k < F → t.slot (lp t.mask k (i, p)).1 ≠ .empty
  | 0, _, _, _, k, hk => absurd hk (Nat.not_lt_zero k)
  | F + 1, i, p, e, k, hk => by
    have h9 := runEnd_nine t.mask i
    have ef : 10 * (F + 1) = (10 * F + (9 - (SetTable.runEnd t.mask i - i))) + ((SetTable.runEnd t.mask i - i) + 1) := by omega
    rw [ef] at e
    obtain ⟨h1, h2⟩ := go_run T _ _ _ _ _ e
    cases k with
    | zero => exact h1
    | succ k => exact go_none T F _ _ (go_mono _ _ _ h2) k (by omega)
theorem go_empty {t : SetTable} {m n : Nat} (T : Tidy t m n) {h : Int} : ∀ (fuel : Nat) (p : SetTable.Probe) (M : SetTable.Met), p.dummy = none → p.j + p.more < 2 ^ m → SetTable.probe.go t (fun _ => h + 1) h fuel p = some M → ∃ j, M = .empty j none ∧ j < 2 ^ m ∧ j ∉ t.place.toList
  | 0, _, _, _, _, e => by cases e
  | fuel + 1, p, M, hd, hj, e => by
    have hne : ((h + 1) == h) = false := beq_false_of_ne (by omega)
    have pos : 0 < 2 ^ m := Nat.two_pow_pos m
    unfold SetTable.probe.go at e
    by_cases q : p.j ∈ t.place.toList
    · obtain ⟨i, ei⟩ := (slot_tidy T p.j).2 q
      rw [ei] at e
      dsimp only at e
      rw [hne] at e
      simp only [Bool.false_eq_true, if_false] at e
      refine go_empty T fuel _ M ?_ ?_ e
      · unfold SetTable.advance
        split
        · exact hd
        · exact hd
      · unfold SetTable.advance
        split
        · show p.j + 1 + (p.more - 1) < _; omega
        · show (SetTable.leap t.mask p.i p.perturb).1 + (SetTable.runEnd t.mask (SetTable.leap t.mask p.i p.perturb).1 - (SetTable.leap t.mask p.i p.perturb).1) < _
          have hl : (SetTable.leap t.mask p.i p.perturb).1 < 2 ^ m := by
            show (p.i * 5 + 1 + p.perturb / 32) % (t.mask + 1) < _
            rw [T.mask, show 2 ^ m - 1 + 1 = 2 ^ m by omega]; exact Nat.mod_lt _ pos
          have h1 := runEnd_le (mask := t.mask) (i := (SetTable.leap t.mask p.i p.perturb).1) (by have := T.mask; omega)
          have h2 := runEnd_ge t.mask (SetTable.leap t.mask p.i p.perturb).1
          have h3 := T.mask
          omega
    · rw [(slot_tidy T p.j).1 q] at e
      dsimp only at e
      rw [hd] at e
      exact ⟨p.j, (Option.some.inj e).symm, by omega, q⟩
theorem freeSlot_ok {t : SetTable} {m n : Nat} (T : Tidy t m n) (h : Int) : ∃ j, t.freeSlot h = some (j, false) ∧ j < 2 ^ m ∧ j ∉ t.place.toList := by
  have pos : 0 < 2 ^ m := Nat.two_pow_pos m
  have hi : SetTable.bits h % (t.mask + 1) < 2 ^ m := by rw [T.mask, show 2 ^ m - 1 + 1 = 2 ^ m by omega]; exact Nat.mod_lt _ pos
  have hr1 := runEnd_le (mask := t.mask) (i := SetTable.bits h % (t.mask + 1)) (by rw [T.mask] at *; omega)
  have hr2 := runEnd_ge t.mask (SetTable.bits h % (t.mask + 1))
  unfold SetTable.freeSlot
  cases e : t.probe (fun _ => h + 1) h (t.probeStart h) with
  | some M =>
    obtain ⟨j, rfl, h1, h2⟩ := go_empty T _ _ M rfl (by
      show SetTable.bits h % (t.mask + 1) + (SetTable.runEnd t.mask (SetTable.bits h % (t.mask + 1)) - SetTable.bits h % (t.mask + 1)) < 2 ^ m
      have := T.mask
      omega) e
    exact ⟨j, rfl, h1, h2⟩
  | none =>
    exfalso
    obtain ⟨j, hj, hn⟩ := pigeon (T.rise.imp fun h => Nat.ne_of_lt h) (2 ^ m) (by rw [Array.length_toList, T.size]; exact T.room)
    have tm := T.mask
    obtain ⟨k, hk, ek⟩ := met m (i := SetTable.bits h % (t.mask + 1)) (p := SetTable.bits h) hi (bits_lt h) hj
    rw [← tm] at hk ek
    exact go_none T _ _ _ e k hk (by rw [ek]; exact (slot_tidy T j).1 hn)
theorem insert_rise {xs : List Nat} (hr : xs.Pairwise (· < ·)) {j i : Nat} (P : Part xs j i) (hj : j ∉ xs) : (xs.take i ++ j :: xs.drop i).Pairwise (· < ·) := by
  refine List.pairwise_append.mpr ⟨hr.sublist (List.take_sublist _ _), List.pairwise_cons.mpr ⟨fun a ha => ?_, hr.sublist (List.drop_sublist _ _)⟩, fun a ha b hb => ?_⟩
  · obtain ⟨k, hk, e⟩ := List.getElem_of_mem ha
    rw [List.getElem_drop] at e
    have hl : i + k < xs.length := by rw [List.length_drop] at hk; omega
    have h1 := P.hi (i + k) hl (by omega)
    have h2 : a ≠ j := fun q => hj (by rw [← q, ← e]; exact List.getElem_mem ..)
    rw [e] at h1; omega
  · obtain ⟨k, hk, e⟩ := List.getElem_of_mem ha
    rw [List.getElem_take] at e
    rw [List.length_take] at hk
    have h1 := P.lo k (by omega) (by omega)
    rw [e] at h1
    rcases List.mem_cons.mp hb with q | q
    · rw [q]; exact h1
    · obtain ⟨k2, hk2, e2⟩ := List.getElem_of_mem q
      rw [List.getElem_drop] at e2
      have hl : i + k2 < xs.length := by rw [List.length_drop] at hk2; omega
      have h2 := P.hi (i + k2) hl (by omega)
      rw [e2] at h2; omega
theorem layNew_ok {t : SetTable} {m n : Nat} (T : Tidy t m n) (es : Array (Int × Value)) (he : es.size = n) (h : Int) (x : Value) (hr : n + 1 < 2 ^ m) :
    ∃ (es' : Array (Int × Value)) (t' : SetTable), layNew t es h x = (es', t', false, false) ∧ Tidy t' m (n + 1) ∧ es'.toList.Perm (es.toList ++ [(h, x)]) ∧ t'.led = t.led := by
  obtain ⟨j, e1, hj, hn⟩ := freeSlot_ok T h
  have P := below_ok T.rise j
  have T' : Tidy (t.put j).1 m (n + 1) := by
    unfold SetTable.put
    refine ⟨T.mask, ?_, ?_, ?_, ?_, T.plain, hr⟩
    · show (SetTable.insertAt t.place (SetTable.below t.place j) j).size = n + 1
      rw [← Array.length_toList, SetTable.toList_insertAt, List.length_append, List.length_cons, List.length_take, List.length_drop]
      have := P.le
      have := T.size
      rw [Array.length_toList] at *
      omega
    · show (SetTable.insertAt t.place (SetTable.below t.place j) j).toList.Pairwise _
      rw [SetTable.toList_insertAt]
      exact insert_rise T.rise P hn
    · intro a ha
      have ha' : a ∈ (SetTable.insertAt t.place (SetTable.below t.place j) j).toList := ha
      rw [SetTable.toList_insertAt] at ha'
      rcases List.mem_append.mp ha' with q | q
      · exact T.lt a (List.mem_of_mem_take q)
      · rcases List.mem_cons.mp q with z | z
        · rw [z]; exact hj
        · exact T.lt a (List.mem_of_mem_drop z)
    · show (if SetTable.has t.dummies j then _ else t.dummies) = #[]
      rw [T.dum, has_nil]; rfl
  have hs : (SetTable.insertAt es (t.put j).2 (h, x)).size = n + 1 := by
    rw [← Array.length_toList, (SetTable.insertAt_perm es (t.put j).2 (h, x)).length_eq, Array.length_toList, Array.size_push, he]
  refine ⟨SetTable.insertAt es (t.put j).2 (h, x), (t.put j).1, ?_, T', ?_, rfl⟩
  · unfold layNew
    rw [e1]
    show (SetTable.insertAt es (t.put j).2 (h, x), (t.put j).1.orStandIn (SetTable.insertAt es (t.put j).2 (h, x)).size, false, !(t.put j).1.fits (SetTable.insertAt es (t.put j).2 (h, x)).size) = _
    rw [hs, T'.fits]
    unfold SetTable.orStandIn
    rw [if_pos T'.fits]; rfl
  · have := SetTable.insertAt_perm es (t.put j).2 (h, x)
    rw [Array.toList_push] at this
    exact this
theorem not_full {t : SetTable} {m n : Nat} (T : Tidy t m n) (h : n * 5 < (2 ^ m - 1) * 3) : t.tooFull = false := by
  unfold SetTable.tooFull
  rw [T.fill, T.mask]
  exact decide_eq_false (by omega)
theorem sizeAbove_pow (n : Nat) (h : n < 4096) : ∃ m, 3 ≤ m ∧ m ≤ 12 ∧ SetTable.sizeAbove n = 2 ^ m ∧ n < 2 ^ m ∧ (8 ≤ n → 2 ^ m ≤ 2 * n) := by
  have key : ∀ (f k : Nat), k + f = 12 → (k = 3 ∨ 2 ^ k ≤ 2 * n) → 3 ≤ k → ∀ g, f ≤ g → ∃ m, 3 ≤ m ∧ m ≤ 12 ∧ SetTable.sizeAbove.go n g (2 ^ k) = 2 ^ m ∧ n < 2 ^ m ∧ (8 ≤ n → 2 ^ m ≤ 2 * n) := by
    intro f
    induction f with
    | zero =>
      intro k hk hc h3 g hg
      have : k = 12 := by omega
      subst this
      refine ⟨12, by decide, by decide, ?_, by omega, fun h8 => ?_⟩
      · cases g with
        | zero => rfl
        | succ g => unfold SetTable.sizeAbove.go; rw [if_neg (by omega)]
      · rcases hc with q | q
        · omega
        · exact q
    | succ f ih =>
      intro k hk hc h3 g hg
      cases g with
      | zero => omega
      | succ g =>
        unfold SetTable.sizeAbove.go
        by_cases hl : 2 ^ k ≤ n
        · rw [if_pos hl, ← Nat.pow_succ]
          exact ih (k + 1) (by omega) (.inr (by rw [Nat.pow_succ]; omega)) (by omega) g (by omega)
        · rw [if_neg hl]
          refine ⟨k, h3, by omega, rfl, by omega, fun h8 => ?_⟩
          rcases hc with q | q
          · subst q; omega
          · exact q
  exact key 9 3 rfl (.inl rfl) (by decide) 64 (by decide)
end EvS
end
section
set_option Elab.async false
set_option linter.all false
set_option maxRecDepth 100000
set_option maxHeartbeats 2000000
namespace EvS
open PySem PySem.Spec PyProof.Rows
noncomputable def bt (w : World) : Bool := w.params.followText "set-order"
noncomputable def keyOf (e : Int × Value) : Int := match e.2 with
  | .int k _ => k
  | _ => 0
noncomputable def keysOf (l : List (Int × Value)) : List Int := l.map keyOf
noncomputable abbrev hs (prog : Program) (w : World) (k : Int) : Int := (intKind prog w).hash k
noncomputable def AllInt (prog : Program) (w : World) (l : List (Int × Value)) : Prop := ∀ e ∈ l, ∃ k t, e = (hs prog w k, Value.int k t)
structure SetAt (prog : Program) (w : World) (h : Heap) (a : Addr) (es : Array (Int × Value)) (ep : Nat) (t : SetTable) (m : Nat) : Prop where
  obj : h.get? a = some { cls := .type "set", dict := none, data := .set es ep t, slots := #[] }
  tidy : Tidy t m es.size
  led : t.led = !bt w
  alli : AllInt prog w es.toList
  nd : (keysOf es.toList).Nodup
  small : es.size ≤ 2000
  mle : m ≤ 12
  m3 : 3 ≤ m
section
variable {prog : Program} {w : World} {A : Around} {E : Value → Shared → Prop} {s : Shared} {a : Addr} {es : Array (Int × Value)} {ep m : Nat} {t : SetTable}
theorem AllInt.elems {l : List (Int × Value)} (h : AllInt prog w l) : ElemsOf (intKind prog w) l := fun e he => by
  obtain ⟨k, t, rfl⟩ := h e he
  exact ⟨⟨k, intKind_is _ _ _ _, rfl⟩, rfl⟩
theorem is_int {k k' : Int} {t : Tok} : (intKind prog w).is k (.int k' t) = decide (k = k') := KeyKind.is_eq_decide (intKind_is prog w k' t) k
theorem mem_keys {l : List (Int × Value)} (h : AllInt prog w l) {k : Int} : k ∈ keysOf l ↔ ∃ e ∈ l, (intKind prog w).is k e.2 = true := by
  constructor
  · intro hk
    obtain ⟨e, he, q⟩ := List.mem_map.mp hk
    obtain ⟨k', t', rfl⟩ := h e he
    have q' : k' = k := q
    subst q'
    exact ⟨_, he, intKind_is _ _ _ _⟩
  · intro ⟨e, he, q⟩
    obtain ⟨k', t', rfl⟩ := h e he
    rw [is_int] at q
    have q' := of_decide_eq_true q
    subst q'
    exact List.mem_map.mpr ⟨_, he, rfl⟩
theorem SetAt.same {h h' : Heap} (S : SetAt prog w h a es ep t m) (k : ∀ o, h.get? a = some o → h'.get? a = some o) : SetAt prog w h' a es ep t m := ⟨k _ S.obj, S.tidy, S.led, S.alli, S.nd, S.small, S.mle, S.m3⟩
theorem SetAt.fresh (h : Heap) (led : Bool) (hl : led = !bt w) : SetAt prog w (h.push { cls := .type "set", dict := none, data := .set #[] 0 (.fresh 0 0 led) }) h.objs.size #[] 0 (.fresh 0 0 led) 3 :=
  ⟨Heap.get?_push_size _ rfl, ⟨rfl, rfl, .nil, (fun _ h => nomatch h), rfl, rfl, by decide⟩, hl, (fun _ h => nomatch h), .nil, by decide, by decide, by decide⟩
theorem put_get {h : Heap} {es' : Array (Int × Value)} {t' : SetTable} (ho : h.get? a = some { cls := .type "set", dict := none, data := .set es ep t, slots := #[] }) :
    (h.update a (Obj.putSet es' t')).get? a = some { cls := .type "set", dict := none, data := .set es' (ep + 1) t', slots := #[] } := by
  have := Heap.get?_update_self (Obj.putSet es' t') ho (by rw [putSet_of es' t' rfl]; rfl)
  rw [putSet_of es' t' rfl] at this; exact this
theorem set_add {k : Int} {tk : Tok} {Q : Bool → Shared → Prop} (S : SetAt prog w s.heap a es ep t m) (hr : (es.size + 1) * 5 < (2 ^ m - 1) * 3) (hsm : es.size + 1 ≤ 2000)
    (h : ∀ b h' es' ep' t', Heap.SameBut a s.heap h' → SetAt prog w h' a es' ep' t' m → (k ∈ keysOf es.toList → es' = es) → (k ∉ keysOf es.toList → (keysOf es'.toList).Perm (keysOf es.toList ++ [k])) → Q b { s with heap := h' }) :
    wpAny (model prog w) A (setAddHashed a (.int k tk) (hs prog w k)) Q E s := by
  have hel := S.alli.elems
  have hb : es.size < scanBound := by have := S.small; unfold scanBound; omega
  have hf := S.tidy.fits
  unfold setAddHashed setAddHashedIn
  refine wpAny_holding (wpAny_bind (wpAny_setState_of S.obj rfl hf ?_))
  dsimp only
  rw [byScan_of rfl hb hel]
  simp only [↓reduceIte]
  unfold setAddByScan
  refine wpAny_bind ?_
  refine wpAny_bind (wpAny_rule ?_)
  refine wpAny_bind (wpAny_setScan_of (knd := intKind prog w) (k := k) (intKind_is _ _ _ _) S.obj rfl hf hel ?_)
  cases hr2 : List.findIdx? (fun e => (intKind prog w).is k e.2) es.toList with
  | some j =>
    dsimp only
    obtain ⟨hj, hpj, _⟩ := List.findIdx?_eq_some_iff_getElem.mp hr2
    have hk : k ∈ keysOf es.toList := (mem_keys S.alli).mpr ⟨es.toList[j], List.getElem_mem hj, hpj⟩
    refine wpAny_pure (wpAny_pure ?_)
    have e : s = { s with heap := s.heap } := by cases s; rfl
    rw [e]
    exact h _ s.heap es ep t (Heap.SameBut.refl a s.heap) S (fun _ => rfl) fun z => absurd hk z
  | none =>
    dsimp only
    have hk : k ∉ keysOf es.toList := fun z => by
      obtain ⟨e, he, hp⟩ := (mem_keys S.alli).mp z
      have := List.findIdx?_eq_none_iff.mp hr2 e he
      rw [hp] at this; exact Bool.noConfusion this
    have hrm : es.size + 1 < 2 ^ m := by omega
    obtain ⟨es', t', el, T', pm, ld⟩ := layNew_ok S.tidy es rfl (hs prog w k) (.int k tk) hrm
    have el' : layNew t es ((intKind prog w).hash k) (.int k tk) = (es', t', false, false) := el
    rw [el']
    dsimp only
    have hsz : es'.size = es.size + 1 := by rw [← Array.length_toList, pm.length_eq, List.length_append, Array.length_toList]; rfl
    have hgw : ∀ {s₁ : Shared} {Q' : Unit → Shared → Prop}, Q' () s₁ → wpAny (model prog w) A (match false with | true => rule "set.scan.the-table-gave-way" | false => pure ()) Q' E s₁ := fun hq => wpAny_pure hq
    refine wpAny_bind (hgw ?_)
    rw [T'.plain]
    simp only [↓reduceIte]
    refine wpAny_bind ?_
    rw [hashByValue_scannable 8 (show (Value.int k tk).scannable = true from rfl)]
    refine wpAny_pure ?_
    show wpAny _ _ (storeSet a es' t' >>= _) _ _ s
    refine wpAny_bind (wpAny_storeSet_of S.obj rfl ?_ (by rw [hsz, sizeLine_eq]; omega))
    have nf : t'.tooFull = false := not_full T' hr
    have pk : plainKind (Value.int k tk) = true := rfl
    simp only [pk, ↓reduceIte, nf, Bool.not_false, Bool.and_false, Bool.false_eq_true]
    have pmk : (keysOf es'.toList).Perm (keysOf es.toList ++ [k]) := by
      have := pm.map keyOf
      rw [List.map_append] at this
      exact this
    refine wpAny_pure (wpAny_pure (h _ _ es' (ep + 1) t' (Heap.SameBut.update ..) ⟨put_get S.obj, by rw [hsz]; exact T', ld.trans S.led, fun e he => ?_, ?_, by omega, S.mle, S.m3⟩ (fun z => absurd z hk) fun _ => pmk))
    · rcases List.mem_append.mp (pm.mem_iff.mp he) with q | q
      · exact S.alli e q
      · exact ⟨k, tk, List.mem_singleton.mp q⟩
    · refine pmk.nodup_iff.mpr (List.nodup_append.mpr ⟨S.nd, List.nodup_cons.mpr ⟨by simp, .nil⟩, fun x hx y hy e => ?_⟩)
      rw [List.mem_singleton.mp hy] at e
      exact hk (by rw [← e]; exact hx)
noncomputable def roomMask (mask n more : Nat) : Nat := if (n + more) * 5 ≥ mask * 3 then SetTable.sizeAbove ((n + more) * 2) - 1 else mask
theorem set_room {more : Nat} {Q : Unit → Shared → Prop} (S : SetAt prog w s.heap a es ep t m) (hb : es.size + more ≤ 1000)
    (h : ∀ h' es' ep' t' m', Heap.SameBut a s.heap h' → SetAt prog w h' a es' ep' t' m' → es'.toList.Perm es.toList → (es.size + more) * 5 < (2 ^ m' - 1) * 3 → 2 ^ m' - 1 = roomMask (2 ^ m - 1) es.size more → Q () { s with heap := h' }) :
    wpAny (model prog w) A (setRoomFor a more) Q E s := by
  have hf := S.tidy.fits
  have h8 : 8 ≤ 2 ^ m := by
    have := Nat.pow_le_pow_right (show 0 < 2 by decide) S.m3
    simpa using this
  unfold setRoomFor
  refine wpAny_bind (wpAny_setState_of S.obj rfl hf ?_)
  dsimp only
  have er : t.roomFor more = if (es.size + more) * 5 ≥ (2 ^ m - 1) * 3 then some ((es.size + more) * 2) else none := by
    unfold SetTable.roomFor
    rw [S.tidy.fill, S.tidy.size, S.tidy.mask]
  rw [er]
  by_cases hc : (es.size + more) * 5 ≥ (2 ^ m - 1) * 3
  · rw [if_pos hc]
    dsimp only
    obtain ⟨m', h3, h12, e1, e2, e3⟩ := sizeAbove_pow ((es.size + more) * 2) (by omega)
    have hle : m' ≤ 12 := h12
    have h4096 : 2 ^ m' ≤ 4096 := by
      have := Nat.pow_le_pow_right (show 0 < 2 by decide) hle
      simpa using this
    unfold setRelay
    refine wpAny_bind (wpAny_setState_of S.obj rfl hf ?_)
    dsimp only
    rw [if_neg (by rw [e1, sizeLine_eq]; omega)]
    have hms : (es.map (·.1)).size = es.size := Array.size_map ..
    have relE : t.relaid (es.map (·.1)) ((es.size + more) * 2) = SetTable.laid (2 ^ m' - 1) t.finger (t.movedTo (2 ^ m' - 1)) t.led t.plain (es.map (·.1)) := by
      unfold SetTable.relaid; rw [e1]
    obtain ⟨place, order, el, p1, p2, p3, p4⟩ := laid_ok m' t.finger (t.movedTo (2 ^ m' - 1)) t.led t.plain (es.map (·.1)) (by rw [hms]; omega)
    rw [relE, el]
    rw [hms] at p1 p4
    have pes : (order.filterMap (es[·]?)).toList.Perm es.toList := by
      rw [Array.toList_filterMap]
      exact (p4.filterMap _).trans (by rw [filterMap_getElem?_range])
    have sz : (order.filterMap (es[·]?)).size = es.size := by rw [← Array.length_toList, pes.length_eq, Array.length_toList]
    show wpAny _ _ ((if ((order.filterMap (es[·]?)).size != es.size) = true then (do let _ ← unsupported "internal:set-table-lost-an-element"; pure (order.filterMap (es[·]?), _)) else pure (order.filterMap (es[·]?), _)) >>= _) _ _ _
    rw [if_neg (by rw [sz]; simp)]
    refine wpAny_bind (wpAny_pure ?_)
    dsimp only
    refine wpAny_storeSet_of S.obj rfl ?_ (by rw [sz, sizeLine_eq]; have := S.small; omega)
    have pk := pes.map keyOf
    refine h _ _ (ep + 1) _ m' (Heap.SameBut.update ..) ⟨put_get S.obj, ⟨rfl, by rw [sz]; exact p1, p2, p3, rfl, S.tidy.plain, by rw [sz]; omega⟩, S.led, fun e he => S.alli e (pes.mem_iff.mp he), pk.nodup_iff.mpr S.nd, by rw [sz]; exact S.small, hle, h3⟩ pes (by omega) ?_
    unfold roomMask
    rw [if_pos hc, e1]
  · rw [if_neg hc]
    dsimp only
    have e : s = { s with heap := s.heap } := by cases s; rfl
    rw [e]
    refine wpAny_pure (h s.heap es ep t m (Heap.SameBut.refl a s.heap) S (.refl _) (by omega) ?_)
    unfold roomMask
    rw [if_neg hc]
end
end EvS
end
section
set_option Elab.async false
set_option linter.all false
set_option maxRecDepth 100000
set_option maxHeartbeats 2000000
namespace EvS
open PySem PySem.Spec PyProof.Rows
theorem keys_len (es : Array (Int × Value)) : (keysOf es.toList).length = es.size := by unfold keysOf; rw [List.length_map, Array.length_toList]
noncomputable def Has (prog : Program) (w : World) (h : Heap) (a : Addr) (S : Int → Prop) (n : Nat) : Prop :=
  ∃ es ep t m, SetAt prog w h a es ep t m ∧ (∀ k, k ∈ keysOf es.toList ↔ S k) ∧ es.size ≤ n
noncomputable def Fill (prog : Program) (w : World) (h : Heap) (a : Addr) (S : Int → Prop) (n N : Nat) : Prop :=
  ∃ es ep t m, SetAt prog w h a es ep t m ∧ (∀ k, k ∈ keysOf es.toList ↔ S k) ∧ es.size ≤ n ∧ N * 5 < (2 ^ m - 1) * 3 ∧ N ≤ 1000
section
variable {prog : Program} {w : World} {A : Around} {E : Value → Shared → Prop} {s : Shared} {a o : Addr} {S R : Int → Prop} {n N : Nat}
theorem Fill.has {h : Heap} (F : Fill prog w h a S n N) : Has prog w h a S n := let ⟨es, ep, t, m, x, y, z, _⟩ := F; ⟨es, ep, t, m, x, y, z⟩
theorem Has.imp {h : Heap} {n' : Nat} (F : Has prog w h a S n) (e : ∀ k, S k ↔ R k) (hn : n ≤ n') : Has prog w h a R n' := let ⟨es, ep, t, m, x, y, z⟩ := F; ⟨es, ep, t, m, x, fun k => (y k).trans (e k), Nat.le_trans z hn⟩
theorem Fill.imp {h : Heap} {n' : Nat} (F : Fill prog w h a S n N) (e : ∀ k, S k ↔ R k) (hn : n ≤ n') : Fill prog w h a R n' N := let ⟨es, ep, t, m, x, y, z, r⟩ := F; ⟨es, ep, t, m, x, fun k => (y k).trans (e k), Nat.le_trans z hn, r⟩
theorem Has.same {h h' : Heap} (F : Has prog w h a S n) (k : ∀ ob, h.get? a = some ob → h'.get? a = some ob) : Has prog w h' a S n := let ⟨es, ep, t, m, x, y⟩ := F; ⟨es, ep, t, m, x.same k, y⟩
theorem fill_add {k : Int} {tk : Tok} {Q : Bool → Shared → Prop} (F : Fill prog w s.heap a S n N) (hn : n + 1 ≤ N)
    (h : ∀ b h', Heap.SameBut a s.heap h' → Fill prog w h' a (fun u => S u ∨ u = k) (n + 1) N → Q b { s with heap := h' }) :
    wpAny (model prog w) A (setAddHashed a (.int k tk) (hs prog w k)) Q E s := by
  obtain ⟨es, ep, t, m, SA, hk, hz, hN, hb⟩ := F
  refine set_add SA (by omega) (by omega) fun b h' es' ep' t' sb SA' c1 c2 => h b h' sb ⟨es', ep', t', m, SA', fun u => ?_, ?_, hN, hb⟩
  · by_cases q : k ∈ keysOf es.toList
    · rw [c1 q, hk]; exact ⟨.inl, fun z => z.elim id fun e => by rw [e]; exact (hk k).mp q⟩
    · rw [(c2 q).mem_iff, List.mem_append, hk, List.mem_singleton]
  · by_cases q : k ∈ keysOf es.toList
    · rw [c1 q]; omega
    · have := (c2 q).length_eq
      rw [List.length_append, keys_len, keys_len] at this
      simp at this; omega
theorem has_room {more : Nat} {Q : Unit → Shared → Prop} (F : Has prog w s.heap a S n) (hb : n + more ≤ 1000)
    (h : ∀ h' n', n' ≤ n → Heap.SameBut a s.heap h' → Fill prog w h' a S n' (n' + more) → Q () { s with heap := h' }) : wpAny (model prog w) A (setRoomFor a more) Q E s := by
  obtain ⟨es, ep, t, m, SA, hk, hz⟩ := F
  refine set_room SA (by omega) fun h' es' ep' t' m' sb SA' pm hr _ => h h' es.size hz sb ⟨es', ep', t', m', SA', fun k => ?_, ?_, hr, by omega⟩
  · rw [← hk]; exact (pm.map keyOf).mem_iff
  · have := pm.length_eq
    rw [Array.length_toList, Array.length_toList] at this; omega
theorem fill_all {β : Type} {ob : Obj} {l : List β} {Q : PUnit → Shared → Prop} (key : β → Int) (f : β → PUnit → Sem (ForInStep PUnit)) (hne : o ≠ a) (hl : n + l.length ≤ N)
    (hf : ∀ x ∈ l, ∃ tk, ∀ (s' : Shared) (Q' : ForInStep PUnit → Shared → Prop), s'.heap.get? o = some ob → wpAny (model prog w) A (setAddHashed a (.int (key x) tk) (hs prog w (key x))) (fun _ s'' => s''.heap.get? o = some ob ∧ Q' (.yield ⟨⟩) s'') E s' → wpAny (model prog w) A (f x ⟨⟩) Q' E s')
    (ho : s.heap.get? o = some ob) (F : Fill prog w s.heap a S n N)
    (h : ∀ h', Heap.SameBut a s.heap h' → Fill prog w h' a (fun u => S u ∨ u ∈ l.map key) (n + l.length) N → Q ⟨⟩ { s with heap := h' }) : wpAny (model prog w) A (forIn l PUnit.unit f) Q E s := by
  induction l generalizing s S n with
  | nil =>
    rw [List.forIn_nil]
    have e : s = { s with heap := s.heap } := by cases s; rfl
    rw [e]
    exact wpAny_pure (h s.heap (Heap.SameBut.refl a s.heap) (F.imp (fun k => by simp) (Nat.le_refl _)))
  | cons x l ih =>
    rw [List.forIn_cons]
    rw [List.length_cons] at hl
    refine wpAny_bind ?_
    obtain ⟨tk, k⟩ := hf x (.head _)
    refine k s _ ho (fill_add F (by omega) fun b h' sb F' => ?_)
    have ho' : h'.get? o = some ob := by rw [sb.2 o hne]; exact ho
    refine ⟨ho', ih (s := { s with heap := h' }) (n := n + 1) (by omega) (fun y hy => hf y (.tail _ hy)) ho' F' fun h'' sb' F'' => h h'' (sb.trans sb') (F''.imp (fun k => ?_) (by rw [List.length_cons]; omega))⟩
    rw [List.map_cons, List.mem_cons, or_assoc]
theorem erase_perm {α : Type} : ∀ {l : List α} {i : Nat} (h : i < l.length), (l[i] :: l.eraseIdx i).Perm l
  | x :: l, 0, _ => .refl _
  | x :: l, i + 1, h => by
    have h' : i < l.length := by simpa using h
    show (l[i] :: x :: l.eraseIdx i).Perm (x :: l)
    exact (List.Perm.swap x l[i] _).trans (List.Perm.cons x (erase_perm h'))
theorem pick_go (next : Nat → Nat) : ∀ (fuel k : Nat) (left : List (Int × Value)) (out : Array (Int × Value)), left.length = fuel → (pickOrder.go next fuel k left out).toList.Perm (out.toList ++ left)
  | 0, k, left, out, e => by
    have : left = [] := List.length_eq_zero_iff.mp e
    subst this
    unfold pickOrder.go; simp
  | fuel + 1, k, left, out, e => by
    have hlt : next k % left.length < left.length := Nat.mod_lt _ (by omega)
    unfold pickOrder.go
    rw [List.getElem?_eq_getElem hlt]
    dsimp only
    refine (pick_go next fuel (k + 1) _ _ (by rw [List.length_eraseIdx_of_lt hlt]; omega)).trans ?_
    rw [Array.toList_push, List.append_assoc]
    exact List.Perm.append_left _ (erase_perm hlt)
theorem pick_perm (next : Nat → Nat) (es : Array (Int × Value)) : (pickOrder next es).toList.Perm es.toList := by
  have := pick_go next es.size 0 es.toList #[] (by rw [Array.length_toList])
  simpa [pickOrder] using this
noncomputable def walkOf (w : World) (a : Addr) (ep : Nat) (es : Array (Int × Value)) : Array (Int × Value) := if bt w = true then pickOrder (w.params.setOrder a ep) es else es
theorem walkOf_perm (w : World) (a : Addr) (ep : Nat) (es : Array (Int × Value)) : (walkOf w a ep es).toList.Perm es.toList := by
  unfold walkOf; split
  · exact pick_perm _ _
  · exact .refl _
variable {es : Array (Int × Value)} {ep m : Nat} {t : SetTable}
theorem byText {Q : Bool → Shared → Prop} (h : Q (bt w) s) : wpAny (model prog w) A setsByText Q E s := by
  unfold setsByText
  exact wpAny_bind (wpAny_askSetting (wpAny_pure h))
theorem set_walk {Q : Array (Int × Value) → Shared → Prop} (SA : SetAt prog w s.heap a es ep t m) (h : Q (walkOf w a ep es) s) : wpAny (model prog w) A (setWalk a) Q E s := by
  unfold setWalk
  refine wpAny_bind (wpAny_setState_of SA.obj rfl SA.tidy.fits ?_)
  dsimp only
  refine wpAny_bind (byText ?_)
  unfold walkOf at h
  by_cases hb : bt w = true
  · rw [if_pos hb] at h ⊢
    exact wpAny_bind (wpAny_askSetting (wpAny_pure h))
  · rw [if_neg hb] at h ⊢
    have hled : t.led = true := by rw [SA.led]; simpa using hb
    have e1 : (!t.plain && decide (es.size > 1)) = false := by rw [SA.tidy.plain]; rfl
    show wpAny _ _ (if (!t.plain && decide (es.size > 1)) = true then _ else _) _ _ _
    rw [e1, if_neg Bool.false_ne_true]
    show wpAny _ _ ((if (!t.led && decide (es.size > 1)) = true then _ else _) >>= _) _ _ _
    rw [hled]
    exact wpAny_bind (wpAny_pure (wpAny_pure h))
theorem set_walkUnseen {others : List Addr} {filled : Option Addr} {Q : Array (Int × Value) → Shared → Prop} (SA : SetAt prog w s.heap a es ep t m) (h : Q (walkOf w a ep es) s) : wpAny (model prog w) A (setWalkUnseen a others filled) Q E s := by
  unfold setWalkUnseen
  refine wpAny_bind (wpAny_setState_of SA.obj rfl SA.tidy.fits ?_)
  dsimp only
  refine wpAny_bind (byText ?_)
  have e : (bt w || (t.led && t.plain) || decide (es.size ≤ 1)) = true := by
    rw [SA.led, SA.tidy.plain]; cases bt w <;> rfl
  rw [e, if_pos rfl]
  first | exact set_walk SA h | exact wpAny_bind (set_walk SA (wpAny_pure h))
end
end EvS
end
section
set_option Elab.async false
set_option linter.all false
set_option maxRecDepth 100000
set_option maxHeartbeats 2000000
namespace EvS
open PySem
section
variable {prog : Program} {w : World} {A : Around} {E : Value → Shared → Prop} {s : Shared} {a o : Addr} {es es0 : Array (Int × Value)} {ep m ep0 m0 : Nat} {t t0 : SetTable}
theorem SetAt.other {h h' : Heap} (G : SetAt prog w h o es ep t m) (sb : Heap.SameBut a h h') (hne : a ≠ o) : SetAt prog w h' o es ep t m := G.same fun ob q => by rw [sb.2 o (Ne.symm hne)]; exact q
theorem size_perm {x y : Array (Int × Value)} (p : x.toList.Perm y.toList) : x.size = y.size := by have := p.length_eq; simpa using this
theorem merge_empty {each : Sem Unit} {Q : Unit → Shared → Prop} (F : SetAt prog w s.heap a es0 ep0 t0 m0) (h0 : es0.size = 0) (G : SetAt prog w s.heap o es ep t m) (hne : a ≠ o) (hb : es.size ≤ 1000)
    (h : ∀ h' es' ep' t' m', Heap.SameBut a s.heap h' → SetAt prog w h' a es' ep' t' m' → es'.toList.Perm es.toList → Q () { s with heap := h' }) : wpAny (model prog w) A (setMerge a o each) Q E s := by
  unfold setMerge
  rw [if_neg (by simpa using hne)]
  refine wpAny_bind (wpAny_setState_of G.obj rfl G.tidy.fits ?_)
  dsimp only
  by_cases he : es.isEmpty = true
  · rw [if_pos he]
    have e : s = { s with heap := s.heap } := by cases s; rfl
    have e1 : es0 = #[] := Array.eq_empty_of_size_eq_zero h0
    have e2 : es = #[] := by simpa using he
    rw [e]
    refine wpAny_pure (h s.heap es0 ep0 t0 m0 (Heap.SameBut.refl a s.heap) F (by rw [e1, e2]))
  · rw [if_neg he]
    refine wpAny_bind (set_room F (by omega) fun h1 es1 ep1 t1 m1 sb F1 pm hr _ => ?_)
    have G1 := G.other sb hne
    refine wpAny_bind (wpAny_setState_of (s := { s with heap := h1 }) F1.obj rfl F1.tidy.fits ?_)
    dsimp only
    have h10 : es1.size = 0 := by rw [size_perm pm, h0]
    have hpl : (t1.plain && t.plain) = true := by rw [F1.tidy.plain, G.tidy.plain]; rfl
    have hld : (t1.led && t.led) = !bt w := by rw [F1.led, G.led]; cases bt w <;> rfl
    by_cases hc : (t1.mask == t.mask && t.dummies.isEmpty) = true
    · have rd : t1.road t = .slotForSlot := by unfold SetTable.road; rw [F1.tidy.fill, h10, hc]; rfl
      rw [rd]
      dsimp only
      refine wpAny_storeSet_of F1.obj rfl ?_ (by rw [sizeLine_eq]; omega)
      exact h _ es (ep1 + 1) _ m (sb.trans (Heap.SameBut.update ..)) ⟨put_get F1.obj, ⟨G.tidy.mask, G.tidy.size, G.tidy.rise, G.tidy.lt, G.tidy.dum, hpl, G.tidy.room⟩, hld, G.alli, G.nd, G.small, G.mle, G.m3⟩ (.refl _)
    · have rd : t1.road t = .clean := by
        unfold SetTable.road
        rw [F1.tidy.fill, h10, if_neg (by decide), if_neg hc]
      rw [rd]
      dsimp only
      have hms : (es.map (·.1)).size = es.size := Array.size_map ..
      obtain ⟨place, order, el, p1, p2, p3, p4⟩ := laid_ok m1 t1.finger t1.moves (t1.led && t.led) (t1.plain && t.plain) (es.map (·.1)) (by rw [hms]; rw [h0] at hr; omega)
      rw [F1.tidy.mask, el]
      rw [hms] at p1 p4
      have pes : (order.filterMap (es[·]?)).toList.Perm es.toList := by
        rw [Array.toList_filterMap]
        exact (p4.filterMap _).trans (by rw [filterMap_getElem?_range])
      have sz : (order.filterMap (es[·]?)).size = es.size := size_perm pes
      show wpAny _ _ ((if ((order.filterMap (es[·]?)).size != es.size) = true then (do let _ ← unsupported "internal:set-table-lost-an-element"; pure (order.filterMap (es[·]?), _)) else pure (order.filterMap (es[·]?), _)) >>= _) _ _ _
      rw [if_neg (by rw [sz]; simp)]
      refine wpAny_bind (wpAny_pure ?_)
      dsimp only
      refine wpAny_storeSet_of F1.obj rfl ?_ (by rw [sz, sizeLine_eq]; omega)
      have pk := pes.map keyOf
      exact h _ _ (ep1 + 1) _ m1 (sb.trans (Heap.SameBut.update ..)) ⟨put_get F1.obj, ⟨rfl, by rw [sz]; exact p1, p2, p3, rfl, hpl, by rw [sz]; rw [h0] at hr; omega⟩, hld, fun e he => G.alli e (pes.mem_iff.mp he), pk.nodup_iff.mpr G.nd, by rw [sz]; exact G.small, F1.mle, F1.m3⟩ pes
theorem merge_more {each : Sem Unit} {Q : Unit → Shared → Prop} (F : SetAt prog w s.heap a es0 ep0 t0 m0) (h0 : es0.size ≠ 0) (G : SetAt prog w s.heap o es ep t m) (hne : a ≠ o) (hb : es0.size + es.size ≤ 1000)
    (heach : ∀ (s' : Shared) (Q' : Unit → Shared → Prop), s'.heap.get? o = some { cls := .type "set", dict := none, data := .set es ep t, slots := #[] } → Q' () s' → wpAny (model prog w) A each Q' E s')
    (h : ∀ h', Heap.SameBut a s.heap h' → Has prog w h' a (fun u => u ∈ keysOf es0.toList ∨ u ∈ keysOf es.toList) (es0.size + es.size) → Q () { s with heap := h' }) : wpAny (model prog w) A (setMerge a o each) Q E s := by
  unfold setMerge
  rw [if_neg (by simpa using hne)]
  refine wpAny_bind (wpAny_setState_of G.obj rfl G.tidy.fits ?_)
  dsimp only
  by_cases he : es.isEmpty = true
  · rw [if_pos he]
    have e : s = { s with heap := s.heap } := by cases s; rfl
    have e2 : es = #[] := by simpa using he
    rw [e]
    refine wpAny_pure (h s.heap (Heap.SameBut.refl a s.heap) ⟨es0, ep0, t0, m0, F, fun k => ?_, by omega⟩)
    rw [e2]
    exact ⟨.inl, fun z => z.elim id fun z => nomatch z⟩
  · rw [if_neg he]
    refine wpAny_bind (set_room F (by omega) fun h1 es1 ep1 t1 m1 sb F1 pm hr _ => ?_)
    have G1 := G.other sb hne
    refine wpAny_bind (wpAny_setState_of (s := { s with heap := h1 }) F1.obj rfl F1.tidy.fits ?_)
    dsimp only
    have h10 : es1.size = es0.size := size_perm pm
    have rd : t1.road t = .oneByOne := by
      unfold SetTable.road
      rw [F1.tidy.fill, h10, if_pos (by simpa using h0)]
    rw [rd]
    dsimp only
    refine wpAny_bind (set_walkUnseen (s := { s with heap := h1 }) G1 ?_)
    refine wpAny_bind ?_
    rw [← Array.forIn_toList]
    have pw := walkOf_perm w o ep es
    have lw : (walkOf w o ep es).toList.length = es.size := by rw [pw.length_eq, Array.length_toList]
    refine fill_all (S := fun u => u ∈ keysOf es0.toList) (n := es0.size) (N := es0.size + es.size) (ob := { cls := .type "set", dict := none, data := .set es ep t, slots := #[] }) keyOf _ (Ne.symm hne) (by rw [lw]; exact Nat.le_refl _) (fun x hx => ?_) G1.obj
      ⟨es1, ep1, t1, m1, F1, fun k => (pm.map keyOf).mem_iff, by omega, hr, hb⟩ fun h2 sb2 F2 => ?_
    · obtain ⟨k, tk, rfl⟩ := G.alli x (pw.mem_iff.mp hx)
      refine ⟨tk, fun s' Q' ho hq => ?_⟩
      dsimp only
      refine wpAny_bind (wpAny_holding (wpAny_mono hq (fun b s'' ⟨ho'', hq''⟩ => ?_) fun _ _ z => z))
      refine wpAny_bind (heach s'' _ ho'' ?_)
      refine wpAny_bind (wpAny_setState_of ho'' rfl G.tidy.fits ?_)
      dsimp only
      rw [if_neg (by simp)]
      exact wpAny_pure hq''
    · refine wpAny_pure (h h2 (sb.trans sb2) (F2.has.imp (fun k => ?_) (by rw [lw]; exact Nat.le_refl _)))
      exact or_congr Iff.rfl (pw.map keyOf).mem_iff
end
end EvS
end
section
set_option Elab.async false
set_option linter.all false
set_option maxRecDepth 100000
set_option maxHeartbeats 2000000
namespace EvS
open PySem
theorem sub_dict_set : isSubtype (.type "dict") (.type "set") = pure false := by rw [isSubtype_type]; kernel_rfl
theorem sub_dict_fs : isSubtype (.type "dict") (.type "frozenset") = pure false := by rw [isSubtype_type]; kernel_rfl
theorem sub_set_set : isSubtype (.type "set") (.type "set") = pure true := by rw [isSubtype_type]; kernel_rfl
theorem entry_set_or : entryFor table "set.__or__" = some Builtin.«frozenset.__or__» := entryFor_alias (id' := "frozenset.__or__") (by kernel_rfl) rfl (by decide +kernel) (by kernel_rfl)
section
variable {prog : Program} {w : World} {A : Around} {E : Value → Shared → Prop} {s : Shared} {a d o : Addr} {es es0 : Array (Int × Value)} {ep m ep0 m0 : Nat} {t t0 : SetTable}
theorem SetAt.typeIs {s : Shared} (SA : SetAt prog w s.heap a es ep t m) : s.TypeIs (.ref a) "set" := ⟨_, SA.obj, rfl⟩
theorem anyset_dict {Q : Bool → Shared → Prop} (hT : s.TypeIs (.ref d) "dict") (h : Q false s) : wpAny (model prog w) A (Builtin.Frozenset.isAnySet (.ref d)) Q E s := by
  unfold Builtin.Frozenset.isAnySet
  refine wpAny_bind (wpAny_isInstance hT sub_dict_set ?_)
  show wpAny _ _ (isInstance (.ref d) (.type "frozenset")) _ _ _
  exact wpAny_isInstance hT sub_dict_fs h
theorem anyset_set {Q : Bool → Shared → Prop} (hT : s.TypeIs (.ref a) "set") (h : Q true s) : wpAny (model prog w) A (Builtin.Frozenset.isAnySet (.ref a)) Q E s := by
  unfold Builtin.Frozenset.isAnySet
  refine wpAny_bind (wpAny_isInstance hT sub_set_set ?_)
  exact wpAny_pure h
theorem newSet_at {Q : Value → Shared → Prop} (h : Q (.ref s.heap.objs.size) { s with heap := s.heap.push { cls := .type "set", dict := none, data := .set #[] 0 (.fresh 0 0 (!bt w)) } }) : wpAny (model prog w) A (newSet (.type "set")) Q E s := by
  unfold newSet
  refine wpAny_bind (byText ?_)
  dsimp only
  simp only [newObj]
  exact wpAny_bind (wpAny_alloc (wpAny_pure h))
theorem from_dict {id : String} {od : Obj} {des : Array DictEntry} {dep : Nat} {ks : List Int} {Q : Unit → Shared → Prop} (hd : (d == sysModules) = false) (hT : s.TypeIs (.ref d) "dict") (ho : s.heap.get? d = some od) (hdat : od.data = .dict des dep)
    (hne : d ≠ a) (hl : des.size = ks.length) (hks : ∀ (i : Nat) (e : DictEntry), des[i]? = some e → ∃ k tk, ks[i]? = some k ∧ e.key = .int k tk ∧ e.hash = hs prog w k)
    (F : SetAt prog w s.heap a es0 ep0 t0 m0) (h0 : es0.size = 0) (hb : ks.length ≤ 1000)
    (h : ∀ h', Heap.SameBut a s.heap h' → Has prog w h' a (fun u => u ∈ ks) ks.length → Q () { s with heap := h' }) : wpAny (model prog w) A (Builtin.Frozenset.updateFrom id a (.ref d)) Q E s := by
  unfold Builtin.Frozenset.updateFrom
  refine wpAny_bind (anyset_dict hT ?_)
  rw [if_neg Bool.false_ne_true]
  refine wpAny_bind (wpAny_typeOf hT ?_)
  rw [if_pos (by decide)]
  refine wpAny_bind (wpAny_rule ?_)
  refine wpAny_bind (m := Builtin.Frozenset.addrOf (.ref d)) (wpAny_pure ?_)
  dsimp only
  rw [if_neg (by rw [hd]; exact Bool.false_ne_true)]
  refine wpAny_bind (wpAny_dictEpoch ho hdat ?_)
  refine wpAny_bind (wpAny_dictEntries ho hdat ?_)
  have e0 : es0 = #[] := Array.eq_empty_of_size_eq_zero h0
  refine wpAny_bind (has_room (S := fun _ => False) (n := 0) ⟨es0, ep0, t0, m0, F, fun k => by rw [e0]; exact ⟨fun z => (nomatch z), False.elim⟩, by omega⟩ (by omega) fun h1 n' hn' sb F1 => ?_)
  have n0 : n' = 0 := by omega
  subst n0
  rw [Nat.zero_add] at F1
  have ho1 : h1.get? d = some od := by rw [sb.2 d hne]; exact ho
  refine wpAny_bind (wpAny_dictEntries (s := { s with heap := h1 }) ho1 hdat ?_)
  refine wpAny_bind ?_
  rw [Std.Legacy.Range.forIn_eq_forIn_range']
  have er : List.range' (Std.Legacy.Range.mk 0 des.size 1 (by decide)).start (Std.Legacy.Range.mk 0 des.size 1 (by decide)).size (Std.Legacy.Range.mk 0 des.size 1 (by decide)).step = List.range' 0 des.size 1 := by
    unfold Std.Legacy.Range.size; simp
  rw [er]
  refine fill_all (a := a) (o := d) (ob := od) (S := fun _ => False) (n := 0) (N := des.size) (fun i => ks.getD i 0) _ hne (by rw [List.length_range']; omega) (fun i hi => ?_) ho1 F1 fun h2 sb2 F2 => ?_
  · have hi' : i < des.size := by simpa using hi
    obtain ⟨k, tk, e1, e2, e3⟩ := hks i des[i] (by simp [hi'])
    refine ⟨tk, fun s' Q' ho' hq => ?_⟩
    have e4 : ks.getD i 0 = k := by rw [List.getD_eq_getElem?_getD, e1]; rfl
    rw [e4] at hq
    refine wpAny_bind (wpAny_dictEntries ho' hdat ?_)
    rw [Array.getElem?_eq_getElem hi']
    dsimp only
    rw [e2, e3]
    refine wpAny_bind (wpAny_holding (wpAny_mono hq (fun b s'' ⟨ho'', hq''⟩ => ?_) fun _ _ z => z))
    refine wpAny_bind (wpAny_dictEpoch ho'' hdat ?_)
    rw [if_neg (by simp)]
    exact wpAny_pure hq''
  · refine wpAny_pure (h h2 (sb.trans sb2) (F2.has.imp (fun k => ?_) (by rw [List.length_range']; omega)))
    rw [false_or]
    constructor
    · intro z
      obtain ⟨i, hi, rfl⟩ := List.mem_map.mp z
      have hi' : i < ks.length := by rw [← hl]; simpa using hi
      show ks.getD i 0 ∈ ks
      rw [List.getD_eq_getElem?_getD, List.getElem?_eq_getElem hi']
      exact List.getElem_mem hi'
    · intro z
      obtain ⟨i, hi, rfl⟩ := List.getElem_of_mem z
      refine List.mem_map.mpr ⟨i, by simp; omega, ?_⟩
      show ks.getD i 0 = _
      rw [List.getD_eq_getElem?_getD, List.getElem?_eq_getElem hi]; rfl
theorem set_or {Q : Value → Shared → Prop} (F : SetAt prog w s.heap a es0 ep0 t0 m0) (h0 : es0.size ≠ 0) (G : SetAt prog w s.heap o es ep t m) (hne : a ≠ o) (hb : es0.size + es.size ≤ 1000)
    (h : ∀ h', (∀ b ob, s.heap.get? b = some ob → h'.get? b = some ob) → Has prog w h' s.heap.objs.size (fun u => u ∈ keysOf es0.toList ∨ u ∈ keysOf es.toList) (es0.size + es.size) → Q (.ref s.heap.objs.size) { s with heap := h' }) :
    wpAny (model prog w) A (binaryOp .BitOr (.ref a) (.ref o)) Q E s := by
  refine wpAny_binaryOp_same (op := .BitOr) (T := "set") F.typeIs G.typeIs PySem.F.fills_set_or PySem.F.slot_set_or (wpAny_call_entry PySem.F.slot_set_or F.typeIs entry_set_or ?_ (PySem.F.args_set_or_2 _ _))
  unfold Builtin.«frozenset.__or__»
  wp_delta
  refine wpAny_bind (wpAny_of_eq (a := (Value.ref a, Value.ref o)) (by rfl) ?_)
  show wpAny _ _ ((Builtin.Frozenset.isAnySet (.ref a) <&&> Builtin.Frozenset.isAnySet (.ref o)) >>= _) _ _ _
  refine wpAny_bind (wpAny_bind (anyset_set F.typeIs ?_))
  show wpAny _ _ (Builtin.Frozenset.isAnySet (.ref o)) _ _ _
  refine anyset_set G.typeIs ?_
  rw [if_neg (by decide)]
  refine wpAny_bind (m := Builtin.Frozenset.addrOf (.ref a)) (wpAny_pure ?_)
  refine wpAny_bind ?_
  wp_delta
  refine wpAny_bind ?_
  unfold Builtin.Frozenset.copyOf Builtin.Frozenset.baseOf
  refine wpAny_bind (wpAny_bind (wpAny_isInstance F.typeIs sub_set_set (wpAny_pure ?_)))
  rw [if_pos rfl]
  refine wpAny_bind (newSet_at ?_)
  refine wpAny_bind (m := Builtin.Frozenset.addrOf (.ref s.heap.objs.size)) (wpAny_pure ?_)
  have N := SetAt.fresh (prog := prog) (w := w) s.heap (!bt w) rfl
  have na : s.heap.objs.size ≠ a := Nat.ne_of_gt (Heap.lt_size F.obj)
  have no : s.heap.objs.size ≠ o := Nat.ne_of_gt (Heap.lt_size G.obj)
  refine wpAny_bind (merge_empty (s := { s with heap := s.heap.push _ }) N rfl (F.same fun ob q => Heap.get?_push_of_some _ q) na (by omega) fun h1 es1 ep1 t1 m1 sb1 F1 pm => ?_)
  have s1 : es1.size = es0.size := size_perm pm
  have G1 : SetAt prog w h1 o es ep t m := (G.same fun ob q => Heap.get?_push_of_some _ q).other sb1 no
  refine wpAny_pure ?_
  rw [if_pos (by simp; exact Ne.symm hne)]
  refine wpAny_bind (m := Builtin.Frozenset.addrOf (.ref s.heap.objs.size)) (wpAny_pure ?_)
  refine wpAny_bind (wpAny_holding ?_)
  unfold Builtin.Frozenset.updateFrom
  refine wpAny_bind (anyset_set (s := { s with heap := h1 }) G1.typeIs ?_)
  rw [if_pos rfl]
  refine wpAny_bind (m := Builtin.Frozenset.addrOf (.ref o)) (wpAny_pure ?_)
  unfold Builtin.Frozenset.merge
  refine wpAny_bind (wpAny_setEpoch_of (s := { s with heap := h1 }) G1.obj rfl G1.tidy.fits ?_)
  refine merge_more (s := { s with heap := h1 }) F1 (by omega) G1 no (by omega) (fun s' Q' ho' hq => ?_) fun h2 sb2 H2 => ?_
  · unfold Builtin.Frozenset.unchanged
    refine wpAny_bind (wpAny_setEpoch_of ho' rfl G1.tidy.fits ?_)
    rw [if_neg (by simp)]
    exact wpAny_pure hq
  · refine wpAny_pure (wpAny_pure ⟨_, rfl, (by intro q; cases q), h h2 (fun b ob q => ?_) (H2.imp (fun k => or_congr (pm.map keyOf).mem_iff Iff.rfl) (by omega))⟩)
    have hb' : b ≠ s.heap.objs.size := Nat.ne_of_lt (Heap.lt_size q)
    rw [sb2.2 b hb', sb1.2 b hb']
    exact Heap.get?_push_of_some _ q
end
end EvS
end
section
set_option Elab.async false
set_option linter.all false
set_option maxRecDepth 100000
set_option maxHeartbeats 2000000
namespace EvS
open PySem
theorem slot_next : Slot "set_iterator" "__next__" "set_iterator.__next__" :=
  .of (owner := "set_iterator") (n := "__next__") (by rw [typeLookup_type, builtinLookup_eq_fast]; kernel_rfl) (by decide +kernel) (by decide +kernel) (by decide +kernel) (by first | exact .inl (by decide +kernel) | exact .inr (by decide +kernel)) (by rw [isSubtype_type]; kernel_rfl)
theorem entry_next : entryFor table "set_iterator.__next__" = some Builtin.«set_iterator.__next__» := entryFor_of_tree (by kernel_rfl)
theorem args_next (a : Value) : argsOk "set_iterator.__next__" ⟨[a], []⟩ := by unfold argsOk; kernel_rfl
theorem entry_iter : entryFor table "set.__iter__" = some Builtin.«frozenset.__iter__» := entryFor_alias (id' := "frozenset.__iter__") (by kernel_rfl) rfl (by decide +kernel) (by kernel_rfl)
noncomputable def IterAt (h : Heap) (it d : Addr) (slot i n ep : Nat) : Prop := ∃ o, h.get? it = some o ∧ o.cls = .type "set_iterator" ∧ o.data = .fields #[.int slot 0, .int i 0, .ref d, .int n 0, .int ep 0]
theorem below_zero {xs : Array Nat} (hr : xs.toList.Pairwise (· < ·)) : SetTable.below xs 0 = 0 := (below_ok hr 0).uniq ⟨Nat.zero_le _, fun k _ hk => absurd hk (Nat.not_lt_zero _), fun k _ _ => Nat.zero_le _⟩
theorem below_next {xs : Array Nat} (hr : xs.toList.Pairwise (· < ·)) {i : Nat} (hi : i < xs.toList.length) : SetTable.below xs (xs.toList[i] + 1) = i + 1 := (below_ok hr _).uniq ⟨hi, fun k hk hki => by
    rcases Nat.lt_or_ge k i with q | q
    · have := rise_lt hr hi q; omega
    · have e : k = i := by omega
      subst e; omega, fun k hk hki => by have := rise_lt hr hk (show i < k by omega); omega⟩
section
variable {prog : Program} {w : World} {A : Around} {E : Value → Shared → Prop} {s : Shared} {it d : Addr} {es : Array (Int × Value)} {ep m slot i : Nat} {t : SetTable}
noncomputable def SlotOk (w : World) (t : SetTable) (slot i : Nat) : Prop := bt w = true ∨ SetTable.below t.place slot = i
theorem walk_size (w : World) (a : Addr) (ep : Nat) (es : Array (Int × Value)) : (walkOf w a ep es).size = es.size := size_perm (walkOf_perm w a ep es)
theorem set_next {Q : Option (Value × Nat) → Shared → Prop} (SA : SetAt prog w s.heap d es ep t m) (so : SlotOk w t slot i) (hi : i < es.size)
    (h : ∀ e next, (walkOf w d ep es)[i]? = some e → SlotOk w t next (i + 1) → Q (some (e.2, next)) s) : wpAny (model prog w) A (setNext d slot i ep) Q E s := by
  unfold setNext
  refine wpAny_bind (wpAny_setState_of SA.obj rfl SA.tidy.fits ?_)
  dsimp only
  refine wpAny_bind (byText ?_)
  by_cases hb : bt w = true
  · rw [if_pos hb, if_neg (by simp)]
    refine wpAny_bind (set_walk SA ?_)
    have hi' : i < (walkOf w d ep es).size := by rw [walk_size]; exact hi
    have e1 : (walkOf w d ep es)[i]? = some (walkOf w d ep es)[i] := Array.getElem?_eq_getElem hi'
    rw [e1]
    exact wpAny_pure (h _ slot e1 (.inl hb))
  · rw [if_neg hb]
    have hled : t.led = true := by rw [SA.led]; simpa using hb
    have e1 : (!t.plain && decide (es.size > 1)) = false := by rw [SA.tidy.plain]; rfl
    show wpAny _ _ (if (!t.plain && decide (es.size > 1)) = true then _ else _) _ _ _
    rw [e1, if_neg Bool.false_ne_true]
    show wpAny _ _ ((if (!t.led && !es.isEmpty) = true then _ else _) >>= _) _ _ _
    rw [hled]
    refine wpAny_bind (wpAny_pure ?_)
    have ei : SetTable.below t.place slot = i := so.resolve_left hb
    have hp : i < t.place.toList.length := by rw [Array.length_toList, SA.tidy.size]; exact hi
    have e2 : es[i]? = some es[i] := Array.getElem?_eq_getElem hi
    have e3 : t.place[i]? = some t.place.toList[i] := by rw [← Array.getElem?_toList]; exact List.getElem?_eq_getElem hp
    rw [ei, e2, e3]
    have hw : walkOf w d ep es = es := by unfold walkOf; rw [if_neg hb]
    exact wpAny_pure (h es[i] _ (by rw [hw]; exact e2) (.inr (below_next SA.tidy.rise hp)))
theorem set_next_end {Q : Option (Value × Nat) → Shared → Prop} (SA : SetAt prog w s.heap d es ep t m) (so : SlotOk w t slot i) (hi : es.size ≤ i) (h : Q none s) : wpAny (model prog w) A (setNext d slot i ep) Q E s := by
  unfold setNext
  refine wpAny_bind (wpAny_setState_of SA.obj rfl SA.tidy.fits ?_)
  dsimp only
  refine wpAny_bind (byText ?_)
  by_cases hb : bt w = true
  · rw [if_pos hb, if_neg (by simp)]
    refine wpAny_bind (set_walk SA ?_)
    rw [Array.getElem?_eq_none (by rw [walk_size]; exact hi)]
    exact wpAny_pure h
  · rw [if_neg hb]
    have hled : t.led = true := by rw [SA.led]; simpa using hb
    have e1 : (!t.plain && decide (es.size > 1)) = false := by rw [SA.tidy.plain]; rfl
    show wpAny _ _ (if (!t.plain && decide (es.size > 1)) = true then _ else _) _ _ _
    rw [e1, if_neg Bool.false_ne_true]
    show wpAny _ _ ((if (!t.led && !es.isEmpty) = true then _ else _) >>= _) _ _ _
    rw [hled]
    refine wpAny_bind (wpAny_pure ?_)
    have ei : SetTable.below t.place slot = i := so.resolve_left hb
    rw [ei, Array.getElem?_eq_none hi]
    exact wpAny_pure h
theorem IterAt.typeIs {s : Shared} {n : Nat} (x : IterAt s.heap it d slot i n ep) : s.TypeIs (.ref it) "set_iterator" := let ⟨o, ho, hc, _⟩ := x; ⟨o, ho, hc⟩
theorem iter_item {Q : Option Value → Shared → Prop} (hit : IterAt s.heap it d slot i es.size ep) (SA : SetAt prog w s.heap d es ep t m) (so : SlotOk w t slot i) (hi : i < es.size)
    (hQ : ∀ e next h', (walkOf w d ep es)[i]? = some e → SlotOk w t next (i + 1) → IterAt h' it d next (i + 1) es.size ep → Heap.SameBut it s.heap h' → Q (some e.2) { s with heap := h' }) : wpAny (model prog w) A (pyNext (.ref it)) Q E s := by
  obtain ⟨o, ho, hc, hd⟩ := id hit
  unfold pyNext
  refine wpAny_bind (wpAny_attempt (wpAny_callSpecial?_slot (name := Str.ofString "__next__") hit.typeIs slot_next (wpAny_call_entry slot_next hit.typeIs entry_next ?_ (args_next _))))
  unfold Builtin.«set_iterator.__next__»
  refine wpAny_bind (m := slotArgs "__next__" 0 _) (wpAny_pure ?_)
  refine wpAny_bind (wpAny_fieldsOf ho hd ?_)
  dsimp only
  refine wpAny_bind (wpAny_setEntries_of SA.obj rfl SA.tidy.fits ?_)
  rw [if_neg (by simp)]
  try dsimp only
  rw [Int.toNat_natCast, Int.toNat_natCast, Int.toNat_natCast]
  refine wpAny_bind (set_next SA so hi fun e next he hn => ?_)
  dsimp only
  refine wpAny_bind (wpAny_setField ho hd (by simp) ?_)
  have ho1 : (s.heap.update it (Obj.mapFields (·.setIfInBounds 0 (rawInt next)))).get? it = some (o.mapFields (·.setIfInBounds 0 (rawInt next))) := Heap.get?_update_self _ ho (Obj.isFreed_of_fields (Obj.data_mapFields hd _))
  have hd1 := Obj.data_mapFields hd (·.setIfInBounds 0 (rawInt next))
  refine wpAny_bind (wpAny_setField (s := { s with heap := s.heap.update it (Obj.mapFields (·.setIfInBounds 0 (rawInt next))) }) ho1 hd1 (by simp) ?_)
  refine wpAny_pure ⟨_, rfl, wpAny_pure (hQ e next _ he hn ⟨_, Heap.get?_update_self _ ho1 (Obj.isFreed_of_fields (Obj.data_mapFields hd1 _)), ((Obj.cls_mapFields ..).trans (Obj.cls_mapFields ..)).trans hc, ?_⟩ ((Heap.SameBut.update ..).trans (Heap.SameBut.update ..)))⟩
  rw [Obj.data_mapFields hd1]
  simp [rawInt]
theorem iter_end {Q : Option Value → Shared → Prop} (hh : A.handled = none) (hit : IterAt s.heap it d slot i es.size ep) (SA : SetAt prog w s.heap d es ep t m) (so : SlotOk w t slot i) (hi : es.size ≤ i)
    (hQ : ∀ h', Heap.ExtBut it s.heap h' → Q none { s with heap := h' }) : wpAny (model prog w) A (pyNext (.ref it)) Q E s := by
  obtain ⟨o, ho, hc, hd⟩ := id hit
  unfold pyNext
  refine wpAny_bind (wpAny_attempt (wpAny_callSpecial?_slot (name := Str.ofString "__next__") hit.typeIs slot_next (wpAny_call_entry slot_next hit.typeIs entry_next ?_ (args_next _))))
  unfold Builtin.«set_iterator.__next__»
  refine wpAny_bind (m := slotArgs "__next__" 0 _) (wpAny_pure ?_)
  refine wpAny_bind (wpAny_fieldsOf ho hd ?_)
  dsimp only
  refine wpAny_bind (wpAny_setEntries_of SA.obj rfl SA.tidy.fits ?_)
  rw [if_neg (by simp)]
  try dsimp only
  rw [Int.toNat_natCast, Int.toNat_natCast, Int.toNat_natCast]
  refine wpAny_bind (set_next_end SA so hi ?_)
  dsimp only
  refine wpAny_bind (wpAny_setField ho hd (by simp) ?_)
  show wpAny _ _ (newExc (.type "StopIteration") [] >>= _) _ _ _
  refine wpAny_bind ?_
  simp only [newExc, newTuple]
  refine wpAny_bind (wpAny_newObj_type ?_ (by size_fits)); refine wpAny_bind (m := firstArgMember _ _) (wpAny_of_eq (a := Value.none) (by first | rfl | (simp only [firstArgMember]; rfl)) ?_)
  refine wpAny_newObj_type ?_ (by size_fits); simp only [raiseNew]
  refine wpAny_bind (wpAny_handled ?_); rw [show A.in1.handled = none from hh]
  refine wpAny_bind (wpAny_pure (wpAny_throw ?_))
  refine wpAny_bind (wpAny_isInstance (T := "StopIteration") (b := true) ⟨_, Heap.get?_push_size _ rfl, rfl⟩ isSubtype_stop ?_)
  exact wpAny_pure (hQ _ (((Heap.SameBut.update ..).extBut.push _).push _))
end
end EvS
end
section
set_option Elab.async false
set_option linter.all false
set_option maxRecDepth 100000
set_option maxHeartbeats 4000000
namespace EvS
open PySem
theorem slot_self : Slot "set_iterator" "__iter__" "set_iterator.__iter__" :=
  .of (owner := "set_iterator") (n := "__iter__") (by rw [typeLookup_type, builtinLookup_eq_fast]; kernel_rfl) (by decide +kernel) (by decide +kernel) (by decide +kernel) (by first | exact .inl (by decide +kernel) | exact .inr (by decide +kernel)) (by rw [isSubtype_type]; kernel_rfl)
theorem entry_self : entryFor table "set_iterator.__iter__" = some Builtin.«dict_keyiterator.__iter__» := entryFor_alias (id' := "dict_keyiterator.__iter__") (by kernel_rfl) rfl (by decide +kernel) (by kernel_rfl)
theorem args_self (a : Value) : argsOk "set_iterator.__iter__" ⟨[a], []⟩ := by unfold argsOk; kernel_rfl
section
variable {prog : Program} {w : World} {A : Around} {E : Value → Shared → Prop} {s : Shared} {it d : Addr} {es : Array (Int × Value)} {ep m slot i : Nat} {t : SetTable}
theorem iter_self {n : Nat} {Q : Value → Shared → Prop} (hit : IterAt s.heap it d slot i n ep) (h : Q (.ref it) s) : wpAny (model prog w) A (pyIter (.ref it)) Q E s := by
  refine wpAny_pyIter_slot hit.typeIs slot_self (wpAny_call_entry slot_self hit.typeIs entry_self ?_ (args_self _))
  show wpAny _ _ (ret (.ref it)) _ _ s
  exact wpAny_pure ⟨_, rfl, "set_iterator", _, hit.typeIs, slot_next.lookup, h⟩
theorem iter_set {Q : Value → Shared → Prop} (SA : SetAt prog w s.heap d es ep t m)
    (hQ : Q (.ref s.heap.objs.size) { s with heap := s.heap.push { cls := .type "set_iterator", data := .fields #[.int 0 0, .int 0 0, .ref d, .int es.size 0, .int ep 0] } }) : wpAny (model prog w) A (pyIter (.ref d)) Q E s := by
  refine wpAny_pyIter_slot SA.typeIs PySem.F.slot_set_iter (wpAny_call_entry PySem.F.slot_set_iter SA.typeIs entry_iter ?_ (PySem.F.args_set_iter_1 _))
  unfold Builtin.«frozenset.__iter__» Builtin.Frozenset.sizeOf setDrawn
  refine wpAny_bind (wpAny_of_eq (a := d) (by rfl) ?_)
  refine wpAny_bind (wpAny_bind (wpAny_setEntries_of SA.obj rfl SA.tidy.fits (wpAny_pure ?_)))
  refine wpAny_bind (wpAny_bind (wpAny_setState_of SA.obj rfl SA.tidy.fits ?_))
  dsimp only
  refine wpAny_bind (byText (wpAny_pure ?_))
  have e1 : (!bt w && (!t.plain && decide (es.size > 1))) = false := by rw [SA.tidy.plain]; cases bt w <;> rfl
  show wpAny _ _ (if (!bt w && (!t.plain && decide (es.size > 1))) = true then _ else _) _ _ _
  rw [e1, if_neg Bool.false_ne_true]
  first | refine wpAny_bind (wpAny_pure ?_) | refine wpAny_pure ?_
  refine wpAny_bind (wpAny_setEpoch_of SA.obj rfl SA.tidy.fits ?_)
  refine wpAny_bind (wpAny_newObj_type (wpAny_pure ⟨_, rfl, "set_iterator", _, ⟨_, Heap.get?_push_size _ rfl, rfl⟩, slot_next.lookup, ?_⟩))
  simpa [rawInt] using hQ
theorem IterAt.at {h h' : Heap} {n : Nat} (x : IterAt h it d slot i n ep) (e : ∀ o, h.get? it = some o → h'.get? it = some o) : IterAt h' it d slot i n ep := let ⟨o, ho, r⟩ := x; ⟨o, e _ ho, r⟩
theorem set_walks (hh : A.handled = none) (I d : Addr) (hne : d ≠ I) (es : Array (Int × Value)) (ep m : Nat) (t : SetTable) :
    Walks prog w A I [I, d] [I] es.size (fun i v => ∃ e, (walkOf w d ep es)[i]? = some e ∧ v = e.2) (fun i h => (∃ slot, IterAt h I d slot i es.size ep ∧ SlotOk w t slot i) ∧ SetAt prog w h d es ep t m) where
  sub := fun b hb => by simp at hb; simp [hb]
  frame := fun _ _ _ st hk => ⟨let ⟨sl, x, y⟩ := st.1; ⟨sl, x.at fun o e => hk I (by simp) o e, y⟩, st.2.same fun o e => hk d (by simp) o e⟩
  item := fun i s Q E hi st hQ => by
    obtain ⟨⟨sl, hit, so⟩, SA⟩ := st
    refine iter_item hit SA so hi fun e next h' he hn hit' hs' => ?_
    exact hQ _ h' s.toks ⟨e, he, rfl⟩ ⟨⟨next, hit', hn⟩, SA.same fun o q => by rw [hs'.2 d hne]; exact q⟩ fun b o hb e => hs'.extBut b o (fun h => hb (by simp [h])) e
  done := fun s Q E st hQ => by
    obtain ⟨⟨sl, hit, so⟩, SA⟩ := st
    exact iter_end hh hit SA so (Nat.le_refl _) fun h' he' => hQ h' s.toks fun b o hb e => he' b o (fun h => hb (by simp [h])) e
  self := fun _ _ _ _ st hQ => let ⟨⟨_, x, _⟩, _⟩ := st; iter_self x hQ
end
theorem typeCall1 (a : Value) : checkTypeCall "set" ⟨[a], []⟩ = pure () := by kernel_rfl
theorem newCall1 (a : Value) : checkBuiltinCall "set.__new__" ⟨[.type "set", a], []⟩ = pure () := by kernel_rfl
section
variable {prog : Program} {w : World} {A : Around} {E : Value → Shared → Prop} {s : Shared}
theorem code_new1 (a : Value) {Q₁ : Value → Shared → Prop} (h : Q₁ (.ref s.heap.objs.size) { s with heap := s.heap.push { cls := .type "set", dict := none, data := .set #[] 0 (.fresh 0 0 (!bt w)) } }) :
    codeAny (model prog w) A (.call (.builtin "set.__new__") ⟨[.type "set", a], []⟩) (wants Q₁ E) s := by
  refine codeAny_of_tree ?_
  show wpAny _ A.in1 (do checkBuiltinCall "set.__new__" ⟨[.type "set", a], []⟩; again (.builtin "set.__new__" ⟨[.type "set", a], []⟩)) _ _ s
  refine wpAny_bind (wpAny_of_eq (newCall1 a) (wpAny_pure ⟨plainId_quiet F.plain_set_new _, codeAny_builtin F.entry_set_new ?_⟩)); rw [Around.under_plainId F.plain_set_new _]
  unfold Builtin.«set.__new__» Builtin.Frozenset.newClass; have hsub := sub_set_self
  obtain ⟨hp, g, dr, tk, os⟩ := s; dsimp only
  wp_walk
  refine wpAny_askSetting (wpAny_pure ?_); dsimp only; simp only [newObj]
  refine wpAny_bind (wpAny_alloc (wpAny_pure ?_)); exact wpAny_pure h
theorem check_init1 {M : Model} {self a : Value} {Q : Unit → Shared → Prop} (hT : s.TypeIs self "set") (hQ : Q () s) : wpAny M A (checkBuiltinCall "set.__init__" ⟨[self, a], []⟩) Q E s := by
  simp only [checkBuiltinCall, kind_set_init, split_set_init, sig_set_init]; refine wpAny_bind (wpAny_isInstance hT sub_set_self ?_)
  simp only [Bool.not_true, Bool.false_eq_true, if_false]; unfold Bind.checkArgs; dsimp only
  refine wpAny_bind (m := Bind.printed "set" true _ _) (PyProof.Rows.printed_name (by decide) ?_); refine wpAny_bind (m := Bind.printed "*" false _ _) (PyProof.Rows.printed_star (self := self) rfl hT fun short => ?_)
  have hrn : (Manifest.Receiver.self == Manifest.Receiver.none) = false := by decide
  have hc : Bind.check ⟨.positional, "set", "*", .self, [⟨"iterable", .posOnly, false⟩]⟩ "set" short 1 [] = pure () := by
    have hk1 : (Manifest.ParamKind.posOnly == Manifest.ParamKind.posOnly) = true := by decide
    have hk2 : (Manifest.ParamKind.posOnly == Manifest.ParamKind.posOrKw) = false := by decide
    have hk3 : (Manifest.ParamKind.posOnly == Manifest.ParamKind.varPos) = false := by decide
    simp [Bind.check, Bind.checkCount, Bind.isPositional, hk1, hk2, hk3]
  have hn : (if (Manifest.Receiver.self == Manifest.Receiver.none) = true then [self, a].length else [self, a].length - 1) = 1 := by simp [hrn]
  rw [hn]; simp only [List.map_nil]; rw [hc]
  exact wpAny_pure hQ
theorem call_set {d : Addr} {od : Obj} {des : Array DictEntry} {dep : Nat} {ks : List Int} {Q : Value → Shared → Prop} (hd : (d == sysModules) = false) (hT : s.TypeIs (.ref d) "dict") (ho : s.heap.get? d = some od) (hdat : od.data = .dict des dep)
    (hl : des.size = ks.length) (hks : ∀ (i : Nat) (e : DictEntry), des[i]? = some e → ∃ k tk, ks[i]? = some k ∧ e.key = .int k tk ∧ e.hash = hs prog w k) (hb : ks.length ≤ 1000)
    (h : ∀ h', (∀ b ob, s.heap.get? b = some ob → h'.get? b = some ob) → Has prog w h' s.heap.objs.size (fun u => u ∈ ks) ks.length → Q (.ref s.heap.objs.size) { s with heap := h' }) : wpAny (model prog w) A (call (.type "set") [.ref d]) Q E s := by
  obtain ⟨c, tl, hmro⟩ := F.called_set.mro
  have hmade := F.called_set.made; have hsub := F.called_set.sub
  refine wpAny_call (codeAny_of_tree ?_)
  show wpAny _ _ (callAny (.type "set") _) _ _ _
  refine wpAny_pure ⟨Code.quiet_builtin _ (by decide +kernel), codeAny_builtin F.entry_type_call ?_⟩; rw [Around.under_plain (weight_type_call_type "set" [.ref d] []) rfl]
  have h1 := F.called_set.notType; have h2 := F.called_set.canCreate; have hct := typeCall1 (.ref d)
  repeat (any_goals (first | assumption | wp_step))
  refine codeAny_mono (code_new1 (.ref d) (E := E) (Q₁ := fun obj s₁ => obj = .ref s.heap.objs.size ∧ s₁ = { s with heap := s.heap.push { cls := .type "set", dict := none, data := .set #[] 0 (.fresh 0 0 (!bt w)) } }) ⟨rfl, rfl⟩) fun r s₁ hr => ?_
  cases r with
  | error e => exact hr
  | ok fl =>
    cases fl with
    | ret obj =>
      obtain ⟨rfl, rfl⟩ := hr
      have N := SetAt.fresh (prog := prog) (w := w) s.heap (!bt w) rfl
      have hTn : Shared.TypeIs { s with heap := s.heap.push { cls := .type "set", dict := none, data := .set #[] 0 (.fresh 0 0 (!bt w)) } } (.ref s.heap.objs.size) "set" := ⟨_, N.obj, rfl⟩
      have hS : (s.heap.push { cls := .type "set", dict := none, data := .set #[] 0 (.fresh 0 0 (!bt w)) }).get? s.heap.objs.size = some { cls := .type "set", dict := none, data := .set #[] 0 (.fresh 0 0 (!bt w)) } := N.obj
      have hli := F.called_set.init.lookup; have hbi := F.called_set.init.bind (.ref s.heap.objs.size)
      repeat (any_goals (first | assumption | wp_step))
      refine codeAny_mono (codeAny_call_builtin (R := wants (fun r s₂ => r = .none ∧ ∃ h', s₂ = { s with heap := h' } ∧ (∀ b ob, s.heap.get? b = some ob → h'.get? b = some ob) ∧ Has prog w h' s.heap.objs.size (fun u => u ∈ ks) ks.length) E) F.called_set.init.plain F.entry_set_init (check_init1 hTn ?_)) fun r₂ s₂ hr₂ => ?_
      · unfold Builtin.«set.__init__» noKeywords
        have ne : d ≠ s.heap.objs.size := Nat.ne_of_lt (Heap.lt_size ho)
        have FD := from_dict (prog := prog) (w := w) (A := A.in1.in1) (E := E) (s := { s with heap := s.heap.push { cls := .type "set", dict := none, data := .set #[] 0 (.fresh 0 0 (!bt w)) } }) (a := s.heap.objs.size) (id := "set.__init__") (ks := ks) (od := od)
          (Q := fun _ s₂ => ∃ h', s₂ = { s with heap := h' } ∧ (∀ b ob, s.heap.get? b = some ob → h'.get? b = some ob) ∧ Has prog w h' s.heap.objs.size (fun u => u ∈ ks) ks.length)
          hd (let ⟨o', e1, e2⟩ := hT; ⟨o', Heap.get?_push_of_some _ e1, e2⟩) (Heap.get?_push_of_some _ ho) hdat ne hl hks N rfl hb fun h' sb H => ⟨h', rfl, fun b ob q => by rw [sb.2 b (Nat.ne_of_lt (Heap.lt_size q))]; exact Heap.get?_push_of_some _ q, H⟩
        generalize hU : Builtin.Frozenset.updateFrom = U at FD ⊢
        wp_walk
        exact wpAny_mono FD (fun _ s₂ hx => wpAny_pure ⟨rfl, hx⟩) fun e s' z => z
      · cases r₂ with
        | error e => exact hr₂
        | ok fl₂ =>
          cases fl₂ with
          | ret r =>
            obtain ⟨rfl, h', rfl, hk, H⟩ := hr₂
            repeat (any_goals (first | assumption | wp_step))
            exact h h' hk H
          | _ => exact hr₂.elim
    | _ => exact hr.elim
end
end EvS
end
section
set_option Elab.async false
set_option linter.all false
set_option maxRecDepth 100000
set_option maxHeartbeats 2000000
namespace EvS
open PySem PySem.Spec PyProof.Rows
section
variable {prog : Program} {w : World} {A : Around} {E : Value → Shared → Prop} {s : Shared} {d : Addr} {es : Array (Int × Value)} {ep m : Nat} {t : SetTable}
theorem hint_set {Q : Bool → Shared → Prop} (hT : s.TypeIs (.ref d) "set") (h : Q false s) : wpAny (model prog w) A (Builtin.List.listLengthHint (.ref d)) Q E s := by
  unfold Builtin.List.listLengthHint
  refine wpAny_bind (wpAny_specialOf hT PySem.F.slot_set_len.lookup ?_)
  generalize hid : ("set.__len__" : String) = id0
  wp_delta
  rw [show splitId id0 = some ("set", "__len__") from by subst hid; decide +kernel]; subst hid
  refine wpAny_bind (wpAny_isInstance (T := "set") (b := true) hT (by rw [isSubtype_type]; kernel_rfl) ?_)
  refine wpAny_ite_split (fun hab => absurd hab (by decide)) (fun _ => ?_); refine wpAny_ite_split (fun _ => ?_) (fun hab => absurd (by decide +kernel) hab)
  refine wpAny_bind (wpAny_typeOf hT ?_); exact wpAny_pure h
theorem kdl_set : PySem.W.KdlSrc prog w "set" d d es.size (fun i v => ∃ e, (walkOf w d ep es)[i]? = some e ∧ v = e.2) (fun h => SetAt prog w h d es ep t m) where
  type := fun _ SA => SA.typeIs
  there := fun _ SA => ⟨Heap.lt_size SA.obj, Heap.lt_size SA.obj⟩
  keep := fun _ _ SA hk => SA.same fun o e => hk d (.inl rfl) o e
  notList := by decide
  notTuple := by decide
  hint := fun _ _ _ _ SA hq => hint_set SA.typeIs hq
  iter := fun A s hh SA => ⟨_, _, (fun _ _ hq => iter_set SA hq), set_walks hh _ d (Nat.ne_of_lt (Heap.lt_size SA.obj)) es ep m t, ⟨⟨0, ⟨_, Heap.get?_push_size _ rfl, rfl, rfl⟩, .inr (below_zero SA.tidy.rise)⟩, SA.same fun o e => Heap.get?_push_of_some _ e⟩⟩
end
end EvS
namespace L2
open PySem PySem.Spec PyProof.Rows
noncomputable def SetO (P : Program) (w : World) (a : Addr) (ks : List Int) : HO := .ext fun h => EvS.Has P w h a (fun u => u ∈ ks) ks.length
theorem setO_ok {P : Program} {w : World} {H : Hp} {h : Heap} {a : Addr} {ks : List Int} (F : EvS.Has P w h a (fun u => u ∈ ks) ks.length) : ObjOk P w H h a (SetO P w a ks) :=
  ⟨F, (let ⟨_, _, _, _, SA, _⟩ := F; ⟨_, SA.obj⟩), fun _ _ F1 k => F1.same k⟩
section
variable {X : Cx} {pins : List (Addr × Obj)} {σ : St} {H : Hp} {s : Shared} {a : Addr} {ks : List Int}
theorem Inv.setAt (I : Inv X pins σ H s) (e : H a = some (SetO X.prog X.w a ks)) : EvS.Has X.prog X.w s.heap a (fun u => u ∈ ks) ks.length := (show ObjOk X.prog X.w H s.heap a (SetO X.prog X.w a ks) from I.hok a _ e).1
end
section
variable {X : Cx}
noncomputable def rSetD (P : Program) (w : World) : List V → Hp → VK → Prop := fun xs H Q => ∃ (d : Addr) (kvs : List (Key × V)) (ns : List Int), xs = [V.ref d] ∧ Rd H d (.dK kvs) ∧ IKeys kvs ns ∧ ns.length ≤ 1000 ∧ ∀ p, H p = none → Q (.ref p) (upd H p (SetO P w p ns))
theorem cr_setD : CallR X (.type "set") (rSetD X.prog X.w) := by
  intro pins s σ H xs us Q I r h
  obtain ⟨d, kvs, ns, rfl, hd, hk, hn, q⟩ := h
  rw [Vals.ref1 r]
  obtain ⟨z, lo, vs, ep, kv, hat⟩ := I.dictAt hd
  obtain ⟨od, des, ho, hex, hdat, hkeys, hp, hnd⟩ := id hat
  have hsz : des.size = vs.length := by rw [← hp.length]; simp
  have hl : kvs.length = vs.length := kv.length
  have hl2 : kvs.length = ns.length := by have := congrArg List.length hk; simpa using this
  refine EvS.call_set (ks := ns) lo hat.dictOf.typeIs ho hdat (by omega) (fun i e he => ?_) hn fun h' hk' F => ?_
  · have hi : i < des.size := (Array.getElem?_eq_some_iff.mp he).1
    obtain ⟨⟨k, x⟩, e1⟩ : ∃ p, vs[i]? = some p := ⟨vs[i]'(by omega), List.getElem?_eq_getElem _⟩
    obtain ⟨n, hn, rfl⟩ := keys_at hk kv e1
    have h1 := (hp.get? (e := e) (by rw [Array.getElem?_toList]; exact he) e1).1
    obtain ⟨tk, ht⟩ := keyInt h1
    obtain ⟨k', h2, h3⟩ := hkeys e (Array.mem_of_getElem? he)
    have e2 := (mixKind X.prog X.w).inj _ _ _ h2 h1
    subst e2
    exact ⟨n, tk, hn, ht, h3⟩
  · exact ⟨.ref _, upd H s.heap.objs.size (SetO X.prog X.w s.heap.objs.size ns), I.laid (t' := s.toks) hk' (Nat.le_refl _) (setO_ok F), rfl, q _ (I.hok.fresh (Nat.le_refl _))⟩
noncomputable def rSetOr (P : Program) (w : World) : R2 := fun x y H Q => ∃ (a b : Addr) (ks ms : List Int), x = .ref a ∧ y = .ref b ∧ a ≠ b ∧ H a = some (SetO P w a ks) ∧ H b = some (SetO P w b ms) ∧ ks ≠ [] ∧ ks.length + ms.length ≤ 1000 ∧
  ∀ p, H p = none → Q (.ref p) (upd H p (SetO P w p (ks ++ ms)))
theorem op_setOr : OpR X (binaryOp .BitOr) (rSetOr X.prog X.w) := by
  intro pins s σ H x y v u Q I rx ry h
  obtain ⟨a, b, ks, ms, rfl, rfl, hne, ha, hb, hks, hl, q⟩ := h
  obtain rfl : v = Value.ref a := rx
  obtain rfl : u = Value.ref b := ry
  obtain ⟨es0, ep0, t0, m0, F, f1, f2⟩ := I.setAt ha
  obtain ⟨es, ep, t, m, G, g1, g2⟩ := I.setAt hb
  have h0 : es0.size ≠ 0 := fun e => by
    have e0 : es0 = #[] := Array.eq_empty_of_size_eq_zero e
    cases ks with
    | nil => exact hks rfl
    | cons k ks =>
      have := (f1 k).mpr (.head _)
      rw [e0] at this
      cases this
  refine EvS.set_or F h0 G hne (by omega) fun h' hk' F' => ?_
  refine ⟨.ref _, upd H s.heap.objs.size (SetO X.prog X.w s.heap.objs.size (ks ++ ms)), I.laid (t' := s.toks) hk' (Nat.le_refl _) (setO_ok (F'.imp (fun k => ?_) (by rw [List.length_append]; omega))), rfl, q _ (I.hok.fresh (Nat.le_refl _))⟩
  rw [List.mem_append]
  exact or_congr (f1 k) (g1 k)
noncomputable def rSortedSet (P : Program) (w : World) : List V → Hp → VK → Prop := fun xs H Q => ∃ (a : Addr) (ks : List Int), xs = [V.ref a] ∧ H a = some (SetO P w a ks) ∧
  ∀ (ms : List Int) (p : Addr), ms.Pairwise (· < ·) → (∀ k, k ∈ ms ↔ k ∈ ks) → ms.length ≤ ks.length → H p = none → Q (.ref p) (upd H p (.lst (ms.map V.int)))
theorem strict_of {ms : List Int} (h : ms.Pairwise (· ≤ ·)) (nd : ms.Nodup) : ms.Pairwise (· < ·) := (h.and nd).imp fun ⟨a, b⟩ => by omega
theorem cr_sortedSet (hc : X.calm = true) : CallR X (.builtin "sorted") (rSortedSet X.prog X.w) := by
  intro pins s σ H xs us Q I r h
  obtain ⟨a, ks, rfl, ha, q⟩ := h
  rw [Vals.ref1 r]
  obtain ⟨es, ep, t, m, SA, f1, f2⟩ := I.setAt ha
  have pw := EvS.walkOf_perm X.w a ep es
  have sw := EvS.walk_size X.w a ep es
  have hz : es.size ≤ sizeLine := by rw [sizeLine_eq]; have := SA.small; omega
  refine src_sorted (ns := EvS.keysOf (EvS.walkOf X.w a ep es).toList) EvS.kdl_set (I.ok.hd hc) SA hz (fun vs hv hP => ?_) fun h' tk D out ms e hkp hD he a1 a2 a3 => ?_
  · refine ints_by (by rw [EvS.keys_len]; omega) fun j v hj => ?_
    obtain ⟨e, e1, rfl⟩ := hP j v hj
    have e1' : (EvS.walkOf X.w a ep es).toList[j]? = some e := by rw [Array.getElem?_toList]; exact e1
    obtain ⟨k, tk, rfl⟩ := SA.alli e (pw.mem_iff.mp (List.mem_of_getElem? e1'))
    refine ⟨k, tk, ?_, rfl⟩
    unfold EvS.keysOf
    rw [List.getElem?_map, e1']; rfl
  · have pk : ms.Perm (EvS.keysOf es.toList) := a2.trans (pw.map EvS.keyOf)
    have hl : ms.length ≤ ks.length := by rw [pk.length_eq, EvS.keys_len]; exact f2
    have hlen : (ms.map V.int).length ≤ sizeLine := by rw [List.length_map, pk.length_eq, EvS.keys_len]; exact hz
    exact ⟨.ref _, upd H D (.lst (ms.map V.int)), I.laid (t' := tk) hkp hD ⟨hlen, out, e, vals_of_ints a1, he⟩, rfl, q ms _ (strict_of a3 (pk.nodup_iff.mpr SA.nd)) (fun k => pk.mem_iff.trans (f1 k)) hl (I.hok.fresh hD)⟩
end
end L2
end
section
set_option Elab.async false
set_option linter.all false
set_option maxRecDepth 100000
set_option maxHeartbeats 2000000
namespace L2
open PySem PySem.Spec PyProof.Rows
structure KDict (P : Program) (w : World) (K : PySem.W.Frag) (a : Addr) (kvs : List (Key × V)) : Prop where
  lo : (a == sysModules) = false
  ex : ∃ vs, KV kvs vs ∧ ∀ h : Heap, K.In h → h.DictOf (mixKind P w) a vs
section
variable {X : Cx} {i : Expr} {x : Str} {a : Addr} {kvs : List (Key × V)} {ty : TE} {np pos : Pos}
noncomputable def tKGet (kvs : List (Key × V)) (ty : TE) : TE := fun σ H Q => ty σ H fun y H2 => ∃ k v, y = kV k ∧ valV kvs k = some v ∧ Q v H2
theorem pe_kget (D : KDict X.prog X.w X.K a kvs) (hg : Gl X x) (hm : X.mg x = some (.ref a)) (hi : PE X i ty) (hs : NoSl i) (hdb : (x == ("__debug__" : Str)) = false := by decide) : PE X (.Subscript (.Name x np) i pos) (tKGet kvs ty) := by
  intro pins s σ H Q I h
  obtain ⟨vs, kv, hD⟩ := D.ex
  refine subD_of PySem.F.slot_dict_getitem.lookup hs (ld_glob I hg hm (thn (hi pins s σ H _ I h) fun iv s2 ⟨y, H2, I2, ry, k, v, ey, l, q⟩ => ?_) hdb)
  subst ey
  have dd := hD _ I2.kIn
  obtain ⟨w', hw, rw'⟩ := RelO.some_of (v := v) (o := valueAt vs k) (by rw [← l]; exact kv.val k)
  exact ⟨dd.typeIs, wpAny_getItem_of (kV_is ry) dd.mapOf hw ⟨v, H2, I2.tok _, rw', q⟩⟩
noncomputable def tKIn (kvs : List (Key × V)) (ty : TE) : TE := fun σ H Q => ty σ H fun y H1 => ∃ k, y = kV k ∧ Q (.bl (valV kvs k).isSome) H1
theorem pc_kin (D : KDict X.prog X.w X.K a kvs) (hg : Gl X x) (hm : X.mg x = some (.ref a)) (hi : PE X i ty) (hdb : (x == ("__debug__" : Str)) = false := by decide) : PC X .In i (.Name x np) (tKIn kvs ty) := by
  intro pins s σ H Q I h
  obtain ⟨vs, kv, hD⟩ := D.ex
  refine thn (hi pins s σ H _ I h) fun iv s1 ⟨y, H1, I1, ry, k, ey, q⟩ => ld_glob I1 hg hm ?_ hdb
  subst ey
  have dd := hD _ I1.kIn
  refine wpAny_in_of (kV_is ry) D.lo dd.mapOf ?_
  rw [← (kv.val k).isSome_eq]
  exact ⟨.bl _, H1, I1.tok _, rfl, q⟩
end
noncomputable def tCallV (i : Nat) (R : Addr → Sp → Prop) (E : XK) (t : TA) : TE := fun σ H Q => ∃ f sp, σ[i]? = some (some (.ref f)) ∧ R f sp ∧ t σ H fun vs H1 => sp vs H1 Q E
theorem pe_callV {X : Cx} {CX : CXT} {k i : Nat} {x : Str} {R : Addr → Sp → Prop} {E : XK} {t : TA} {e : Expr} {es : List Expr} {p pos : Pos} (hN : X.N[i]? = some x) (hv : Vis X.env.scope x)
    (hR : ∀ f sp, R f sp → ∃ fd ps, FnOk X.prog X.w X.K X.mg X.base CX k f fd ps sp ∧ PySem.W.keepIn X.K (.ref f) = true ∧ Binds X.K fd ps []) (hr : Room k X.A) (hx : Passes CX X E) (ha : PA X (e :: es) t)
    (hd : (x == ("__debug__" : Str)) = false := by decide) (hcd : (x == ("__classdict__" : Str)) = false := by decide)
    (he : starEach (e :: es) X.env = (false, eval e X.env) :: starEach es X.env := by rfl) (hpl : (backTo pos (starEach es X.env)).any (·.1) = false := by rfl) : PE X (.Call (.Name x p) (e :: es) [] pos) (tCallV i R E t) := by
  intro pins s σ H Q I h
  obtain ⟨f, sp, e1, rf, h⟩ := h
  obtain ⟨fd, ps, F, hk, hb⟩ := hR f sp rf
  refine wpAny_Call_Name_kw (thn (pe_var hN hv hd hcd pins s σ H (fun v H' => v = .ref f ∧ H' = H) I ⟨_, e1, rfl, rfl⟩) fun u s0 ⟨v, H0, I0, rv, ev, eH⟩ => ?_)
  subst ev eH
  obtain rfl : u = Value.ref f := rv
  refine PySem.W.callWith_K (h₀ := X.base) I.ok.mod.kin hk (thn (ha pos pins s0 σ H0 _ I0 h) fun us s1 ⟨vs, H1, I1, r, q⟩ => ⟨I1.kIn, ?_⟩) he hpl
  exact run_fn (dvs := []) F hr hb .nil hx I1 r (by rw [List.append_nil]; exact q)
noncomputable def rListD : List V → Hp → VK → Prop := fun xs H Q => ∃ (d : Addr) (kvs : List (Key × V)) (ns : List Int), xs = [V.ref d] ∧ Rd H d (.dK kvs) ∧ IKeys kvs ns ∧ ∀ p, H p = none → Q (.ref p) (upd H p (.lst (ns.map V.int)))
theorem cr_listD {X : Cx} (hc : X.calm = true) : CallR X (.type "list") rListD := by
  intro pins s σ H xs us Q I r h
  obtain ⟨d, kvs, ns, rfl, hd, hk, q⟩ := h
  rw [Vals.ref1 r]
  obtain ⟨z, lo, vs, ep, kv, hat⟩ := I.dictAt hd
  have hl : kvs.length = vs.length := kv.length
  have hl2 : kvs.length = ns.length := by have := congrArg List.length hk; simpa using this
  refine PySem.W.kdl_call (PySem.W.kdl_dict (knd := mixKind X.prog X.w) (kvs := vs) (ep := ep) lo) (I.ok.hd hc) hat (by rw [← hl]; exact z) fun h' tk acc c hkp hS hacc => ?_
  have hI : IntsAre acc.toList ns := ints_by (by rw [Array.length_toList, hacc.1]; omega) fun j v hv => by
    obtain ⟨k, x, e1, e2⟩ := hacc.2 j v (by rw [← Array.getElem?_toList]; exact hv)
    obtain ⟨n, hn, rfl⟩ := keys_at hk kv e1
    obtain ⟨t, rfl⟩ := keyInt e2
    exact ⟨n, t, hn, rfl⟩
  have hlen : (ns.map V.int).length ≤ sizeLine := by rw [List.length_map, ← hl2]; exact z
  exact ⟨.ref _, upd H s.heap.objs.size (.lst (ns.map V.int)), I.laid (t' := tk) hkp (Nat.le_refl _) ⟨hlen, acc.toList, c, vals_of_ints hI, by rw [Array.toArray_toList]; exact hS⟩, rfl, q _ (I.hok.fresh (Nat.le_refl _))⟩
theorem nolen_rev : typeLookup (.type "list_reverseiterator") "__len__" = pure none := by rw [typeLookup_type, builtinLookup_eq_fast]; kernel_rfl
theorem hint_rev : typeLookup (.type "list_reverseiterator") "__length_hint__" = pure (some (.builtin "list_reverseiterator.__length_hint__")) := by rw [typeLookup_type, builtinLookup_eq_fast]; kernel_rfl
section
variable {prog : Program} {w : World} {A : Around} {E : Value → Shared → Prop} {s : Shared} {it l : Addr} {items : Array Value}
theorem hintRev {i : Int} {Q : Bool → Shared → Prop} (hit : s.heap.IsRevIter it l i) (h : Q false s) : wpAny (model prog w) A (Builtin.List.listLengthHint (.ref it)) Q E s := by
  unfold Builtin.List.listLengthHint
  refine wpAny_bind (wpAny_specialOf hit.typeIs nolen_rev ?_)
  show wpAny _ _ (specialOf (Value.ref it) (Str.ofString "__length_hint__") >>= _) _ _ _
  refine wpAny_bind (wpAny_specialOf hit.typeIs hint_rev ?_)
  generalize hid : ("list_reverseiterator.__length_hint__" : String) = id0
  wp_delta
  rw [show splitId id0 = some ("list_reverseiterator", "__length_hint__") from by subst hid; decide +kernel]; subst hid
  refine wpAny_bind (wpAny_isInstance (b := true) hit.typeIs (by rw [isSubtype_type]; kernel_rfl) ?_)
  exact wpAny_pure h
theorem call_listRev {Q : Value → Shared → Prop} (hh : A.handled = none) (hit : s.heap.IsRevIter it l ((items.size : Int) - 1)) (hl : s.heap.IsList l items) (hne : l ≠ it) (hn : items.size ≤ sizeLine)
    (hQ : ∀ h' tk acc c, (∀ b o, b ≠ it → s.heap.get? b = some o → h'.get? b = some o) → h'.get? s.heap.objs.size = some { cls := .type "list", dict := none, data := .seq acc c, slots := #[] } →
      ItemsOf (fun i v => items[items.size - 1 - i]? = some v) acc items.size → Q (.ref s.heap.objs.size) { s with heap := h', toks := tk }) : wpAny (model prog w) A (call (.type "list") [.ref it]) Q E s := by
  refine callType_codes (Q₁ := fun obj s₁ => obj = .ref s.heap.objs.size ∧ s₁ = { s with heap := s.heap.push { cls := .type "list", data := .seq #[] } }) PySem.F.called_list (PySem.F.typeCall_list_1 _) PySem.F.entry_list_init (code_list_new _ ⟨rfl, rfl⟩) fun obj s₁ h₁ => ?_
  obtain ⟨rfl, rfl⟩ := h₁
  have hS : (s.heap.push { cls := .type "list", data := .seq #[] }).get? s.heap.objs.size = some { cls := .type "list", data := .seq #[] } := Heap.get?_push_size _ rfl
  obtain ⟨oi, hoi, hci, hdi⟩ := id hit
  obtain ⟨ol, hol, _⟩ := id hl
  have ni : s.heap.objs.size ≠ it := Nat.ne_of_gt (Heap.lt_size hoi)
  have nl : s.heap.objs.size ≠ l := Nat.ne_of_gt (Heap.lt_size hol)
  refine ⟨⟨_, hS, rfl⟩, PySem.F.args_list_init_2 _ _, ?_⟩
  show wpAny _ _ (do let old ← Builtin.List.listItems (.ref s.heap.objs.size); Builtin.List.listUpdate (.ref s.heap.objs.size) (fun _ => #[]); letGo old.toList.reverse; Builtin.List.listExtendWith (.ref s.heap.objs.size) (.ref it) .none) _ _ _
  refine wpAny_bind ?_; unfold Builtin.List.listItems; refine wpAny_bind (wpAny_seqItems hS rfl (wpAny_pure ?_))
  show wpAny _ _ (updateSeq s.heap.objs.size (fun _ => #[]) >>= fun _ => letGo (#[] : Array Value).toList.reverse >>= fun _ => Builtin.List.listExtendWith (.ref s.heap.objs.size) (.ref it) .none) _ _ _
  refine wpAny_bind (wpAny_updateSeq hS rfl ?_)
  have hS2 := Heap.get?_update_self (Obj.mapSeq (fun _ => (#[] : Array Value))) hS rfl
  have oth : ∀ b o, s.heap.get? b = some o → ((s.heap.push { cls := .type "list", data := .seq #[] }).update s.heap.objs.size (Obj.mapSeq (fun _ => (#[] : Array Value)))).get? b = some o := fun b o e =>
    (Heap.get?_update_other _ _ (Nat.ne_of_gt (Heap.lt_size e))).trans (Heap.get?_push_of_some _ e)
  refine wpAny_bind (wpAny_letGo ?_)
  have hit2 : ((s.heap.push { cls := .type "list", data := .seq #[] }).update s.heap.objs.size (Obj.mapSeq (fun _ => (#[] : Array Value)))).IsRevIter it l ((items.size : Int) - 1) := hit.at fun o e => oth it o e
  have hl2 : ((s.heap.push { cls := .type "list", data := .seq #[] }).update s.heap.objs.size (Obj.mapSeq (fun _ => (#[] : Array Value)))).IsList l items := hl.at fun o e => oth l o e
  unfold Builtin.List.listExtendWith
  refine wpAny_bind (wpAny_typeOf (T := "list_reverseiterator") ⟨oi, oth it oi hoi, hci⟩ ?_)
  have h1 : Builtin.List.listSameRef (.ref s.heap.objs.size) (.ref it) = false := by simp [Builtin.List.listSameRef, ni]
  rw [if_neg (by rw [h1]; decide)]
  refine wpAny_bind (wpAny_pyIter_revIter hit2 ?_)
  refine wpAny_bind (wpAny_holding (hintRev hit2 ?_))
  rw [if_neg (by decide)]
  have hSf : s.heap.objs.size ∉ [it, l] := by simp only [List.mem_cons, List.not_mem_nil, or_false, not_or]; exact ⟨ni, nl⟩
  have e0 : (items.size : Int) - 1 = (items.size : Int) - 1 - ((0 : Nat) : Int) := by omega
  refine wpAny_pure ⟨plainId_quiet PySem.F.plain_extend_loop _, codeAny_extend_loopS (Walks.listRev (A := A.in1.in1) hh it l hne items).toS hn s.heap.objs.size hSf .none items.size 0 _ #[] _ rfl (Nat.zero_le _) ⟨Nat.zero_le _, by rw [← e0]; exact hit2, hl2⟩ hS2 (ItemsOf.nil _) fun s' acc c hm hS' hacc => ?_⟩
  rw [Moved.eq_with hm]
  refine ⟨rfl, hQ s'.heap s'.toks acc c (fun b o hb e => hm.heap b o (fun hmem => ?_) (oth b o e)) hS' hacc⟩
  rcases List.mem_cons.mp hmem with e' | hmem
  · exact absurd (Heap.lt_size e) (by rw [e']; exact Nat.lt_irrefl _)
  · exact hb (List.mem_singleton.mp hmem)
end
noncomputable def tListRev (K : PySem.W.Frag) (ta : TA) : TE := fun σ H Q => ta σ H fun vs H1 => ∃ (a : Addr) (xs : List V), vs = [.ref a] ∧ SqL K H1 a xs ∧ ∀ p, H1 p = none → Q (.ref p) (upd H1 p (.lst xs.reverse))
theorem vals_rev : ∀ {xs : List V} {us : List Value}, Vals xs us → Vals xs.reverse us.reverse
  | _, _, .nil => .nil
  | _, _, .cons r t => by rw [List.reverse_cons, List.reverse_cons]; exact (vals_rev t).append (.cons r .nil)
theorem pe_listRev {X : Cx} {e : Expr} {ta : TA} {p1 p2 pos1 pos2 : Pos} (hc : X.calm = true) (hg : Gl X "list") (hm : X.mg "list" = none) (hg2 : Gl X "reversed") (hm2 : X.mg "reversed" = none) (ha : PA X [e] ta)
    (hs : starEach [.Call (.Name "reversed" p2) [e] [] pos2] X.env = [(false, eval (.Call (.Name "reversed" p2) [e] [] pos2) X.env)] := by rfl) (hs2 : starEach [e] X.env = [(false, eval e X.env)] := by rfl) :
    PE X (.Call (.Name "list" p1) [.Call (.Name "reversed" p2) [e] [] pos2] [] pos1) (tListRev X.K ta) := by
  intro pins s σ H Q I h
  refine wpAny_Call_Name_kw (ld_blt I hg hm boot_list ?_)
  refine PyProof.Rows.callWith_type1 (e := .Call (.Name "reversed" p2) [e] [] pos2) (rest := []) ?_ hs rfl
  rw [hs]
  refine Calls.spliced_cons ?_
  refine wpAny_Call_Name_kw (ld_blt I hg2 hm2 boot_reversed5 (PyProof.Rows.callWith_type1 (thn (ha pos2 pins s σ H _ I h) fun us s1 ⟨vs, H1, I1, r1, q1⟩ => ?_) hs2 rfl))
  obtain ⟨a, xs, ev, hq, q⟩ := q1
  subst ev
  cases r1 with
  | cons r rr =>
    cases rr
    cases r
    obtain ⟨its, rv, p', hz⟩ := I1.list hq
    have hl := rv.length
    have hal : a < s1.heap.objs.size := let ⟨o, _, e, _⟩ := p'; Heap.lt_size e
    refine call_reversed_list p'.isList (Calls.spliced_nil ?_)
    refine call_listRev (items := its.toArray) (I1.ok.hd hc) ⟨_, Heap.get?_push_size _ rfl, rfl, rfl⟩ (p'.isList.at fun o e => Heap.get?_push_of_some _ e) (Nat.ne_of_lt hal) (by rw [List.size_toArray]; omega) fun h' tk acc c hk hS hacc => ?_
    have hkp : ∀ b o, s1.heap.get? b = some o → h'.get? b = some o := fun b o e => hk b o (Nat.ne_of_lt (Heap.lt_size e)) (Heap.get?_push_of_some _ e)
    have hacc1 : acc.size = its.length := by rw [hacc.1]; simp
    have ea : acc.toList = its.reverse := by
      refine List.ext_getElem? fun j => ?_
      by_cases hj : j < its.length
      · have hj' : j < acc.size := by omega
        have e1 := hacc.2 j acc[j] (by simp [hj'])
        rw [List.getElem?_reverse hj, Array.getElem?_toList, Array.getElem?_eq_getElem hj']
        rw [List.size_toArray] at e1
        simpa using e1.symm
      · rw [List.getElem?_eq_none (by rw [Array.length_toList]; omega), List.getElem?_eq_none (by rw [List.length_reverse]; omega)]
    have hD : s1.heap.objs.size ≤ (s1.heap.push (revObj a ((its.toArray.size : Int) - 1))).objs.size := by rw [Heap.size_push]; exact Nat.le_succ _
    refine ⟨.ref _, upd H1 _ (.lst xs.reverse), I1.laid (t' := tk) hkp hD ⟨by rw [List.length_reverse]; exact hz, acc.toList, c, by rw [ea]; exact vals_rev rv, by rw [Array.toArray_toList]; exact hS⟩, rfl, q _ (I1.hok.fresh hD)⟩
end L2
end
section
set_option Elab.async false
set_option linter.all false
set_option maxRecDepth 100000
set_option maxHeartbeats 2000000
namespace Ev
open PySem PySem.Spec PyProof.Rows L2 Dx
noncomputable def top (i : Nat) : Stmt := PySem.Challenge.pw_evenshare_s01_answers.main.body.getD i (.Pass ⟨0, 0, 0, 0⟩)
noncomputable abbrev sGcd : Stmt := top 6
noncomputable abbrev sLow : Stmt := top 7
noncomputable abbrev sFits : Stmt := top 8
noncomputable abbrev sFitting : Stmt := top 9
structure Txt (K : PySem.W.Frag) (mg : Str → Option Value) (CN CW : Addr) : Prop where
  mv : ∃ t, mg "MOST_VALUES" = some (.int 256 t)
  fv : ∃ t, mg "FARTHEST_VALUE" = some (.int 2147483647 t)
  mw : ∃ t, mg "MOST_WEIGHT" = some (.int 1099511627776 t)
  nf : mg "NoFit" = some (.ref CN)
  xN : Exc K CN
  len : mg "len" = none
  sorted : mg "sorted" = none
  min : mg "min" = none
  max : mg "max" = none
  sum : mg "sum" = none
  range : mg "range" = none
section
variable {P : Program} {w : World} {K : PySem.W.Frag} {mg : Str → Option Value} {base : Heap}
noncomputable def spGcd : Sp := fun vs H Q _ => ∃ a b : Nat, vs = [.int (a : Int), .int (b : Int)] ∧ Q (.int (Nat.gcd a b : Nat)) H
theorem scG : FnScope ["a", "b", "rest"] ["a", "b"] (defScope sGcd) := ⟨rfl, rfl, rfl, by decide +kernel, rfl, by decide +kernel, by decide +kernel⟩
theorem ok_gcd {f : Addr} {fd : FuncData} (F : Fun K "common_divisor" "common_divisor" sGcd f fd) : FnOk P w K mg base CX0 1 f fd ["a", "b"] spGcd := by
  refine F.ok scG (fun vs H Q E h => ?_) (fun cdv A outer s H vs Q E hr h => ?_)
  · obtain ⟨a, b, rfl, _⟩ := h
    rfl
  · obtain ⟨a, b, rfl, k⟩ := h
    refine ⟨_, pss_cons (ps_while PassesOwn.never (pt_cmp (pc_neI (pv 1) pe_int)) (pss_cons (ps_set (i := 2) scG.nd rfl (Or.inl rfl) (pe_op op_mod (pv 0) (pv 1)))
      (pss_cons (ps_set (i := 0) scG.nd rfl (Or.inl rfl) (pv 1)) (pss_one (ps_set (i := 1) scG.nd rfl (Or.inl rfl) (pv 2)))))) (pss_one (ps_ret (pv 0))), ?_⟩
    refine while_by (fun σ H' => ∃ (x y : Nat) (v : Option V), σ = [some (.int (x : Int)), some (.int (y : Int)), v] ∧ H' = H ∧ Nat.gcd x y = Nat.gcd a b)
      (fun σ _ => match σ with | [_, some (.int y), _] => y.toNat | _ => 0) ⟨a, b, none, rfl, rfl, rfl⟩ ?_ ?_
    · rintro σ H' ⟨x, y, v, rfl, rfl, e⟩
      refine ⟨_, rfl, _, _, rfl, rfl, _, rfl, ?_⟩
      refine ifN (fun hy => ?_) (fun hy => ?_)
      · have hy0 : y ≠ 0 := fun z => hy (by rw [z]; rfl)
        have hy' : (0 : Int) < (y : Int) := by omega
        refine ⟨_, rfl, _, rfl, _, _, rfl, rfl, hy', _, rfl, _, rfl, ⟨y, x % y, some (.int ((x : Int) % (y : Int))), ?_, rfl, ?_⟩, ?_⟩
        · rfl
        · rw [← e, Nat.gcd_comm y (x % y), ← Nat.gcd_rec, Nat.gcd_comm]
        · show ((x : Int) % (y : Int)).toNat < ((y : Int)).toNat
          have := Int.emod_lt_of_pos (x : Int) hy'
          have := Int.emod_nonneg (x : Int) (by omega : (y : Int) ≠ 0)
          omega
      · have hy0 : y = 0 := by
          have z : (y : Int) = 0 := hy
          omega
        subst hy0
        refine ⟨_, rfl, ?_⟩
        rw [Nat.gcd_zero_right] at e
        rw [← e] at k
        exact k
    · rintro σ H' Q1 Q2 hQ ⟨v, e1, i, j, a1, a2, c, e2, h3⟩
      exact ⟨v, e1, i, j, a1, a2, c, e2, hQ _ _ h3⟩
theorem divisor_snoc (l : Weights) (x : Int × Nat) : divisor (l ++ [x]) = Nat.gcd (divisor l) x.2 := by unfold divisor; rw [List.foldl_append]; rfl
theorem take_snoc {α : Type} {l : List α} {i : Nat} {x : α} (h : l[i]? = some x) : l.take (i + 1) = l.take i ++ [x] := by
  obtain ⟨hi, rfl⟩ := List.getElem?_eq_some_iff.mp h
  exact List.take_succ_eq_append_getElem hi
structure Wts (d : Weights) : Prop where
  nd : (d.map (·.1)).Nodup
  len : d.length ≤ 100000
  lt : ∀ x ∈ d, x.2 < 2 ^ 200
noncomputable def spLow : Sp := fun vs H Q _ => ∃ (a : Addr) (d : Weights), vs = [.ref a] ∧ FD H a d ∧ Wts d ∧ ∀ (H' : Hp) (p : Addr), Same H H' → H p = none → H' p = some (.dK (enc (lowest d))) → Q (.ref p) H'
theorem scL : FnScope ["weights", "divisor", "weight", "form", "value"] ["weights"] (defScope sLow) := ⟨rfl, rfl, rfl, by decide +kernel, rfl, by decide +kernel, by decide +kernel⟩
noncomputable def lowPart (d : Weights) (ms : List Int) : Weights := (ms.filter fun v => decide (0 < wt d v)).map fun v => (v, wt d v / divisor d)
theorem lowPart_snoc (d : Weights) (ms : List Int) (v : Int) : lowPart d (ms ++ [v]) = if 0 < wt d v then lowPart d ms ++ [(v, wt d v / divisor d)] else lowPart d ms := by
  unfold lowPart
  rw [List.filter_append, List.map_append]
  by_cases h : 0 < wt d v
  · rw [if_pos h]; simp [h]
  · rw [if_neg h]; simp [h]
theorem lowPart_keys {d : Weights} {ms : List Int} {v : Int} (h : v ∈ (lowPart d ms).map (·.1)) : v ∈ ms := by
  obtain ⟨x, hx, rfl⟩ := List.mem_map.mp h
  obtain ⟨u, hu, rfl⟩ := List.mem_map.mp hx
  exact (List.mem_filter.mp hu).1
theorem lowPart_len (d : Weights) (ms : List Int) : (lowPart d ms).length ≤ ms.length := by unfold lowPart; rw [List.length_map]; exact List.length_filter_le _ _
theorem ok_low {CN CW f fG : Addr} {fd fdG : FuncData} (F : Fun K "lowest" "lowest" sLow f fd) (T : Txt K mg CN CW) (FG : Fun K "common_divisor" "common_divisor" sGcd fG fdG) (bG : Binds K fdG ["a", "b"] []) (mG : mg "common_divisor" = some (.ref fG)) :
    FnOk P w K mg base CX0 2 f fd ["weights"] spLow := by
  have GG : FnOk P w K mg base CX0 1 fG fdG ["a", "b"] spGcd := ok_gcd FG
  refine F.ok scL (fun vs H Q E h => ?_) (fun cdv A outer s H vs Q E hr h => ?_)
  · obtain ⟨a, d, rfl, _⟩ := h
    rfl
  · obtain ⟨a, d, rfl, hd, W, k⟩ := h
    have hu := hu_of hr
    refine ⟨_, pss_cons (ps_set (i := 1) scL.nd rfl (Or.inl rfl) pe_int)
      (pss_cons (ps_for PassesOwn.never rfl (pi_values (pv 0)) (pg_name (i := 2) scL.nd rfl (Or.inl rfl))
        (pss_one (ps_set (i := 1) scL.nd rfl (Or.inl rfl) (pe_call GG hr rfl mG FG.kp bG .nil pass0 (pa_cons (pv 1) (pa_cons (pv 2) pa_nil))))))
      (pss_cons (ps_set (i := 3) scL.nd rfl (Or.inl rfl) pe_dnewK)
      (pss_cons (ps_for PassesOwn.never rfl (pi_list (pe_callB (cr_sortedD rfl) rfl T.sorted boot_sorted (pa_cons (pv 0) pa_nil))) (pg_name (i := 4) scL.nd rfl (Or.inl rfl))
        (pss_one (ps_if (pt_cmpR op_gt (pe_dget hu (pv 0) (pv 4) (fun _ _ => rfl)) pe_int (nomark _))
          (pss_one (ps_dput hu (pv 3) (pv 4) (pe_op op_fdivB (pe_dget hu (pv 0) (pv 4) (fun _ _ => rfl)) (pv 1)) rfl)) pss_nil)))
      (pss_one (ps_ret (pv 3)))))), ?_⟩
    obtain ⟨o, ho⟩ := id hd
    -- for weight in weights.values(): divisor = common_divisor(divisor, weight)
    refine ⟨_, rfl, a, o, enc d, rfl, ho, for_vals (fun i σ H' => ∃ v : Option V, σ = [some (.ref a), some (.int (divisor (d.take i) : Nat)), v, none, none] ∧ H' = H) ⟨none, rfl, rfl⟩ (fun i σ H' _ ⟨_, _, e⟩ => by rw [e]; exact ho) ?_ ?_⟩
    · rintro i k1 v1 σ H' hi ⟨v, rfl, rfl⟩
      obtain ⟨x, hx, rfl, rfl⟩ := enc_get hi
      refine ⟨_, rfl, _, rfl, divisor (d.take i), x.2, rfl, ?_⟩
      refine ⟨some (.int (x.2 : Int)), ?_, rfl⟩
      rw [take_snoc hx, divisor_snoc]; rfl
    · rintro σ H' ⟨v, rfl, rfl⟩
      rw [enc_len, List.take_length]
      -- form = {}
      intro p hp
      have s1 : Same H' (upd H' p (.dK [])) := Same.upd (Same.refl _) hp
      -- for value in sorted(weights)
      refine ⟨_, rfl, a, enc d, d.map (·.1), rfl, (hd.mono s1).rd, enc_keys d, fun ms q hperm hsort hq => ?_⟩
      have s2 : Same H' (upd (upd H' p (.dK [])) q (.lst (ms.map V.int))) := Same.upd s1 hq
      have nqp : p ≠ q := ne_of_none upd_same hq
      have ndm : ms.Nodup := hperm.nodup_iff.mpr W.nd
      have lenm : ms.length ≤ 100000 := by rw [hperm.length_eq, List.length_map]; exact W.len
      refine ⟨q, rfl, ⟨_, SqL.of upd_same⟩, for_list (K := K) (a := q) (xs := ms.map V.int) (fun i σ H2 => ∃ v4 : Option V, σ = [some (.ref a), some (.int (divisor d : Nat)), v, some (.ref p), v4] ∧ Same H' H2 ∧ H2 q = some (.lst (ms.map V.int)) ∧ H2 p = some (.dK (enc (lowPart d (ms.take i)))))
        ⟨none, rfl, s2, upd_same, by rw [upd_ne nqp, upd_same]; rfl⟩ (fun i σ H2 _ ⟨_, _, _, e, _⟩ => SqL.of e) ?_ ?_⟩
      · rintro i y σ H2 hi ⟨v4, rfl, s3, hq2, hp2⟩
        obtain ⟨z, hz, rfl⟩ : ∃ z, ms[i]? = some z ∧ y = V.int z := by
          rw [List.getElem?_map] at hi
          cases e : ms[i]? with
          | none => rw [e] at hi; cases hi
          | some z => rw [e] at hi; exact ⟨z, rfl, (Option.some.inj hi).symm⟩
        have hzk : z ∈ d.map (·.1) := hperm.mem_iff.mp (List.mem_of_getElem? hz)
        have hfd := hd.mono s3
        have hg : DGet H2 a (.int z) (some (.int (wt d z : Int))) := by have g := hfd.get z; rw [enc_some W.nd hzk] at g; exact g
        refine ⟨_, rfl, _, rfl, a, _, rfl, hg, _, _, rfl, rfl, _, rfl, ?_⟩
        refine ifD (fun hpos => ?_) (fun hpos => ?_)
        · have hpos' : 0 < wt d z := by omega
          obtain ⟨x, hx, e1⟩ := wt_pos_mem hpos'
          have e2 := wt_mem W.nd hx
          rw [e1] at e2
          have dv : divisor d ∣ wt d z := by rw [e2]; exact divisor_dvd hx
          have dpos : 0 < divisor d := Nat.pos_of_dvd_of_pos dv hpos'
          have dle : divisor d ≤ wt d z := Nat.le_of_dvd hpos' dv
          have dlt : divisor d < 2 ^ 200 := Nat.lt_of_le_of_lt dle (by rw [e2]; exact W.lt x hx)
          have hC : CDivB (wt d z : Int) (divisor d : Int) := ⟨by omega, by
            rw [Int.natAbs_natCast]
            exact Nat.lt_trans ((Nat.log2_lt (by omega)).mpr dlt) (by decide)⟩
          have ediv : ((wt d z : Int) / (divisor d : Int)) = ((wt d z / divisor d : Nat) : Int) := rfl
          refine ⟨_, rfl, _, rfl, a, _, rfl, hg, _, rfl, _, _, rfl, rfl, hC, _, rfl, _, rfl, p, _, rfl, DPut.k (k := Sum.inl z) hp2 ?_, ?_⟩
          · rw [enc_len]
            refine small' (m := 100000) (Nat.le_trans (lowPart_len _ _) (Nat.le_trans (List.length_take_le' ..) lenm)) (by decide)
          · have nz : z ∉ (lowPart d (ms.take i)).map (·.1) := fun hm => by
              have hm' := lowPart_keys hm
              obtain ⟨j, hj, e⟩ := List.mem_take_iff_getElem.mp hm'
              have hij : j < i := by omega
              have := nd_ix ndm (List.getElem?_eq_some_iff.mpr ⟨by omega, e⟩) hz
              omega
            refine ⟨some (.int z), rfl, ?_, ?_, ?_⟩
            · exact Same.upd2 s3 hp
            · rw [upd_ne (fun e => nqp e.symm)]; exact hq2
            · rw [upd_same]
              show some (HO.dK (putK (enc (lowPart d (ms.take i))) (Sum.inl z) (V.int ((wt d z : Int) / (divisor d : Int))))) = _
              rw [ediv, enc_put, putW_new _ nz, take_snoc hz, lowPart_snoc, if_pos hpos']
        · refine ⟨some (.int z), rfl, s3, hq2, ?_⟩
          rw [take_snoc hz, lowPart_snoc, if_neg (by omega)]; exact hp2
      · rintro σ H2 ⟨v4, rfl, s3, hq2, hp2⟩
        rw [List.length_map, List.take_length] at hp2
        refine ⟨_, rfl, ?_⟩
        refine k H2 p s3 hp ?_
        rw [hp2, ← low_dict (l := d) W.nd hperm hsort fun _ => rfl]; rfl
noncomputable def spFits : Sp := fun vs H Q _ => ∃ (a : Addr) (l : Weights), vs = [.ref a] ∧ FD H a l ∧ l ≠ [] ∧ Q (.bl (fits l)) H
theorem scF : FnScope ["form"] ["form"] (defScope sFits) := ⟨rfl, rfl, rfl, by decide +kernel, rfl, by decide +kernel, by decide +kernel⟩
theorem sum_cast : ∀ l : Weights, (l.map fun x => (x.2 : Int)).sum = (tot l : Int)
  | [] => rfl
  | x :: r => by rw [List.map_cons, List.sum_cons, sum_cast r, tot_cons]; omega
theorem fits_false {l : Weights} (h : ¬ (l.length ≤ 256 ∧ tot l ≤ 1099511627776 ∧ ∀ x ∈ l, -2147483647 ≤ x.1 ∧ x.1 ≤ 2147483647)) : fits l = false := by
  cases e : fits l with
  | false => rfl
  | true => exact absurd (fits_iff.mp e) h
theorem ok_fits {CN CW f : Addr} {fd : FuncData} (F : Fun K "fits" "fits" sFits f fd) (T : Txt K mg CN CW) : FnOk P w K mg base CX0 1 f fd ["form"] spFits := by
  refine F.ok scF (fun vs H Q E h => ?_) (fun cdv A outer s H vs Q E hr h => ?_)
  · obtain ⟨a, l, rfl, _⟩ := h
    rfl
  · obtain ⟨a, l, rfl, hd, hne, k⟩ := h
    have hu := hu_of hr
    obtain ⟨t1, e1⟩ := T.mv
    obtain ⟨t2, e2⟩ := T.fv
    obtain ⟨t3, e3⟩ := T.mw
    refine ⟨_, pss_cons (ps_if (pt_cmpR op_gt (pe_callB call_lenR rfl T.len PySem.boot_len (pa_cons (pv 0) pa_nil)) (pe_glob (v := .int 256) rfl e1 ⟨_, rfl⟩) (nomark _)) (pss_one (ps_ret pe_bl)) pss_nil)
      (pss_cons (ps_if (PW.pt (pw_or (pt_cmpR op_lt (pe_callB (cr_minD rfl) rfl T.min boot_min (pa_cons (pv 0) pa_nil)) (pe_un un_neg (pe_glob (v := .int 2147483647) rfl e2 ⟨_, rfl⟩)) (nomark _))
          (pw_or1 (pt_cmpR op_gt (pe_callB (cr_maxD rfl) rfl T.max boot_max (pa_cons (pv 0) pa_nil)) (pe_glob (v := .int 2147483647) rfl e2 ⟨_, rfl⟩) (nomark _))))) (pss_one (ps_ret pe_bl)) pss_nil)
      (pss_one (ps_ret (pe_cmpR op_le (pe_sumV rfl rfl T.sum (pv 0)) (pe_glob (v := .int 1099511627776) rfl e3 ⟨_, rfl⟩) (nomark _))))), ?_⟩
    refine ⟨_, rfl, a, enc l, rfl, hd.rd, _, _, rfl, rfl, _, rfl, ?_⟩
    rw [enc_len]
    refine ifD (fun h1 => ?_) (fun h1 => ?_)
    · rw [fits_false (fun z => by have := z.1; omega)] at k; exact k
    have hlen : 0 < (l.map (·.1)).length := by
      rw [List.length_map]
      cases l with
      | nil => exact absurd rfl hne
      | cons x r => exact Nat.succ_pos _
    refine ⟨_, rfl, a, enc l, l.map (·.1), rfl, hd.rd, enc_keys l, hlen, fun m hm hmin => ?_⟩
    refine ⟨_, rfl, _, _, rfl, rfl, _, rfl, ?_⟩
    have inl : ∀ {u : Int}, u ∈ l.map (·.1) → ∃ x ∈ l, x.1 = u := fun h => by
      obtain ⟨x, hx, e⟩ := List.mem_map.mp h
      exact ⟨x, hx, e⟩
    refine ifD (fun h2 => ?_) (fun h2 => ?_)
    · refine iteT ?_
      obtain ⟨x, hx, e⟩ := inl hm
      rw [fits_false (fun z => by have := (z.2.2 x hx).1; omega)] at k; exact k
    refine ⟨_, rfl, a, enc l, l.map (·.1), rfl, hd.rd, enc_keys l, hlen, fun M hM hmax => ?_⟩
    refine ⟨_, _, rfl, rfl, _, rfl, ?_⟩
    refine ifD (fun h3 => ?_) (fun h3 => ?_)
    · obtain ⟨x, hx, e⟩ := inl hM
      rw [fits_false (fun z => by have := (z.2.2 x hx).2; omega)] at k; exact k
    refine ⟨_, rfl, a, enc l, _, rfl, hd.rd, enc_vals l, _, _, rfl, rfl, ?_⟩
    rw [sum_cast]
    have e : fits l = decide ((tot l : Int) ≤ 1099511627776) := by
      by_cases h4 : tot l ≤ 1099511627776
      · rw [decide_eq_true (by omega)]
        refine fits_iff.mpr ⟨by omega, h4, fun x hx => ?_⟩
        have a1 := hmin x.1 (List.mem_map_of_mem hx)
        have a2 := hmax x.1 (List.mem_map_of_mem hx)
        omega
      · rw [decide_eq_false (by omega)]
        exact fits_false fun z => h4 z.2.1
    rw [e] at k
    exact k
noncomputable def spFitting (CN : Addr) : Sp := fun vs H Q E => ∃ (a : Addr) (d : Weights), vs = [.ref a] ∧ FD H a d ∧ Wts d ∧ (∃ v, 0 < wt d v) ∧
  (fits (lowest d) = true → ∀ (H' : Hp) (p : Addr), Same H H' → H p = none → FD H' p (lowest d) → Q (.ref p) H') ∧ (fits (lowest d) = false → ∀ H' : Hp, Same H H' → E (.ref CN) none H')
theorem scFi : FnScope ["weights", "form"] ["weights"] (defScope sFitting) := ⟨rfl, rfl, rfl, by decide +kernel, rfl, by decide +kernel, by decide +kernel⟩
theorem lowest_ne {d : Weights} (h : ∃ v, 0 < wt d v) : lowest d ≠ [] := fun e => by
  obtain ⟨v, hv⟩ := h
  have := mem_norm_vals hv
  rw [← lowest_vals, e] at this
  cases this
theorem FD.of_frz {H : Hp} {p : Addr} {l : Weights} (od : Obj) (h : H p = some (.dK (enc l))) : FD (L2.upd H p (.frz od (.dK (enc l)))) p l := ⟨od, upd_same⟩
theorem ok_fitting {CN CW f fG fL fF : Addr} {fd fdG fdL fdF : FuncData} (F : Fun K "fitting_of" "fitting_of" sFitting f fd) (T : Txt K mg CN CW)
    (FG : Fun K "common_divisor" "common_divisor" sGcd fG fdG) (bG : Binds K fdG ["a", "b"] []) (mG : mg "common_divisor" = some (.ref fG))
    (FL : Fun K "lowest" "lowest" sLow fL fdL) (bL : Binds K fdL ["weights"] []) (mL : mg "lowest" = some (.ref fL))
    (FF : Fun K "fits" "fits" sFits fF fdF) (bF : Binds K fdF ["form"] []) (mF : mg "fits" = some (.ref fF)) : FnOk P w K mg base (CXR P w) 3 f fd ["weights"] (spFitting CN) := by
  have GL : FnOk P w K mg base CX0 2 fL fdL ["weights"] spLow := ok_low FL T FG bG mG
  have GF : FnOk P w K mg base CX0 2 fF fdF ["form"] spFits := (ok_fits FF T).mono (by decide)
  refine F.okx scFi (fun vs H Q E h => ?_) (fun cdv A outer s H vs Q E hr h => ?_)
  · obtain ⟨a, d, rfl, _⟩ := h
    rfl
  · obtain ⟨a, d, rfl, hd, W, hpos, k1, k2⟩ := h
    have hu := hu_of hr
    refine ⟨_, pss_cons (ps_set (i := 1) scFi.nd rfl (Or.inl rfl) (pe_frz (pe_call GL hr rfl mL FL.kp bL .nil pass0 (pa_cons (pv 0) pa_nil))))
      (pss_cons (ps_if (pt_not (pt_val (pe_call GF hr rfl mF FF.kp bF .nil pass0 (pa_cons (pv 1) pa_nil)))) (pss_one (ps_raise T.xN T.nf hr.hd rfl (pa_cons pe_str pa_nil))) pss_nil)
      (pss_one (ps_ret (pv 1)))), ?_⟩
    refine ⟨_, rfl, a, d, rfl, hd, W, fun H1 p s1 hp hp1 => ⟨p, _, rfl, hp1, True.intro, fun od => ?_⟩⟩
    have s2 : Same H (L2.upd H1 p (.frz od (.dK (enc (lowest d))))) := Same.upd2 s1 hp
    refine ⟨_, rfl, p, lowest d, rfl, FD.of_frz od hp1, lowest_ne hpos, _, rfl, ?_⟩
    cases e : fits (lowest d) with
    | false => exact ⟨small (Nat.le_refl 1) (by decide), k2 e _ s2⟩
    | true => exact ⟨_, rfl, k1 e _ p s2 hp (FD.of_frz od hp1)⟩
end
end Ev
end
section
set_option Elab.async false
set_option linter.all false
set_option maxRecDepth 100000
set_option maxHeartbeats 2000000
namespace Ev
open PySem PySem.Spec PyProof.Rows L2 Dx
noncomputable abbrev sPairs : Stmt := top 10
noncomputable abbrev sEven : Stmt := top 11
noncomputable abbrev sSum : Stmt := top 12
noncomputable abbrev sLater : Stmt := top 13
noncomputable abbrev sTimes : Stmt := top 16
noncomputable abbrev sMix : Stmt := top 17
structure Fit (P : Program) (w : World) (K : PySem.W.Frag) (mg : Str → Option Value) (base : Heap) (CN fX : Addr) (fdX : FuncData) : Prop where
  ok : FnOk P w K mg base (CXR P w) 3 fX fdX ["weights"] (spFitting CN)
  kp : PySem.W.keepIn K (.ref fX) = true
  b : Binds K fdX ["weights"] []
  mg : mg "fitting_of" = some (.ref fX)
section
variable {P : Program} {w : World} {K : PySem.W.Frag} {mg : Str → Option Value} {base : Heap}
theorem Fit.make {CN CW f fG fL fF : Addr} {fd fdG fdL fdF : FuncData} (F : Fun K "fitting_of" "fitting_of" sFitting f fd) (b : Binds K fd ["weights"] []) (m : mg "fitting_of" = some (.ref f)) (T : Txt K mg CN CW)
    (FG : Fun K "common_divisor" "common_divisor" sGcd fG fdG) (bG : Binds K fdG ["a", "b"] []) (mG : mg "common_divisor" = some (.ref fG))
    (FL : Fun K "lowest" "lowest" sLow fL fdL) (bL : Binds K fdL ["weights"] []) (mL : mg "lowest" = some (.ref fL))
    (FF : Fun K "fits" "fits" sFits fF fdF) (bF : Binds K fdF ["form"] []) (mF : mg "fits" = some (.ref fF)) : Fit P w K mg base CN f fd :=
  ⟨ok_fitting F T FG bG mG FL bL mL FF bF mF, F.kp, b, m⟩
noncomputable def flat (l : Weights) : List Int := l.flatMap fun x => [x.1, (x.2 : Int)]
theorem flat_len (l : Weights) : (flat l).length = 2 * l.length := by
  unfold flat
  induction l with
  | nil => rfl
  | cons x r ih => rw [List.flatMap_cons, List.length_append, ih]; show 2 + _ = 2 * (r.length + 1); omega
theorem flat_at : ∀ {l : Weights} {i : Nat} {x : Int × Nat}, l[i]? = some x → (flat l)[2 * i]? = some x.1 ∧ (flat l)[2 * i + 1]? = some (x.2 : Int)
  | y :: l, 0, x, h => by
    have e : y = x := Option.some.inj h
    subst e
    exact ⟨rfl, rfl⟩
  | y :: l, i + 1, x, h => by
    have ih := flat_at (l := l) (i := i) (x := x) h
    have e : flat (y :: l) = y.1 :: (y.2 : Int) :: flat l := rfl
    rw [e, show 2 * (i + 1) = 2 * i + 1 + 1 from by omega]
    exact ih
noncomputable def spPairs (K : PySem.W.Frag) : Sp := fun vs H Q _ => ∃ (a : Addr) (l : Weights), vs = [.ref a] ∧ SqL K H a ((flat l).map V.int) ∧ l.length ≤ 10000 ∧ ∀ (H' : Hp) (p : Addr), Same H H' → H p = none → H' p = some (.dK (enc (addAll [] l))) → Q (.ref p) H'
theorem scPa : FnScope ["pairs", "weights", "k", "value"] ["pairs"] (defScope sPairs) := ⟨rfl, rfl, rfl, by decide +kernel, rfl, by decide +kernel, by decide +kernel⟩
theorem addAll_take {l : Weights} {i : Nat} {x : Int × Nat} (h : l[i]? = some x) : addAll [] (l.take (i + 1)) = putW (addAll [] (l.take i)) x.1 (wt (addAll [] (l.take i)) x.1 + x.2) := by rw [take_snoc h, addAll_snoc]; rfl
theorem nd0 (L : Weights) : ((addAll [] L).map (·.1)).Nodup := addAll_nd (d := []) List.nodup_nil
theorem len0 (L : Weights) : (addAll [] L).length ≤ L.length := by have := addAll_len L []; rw [List.length_nil] at this; omega
theorem ok_pairs {CN CW f : Addr} {fd : FuncData} (F : Fun K "weights_of_pairs" "weights_of_pairs" sPairs f fd) (T : Txt K mg CN CW) : FnOk P w K mg base CX0 1 f fd ["pairs"] (spPairs K) := by
  refine F.ok scPa (fun vs H Q E h => ?_) (fun cdv A outer s H vs Q E hr h => ?_)
  · obtain ⟨a, d, rfl, _⟩ := h
    rfl
  · obtain ⟨a, l, rfl, hS, hl, k⟩ := h
    have hu := hu_of hr
    refine ⟨_, pss_cons (ps_set (i := 1) scPa.nd rfl (Or.inl rfl) pe_dnewK)
      (pss_cons (ps_for PassesOwn.never rfl (pi_range3 rfl T.range (pa_cons pe_int (pa_cons (pe_callB call_len_seq rfl T.len PySem.boot_len (pa_cons (pv 0) pa_nil)) (pa_cons pe_int pa_nil)))) (pg_name (i := 2) scPa.nd rfl (Or.inl rfl))
        (pss_cons (ps_set (i := 3) scPa.nd rfl (Or.inl rfl) (pe_ix ix_list (pv 0) (pv 2) (fun _ _ => rfl)))
        (pss_one (ps_dput hu (pv 1) (pv 3) (pe_op op_add (pe_dget2 hu (pv 1) (pv 3) pe_int ⟨rfl, rfl, rfl, rfl⟩) (pe_ix ix_list (pv 0) (pe_op op_add (pv 2) pe_int) (fun _ _ => rfl))) rfl))))
      (pss_one (ps_ret (pv 1)))), ?_⟩
    intro p hp
    have s1 : Same H (upd H p (.dK [])) := Same.upd (Same.refl _) hp
    refine ⟨_, rfl, a, _, rfl, .inl (s1.seq hS), 0, 2 * (l.length : Int), 2, l.length, ?_, RgC.two _ (by omega), ?_⟩
    · rw [List.length_map, flat_len]; simp
    refine for_rangeC (fun i σ H' => ∃ v2 v3 : Option V, σ = [some (.ref a), some (.ref p), v2, v3] ∧ Same H H' ∧ H' p = some (.dK (enc (addAll [] (l.take i))))) ⟨none, none, rfl, s1, upd_same⟩ ?_ ?_
    · rintro i σ H' hi ⟨v2, v3, rfl, s2, hp2⟩
      obtain ⟨x, hx⟩ : ∃ x, l[i]? = some x := ⟨_, List.getElem?_eq_getElem hi⟩
      obtain ⟨f1, f2⟩ := flat_at hx
      have nd := nd0 (l.take i)
      have e0 : (0 : Int) + (i : Int) * 2 = ((2 * i : Nat) : Int) := by omega
      refine ⟨_, rfl, _, rfl, a, _, _, _, rfl, rfl, s2.seq hS, at_of (j := 2 * i) e0 (by rw [List.getElem?_map, f1]; rfl), _, rfl, p, rfl, isD_of hp2, _, rfl, _, DGet.k (k := Sum.inl x.1) hp2, _, rfl, _, rfl, _, _, rfl, rfl,
        a, _, _, _, rfl, rfl, s2.seq hS, at_of (j := 2 * i + 1) (by omega) (by rw [List.getElem?_map, f2]; rfl), _, _, enc_val nd x.1, rfl, _, rfl, _, rfl, p, _, rfl, DPut.k (k := Sum.inl x.1) hp2 ?_, ?_⟩
      · rw [enc_len]
        exact small' (m := 10000) (Nat.le_trans (len0 _) (Nat.le_trans (List.length_take_le' ..) hl)) (by decide)
      · refine ⟨_, _, rfl, Same.upd2 s2 hp, ?_⟩
        rw [upd_same, addAll_take hx, ← enc_put]
        congr 3
    · rintro σ H' ⟨v2, v3, rfl, s2, hp2⟩
      rw [List.take_length] at hp2
      exact ⟨_, rfl, k H' p s2 hp hp2⟩
noncomputable def Res (CN : Addr) (H : Hp) (Q : VK) (E : XK) (l : Weights) : Prop :=
  (fits l = true → ∀ (H' : Hp) (p : Addr), Same H H' → H p = none → FD H' p l → Q (.ref p) H') ∧ (fits l = false → ∀ H' : Hp, Same H H' → E (.ref CN) none H')
theorem Res.at {CN : Addr} {H H1 : Hp} {Q : VK} {E : XK} {l : Weights} (r : Res CN H Q E l) (s : Same H H1) : Res CN H1 Q E l :=
  ⟨fun h H' p s' hp => r.1 h H' p (s.trans s') (s.free hp), fun h H' s' => r.2 h H' (s.trans s')⟩
noncomputable def evenL (lo : Int) (n : Nat) : Weights := (List.range n).map fun (i : Nat) => (lo + (i : Int), 1)
theorem evenL_succ (lo : Int) (n : Nat) : evenL lo (n + 1) = evenL lo n ++ [(lo + (n : Int), 1)] := by unfold evenL; rw [List.range_succ, List.map_append]; rfl
theorem evenL_len (lo : Int) (n : Nat) : (evenL lo n).length = n := by unfold evenL; rw [List.length_map, List.length_range]
theorem evenL_new (lo : Int) (n : Nat) : lo + (n : Int) ∉ (evenL lo n).map (·.1) := fun h => by
  unfold evenL at h
  rw [List.map_map] at h
  obtain ⟨i, hi, e⟩ := List.mem_map.mp h
  have := List.mem_range.mp hi
  have e' : lo + (i : Int) = lo + (n : Int) := e
  omega
theorem evenL_nd (lo : Int) : ∀ n : Nat, ((evenL lo n).map (·.1)).Nodup
  | 0 => List.nodup_nil
  | n + 1 => by
    have := putW_nd (evenL_nd lo n) (lo + (n : Int)) 1
    rw [putW_new _ (evenL_new lo n)] at this
    rw [evenL_succ]; exact this
noncomputable def spEven (CN : Addr) : Sp := fun vs H Q E => ∃ lo hi : Int, vs = [.int lo, .int hi] ∧ lo ≤ hi ∧ (256 ≤ hi - lo → ∀ H' : Hp, Same H H' → E (.ref CN) none H') ∧ (hi - lo < 256 → Res CN H Q E (lowest (evenL lo (hi - lo + 1).toNat)))
theorem scE : FnScope ["lo", "hi", "weights", "value"] ["lo", "hi"] (defScope sEven) := ⟨rfl, rfl, rfl, by decide +kernel, rfl, by decide +kernel, by decide +kernel⟩
theorem ok_even {CN CW f fX : Addr} {fd fdX : FuncData} (F : Fun K "even_of" "even_of" sEven f fd) (T : Txt K mg CN CW) (X : Fit P w K mg base CN fX fdX) : FnOk P w K mg base (CXR P w) 4 f fd ["lo", "hi"] (spEven CN) := by
  refine F.okx scE (fun vs H Q E h => ?_) (fun cdv A outer s H vs Q E hr h => ?_)
  · obtain ⟨a, d, rfl, _⟩ := h
    rfl
  · obtain ⟨lo, hi, rfl, hle, k1, k2⟩ := h
    have hu := hu_of hr
    obtain ⟨t1, e1⟩ := T.mv
    refine ⟨_, pss_cons (ps_if (pt_cmpR op_ge (pe_op op_sub (pv 1) (pv 0)) (pe_glob (v := .int 256) rfl e1 ⟨_, rfl⟩) (nomark _)) (pss_one (ps_raise T.xN T.nf hr.hd rfl (pa_cons pe_str pa_nil))) pss_nil)
      (pss_cons (ps_set (i := 2) scE.nd rfl (Or.inl rfl) pe_dnewK)
      (pss_cons (ps_for ownR rfl (pi_rangeL rfl T.range (pa_cons (pv 0) (pa_cons (pe_op op_add (pv 1) pe_int) pa_nil))) (pg_name (i := 3) scE.nd rfl (Or.inl rfl)) (pss_one (ps_dput hu (pv 2) (pv 3) pe_int rfl)))
      (pss_one (ps_ret (pe_call X.ok hr rfl X.mg X.kp X.b .nil passR' (pa_cons (pe_frz (pv 2)) pa_nil)))))), ?_⟩
    refine ⟨_, rfl, _, rfl, _, _, rfl, rfl, _, _, rfl, rfl, _, rfl, ?_⟩
    refine ifD (fun h1 => ?_) (fun h1 => ?_)
    · exact ⟨small (Nat.le_refl 1) (by decide), k1 h1 _ (Same.refl _)⟩
    have r := k2 (by omega)
    intro p hp
    have s1 : Same H (upd H p (.dK [])) := Same.upd (Same.refl _) hp
    refine ⟨_, rfl, _, rfl, _, _, rfl, rfl, lo, hi + 1, rfl, ?_⟩
    have en : (hi + 1 - lo).toNat = (hi - lo + 1).toNat := by omega
    rw [en]
    have hn : (hi - lo + 1).toNat ≤ 256 := by omega
    refine for_range (fun i σ H' => ∃ v3 : Option V, σ = [some (.int lo), some (.int hi), some (.ref p), v3] ∧ Same H H' ∧ H' p = some (.dK (enc (evenL lo i)))) ⟨none, rfl, s1, upd_same⟩ ?_ ?_
    · rintro i σ H' hi' ⟨v3, rfl, s2, hp2⟩
      refine ⟨_, rfl, _, rfl, p, _, rfl, DPut.k (k := Sum.inl (lo + (i : Int))) hp2 ?_, ?_⟩
      · rw [enc_len, evenL_len]; exact small' (m := 256) (by omega) (by decide)
      · refine ⟨_, rfl, Same.upd2 s2 hp, ?_⟩
        rw [upd_same, evenL_succ, ← putW_new _ (evenL_new lo i), ← enc_put]; rfl
    · rintro σ H' ⟨v3, rfl, s2, hp2⟩
      refine ⟨_, rfl, p, _, rfl, hp2, True.intro, fun od => ?_⟩
      refine ⟨p, evenL lo (hi - lo + 1).toNat, rfl, ⟨od, upd_same⟩, ⟨evenL_nd _ _, by rw [evenL_len]; omega, fun x hx => ?_⟩, ⟨lo, ?_⟩, r.at (Same.upd2 s2 hp)⟩
      · obtain ⟨i, _, rfl⟩ := List.mem_map.mp hx
        show 1 < 2 ^ 200
        decide
      · have hm : (lo, 1) ∈ evenL lo (hi - lo + 1).toNat := List.mem_map.mpr ⟨0, List.mem_range.mpr (by omega), by simp⟩
        exact Nat.lt_of_lt_of_le Nat.one_pos (wt_ge hm rfl)
structure Kept (l : Weights) : Prop extends Good l where
  ne : l ≠ []
theorem Kept.nd {l : Weights} (g : Kept l) : (l.map (·.1)).Nodup := g.canon.nd
theorem dbl_le (r : Int → Int → Bool) : ∀ l m : Weights, dbl r l m ≤ tot l * tot m
  | [], m => by show 0 ≤ _; exact Nat.zero_le _
  | x :: l, m => by
    show dbl1 (r x.1) x.2 m + dbl r l m ≤ _
    rw [tot_cons, Nat.add_mul, dbl1_mul]
    exact Nat.add_le_add (Nat.mul_le_mul_left _ (sumIf_le _ _)) (dbl_le r l m)
theorem prod_small {a b : Nat} (ha : a ≤ 1099511627776) (hb : b ≤ 1099511627776) : a * b < 2 ^ 200 := Nat.lt_of_le_of_lt (Nat.mul_le_mul ha hb) (by decide)
theorem conv_small {op : Int → Int → Int} {f g : Weights} (hf : Good f) (hg : Good g) (v : Int) : wt (conv op f g) v < 2 ^ 200 := by
  rw [wt_conv]
  exact Nat.lt_of_le_of_lt (dbl_le _ f g) (prod_small hf.tot hg.tot)
theorem conv_len (op : Int → Int → Int) : ∀ f g : Weights, (conv op f g).length = f.length * g.length
  | [], g => by show 0 = 0 * _; rw [Nat.zero_mul]
  | x :: f, g => by
    show ((g.map _) ++ conv op f g).length = (f.length + 1) * g.length
    rw [List.length_append, List.length_map, conv_len op f g, Nat.add_mul]; omega
theorem conv_snoc (op : Int → Int → Int) (f g : Weights) (x : Int × Nat) : conv op (f ++ [x]) g = conv op f g ++ g.map fun y => (op x.1 y.1, x.2 * y.2) := by
  unfold conv
  rw [List.flatMap_append]; simp
theorem conv_has {op : Int → Int → Int} {f g : Weights} (hf : Kept f) (hg : Kept g) : ∃ v, 0 < wt (conv op f g) v := by
  cases f with
  | nil => exact absurd rfl hf.ne
  | cons x f =>
    cases g with
    | nil => exact absurd rfl hg.ne
    | cons y g => exact ⟨_, conv_pos hf.canon.pos hg.canon.pos (.head _) (.head _)⟩
theorem conv_wts {op : Int → Int → Int} {f g : Weights} (hf : Good f) (hg : Good g) : Wts (addAll [] (conv op f g)) := by
  refine ⟨nd0 _, ?_, fun x hx => ?_⟩
  · have h1 := len0 (conv op f g)
    rw [conv_len] at h1
    have := Nat.mul_le_mul hf.len hg.len
    omega
  · rw [← wt_mem (nd0 _) hx, addAll_wt0]; exact conv_small hf hg _
theorem conv_low {op : Int → Int → Int} {f g : Weights} : lowest (addAll [] (conv op f g)) = both op f g := lowest_congr fun v => addAll_wt0 _ v
noncomputable def spSum (CN : Addr) : Sp := fun vs H Q E => ∃ (a b : Addr) (f g : Weights), vs = [.ref a, .ref b] ∧ FD H a f ∧ FD H b g ∧ Kept f ∧ Kept g ∧ Res CN H Q E (both (fun p q => p + q) f g)
theorem scS : FnScope ["f", "g", "weights", "left", "left_weight", "right", "right_weight", "value"] ["f", "g"] (defScope sSum) := ⟨rfl, rfl, rfl, by decide +kernel, rfl, by decide +kernel, by decide +kernel⟩
theorem ok_sum {CN CW ff fX : Addr} {fd fdX : FuncData} (F : Fun K "sum_of" "sum_of" sSum ff fd) (T : Txt K mg CN CW) (X : Fit P w K mg base CN fX fdX) : FnOk P w K mg base (CXR P w) 4 ff fd ["f", "g"] (spSum CN) := by
  refine F.okx scS (fun vs H Q E h => ?_) (fun cdv A outer s H vs Q E hr h => ?_)
  · obtain ⟨a, b, f, g, rfl, _⟩ := h
    rfl
  · obtain ⟨a, b, f, g, rfl, hf, hg, kf, kg, r⟩ := h
    have hu := hu_of hr
    obtain ⟨t1, e1⟩ := T.mv
    refine ⟨_, pss_cons (ps_set (i := 2) scS.nd rfl (Or.inl rfl) pe_dnewK)
      (pss_cons (ps_for ownR rfl (pi_items (pv 0)) (pg_tup rfl (pgs_cons (pg_name (i := 3) scS.nd rfl (Or.inl rfl)) (pgs_cons (pg_name (i := 4) scS.nd rfl (Or.inl rfl)) pgs_nil)))
        (pss_cons (ps_for ownR rfl (pi_items (pv 1)) (pg_tup rfl (pgs_cons (pg_name (i := 5) scS.nd rfl (Or.inl rfl)) (pgs_cons (pg_name (i := 6) scS.nd rfl (Or.inl rfl)) pgs_nil)))
          (pss_cons (ps_set (i := 7) scS.nd rfl (Or.inl rfl) (pe_op op_add (pv 3) (pv 5)))
          (pss_one (ps_dput hu (pv 2) (pv 7) (pe_op op_add (pe_dget2 hu (pv 2) (pv 7) pe_int ⟨rfl, rfl, rfl, rfl⟩) (pe_op op_mul (pv 4) (pv 6))) rfl))))
        (pss_one (ps_if (pt_cmpR op_gt (pe_callB call_lenR rfl T.len PySem.boot_len (pa_cons (pv 2) pa_nil)) (pe_glob (v := .int 256) rfl e1 ⟨_, rfl⟩) (nomark _)) (pss_one (ps_raise T.xN T.nf hr.hd rfl (pa_cons pe_str pa_nil))) pss_nil))))
      (pss_one (ps_ret (pe_call X.ok hr rfl X.mg X.kp X.b .nil passR' (pa_cons (pe_frz (pv 2)) pa_nil))))), ?_⟩
    intro p hp
    have s1 : Same H (upd H p (.dK [])) := Same.upd (Same.refl _) hp
    obtain ⟨oa, ha⟩ := id hf
    obtain ⟨ob, hb⟩ := id hg
    refine ⟨_, rfl, a, oa, enc f, rfl, s1 _ _ ha, ?_⟩
    refine for_items (fun i σ H' => ∃ v3 v4 v5 v6 v7 : Option V, σ = [some (.ref a), some (.ref b), some (.ref p), v3, v4, v5, v6, v7] ∧ Same H H' ∧ H' p = some (.dK (enc (addAll [] (conv (fun p q => p + q) (f.take i) g)))))
      ⟨none, none, none, none, none, rfl, s1, upd_same⟩ (fun i σ H' _ ⟨_, _, _, _, _, _, s2, _⟩ => s2 _ _ ha) ?_ ?_
    · rintro i k1 w1 σ H' T1 hi ⟨v3, v4, v5, v6, v7, rfl, s2, hp2⟩ hT
      obtain ⟨x, hx, rfl, rfl⟩ := enc_get hi
      have s3 : Same H (upd H' T1 (.tup [kV (Sum.inl x.1), .int (x.2 : Int)])) := Same.upd s2 hT
      have npT : p ≠ T1 := ne_of_none hp2 hT
      refine ⟨T1, _, rfl, SqT.of upd_same, rfl, _, _, rfl, _, _, rfl, rfl, ?_⟩
      refine ⟨_, rfl, b, ob, enc g, rfl, s3 _ _ hb, ?_⟩
      refine for_items (fun j σ H2 => ∃ v5 v6 v7 : Option V, σ = [some (.ref a), some (.ref b), some (.ref p), some (.int x.1), some (.int (x.2 : Int)), v5, v6, v7] ∧ Same H H2 ∧
          H2 p = some (.dK (enc (addAll [] (conv (fun p q => p + q) (f.take i) g ++ (g.take j).map fun y => (x.1 + y.1, x.2 * y.2))))))
        ⟨v5, v6, v7, rfl, s3, by rw [upd_ne npT, hp2]; simp⟩ (fun j σ H2 _ ⟨_, _, _, _, s4, _⟩ => s4 _ _ hb) ?_ ?_
      · rintro j k2 w2 σ H2 T2 hj ⟨v5, v6, v7, rfl, s4, hp4⟩ hT2
        obtain ⟨y, hy, rfl, rfl⟩ := enc_get hj
        have s5 : Same H (upd H2 T2 (.tup [kV (Sum.inl y.1), .int (y.2 : Int)])) := Same.upd s4 hT2
        have npT2 : p ≠ T2 := ne_of_none hp4 hT2
        have hp5 : upd H2 T2 (.tup [kV (Sum.inl y.1), .int (y.2 : Int)]) p = some (.dK (enc (addAll [] (conv (fun p q => p + q) (f.take i) g ++ (g.take j).map fun y => (x.1 + y.1, x.2 * y.2))))) := by rw [upd_ne npT2]; exact hp4
        have hx2 := kf.w (List.mem_of_getElem? hx)
        have nd := nd0 (conv (fun p q => p + q) (f.take i) g ++ (g.take j).map fun y => (x.1 + y.1, x.2 * y.2))
        refine ⟨T2, _, rfl, SqT.of upd_same, rfl, _, _, rfl, _, _, rfl, rfl, ?_⟩
        refine ⟨_, rfl, _, rfl, _, _, rfl, rfl, _, rfl, p, rfl, isD_of hp5, _, rfl, _, DGet.k (k := Sum.inl (x.1 + y.1)) hp5, _, rfl, _, rfl, _, _, rfl, rfl, .inl ⟨by omega, by omega⟩, _, _, enc_val nd _, rfl, _, rfl, _, rfl, p, _, rfl, DPut.k (k := Sum.inl (x.1 + y.1)) hp5 ?_, ?_⟩
        · rw [enc_len]
          have h1 := len0 (conv (fun p q => p + q) (f.take i) g ++ (g.take j).map fun y => (x.1 + y.1, x.2 * y.2))
          rw [List.length_append, conv_len, List.length_map] at h1
          have h2 : (f.take i).length ≤ 256 := Nat.le_trans (List.length_take_le' ..) kf.len
          have h3 : (g.take j).length ≤ 256 := Nat.le_trans (List.length_take_le' ..) kg.len
          have h4 := Nat.mul_le_mul h2 kg.len
          exact small' (m := 100000) (by omega) (by decide)
        · refine ⟨_, _, _, rfl, Same.upd2 s5 hp, ?_⟩
          have e2 : (conv (fun p q => p + q) (f.take i) g ++ (g.take (j + 1)).map fun y => (x.1 + y.1, x.2 * y.2)) = (conv (fun p q => p + q) (f.take i) g ++ (g.take j).map fun y => (x.1 + y.1, x.2 * y.2)) ++ [(x.1 + y.1, x.2 * y.2)] := by
            rw [take_snoc hy, List.map_append, List.append_assoc]; rfl
          rw [upd_same, e2, addAll_snoc]
          show some (HO.dK (putK _ (Sum.inl (x.1 + y.1)) (V.int ((wt _ (x.1 + y.1) : Int) + (x.2 : Int) * (y.2 : Int))))) = some (HO.dK (enc (putW _ (x.1 + y.1) (wt _ (x.1 + y.1) + x.2 * y.2))))
          rw [← enc_put]; rfl
      · rintro σ H2 ⟨v5, v6, v7, rfl, s4, hp4⟩
        rw [enc_len, List.take_length, ← conv_snoc (fun p q => p + q) (f.take i) g x, ← take_snoc hx] at hp4
        refine ⟨_, rfl, p, _, rfl, .inl hp4, _, _, rfl, rfl, _, rfl, ?_⟩
        rw [enc_len]
        refine ifD (fun h1 => ?_) (fun h1 => ?_)
        · exact ⟨small (Nat.le_refl 1) (by decide), r.2 (too_many (i := i + 1) kf.canon kg.canon (by omega)) _ s4⟩
        · exact ⟨_, _, _, _, _, rfl, s4, hp4⟩
    · rintro σ H' ⟨v3, v4, v5, v6, v7, rfl, s2, hp2⟩
      rw [enc_len, List.take_length] at hp2
      refine ⟨_, rfl, p, _, rfl, hp2, True.intro, fun od => ?_⟩
      refine ⟨p, addAll [] (conv (fun p q => p + q) f g), rfl, ⟨od, upd_same⟩, conv_wts kf.toGood kg.toGood, ?_, ?_⟩
      · obtain ⟨v, hv⟩ := conv_has (op := fun p q => p + q) kf kg
        exact ⟨v, by rw [addAll_wt0]; exact hv⟩
      · rw [conv_low]; exact r.at (Same.upd2 s2 hp)
noncomputable def spLater (K : PySem.W.Frag) (CN : Addr) : Sp := fun vs H Q E => ∃ (a b q : Addr) (f g : Weights) (R : List Int), vs = [.ref a, .ref b, .ref q] ∧ FD H a f ∧ FD H b g ∧ SqL K H q (R.map V.int) ∧ Good f ∧ Good g ∧ R.Nodup ∧ R.length ≤ 1000 ∧ (∃ v, 0 < wt (laterW f g [] R) v) ∧
  Res CN H Q E (lowest (laterW f g [] R))
theorem scLt : FnScope ["f", "g", "order", "weights", "f_before", "g_before", "value", "f_up_to", "g_up_to"] ["f", "g", "order"] (defScope sLater) := ⟨rfl, rfl, rfl, by decide +kernel, rfl, by decide +kernel, by decide +kernel⟩
theorem laterW_small {f g : Weights} (hf : Good f) (hg : Good g) : ∀ (R P : List Int), (P ++ R).Nodup → ∀ x ∈ laterW f g P R, x.2 < 2 ^ 200
  | [], _, _, x, h => nomatch h
  | v :: R, P, nd, x, h => by
    have e : P ++ v :: R = P ++ [v] ++ R := by simp
    have nd' : (P ++ [v]).Nodup := (List.nodup_append.mp (by rw [← e]; exact nd)).1
    rcases List.mem_cons.mp h with q | q
    · rw [q]
      show cum f (P ++ [v]) * cum g (P ++ [v]) - cum f P * cum g P < _
      have := prod_small (Nat.le_trans (cum_le f nd') hf.tot) (Nat.le_trans (cum_le g nd') hg.tot)
      omega
    · exact laterW_small hf hg R (P ++ [v]) (by rw [← e]; exact nd) x q
theorem ok_later {CN CW ff fX : Addr} {fd fdX : FuncData} (F : Fun K "later_of" "later_of" sLater ff fd) (T : Txt K mg CN CW) (X : Fit P w K mg base CN fX fdX) : FnOk P w K mg base (CXR P w) 4 ff fd ["f", "g", "order"] (spLater K CN) := by
  refine F.okx scLt (fun vs H Q E h => ?_) (fun cdv A outer s H vs Q E hr h => ?_)
  · obtain ⟨a, b, q, f, g, R, rfl, _⟩ := h
    rfl
  · obtain ⟨a, b, q, f, g, R, rfl, hf, hg, hq, kf, kg, ndR, lenR, hpos, r⟩ := h
    have hu := hu_of hr
    refine ⟨_, pss_cons (ps_set (i := 3) scLt.nd rfl (Or.inl rfl) pe_dnewK)
      (pss_cons (ps_set (i := 4) scLt.nd rfl (Or.inl rfl) pe_int) (pss_cons (ps_set (i := 5) scLt.nd rfl (Or.inl rfl) pe_int)
      (pss_cons (ps_for ownR rfl (pi_list (pv 2)) (pg_name (i := 6) scLt.nd rfl (Or.inl rfl))
        (pss_cons (ps_set (i := 7) scLt.nd rfl (Or.inl rfl) (pe_op op_add (pv 4) (pe_dget2 hu (pv 0) (pv 6) pe_int ⟨rfl, rfl, rfl, rfl⟩)))
        (pss_cons (ps_set (i := 8) scLt.nd rfl (Or.inl rfl) (pe_op op_add (pv 5) (pe_dget2 hu (pv 1) (pv 6) pe_int ⟨rfl, rfl, rfl, rfl⟩)))
        (pss_cons (ps_dput hu (pv 3) (pv 6) (pe_op op_sub (pe_op op_mul (pv 7) (pv 8)) (pe_op op_mul (pv 4) (pv 5))) rfl)
        (pss_cons (ps_set (i := 4) scLt.nd rfl (Or.inl rfl) (pv 7)) (pss_one (ps_set (i := 5) scLt.nd rfl (Or.inl rfl) (pv 8))))))))
      (pss_one (ps_ret (pe_call X.ok hr rfl X.mg X.kp X.b .nil passR' (pa_cons (pe_frz (pv 3)) pa_nil))))))), ?_⟩
    intro p hp
    have s1 : Same H (upd H p (.dK [])) := Same.upd (Same.refl _) hp
    refine ⟨_, rfl, q, rfl, ⟨_, s1.seq hq⟩, for_list (K := K) (a := q) (xs := R.map V.int) (fun i σ H' => ∃ v6 v7 v8 : Option V, σ = [some (.ref a), some (.ref b), some (.ref q), some (.ref p), some (.int (cum f (R.take i) : Nat)), some (.int (cum g (R.take i) : Nat)), v6, v7, v8] ∧ Same H H' ∧
        H' p = some (.dK (enc (laterW f g [] (R.take i))))) ⟨none, none, none, rfl, s1, upd_same⟩ (fun i σ H' _ ⟨_, _, _, _, s2, _⟩ => s2.seq hq) ?_ ?_⟩
    · rintro i y σ H' hi ⟨v6, v7, v8, rfl, s2, hp2⟩
      obtain ⟨z, hz, rfl⟩ : ∃ z, R[i]? = some z ∧ y = V.int z := by
        rw [List.getElem?_map] at hi
        cases e : R[i]? with
        | none => rw [e] at hi; cases hi
        | some z => rw [e] at hi; exact ⟨z, rfl, (Option.some.inj hi).symm⟩
      have hf2 := hf.mono s2
      have hg2 := hg.mono s2
      have ndT : (R.take (i + 1)).Nodup := (List.take_sublist _ _).nodup ndR
      have ndT0 : (R.take i).Nodup := (List.take_sublist _ _).nodup ndR
      have cf : cum f (R.take (i + 1)) = cum f (R.take i) + wt f z := by rw [take_snoc hz, cum_snoc]
      have cg : cum g (R.take (i + 1)) = cum g (R.take i) + wt g z := by rw [take_snoc hz, cum_snoc]
      have bf : cum f (R.take (i + 1)) ≤ 1099511627776 := Nat.le_trans (cum_le f ndT) kf.tot
      have bf0 : cum f (R.take i) ≤ 1099511627776 := Nat.le_trans (cum_le f ndT0) kf.tot
      have nz : z ∉ (laterW f g [] (R.take i)).map (·.1) := fun hm => by
        rw [laterW_keys] at hm
        obtain ⟨j, hj, e⟩ := List.mem_take_iff_getElem.mp hm
        have := nd_ix ndR (List.getElem?_eq_some_iff.mpr ⟨by omega, e⟩) hz
        omega
      refine ⟨_, rfl, _, rfl, a, rfl, hf2.isD, _, rfl, _, hf2.get z, _, _, rfl, enc_val kf.canon.nd z, ?_⟩
      refine ⟨_, rfl, _, rfl, b, rfl, hg2.isD, _, rfl, _, hg2.get z, _, _, rfl, enc_val kg.canon.nd z, ?_⟩
      refine ⟨_, rfl, _, rfl, _, _, rfl, rfl, .inl ⟨by omega, by omega⟩, _, rfl, _, rfl, _, _, rfl, rfl, .inl ⟨by omega, by omega⟩, _, _, rfl, rfl, _, rfl, _, rfl, p, _, rfl, DPut.k (k := Sum.inl z) hp2 ?_, ?_⟩
      · rw [enc_len, ← List.length_map (f := fun x : Int × Nat => x.1), laterW_keys]
        exact small' (m := 1000) (Nat.le_trans (List.length_take_le' ..) lenR) (by decide)
      · refine ⟨_, rfl, _, rfl, some (.int z), some (.int ((cum f (R.take i) : Int) + (wt f z : Int))), some (.int ((cum g (R.take i) : Int) + (wt g z : Int))), ?_, Same.upd2 s2 hp, ?_⟩
        · rw [cf, cg]; rfl
        · have hm : cum f (R.take i) * cum g (R.take i) ≤ cum f (R.take (i + 1)) * cum g (R.take (i + 1)) := Nat.mul_le_mul (by omega) (by omega)
          rw [upd_same, take_snoc hz, laterW_snoc, ← putW_new _ nz, ← enc_put]
          show some (HO.dK (putK _ _ (V.int (((cum f (R.take i) : Int) + (wt f z : Int)) * ((cum g (R.take i) : Int) + (wt g z : Int)) - (cum f (R.take i) : Int) * (cum g (R.take i) : Int))))) = some (HO.dK (putK _ _ (V.int _)))
          congr 4
          rw [List.nil_append, ← take_snoc hz, Int.ofNat_sub hm, Int.natCast_mul, Int.natCast_mul, cf, cg]
          push_cast
          rfl
    · rintro σ H' ⟨v6, v7, v8, rfl, s2, hp2⟩
      rw [List.length_map, List.take_length] at hp2
      refine ⟨_, rfl, p, _, rfl, hp2, True.intro, fun od => ?_⟩
      refine ⟨p, laterW f g [] R, rfl, ⟨od, upd_same⟩, ⟨by rw [laterW_keys]; exact ndR, ?_, laterW_small kf kg R [] ndR⟩, hpos, r.at (Same.upd2 s2 hp)⟩
      rw [← List.length_map (f := fun x : Int × Nat => x.1), laterW_keys]; omega
structure SumF (P : Program) (w : World) (K : PySem.W.Frag) (mg : Str → Option Value) (base : Heap) (CN fX : Addr) (fdX : FuncData) : Prop where
  ok : FnOk P w K mg base (CXR P w) 4 fX fdX ["f", "g"] (spSum CN)
  kp : PySem.W.keepIn K (.ref fX) = true
  b : Binds K fdX ["f", "g"] []
  mg : mg "sum_of" = some (.ref fX)
noncomputable def spTimes (CN : Addr) : Sp := fun vs H Q E => ∃ (a : Addr) (f : Weights) (n : Nat), vs = [.ref a, .int (n : Int)] ∧ FD H a f ∧ Kept f ∧ n ≤ 100 ∧
  (∀ m, Dx.times f n = some m → ∀ (H' : Hp) (p : Addr), Same H H' → H p = none → FD H' p m → m ≠ [] → Q (.ref p) H') ∧ (Dx.times f n = none → ∀ H' : Hp, Same H H' → E (.ref CN) none H')
theorem scTi : FnScope ["f", "n", "total", "done"] ["f", "n"] (defScope sTimes) := ⟨rfl, rfl, rfl, by decide +kernel, rfl, by decide +kernel, by decide +kernel⟩
theorem ok_times {CN CW ff fX : Addr} {fd fdX : FuncData} (F : Fun K "times_of" "times_of" sTimes ff fd) (T : Txt K mg CN CW) (X : SumF P w K mg base CN fX fdX) : FnOk P w K mg base (CXR P w) 5 ff fd ["f", "n"] (spTimes CN) := by
  refine F.okx scTi (fun vs H Q E h => ?_) (fun cdv A outer s H vs Q E hr h => ?_)
  · obtain ⟨a, f, n, rfl, _⟩ := h
    rfl
  · obtain ⟨a, f, n, rfl, hf, kf, hn, k1, k2⟩ := h
    have hu := hu_of hr
    refine ⟨_, pss_cons (ps_set (i := 2) scTi.nd rfl (Or.inl rfl) (pe_frz (pe_disp (pps_cons pe_int pe_int pps_nil) rfl rfl (by simp) (by decide))))
      (pss_cons (ps_for ownR rfl (pi_range1 rfl T.range (pa_cons (pv 1) pa_nil)) (pg_name (i := 3) scTi.nd rfl (Or.inl rfl))
        (pss_one (ps_set (i := 2) scTi.nd rfl (Or.inl rfl) (pe_call X.ok hr rfl X.mg X.kp X.b .nil passR' (pa_cons (pv 2) (pa_cons (pv 0) pa_nil))))))
      (pss_one (ps_ret (pv 2)))), ?_⟩
    intro p hp
    refine ⟨upd_same, [(Sum.inl 0, .int 1)], rfl, by decide, p, _, rfl, upd_same, True.intro, fun od => ?_⟩
    have s1 : Same H (L2.upd (L2.upd (L2.upd H p (.dK [])) p (.dK (mergeK [] [(Sum.inl 0, .int 1)]))) p (.frz od (.dK (mergeK [] [(Sum.inl 0, .int 1)])))) := Same.upd2 (Same.upd2 (Same.upd2 (Same.refl _) hp) hp) hp
    refine ⟨_, rfl, (n : Int), rfl, by omega, by omega, ?_⟩
    rw [Int.toNat_natCast]
    refine for_range (fun i σ H' => ∃ (v3 : Option V) (q : Addr) (m : Weights), σ = [some (.ref a), some (.int (n : Int)), some (.ref q), v3] ∧ Same H H' ∧ H q = none ∧ FD H' q m ∧ m ≠ [] ∧ Dx.times f i = some m)
      ⟨none, p, [(0, 1)], rfl, s1, hp, ⟨od, upd_same⟩, by simp, rfl⟩ ?_ ?_
    · rintro i σ H' hi ⟨v3, q, m, rfl, s2, hq, hm, hne, ht⟩
      have km : Kept m := ⟨times_good ht, hne⟩
      refine ⟨_, rfl, _, rfl, q, a, m, f, rfl, hm, hf.mono s2, km, kf, fun h H2 p2 s3 hp2 hfd => ?_, fun h H2 s3 => ?_⟩
      · refine ⟨some (.int (0 + (i : Int))), p2, both (fun p q => p + q) m f, rfl, s2.trans s3, s2.free hp2, hfd, lowest_ne (conv_has km kf), ?_⟩
        rw [times_succ ht, if_pos h]
      · refine k2 ?_ H2 (s2.trans s3)
        have e : Dx.times f (i + 1) = none := by rw [times_succ ht, if_neg (by rw [h]; exact Bool.false_ne_true)]
        have := times_none e (n - (i + 1))
        rw [show i + 1 + (n - (i + 1)) = n by omega] at this
        exact this
    · rintro σ H' ⟨v3, q, m, rfl, s2, hq, hm, hne, ht⟩
      exact ⟨_, rfl, k1 m ht H' q s2 hq hm hne⟩
noncomputable def spMix (CN : Addr) : Sp := fun vs H Q E => ∃ (p q : Addr) (f g : Weights) (a b : Nat), vs = [.ref p, .ref q, .int (a : Int), .int (b : Int)] ∧ FD H p f ∧ FD H q g ∧ Kept f ∧ Kept g ∧ 1 ≤ a ∧ a ≤ 65535 ∧ 1 ≤ b ∧ b ≤ 65535 ∧ Res CN H Q E (Dx.mix a b f g)
theorem scM : FnScope ["f", "g", "a", "b", "f_factor", "g_factor", "weights", "value", "weight"] ["f", "g", "a", "b"] (defScope sMix) := ⟨rfl, rfl, rfl, by decide +kernel, rfl, by decide +kernel, by decide +kernel⟩
theorem mix_lowest {a b : Nat} {f g : Weights} (nd : (f.map (·.1)).Nodup) : lowest (mixW a b f g) = Dx.mix a b f g := lowest_congr fun v => mix_low nd v
theorem tot_pos {f : Weights} (k : Kept f) : 0 < tot f := by
  cases f with
  | nil => exact absurd rfl k.ne
  | cons x f => rw [tot_cons]; have := k.canon.pos x (.head _); omega
theorem mix_wt {a b : Nat} {f g : Weights} (nd : (f.map (·.1)).Nodup) (v : Int) : wt (mixW a b f g) v = a * tot g * wt f v + b * tot f * wt g v := by
  unfold mixW
  rw [wt_addAll v (by rw [List.map_map]; exact nd), wt_scale, wt_scale]
theorem mixW_nd {a b : Nat} {f g : Weights} (nd : (f.map (·.1)).Nodup) : ((mixW a b f g).map (·.1)).Nodup := addAll_nd (by rw [List.map_map]; exact nd)
theorem mix_wts {a b : Nat} {f g : Weights} (kf : Kept f) (kg : Kept g) (ha : a ≤ 65535) (hb : b ≤ 65535) : Wts (mixW a b f g) := by
  refine ⟨mixW_nd kf.nd, ?_, fun x hx => ?_⟩
  · have h1 := addAll_len (g.map fun x => (x.1, b * tot f * x.2)) (f.map fun x => (x.1, a * tot g * x.2))
    rw [List.length_map, List.length_map] at h1
    have := kf.len
    have := kg.len
    show (addAll _ _).length ≤ _
    omega
  · rw [← wt_mem (mixW_nd kf.nd) hx, mix_wt kf.nd]
    have h1 : a * tot g * wt f x.1 ≤ 65535 * 1099511627776 * 1099511627776 := Nat.mul_le_mul (Nat.mul_le_mul ha kg.tot) (kf.toGood.wt _)
    have h2 : b * tot f * wt g x.1 ≤ 65535 * 1099511627776 * 1099511627776 := Nat.mul_le_mul (Nat.mul_le_mul hb kf.tot) (kg.toGood.wt _)
    refine Nat.lt_of_le_of_lt (Nat.add_le_add h1 h2) (by decide)
theorem ok_mix {CN CW ff fX : Addr} {fd fdX : FuncData} (F : Fun K "mix_of" "mix_of" sMix ff fd) (T : Txt K mg CN CW) (X : Fit P w K mg base CN fX fdX) : FnOk P w K mg base (CXR P w) 4 ff fd ["f", "g", "a", "b"] (spMix CN) := by
  refine F.okx scM (fun vs H Q E h => ?_) (fun cdv A outer s H vs Q E hr h => ?_)
  · obtain ⟨a, b, f, g, n, m, rfl, _⟩ := h
    rfl
  · obtain ⟨ad, bd, f, g, a, b, rfl, hf, hg, kf, kg, ha1, ha2, hb1, hb2, r⟩ := h
    have hu := hu_of hr
    refine ⟨_, pss_cons (ps_set (i := 4) scM.nd rfl (Or.inl rfl) (pe_op op_mul (pv 2) (pe_sumV rfl rfl T.sum (pv 1))))
      (pss_cons (ps_set (i := 5) scM.nd rfl (Or.inl rfl) (pe_op op_mul (pv 3) (pe_sumV rfl rfl T.sum (pv 0))))
      (pss_cons (ps_set (i := 6) scM.nd rfl (Or.inl rfl) pe_dnewK)
      (pss_cons (ps_for ownR rfl (pi_items (pv 0)) (pg_tup rfl (pgs_cons (pg_name (i := 7) scM.nd rfl (Or.inl rfl)) (pgs_cons (pg_name (i := 8) scM.nd rfl (Or.inl rfl)) pgs_nil)))
        (pss_one (ps_dput hu (pv 6) (pv 7) (pe_op op_mul (pv 4) (pv 8)) rfl)))
      (pss_cons (ps_for ownR rfl (pi_items (pv 1)) (pg_tup rfl (pgs_cons (pg_name (i := 7) scM.nd rfl (Or.inl rfl)) (pgs_cons (pg_name (i := 8) scM.nd rfl (Or.inl rfl)) pgs_nil)))
        (pss_one (ps_dput hu (pv 6) (pv 7) (pe_op op_add (pe_dget2 hu (pv 6) (pv 7) pe_int ⟨rfl, rfl, rfl, rfl⟩) (pe_op op_mul (pv 5) (pv 8))) rfl)))
      (pss_one (ps_ret (pe_call X.ok hr rfl X.mg X.kp X.b .nil passR' (pa_cons (pe_frz (pv 6)) pa_nil)))))))), ?_⟩
    obtain ⟨oa, hao⟩ := id hf
    obtain ⟨ob, hbo⟩ := id hg
    refine ⟨_, rfl, _, rfl, bd, enc g, _, rfl, hg.rd, enc_vals g, _, _, rfl, rfl, .inl ⟨by omega, by omega⟩, ?_⟩
    refine ⟨_, rfl, _, rfl, ad, enc f, _, rfl, hf.rd, enc_vals f, _, _, rfl, rfl, .inl ⟨by omega, by omega⟩, ?_⟩
    rw [sum_cast, sum_cast]
    intro p hp
    have s1 : Same H (upd H p (.dK [])) := Same.upd (Same.refl _) hp
    refine ⟨_, rfl, ad, oa, enc f, rfl, s1 _ _ hao, ?_⟩
    refine for_items (fun i σ H' => ∃ v7 v8 : Option V, σ = [some (.ref ad), some (.ref bd), some (.int (a : Int)), some (.int (b : Int)), some (.int ((a : Int) * (tot g : Int))), some (.int ((b : Int) * (tot f : Int))), some (.ref p), v7, v8] ∧ Same H H' ∧
        H' p = some (.dK (enc ((f.take i).map fun x => (x.1, a * tot g * x.2))))) ⟨none, none, rfl, s1, upd_same⟩ (fun i σ H' _ ⟨_, _, _, s2, _⟩ => s2 _ _ hao) ?_ ?_
    · rintro i k1 w1 σ H' T1 hi ⟨v7, v8, rfl, s2, hp2⟩ hT
      obtain ⟨x, hx, rfl, rfl⟩ := enc_get hi
      have s3 : Same H (upd H' T1 (.tup [kV (Sum.inl x.1), .int (x.2 : Int)])) := Same.upd s2 hT
      have npT : p ≠ T1 := ne_of_none hp2 hT
      have hx2 := kf.w (List.mem_of_getElem? hx)
      have hp3 : upd H' T1 (.tup [kV (Sum.inl x.1), .int (x.2 : Int)]) p = some (.dK (enc ((f.take i).map fun x => (x.1, a * tot g * x.2)))) := by rw [upd_ne npT]; exact hp2
      have nx : x.1 ∉ ((f.take i).map fun x => (x.1, a * tot g * x.2)).map (·.1) := fun hm => by
        rw [List.map_map] at hm
        obtain ⟨y, hy, e⟩ := List.mem_map.mp hm
        obtain ⟨j, hj, e2⟩ := List.mem_take_iff_getElem.mp hy
        have c1 : (f.map (·.1))[j]? = some x.1 := by rw [List.getElem?_map, List.getElem?_eq_some_iff.mpr ⟨by omega, e2⟩]; exact congrArg some e
        have c2 : (f.map (·.1))[i]? = some x.1 := by rw [List.getElem?_map, hx]; rfl
        have := nd_ix kf.nd c1 c2
        omega
      refine ⟨T1, _, rfl, SqT.of upd_same, rfl, _, _, rfl, _, _, rfl, rfl, ?_⟩
      refine ⟨_, rfl, _, rfl, _, _, rfl, rfl, .inr ⟨by omega, by omega⟩, _, rfl, _, rfl, p, _, rfl, DPut.k (k := Sum.inl x.1) hp3 ?_, ?_⟩
      · rw [enc_len, List.length_map]
        exact small' (m := 256) (Nat.le_trans (List.length_take_le' ..) kf.len) (by decide)
      · refine ⟨_, _, rfl, Same.upd2 s3 hp, ?_⟩
        rw [upd_same, take_snoc hx, List.map_append]
        show _ = some (HO.dK (enc (((f.take i).map fun x => (x.1, a * tot g * x.2)) ++ [(x.1, a * tot g * x.2)])))
        rw [← putW_new _ nx, ← enc_put]; rfl
    · rintro σ H' ⟨v7, v8, rfl, s2, hp2⟩
      rw [enc_len, List.take_length] at hp2
      refine ⟨_, rfl, bd, ob, enc g, rfl, s2 _ _ hbo, ?_⟩
      refine for_items (fun i σ H' => ∃ v7 v8 : Option V, σ = [some (.ref ad), some (.ref bd), some (.int (a : Int)), some (.int (b : Int)), some (.int ((a : Int) * (tot g : Int))), some (.int ((b : Int) * (tot f : Int))), some (.ref p), v7, v8] ∧ Same H H' ∧
          H' p = some (.dK (enc (addAll (f.map fun x => (x.1, a * tot g * x.2)) ((g.take i).map fun x => (x.1, b * tot f * x.2)))))) ⟨v7, v8, rfl, s2, hp2⟩ (fun i σ H' _ ⟨_, _, _, s2, _⟩ => s2 _ _ hbo) ?_ ?_
      · rintro i k1 w1 σ H2 T1 hi ⟨v7, v8, rfl, s4, hp4⟩ hT
        obtain ⟨x, hx, rfl, rfl⟩ := enc_get hi
        have s5 : Same H (upd H2 T1 (.tup [kV (Sum.inl x.1), .int (x.2 : Int)])) := Same.upd s4 hT
        have npT : p ≠ T1 := ne_of_none hp4 hT
        have hx2 := kg.w (List.mem_of_getElem? hx)
        have hp5 : upd H2 T1 (.tup [kV (Sum.inl x.1), .int (x.2 : Int)]) p = some (.dK (enc (addAll (f.map fun x => (x.1, a * tot g * x.2)) ((g.take i).map fun x => (x.1, b * tot f * x.2))))) := by rw [upd_ne npT]; exact hp4
        have nd : ((addAll (f.map fun x => (x.1, a * tot g * x.2)) ((g.take i).map fun x => (x.1, b * tot f * x.2))).map (·.1)).Nodup := addAll_nd (by rw [List.map_map]; exact kf.nd)
        refine ⟨T1, _, rfl, SqT.of upd_same, rfl, _, _, rfl, _, _, rfl, rfl, ?_⟩
        refine ⟨_, rfl, p, rfl, isD_of hp5, _, rfl, _, DGet.k (k := Sum.inl x.1) hp5, _, rfl, _, rfl, _, _, rfl, rfl, .inr ⟨by omega, by omega⟩, _, _, enc_val nd _, rfl, _, rfl, _, rfl, p, _, rfl, DPut.k (k := Sum.inl x.1) hp5 ?_, ?_⟩
        · rw [enc_len]
          have h1 := addAll_len ((g.take i).map fun x => (x.1, b * tot f * x.2)) (f.map fun x => (x.1, a * tot g * x.2))
          rw [List.length_map, List.length_map] at h1
          have h2 : (g.take i).length ≤ 256 := Nat.le_trans (List.length_take_le' ..) kg.len
          have := kf.len
          exact small' (m := 600) (by omega) (by decide)
        · refine ⟨_, _, rfl, Same.upd2 s5 hp, ?_⟩
          rw [upd_same, take_snoc hx, List.map_append]
          show _ = some (HO.dK (enc (addAll _ (((g.take i).map fun x => (x.1, b * tot f * x.2)) ++ [(x.1, b * tot f * x.2)]))))
          rw [addAll_snoc]
          unfold addW
          rw [← enc_put]; rfl
      · rintro σ H2 ⟨v7, v8, rfl, s4, hp4⟩
        rw [enc_len, List.take_length] at hp4
        refine ⟨_, rfl, p, _, rfl, hp4, True.intro, fun od => ?_⟩
        refine ⟨p, mixW a b f g, rfl, ⟨od, upd_same⟩, mix_wts kf kg ha2 hb2, ?_, ?_⟩
        · cases hfe : f with
          | nil => exact absurd hfe kf.ne
          | cons x f' =>
            refine ⟨x.1, ?_⟩
            rw [← hfe, mix_wt kf.nd]
            have h1 : 0 < wt f x.1 := by rw [wt_mem kf.nd (x := x) (by rw [hfe]; exact .head _)]; exact kf.canon.pos x (by rw [hfe]; exact .head _)
            have h2 := tot_pos kg
            have h3 : 0 < a * tot g * wt f x.1 := Nat.mul_pos (Nat.mul_pos (by omega) h2) h1
            omega
        · rw [mix_lowest kf.nd]; exact r.at (Same.upd2 s4 hp)
end
end Ev
end
section
set_option Elab.async false
set_option linter.all false
set_option maxRecDepth 100000
set_option maxHeartbeats 2000000
namespace Ev
open PySem PySem.Spec PyProof.Rows L2 Dx
noncomputable abbrev sGreat : Stmt := top 14
noncomputable abbrev sLess : Stmt := top 15
noncomputable abbrev sPart : Stmt := top 18
noncomputable abbrev sGiven : Stmt := top 19
structure TxtB (K : PySem.W.Frag) (mg : Str → Option Value) (CT : Addr) : Prop where
  nt : mg "NoneThere" = some (.ref CT)
  xT : Exc K CT
  set : mg "set" = none
  list : mg "list" = none
  reversed : mg "reversed" = none
  abs : mg "abs" = none
  tg : ∃ t, mg "TOO_GREAT" = some (.int 9223372036854775808 t)
structure LatF (P : Program) (w : World) (K : PySem.W.Frag) (mg : Str → Option Value) (base : Heap) (CN fX : Addr) (fdX : FuncData) : Prop where
  ok : FnOk P w K mg base (CXR P w) 4 fX fdX ["f", "g", "order"] (spLater K CN)
  kp : PySem.W.keepIn K (.ref fX) = true
  b : Binds K fdX ["f", "g", "order"] []
  mg : mg "later_of" = some (.ref fX)
section
variable {P : Program} {w : World} {K : PySem.W.Frag} {mg : Str → Option Value} {base : Heap}
theorem su_read {f g : Weights} {a b : Addr} {σ : L2.St} {H : Hp} {Q : VK} {i j : Nat} (hi : σ[i]? = some (some (.ref a))) (hj : σ[j]? = some (some (.ref b))) (hf : FD H a f) (hg : FD H b g) (kf : Kept f) (kg : Kept g)
    (k : ∀ (H' : Hp) (ms : List Int) (q : Addr), Same H H' → H q = none → H' q = some (.lst (ms.map V.int)) → ms.Pairwise (· < ·) → (∀ x ∈ f, x.1 ∈ ms) → (∀ x ∈ g, x.1 ∈ ms) → ms.length ≤ 512 → Q (.ref q) H') :
    tCB (rSortedSet P w) (tCons (tOp (rSetOr P w) (tCB (rSetD P w) (tCons (tVar i) tNil)) (tCB (rSetD P w) (tCons (tVar j) tNil))) tNil) σ H Q := by
  have lf := kf.len
  have lg := kg.len
  refine ⟨_, hi, a, enc f, f.map (·.1), rfl, hf.rd, enc_keys f, by rw [List.length_map]; omega, fun p1 hp1 => ?_⟩
  have s1 : Same H (upd H p1 (SetO P w p1 (f.map (·.1)))) := Same.upd (Same.refl _) hp1
  refine ⟨_, hj, b, enc g, g.map (·.1), rfl, (hg.mono s1).rd, enc_keys g, by rw [List.length_map]; omega, fun p2 hp2 => ?_⟩
  have s2 := Same.upd s1 (o := SetO P w p2 (g.map (·.1))) hp2
  have n12 : p1 ≠ p2 := ne_of_none upd_same hp2
  refine ⟨p1, p2, _, _, rfl, rfl, n12, by rw [upd_ne n12, upd_same], upd_same, ?_, by rw [List.length_map, List.length_map]; omega, fun p3 hp3 => ?_⟩
  · cases hfe : f with
    | nil => exact absurd hfe kf.ne
    | cons x f' => simp
  have s3 := Same.upd s2 (o := SetO P w p3 (f.map (·.1) ++ g.map (·.1))) hp3
  refine ⟨p3, _, rfl, upd_same, fun ms q hs hm hl hq => ?_⟩
  have s4 := Same.upd s3 (o := .lst (ms.map V.int)) hq
  refine k _ ms q s4 (s3.free hq) upd_same hs (fun x hx => (hm _).mpr (List.mem_append_left _ (List.mem_map_of_mem hx))) (fun x hx => (hm _).mpr (List.mem_append_right _ (List.mem_map_of_mem hx))) ?_
  rw [List.length_append, List.length_map, List.length_map] at hl
  omega
noncomputable def spTwo (op : Int → Int → Int) (CN : Addr) : Sp := fun vs H Q E => ∃ (a b : Addr) (f g : Weights), vs = [.ref a, .ref b] ∧ FD H a f ∧ FD H b g ∧ Kept f ∧ Kept g ∧ Res CN H Q E (both op f g)
theorem scGr : FnScope ["f", "g"] ["f", "g"] (defScope sGreat) := ⟨rfl, rfl, rfl, by decide +kernel, rfl, by decide +kernel, by decide +kernel⟩
theorem ok_great {CN CW CT ff fX : Addr} {fd fdX : FuncData} (F : Fun K "greater_of" "greater_of" sGreat ff fd) (T : Txt K mg CN CW) (B : TxtB K mg CT) (X : LatF P w K mg base CN fX fdX) : FnOk P w K mg base (CXR P w) 5 ff fd ["f", "g"] (spTwo opG CN) := by
  refine F.okx scGr (fun vs H Q E h => ?_) (fun cdv A outer s H vs Q E hr h => ?_)
  · obtain ⟨a, b, f, g, rfl, _⟩ := h
    rfl
  · obtain ⟨a, b, f, g, rfl, hf, hg, kf, kg, r⟩ := h
    refine ⟨_, pss_one (ps_ret (pe_call X.ok hr rfl X.mg X.kp X.b .nil passR' (pa_cons (pv 0) (pa_cons (pv 1) (pa_cons (pe_callB (cr_sortedSet rfl) rfl T.sorted boot_sorted (pa_cons (pe_op op_setOr (pe_callTy cr_setD rfl B.set PyProof.Rows.boot_set (pa_cons (pv 0) pa_nil)) (pe_callTy cr_setD rfl B.set PyProof.Rows.boot_set (pa_cons (pv 1) pa_nil))) pa_nil)) pa_nil))))), ?_⟩
    refine ⟨_, rfl, _, rfl, su_read rfl rfl hf hg kf kg fun H' ms q s1 hq hq1 hs hmf hmg hl => ?_⟩
    have nd : ms.Nodup := hs.imp fun h => Int.ne_of_lt h
    refine ⟨a, b, q, f, g, ms, rfl, hf.mono s1, hg.mono s1, SqL.of hq1, kf.toGood, kg.toGood, nd, by omega, ?_, ?_⟩
    · obtain ⟨v, hv⟩ := conv_has (op := opG) kf kg
      exact ⟨v, by rw [later_great hs hmf hmg]; exact hv⟩
    · rw [show lowest (laterW f g [] ms) = both opG f g from lowest_congr fun v => later_great hs hmf hmg v]
      exact r.at s1
theorem scLe : FnScope ["f", "g", "rising"] ["f", "g"] (defScope sLess) := ⟨rfl, rfl, rfl, by decide +kernel, rfl, by decide +kernel, by decide +kernel⟩
theorem ok_less {CN CW CT ff fX : Addr} {fd fdX : FuncData} (F : Fun K "lesser_of" "lesser_of" sLess ff fd) (T : Txt K mg CN CW) (B : TxtB K mg CT) (X : LatF P w K mg base CN fX fdX) : FnOk P w K mg base (CXR P w) 5 ff fd ["f", "g"] (spTwo opL CN) := by
  refine F.okx scLe (fun vs H Q E h => ?_) (fun cdv A outer s H vs Q E hr h => ?_)
  · obtain ⟨a, b, f, g, rfl, _⟩ := h
    rfl
  · obtain ⟨a, b, f, g, rfl, hf, hg, kf, kg, r⟩ := h
    refine ⟨_, pss_cons (ps_set (i := 2) scLe.nd rfl (Or.inl rfl) (pe_callB (cr_sortedSet rfl) rfl T.sorted boot_sorted (pa_cons (pe_op op_setOr (pe_callTy cr_setD rfl B.set PyProof.Rows.boot_set (pa_cons (pv 0) pa_nil)) (pe_callTy cr_setD rfl B.set PyProof.Rows.boot_set (pa_cons (pv 1) pa_nil))) pa_nil)))
      (pss_one (ps_ret (pe_call X.ok hr rfl X.mg X.kp X.b .nil passR' (pa_cons (pv 0) (pa_cons (pv 1) (pa_cons (pe_listRev rfl rfl B.list rfl B.reversed (pa_cons (pv 2) pa_nil)) pa_nil)))))), ?_⟩
    refine su_read rfl rfl hf hg kf kg fun H' ms q s1 hq hq1 hs hmf hmg hl => ?_
    refine ⟨_, rfl, _, rfl, _, rfl, q, _, rfl, SqL.of hq1, fun p hp => ?_⟩
    have s2 := Same.upd s1 (o := .lst (ms.map V.int).reverse) hp
    have hs' : ms.reverse.Pairwise (fun a b => b < a) := List.pairwise_reverse.mpr hs
    have nd : ms.reverse.Nodup := hs'.imp fun h => (Int.ne_of_lt h).symm
    have hmf' : ∀ x ∈ f, x.1 ∈ ms.reverse := fun x hx => List.mem_reverse.mpr (hmf x hx)
    have hmg' : ∀ x ∈ g, x.1 ∈ ms.reverse := fun x hx => List.mem_reverse.mpr (hmg x hx)
    refine ⟨a, b, p, f, g, ms.reverse, rfl, hf.mono s2, hg.mono s2, SqL.of (by rw [upd_same, List.map_reverse]), kf.toGood, kg.toGood, nd, by rw [List.length_reverse]; omega, ?_, ?_⟩
    · obtain ⟨v, hv⟩ := conv_has (op := opL) kf kg
      exact ⟨v, by rw [later_less hs' hmf' hmg']; exact hv⟩
    · rw [show lowest (laterW f g [] ms.reverse) = both opL f g from lowest_congr fun v => later_less hs' hmf' hmg' v]
      exact r.at s2
noncomputable def spPart : Sp := fun vs H Q _ => ∃ (a : Addr) (f : Weights) (lo hi : Int), vs = [.ref a, .int lo, .int hi] ∧ FD H a f ∧ (f.map (·.1)).Nodup ∧ f.length ≤ 1000 ∧ ∀ (H' : Hp) (p : Addr), Same H H' → H p = none → H' p = some (.dK (enc (partL lo hi f))) → Q (.ref p) H'
theorem scPb : FnScope ["f", "lo", "hi", "part", "value", "weight"] ["f", "lo", "hi"] (defScope sPart) := ⟨rfl, rfl, rfl, by decide +kernel, rfl, by decide +kernel, by decide +kernel⟩
theorem ok_part {ff : Addr} {fd : FuncData} (F : Fun K "part_between" "part_between" sPart ff fd) : FnOk P w K mg base CX0 1 ff fd ["f", "lo", "hi"] spPart := by
  refine F.ok scPb (fun vs H Q E h => ?_) (fun cdv A outer s H vs Q E hr h => ?_)
  · obtain ⟨a, f, lo, hi, rfl, _⟩ := h
    rfl
  · obtain ⟨a, f, lo, hi, rfl, hf, nd, len, k⟩ := h
    have hu := hu_of hr
    refine ⟨_, pss_cons (ps_set (i := 3) scPb.nd rfl (Or.inl rfl) pe_dnewK)
      (pss_cons (ps_for PassesOwn.never rfl (pi_items (pv 0)) (pg_tup rfl (pgs_cons (pg_name (i := 4) scPb.nd rfl (Or.inl rfl)) (pgs_cons (pg_name (i := 5) scPb.nd rfl (Or.inl rfl)) pgs_nil)))
        (pss_one (ps_if (pt_chain op_le op_le (pv 1) (pv 4) (pv 2)) (pss_one (ps_dput hu (pv 3) (pv 4) (pv 5) rfl)) pss_nil)))
      (pss_one (ps_ret (pv 3)))), ?_⟩
    intro p hp
    have s1 : Same H (upd H p (.dK [])) := Same.upd (Same.refl _) hp
    obtain ⟨oa, ha⟩ := id hf
    refine ⟨_, rfl, a, oa, enc f, rfl, s1 _ _ ha, ?_⟩
    refine for_items (fun i σ H' => ∃ v4 v5 : Option V, σ = [some (.ref a), some (.int lo), some (.int hi), some (.ref p), v4, v5] ∧ Same H H' ∧ H' p = some (.dK (enc (partL lo hi (f.take i))))) ⟨none, none, rfl, s1, upd_same⟩ (fun i σ H' _ ⟨_, _, _, s2, _⟩ => s2 _ _ ha) ?_ ?_
    · rintro i k1 w1 σ H' T1 hi' ⟨v4, v5, rfl, s2, hp2⟩ hT
      obtain ⟨x, hx, rfl, rfl⟩ := enc_get hi'
      have s3 : Same H (upd H' T1 (.tup [kV (Sum.inl x.1), .int (x.2 : Int)])) := Same.upd s2 hT
      have npT : p ≠ T1 := ne_of_none hp2 hT
      have hp3 : upd H' T1 (.tup [kV (Sum.inl x.1), .int (x.2 : Int)]) p = some (.dK (enc (partL lo hi (f.take i)))) := by rw [upd_ne npT]; exact hp2
      refine ⟨T1, _, rfl, SqT.of upd_same, rfl, _, _, rfl, _, _, rfl, rfl, ?_⟩
      refine ⟨_, rfl, _, rfl, _, _, rfl, rfl, _, rfl, ifD (fun h1 => ?_) fun h1 => ⟨_, rfl, iteF ?_⟩⟩
      · refine ⟨_, rfl, _, _, rfl, rfl, _, rfl, ifD (fun h2 => ?_) fun h2 => ?_⟩
        · have nx : x.1 ∉ (partL lo hi (f.take i)).map (·.1) := fun hm => by
            obtain ⟨y, hy, e⟩ := List.mem_map.mp hm
            obtain ⟨j, hj, e2⟩ := List.mem_take_iff_getElem.mp ((partL_sub _ _ _).mem hy)
            have c1 : (f.map (·.1))[j]? = some x.1 := by rw [List.getElem?_map, List.getElem?_eq_some_iff.mpr ⟨by omega, e2⟩]; exact congrArg some e
            have c2 : (f.map (·.1))[i]? = some x.1 := by rw [List.getElem?_map, hx]; rfl
            have := nd_ix nd c1 c2
            omega
          refine ⟨_, rfl, _, rfl, _, rfl, p, _, rfl, DPut.k (k := Sum.inl x.1) hp3 ?_, ?_⟩
          · rw [enc_len]
            exact small' (m := 1000) (Nat.le_trans (partL_len _ _ _) (Nat.le_trans (List.length_take_le' ..) len)) (by decide)
          · refine ⟨_, _, rfl, Same.upd2 s3 hp, ?_⟩
            rw [upd_same, take_snoc hx, partL_snoc, if_pos ⟨h1, h2⟩]
            show _ = some (HO.dK (enc (partL lo hi (f.take i) ++ [(x.1, x.2)])))
            rw [← putW_new _ nx, ← enc_put]
        · refine ⟨_, _, rfl, s3, ?_⟩
          rw [take_snoc hx, partL_snoc, if_neg fun z => h2 z.2]; exact hp3
      · refine ⟨_, _, rfl, s3, ?_⟩
        rw [take_snoc hx, partL_snoc, if_neg fun z => h1 z.1]; exact hp3
    · rintro σ H' ⟨v4, v5, rfl, s2, hp2⟩
      rw [enc_len, List.take_length] at hp2
      exact ⟨_, rfl, k H' p s2 hp hp2⟩
structure ParF (P : Program) (w : World) (K : PySem.W.Frag) (mg : Str → Option Value) (base : Heap) (fX : Addr) (fdX : FuncData) : Prop where
  ok : FnOk P w K mg base CX0 1 fX fdX ["f", "lo", "hi"] spPart
  kp : PySem.W.keepIn K (.ref fX) = true
  b : Binds K fdX ["f", "lo", "hi"] []
  mg : mg "part_between" = some (.ref fX)
noncomputable def spGiven (CN CT : Addr) : Sp := fun vs H Q E => ∃ (a : Addr) (f : Weights) (lo hi : Int), vs = [.ref a, .int lo, .int hi] ∧ FD H a f ∧ Kept f ∧ (inRange lo hi f = 0 → ∀ H' : Hp, Same H H' → E (.ref CT) none H') ∧ (inRange lo hi f ≠ 0 → Res CN H Q E (Dx.given lo hi f))
theorem scGi : FnScope ["f", "lo", "hi", "part"] ["f", "lo", "hi"] (defScope sGiven) := ⟨rfl, rfl, rfl, by decide +kernel, rfl, by decide +kernel, by decide +kernel⟩
theorem part_wts {lo hi : Int} {f : Weights} (k : Kept f) : Wts (partL lo hi f) := by
  have l1 := partL_len lo hi f
  have l2 := k.len
  refine ⟨partL_nd k.nd, by omega, fun x hx => ?_⟩
  exact Nat.lt_of_le_of_lt (k.w ((partL_sub lo hi f).mem hx)) (by decide)
theorem ok_given {CN CW CT ff fX fP : Addr} {fd fdX fdP : FuncData} (F : Fun K "given_of" "given_of" sGiven ff fd) (T : Txt K mg CN CW) (B : TxtB K mg CT) (X : Fit P w K mg base CN fX fdX) (Y : ParF P w K mg base fP fdP) : FnOk P w K mg base (CXR P w) 4 ff fd ["f", "lo", "hi"] (spGiven CN CT) := by
  refine F.okx scGi (fun vs H Q E h => ?_) (fun cdv A outer s H vs Q E hr h => ?_)
  · obtain ⟨a, f, lo, hi, rfl, _⟩ := h
    rfl
  · obtain ⟨a, f, lo, hi, rfl, hf, kf, k1, k2⟩ := h
    have hr1 : Room 1 _ := hr.mono (by decide)
    refine ⟨_, pss_cons (ps_set (i := 3) scGi.nd rfl (Or.inl rfl) (pe_call Y.ok hr1 rfl Y.mg Y.kp Y.b .nil pass0 (pa_cons (pv 0) (pa_cons (pv 1) (pa_cons (pv 2) pa_nil)))))
      (pss_cons (ps_if (pt_cmp (pc_eqI (pe_callB call_lenR rfl T.len PySem.boot_len (pa_cons (pv 3) pa_nil)) pe_int)) (pss_one (ps_raise B.xT B.nt hr.hd rfl (pa_cons pe_str pa_nil))) pss_nil)
      (pss_one (ps_ret (pe_call X.ok hr rfl X.mg X.kp X.b .nil passR' (pa_cons (pe_frz (pv 3)) pa_nil))))), ?_⟩
    have l2 := kf.len
    refine ⟨_, rfl, _, rfl, _, rfl, a, f, lo, hi, rfl, hf, kf.nd, by omega, fun H1 p s1 hp hp1 => ?_⟩
    refine ⟨_, rfl, p, enc (partL lo hi f), rfl, .inl hp1, _, _, rfl, rfl, _, rfl, ?_⟩
    rw [enc_len]
    refine ifD (fun h1 => ?_) (fun h1 => ?_)
    · have e0 : ((partL lo hi f).length : Int) = 0 := h1
      have e1 : partL lo hi f = [] := List.length_eq_zero_iff.mp (by omega)
      exact ⟨small (Nat.le_refl 1) (by decide), k1 ((part_nil kf.canon.pos).mp e1) _ s1⟩
    · have e1 : inRange lo hi f ≠ 0 := fun z => h1 (by rw [(part_nil kf.canon.pos).mpr z]; rfl)
      refine ⟨_, rfl, p, _, rfl, hp1, True.intro, fun od => ?_⟩
      refine ⟨p, partL lo hi f, rfl, ⟨od, upd_same⟩, part_wts kf, ?_, ?_⟩
      · cases e : partL lo hi f with
        | nil => exact absurd ((part_nil kf.canon.pos).mp e) e1
        | cons x r => exact lowest_pos_of (x := x) (.head _) (kf.canon.pos x ((partL_sub lo hi f).mem (by rw [e]; exact .head _)))
      · exact (k2 e1).at (Same.upd2 s1 hp)
end
end Ev
end
section
set_option Elab.async false
set_option linter.all false
set_option maxRecDepth 100000
set_option maxHeartbeats 2000000
namespace Ev
open PySem PySem.Spec PyProof.Rows L2 Dx
noncomputable abbrev sFrac : Stmt := top 22
noncomputable abbrev sWhole : Stmt := top 23
noncomputable abbrev sChance : Stmt := top 24
noncomputable abbrev sBeat : Stmt := top 25
noncomputable abbrev sMean : Stmt := top 26
noncomputable abbrev sQuant : Stmt := top 27
noncomputable abbrev sForm : Stmt := top 28
section
variable {P : Program} {w : World} {K : PySem.W.Frag} {mg : Str → Option Value} {base : Heap}
noncomputable def FracRes (CN : Addr) (H : Hp) (Q : VK) (E : XK) (n : Int) (d : Nat) : Prop :=
  (fracBad n d → ∀ H' : Hp, Same H H' → E (.ref CN) none H') ∧ (¬ fracBad n d → ∀ (H' : Hp) (p : Addr), Same H H' → H p = none → H' p = some (.lst ((fracL n d).map V.int)) → Q (.ref p) H')
theorem FracRes.at {CN : Addr} {H H1 : Hp} {Q : VK} {E : XK} {n : Int} {d : Nat} (r : FracRes CN H Q E n d) (s : Same H H1) : FracRes CN H1 Q E n d :=
  ⟨fun h H' s' => r.1 h H' (s.trans s'), fun h H' p s' hp => r.2 h H' p (s.trans s') (s.free hp)⟩
noncomputable def spFrac (CN : Addr) : Sp := fun vs H Q E => ∃ (n : Int) (d : Nat), vs = [.int n, .int (d : Int)] ∧ 0 < d ∧ d < 2 ^ 200 ∧ FracRes CN H Q E n d
theorem scFr : FnScope ["numerator", "denominator", "divisor", "top", "bottom"] ["numerator", "denominator"] (defScope sFrac) := ⟨rfl, rfl, rfl, by decide +kernel, rfl, by decide +kernel, by decide +kernel⟩
theorem abs_nat (n : Int) : (if n < 0 then -n else n) = ((n.natAbs : Nat) : Int) := by split <;> omega
theorem ok_frac {CN CW CT ff fG : Addr} {fd fdG : FuncData} (F : Fun K "fraction" "fraction" sFrac ff fd) (T : Txt K mg CN CW) (B : TxtB K mg CT) (FG : Fun K "common_divisor" "common_divisor" sGcd fG fdG) (bG : Binds K fdG ["a", "b"] []) (mG : mg "common_divisor" = some (.ref fG)) :
    FnOk P w K mg base (CXR P w) 2 ff fd ["numerator", "denominator"] (spFrac CN) := by
  have GG : FnOk P w K mg base CX0 1 fG fdG ["a", "b"] spGcd := ok_gcd FG
  refine F.okx scFr (fun vs H Q E h => ?_) (fun cdv A outer s H vs Q E hr h => ?_)
  · obtain ⟨n, d, rfl, _⟩ := h
    rfl
  · obtain ⟨n, d, rfl, hd, hd2, r⟩ := h
    obtain ⟨t1, e1⟩ := B.tg
    refine ⟨_, pss_cons (ps_set (i := 2) scFr.nd rfl (Or.inl rfl) (pe_call GG hr rfl mG FG.kp bG .nil pass0 (pa_cons (pe_callB call_abs rfl B.abs boot_abs (pa_cons (pv 0) pa_nil)) (pa_cons (pv 1) pa_nil))))
      (pss_cons (ps_set (i := 3) scFr.nd rfl (Or.inl rfl) (pe_op op_fdivB (pv 0) (pv 2)))
      (pss_cons (ps_set (i := 4) scFr.nd rfl (Or.inl rfl) (pe_op op_fdivB (pv 1) (pv 2)))
      (pss_cons (ps_if (PW.pt (pw_or (pt_cmpR op_ge (pe_callB call_abs rfl B.abs boot_abs (pa_cons (pv 3) pa_nil)) (pe_glob (v := .int 9223372036854775808) rfl e1 ⟨_, rfl⟩) (nomark _))
          (pw_or1 (pt_cmpR op_ge (pv 4) (pe_glob (v := .int 9223372036854775808) rfl e1 ⟨_, rfl⟩) (nomark _))))) (pss_one (ps_raise T.xN T.nf hr.hd rfl (pa_cons pe_str pa_nil))) pss_nil)
      (pss_one (ps_ret (pe_lst (pa_cons (pv 3) (pa_cons (pv 4) pa_nil)))))))), ?_⟩
    have gpos : 0 < Nat.gcd n.natAbs d := Nat.gcd_pos_of_pos_right _ hd
    have gle : Nat.gcd n.natAbs d ≤ d := Nat.gcd_le_right _ hd
    have hC : ∀ i : Int, CDivB i ((Nat.gcd n.natAbs d : Nat) : Int) := fun i => ⟨by omega, by
      rw [Int.natAbs_natCast]
      exact Nat.lt_trans ((Nat.log2_lt (by omega)).mpr (Nat.lt_of_le_of_lt gle hd2)) (by decide)⟩
    refine ⟨_, rfl, _, rfl, _, rfl, n.natAbs, d, by rw [abs_nat]; rfl, ?_⟩
    refine ⟨_, rfl, _, rfl, _, _, rfl, rfl, hC n, ?_⟩
    refine ⟨_, rfl, _, rfl, _, _, rfl, rfl, hC d, ?_⟩
    have ea := frac_abs n d
    refine ⟨_, rfl, _, rfl, _, _, rfl, rfl, _, rfl, ?_⟩
    rw [abs_nat, ea]
    refine ifD (fun h1 => ?_) (fun h1 => ?_)
    · exact iteT ⟨small (Nat.le_refl 1) (by decide), r.1 (.inl (by omega)) _ (Same.refl _)⟩
    refine ⟨_, rfl, _, _, rfl, rfl, _, rfl, ?_⟩
    have eb : ((d : Int) / ((Nat.gcd n.natAbs d : Nat) : Int)) = ((d / Nat.gcd n.natAbs d : Nat) : Int) := rfl
    rw [eb]
    refine ifD (fun h2 => ?_) (fun h2 => ?_)
    · exact ⟨small (Nat.le_refl 1) (by decide), r.1 (.inr (by omega)) _ (Same.refl _)⟩
    · refine ⟨_, rfl, _, rfl, small (m := 2) (Nat.le_refl 2) (by decide), fun p hp => ?_⟩
      exact r.2 (fun z => z.elim (fun q => h1 (by omega)) fun q => h2 (by omega)) _ p (Same.upd (Same.refl _) hp) hp upd_same
noncomputable def spWhole : Sp := fun vs H Q _ => ∃ (a : Addr) (l : Weights), vs = [.ref a] ∧ Rd H a (.dK (enc l)) ∧ Q (.int (tot l : Nat)) H
theorem scWh : FnScope ["f"] ["f"] (defScope sWhole) := ⟨rfl, rfl, rfl, by decide +kernel, rfl, by decide +kernel, by decide +kernel⟩
theorem ok_whole {CN CW ff : Addr} {fd : FuncData} (F : Fun K "whole_weight" "whole_weight" sWhole ff fd) (T : Txt K mg CN CW) : FnOk P w K mg base CX0 1 ff fd ["f"] spWhole := by
  refine F.ok scWh (fun vs H Q E h => ?_) (fun cdv A outer s H vs Q E hr h => ?_)
  · obtain ⟨a, l, rfl, _⟩ := h
    rfl
  · obtain ⟨a, l, rfl, hl, k⟩ := h
    refine ⟨_, pss_one (ps_ret (pe_sumV rfl rfl T.sum (pv 0))), ?_⟩
    refine ⟨_, rfl, a, enc l, _, rfl, hl, enc_vals l, ?_⟩
    rw [sum_cast]; exact k
structure MesF (P : Program) (w : World) (K : PySem.W.Frag) (mg : Str → Option Value) (base : Heap) (CN fF fW : Addr) (fdF fdW : FuncData) : Prop where
  okF : FnOk P w K mg base (CXR P w) 2 fF fdF ["numerator", "denominator"] (spFrac CN)
  kpF : PySem.W.keepIn K (.ref fF) = true
  bF : Binds K fdF ["numerator", "denominator"] []
  mgF : mg "fraction" = some (.ref fF)
  okW : FnOk P w K mg base CX0 1 fW fdW ["f"] spWhole
  kpW : PySem.W.keepIn K (.ref fW) = true
  bW : Binds K fdW ["f"] []
  mgW : mg "whole_weight" = some (.ref fW)
theorem tot_lt {f : Weights} (k : Kept f) : tot f < 2 ^ 200 := Nat.lt_of_le_of_lt k.tot (by decide)
noncomputable def spChance (CN : Addr) : Sp := fun vs H Q E => ∃ (a : Addr) (f : Weights) (lo hi : Int), vs = [.ref a, .int lo, .int hi] ∧ FD H a f ∧ Kept f ∧ FracRes CN H Q E ((inRange lo hi f : Nat) : Int) (tot f)
theorem scCh : FnScope ["f", "lo", "hi"] ["f", "lo", "hi"] (defScope sChance) := ⟨rfl, rfl, rfl, by decide +kernel, rfl, by decide +kernel, by decide +kernel⟩
theorem ok_chance {CN ff fF fW fP : Addr} {fd fdF fdW fdP : FuncData} (F : Fun K "chance_between" "chance_between" sChance ff fd) (M : MesF P w K mg base CN fF fW fdF fdW) (Y : ParF P w K mg base fP fdP) : FnOk P w K mg base (CXR P w) 3 ff fd ["f", "lo", "hi"] (spChance CN) := by
  refine F.okx scCh (fun vs H Q E h => ?_) (fun cdv A outer s H vs Q E hr h => ?_)
  · obtain ⟨a, f, lo, hi, rfl, _⟩ := h
    rfl
  · obtain ⟨a, f, lo, hi, rfl, hf, kf, r⟩ := h
    have hr1 : Room 1 _ := hr.mono (by decide)
    refine ⟨_, pss_one (ps_ret (pe_call M.okF hr rfl M.mgF M.kpF M.bF .nil passR' (pa_cons (pe_call M.okW hr1 rfl M.mgW M.kpW M.bW .nil pass0 (pa_cons (pe_call Y.ok hr1 rfl Y.mg Y.kp Y.b .nil pass0 (pa_cons (pv 0) (pa_cons (pv 1) (pa_cons (pv 2) pa_nil)))) pa_nil))
      (pa_cons (pe_call M.okW hr1 rfl M.mgW M.kpW M.bW .nil pass0 (pa_cons (pv 0) pa_nil)) pa_nil)))), ?_⟩
    have l2 := kf.len
    refine ⟨_, rfl, _, rfl, _, rfl, a, f, lo, hi, rfl, hf, kf.nd, by omega, fun H1 p s1 hp hp1 => ?_⟩
    refine ⟨p, partL lo hi f, rfl, .inl hp1, ?_⟩
    refine ⟨_, rfl, a, f, rfl, (hf.mono s1).rd, ?_⟩
    refine ⟨_, tot f, rfl, tot_pos kf, tot_lt kf, ?_⟩
    rw [tot_part]
    exact r.at s1
noncomputable def spBeat (CN : Addr) : Sp := fun vs H Q E => ∃ (a b : Addr) (f g : Weights), vs = [.ref a, .ref b] ∧ FD H a f ∧ FD H b g ∧ Kept f ∧ Kept g ∧ FracRes CN H Q E ((Dx.beats f g : Nat) : Int) (tot f * tot g)
theorem scBe : FnScope ["f", "g", "pairs", "g_below", "value"] ["f", "g"] (defScope sBeat) := ⟨rfl, rfl, rfl, by decide +kernel, rfl, by decide +kernel, by decide +kernel⟩
theorem ok_beat {CN CW CT ff fF fW : Addr} {fd fdF fdW : FuncData} (F : Fun K "chance_to_beat" "chance_to_beat" sBeat ff fd) (T : Txt K mg CN CW) (B : TxtB K mg CT) (M : MesF P w K mg base CN fF fW fdF fdW) : FnOk P w K mg base (CXR P w) 3 ff fd ["f", "g"] (spBeat CN) := by
  refine F.okx scBe (fun vs H Q E h => ?_) (fun cdv A outer s H vs Q E hr h => ?_)
  · obtain ⟨a, b, f, g, rfl, _⟩ := h
    rfl
  · obtain ⟨a, b, f, g, rfl, hf, hg, kf, kg, r⟩ := h
    have hr1 : Room 1 _ := hr.mono (by decide)
    have hu := hu_of hr
    refine ⟨_, pss_cons (ps_set (i := 2) scBe.nd rfl (Or.inl rfl) pe_int) (pss_cons (ps_set (i := 3) scBe.nd rfl (Or.inl rfl) pe_int)
      (pss_cons (ps_for ownR rfl (pi_list (pe_callB (cr_sortedSet rfl) rfl T.sorted boot_sorted (pa_cons (pe_op op_setOr (pe_callTy cr_setD rfl B.set PyProof.Rows.boot_set (pa_cons (pv 0) pa_nil)) (pe_callTy cr_setD rfl B.set PyProof.Rows.boot_set (pa_cons (pv 1) pa_nil))) pa_nil))) (pg_name (i := 4) scBe.nd rfl (Or.inl rfl))
        (pss_cons (ps_set (i := 2) scBe.nd rfl (Or.inl rfl) (pe_op op_add (pv 2) (pe_op op_mul (pe_dget2 hu (pv 0) (pv 4) pe_int ⟨rfl, rfl, rfl, rfl⟩) (pv 3))))
        (pss_one (ps_set (i := 3) scBe.nd rfl (Or.inl rfl) (pe_op op_add (pv 3) (pe_dget2 hu (pv 1) (pv 4) pe_int ⟨rfl, rfl, rfl, rfl⟩))))))
      (pss_one (ps_ret (pe_call M.okF hr rfl M.mgF M.kpF M.bF .nil passR' (pa_cons (pv 2) (pa_cons (pe_op op_mul (pe_call M.okW hr1 rfl M.mgW M.kpW M.bW .nil pass0 (pa_cons (pv 0) pa_nil)) (pe_call M.okW hr1 rfl M.mgW M.kpW M.bW .nil pass0 (pa_cons (pv 1) pa_nil))) pa_nil))))))), ?_⟩
    refine su_read rfl rfl hf hg kf kg fun H1 R q s1 hq hq1 hs hmf hmg hl => ?_
    have ndR : R.Nodup := hs.imp fun h => Int.ne_of_lt h
    refine ⟨q, rfl, ⟨_, SqL.of hq1⟩, for_list (K := K) (a := q) (xs := R.map V.int) (fun i σ H' => ∃ v4 : Option V, σ = [some (.ref a), some (.ref b), some (.int (bsum f g [] (R.take i) : Nat)), some (.int (cum g (R.take i) : Nat)), v4] ∧ H' = H1)
      ⟨none, rfl, rfl⟩ (fun i σ H' _ ⟨_, _, e⟩ => by rw [e]; exact SqL.of hq1) ?_ ?_⟩
    · rintro i y σ H' hi ⟨v4, rfl, rfl⟩
      obtain ⟨z, hz, rfl⟩ : ∃ z, R[i]? = some z ∧ y = V.int z := by
        rw [List.getElem?_map] at hi
        cases e : R[i]? with
        | none => rw [e] at hi; cases hi
        | some z => rw [e] at hi; exact ⟨z, rfl, (Option.some.inj hi).symm⟩
      have hf2 := hf.mono s1
      have hg2 := hg.mono s1
      have b1 := kf.toGood.wt z
      refine ⟨_, rfl, _, rfl, a, rfl, hf2.isD, _, rfl, _, hf2.get z, _, rfl, _, _, enc_val kf.canon.nd z, rfl, .inl ⟨by omega, by omega⟩, _, _, rfl, rfl, ?_⟩
      refine ⟨_, rfl, _, rfl, b, rfl, hg2.isD, _, rfl, _, hg2.get z, _, _, rfl, enc_val kg.canon.nd z, ?_⟩
      refine ⟨some (.int z), ?_, rfl⟩
      rw [take_snoc hz, bsum_snoc, cum_snoc]
      simp
    · rintro σ H' ⟨v4, rfl, rfl⟩
      rw [List.length_map, List.take_length, bsum_beats hs hmf hmg]
      have t1 := kf.tot
      refine ⟨_, rfl, _, rfl, a, f, rfl, (hf.mono s1).rd, _, rfl, b, g, rfl, (hg.mono s1).rd, _, _, rfl, rfl, .inl ⟨by omega, by omega⟩, ?_⟩
      refine ⟨_, tot f * tot g, by simp, Nat.mul_pos (tot_pos kf) (tot_pos kg), prod_small kf.tot kg.tot, r.at s1⟩
noncomputable def spMean (CN : Addr) : Sp := fun vs H Q E => ∃ (a : Addr) (f : Weights), vs = [.ref a] ∧ FD H a f ∧ Kept f ∧ FracRes CN H Q E (moment f) (tot f)
theorem scMe : FnScope ["f", "total", "value", "weight"] ["f"] (defScope sMean) := ⟨rfl, rfl, rfl, by decide +kernel, rfl, by decide +kernel, by decide +kernel⟩
theorem ok_mean {CN ff fF fW : Addr} {fd fdF fdW : FuncData} (F : Fun K "mean" "mean" sMean ff fd) (M : MesF P w K mg base CN fF fW fdF fdW) : FnOk P w K mg base (CXR P w) 3 ff fd ["f"] (spMean CN) := by
  refine F.okx scMe (fun vs H Q E h => ?_) (fun cdv A outer s H vs Q E hr h => ?_)
  · obtain ⟨a, f, rfl, _⟩ := h
    rfl
  · obtain ⟨a, f, rfl, hf, kf, r⟩ := h
    have hr1 : Room 1 _ := hr.mono (by decide)
    refine ⟨_, pss_cons (ps_set (i := 1) scMe.nd rfl (Or.inl rfl) pe_int)
      (pss_cons (ps_for ownR rfl (pi_items (pv 0)) (pg_tup rfl (pgs_cons (pg_name (i := 2) scMe.nd rfl (Or.inl rfl)) (pgs_cons (pg_name (i := 3) scMe.nd rfl (Or.inl rfl)) pgs_nil)))
        (pss_one (ps_set (i := 1) scMe.nd rfl (Or.inl rfl) (pe_op op_add (pv 1) (pe_op op_mul (pv 2) (pv 3))))))
      (pss_one (ps_ret (pe_call M.okF hr rfl M.mgF M.kpF M.bF .nil passR' (pa_cons (pv 1) (pa_cons (pe_call M.okW hr1 rfl M.mgW M.kpW M.bW .nil pass0 (pa_cons (pv 0) pa_nil)) pa_nil)))))), ?_⟩
    obtain ⟨oa, ha⟩ := id hf
    refine ⟨_, rfl, a, oa, enc f, rfl, ha, ?_⟩
    refine for_items (fun i σ H' => ∃ v2 v3 : Option V, σ = [some (.ref a), some (.int (moment (f.take i))), v2, v3] ∧ Same H H') ⟨none, none, rfl, Same.refl _⟩ (fun i σ H' _ ⟨_, _, _, s2⟩ => s2 _ _ ha) ?_ ?_
    · rintro i k1 w1 σ H' T1 hi' ⟨v2, v3, rfl, s2⟩ hT
      obtain ⟨x, hx, rfl, rfl⟩ := enc_get hi'
      have hx2 := kf.far (List.mem_of_getElem? hx)
      refine ⟨T1, _, rfl, SqT.of upd_same, rfl, _, _, rfl, _, _, rfl, rfl, ?_⟩
      refine ⟨_, rfl, _, rfl, _, rfl, _, _, rfl, rfl, .inl ⟨by omega, by omega⟩, _, _, rfl, rfl, ?_⟩
      refine ⟨some (.int x.1), some (.int (x.2 : Int)), ?_, Same.upd s2 hT⟩
      rw [take_snoc hx, moment_snoc]; rfl
    · rintro σ H' ⟨v2, v3, rfl, s2⟩
      rw [enc_len, List.take_length]
      refine ⟨_, rfl, _, rfl, a, f, rfl, (hf.mono s2).rd, ?_⟩
      exact ⟨_, tot f, rfl, tot_pos kf, tot_lt kf, r.at s2⟩
noncomputable def spQuant : Sp := fun vs H Q _ => ∃ (p : Addr) (f : Weights) (a b : Nat), vs = [.ref p, .int (a : Int), .int (b : Int)] ∧ FD H p f ∧ Kept f ∧ a ≤ b ∧ b < 2 ^ 32 ∧ ∀ H' : Hp, Same H H' → Q (.int (Dx.quantile f a b)) H'
theorem scQu : FnScope ["f", "a", "b", "rising", "needed", "k", "up_to"] ["f", "a", "b"] (defScope sQuant) := ⟨rfl, rfl, rfl, by decide +kernel, rfl, by decide +kernel, by decide +kernel⟩
theorem ok_quant {CN CT ff fF fW : Addr} {fd fdF fdW : FuncData} (F : Fun K "quantile" "quantile" sQuant ff fd) (B : TxtB K mg CT) (M : MesF P w K mg base CN fF fW fdF fdW) : FnOk P w K mg base CX0 2 ff fd ["f", "a", "b"] spQuant := by
  refine F.ok scQu (fun vs H Q E h => ?_) (fun cdv A outer s H vs Q E hr h => ?_)
  · obtain ⟨p, f, a, b, rfl, _⟩ := h
    rfl
  · obtain ⟨p, f, a, b, rfl, hf, kf, hab, hb, k⟩ := h
    have hu := hu_of hr
    refine ⟨_, pss_cons (ps_set (i := 3) scQu.nd rfl (Or.inl rfl) (pe_callTy (cr_listD rfl) rfl B.list boot_list (pa_cons (pv 0) pa_nil)))
      (pss_cons (ps_set (i := 4) scQu.nd rfl (Or.inl rfl) (pe_op op_mul (pv 1) (pe_call M.okW hr rfl M.mgW M.kpW M.bW .nil pass0 (pa_cons (pv 0) pa_nil))))
      (pss_cons (ps_set (i := 5) scQu.nd rfl (Or.inl rfl) pe_int)
      (pss_cons (ps_set (i := 6) scQu.nd rfl (Or.inl rfl) (pe_dget hu (pv 0) (pe_ix ix_list (pv 3) pe_int (fun _ _ => rfl)) (fun _ _ => rfl)))
      (pss_cons (ps_while PassesOwn.never (pt_cmpR op_lt (pe_op op_mul (pv 6) (pv 2)) (pv 4) (nomark _))
        (pss_cons (ps_set (i := 5) scQu.nd rfl (Or.inl rfl) (pe_op op_add (pv 5) pe_int))
        (pss_one (ps_set (i := 6) scQu.nd rfl (Or.inl rfl) (pe_op op_add (pv 6) (pe_dget hu (pv 0) (pe_ix ix_list (pv 3) (pv 5) (fun _ _ => rfl)) (fun _ _ => rfl)))))))
      (pss_one (ps_ret (pe_ix ix_list (pv 3) (pv 5) (fun _ _ => rfl)))))))), ?_⟩
    have t1 := kf.tot
    refine ⟨_, rfl, p, enc f, f.map (·.1), rfl, hf.rd, enc_keys f, fun q hq => ?_⟩
    have s1 : Same H (upd H q (.lst ((f.map (·.1)).map V.int))) := Same.upd (Same.refl _) hq
    have hf1 := hf.mono s1
    have at_ : ∀ {j : Nat} {x : Int × Nat}, f[j]? = some x → ((f.map (·.1)).map V.int)[j]? = some (V.int x.1) := fun {j x} e => by rw [List.getElem?_map, List.getElem?_map, e]; rfl
    have get_ : ∀ {j : Nat} {x : Int × Nat}, f[j]? = some x → DGet (upd H q (.lst ((f.map (·.1)).map V.int))) p (.int x.1) (some (.int (x.2 : Int))) := fun {j x} e => by
      have g := hf1.get x.1
      rw [enc_some kf.nd (List.mem_map_of_mem (List.mem_of_getElem? e)), wt_mem kf.nd (List.mem_of_getElem? e)] at g
      exact g
    refine ⟨_, rfl, _, rfl, p, f, rfl, hf1.rd, _, _, rfl, rfl, .inl ⟨by omega, by omega⟩, ?_⟩
    obtain ⟨x0, hx0⟩ : ∃ x, f[0]? = some x := by
      cases hfe : f with
      | nil => exact absurd hfe kf.ne
      | cons x r => exact ⟨x, rfl⟩
    refine ⟨_, rfl, _, rfl, q, _, _, _, rfl, rfl, SqL.of upd_same, at_of (j := 0) rfl (at_ hx0), p, _, rfl, get_ hx0, ?_⟩
    have e0 : tot (f.take (0 + 1)) = x0.2 := by rw [tot_take_snoc hx0]; simp [tot_nil]
    refine while_by (fun σ H' => ∃ j : Nat, σ = [some (.ref p), some (.int (a : Int)), some (.int (b : Int)), some (.ref q), some (.int ((a : Int) * (tot f : Int))), some (.int (j : Int)), some (.int (tot (f.take (j + 1)) : Nat))] ∧ H' = upd H q (.lst ((f.map (·.1)).map V.int)) ∧ j < f.length ∧ ∀ i, i < j → tot (f.take (i + 1)) * b < a * tot f)
      (fun σ _ => match σ with | [_, _, _, _, _, some (.int j), _] => f.length - j.toNat | _ => 0) ⟨0, by rw [e0]; rfl, rfl, (List.getElem?_eq_some_iff.mp hx0).1, fun i hi => absurd hi (Nat.not_lt_zero _)⟩ ?_ ?_
    · rintro σ H' ⟨j, rfl, rfl, hj, hlo⟩
      have tj := Nat.le_trans (tot_take_le f (j + 1)) t1
      refine ⟨_, rfl, _, rfl, _, _, rfl, rfl, .inl ⟨by omega, by omega⟩, _, rfl, _, _, rfl, rfl, _, rfl, ?_⟩
      refine ifD (fun h1 => ?_) (fun h1 => ?_)
      · have h1' : tot (f.take (j + 1)) * b < a * tot f := by exact_mod_cast h1
        have hj1 : j + 1 < f.length := by
          rcases Nat.lt_or_ge (j + 1) f.length with q | q
          · exact q
          · rw [List.take_of_length_le q, Nat.mul_comm] at h1'
            exact absurd (Nat.mul_le_mul_right (tot f) hab) (Nat.not_le.mpr h1')
        obtain ⟨x, hx⟩ : ∃ x, f[j + 1]? = some x := ⟨_, List.getElem?_eq_getElem hj1⟩
        refine ⟨_, rfl, _, _, rfl, rfl, _, rfl, _, rfl, _, rfl, _, rfl, q, _, _, _, rfl, rfl, SqL.of upd_same, at_of (j := j + 1) (by omega) (at_ hx), p, _, rfl, get_ hx, _, _, rfl, rfl, ?_⟩
        refine ⟨⟨j + 1, ?_, rfl, hj1, fun i hi => ?_⟩, ?_⟩
        · rw [tot_take_snoc hx]; rfl
        · rcases Nat.lt_or_ge i j with q | q
          · exact hlo i q
          · have : i = j := by omega
            subst this; exact h1'
        · show f.length - ((j : Int) + 1).toNat < f.length - (j : Int).toNat
          omega
      · have h1' : a * tot f ≤ tot (f.take (j + 1)) * b := by
          have : ¬ tot (f.take (j + 1)) * b < a * tot f := fun z => h1 (by exact_mod_cast z)
          omega
        obtain ⟨x, hx⟩ : ∃ x, f[j]? = some x := ⟨_, List.getElem?_eq_getElem hj⟩
        refine ⟨_, rfl, _, rfl, q, _, _, _, rfl, rfl, SqL.of upd_same, at_of (j := j) rfl (at_ hx), ?_⟩
        have := k _ s1
        rw [quantile_at kf.canon hx h1' hlo] at this
        exact this
    · rintro σ H' Q1 Q2 hQ ⟨v6, e6, v2, e2, i, j, a1, a2, a3, v4, e4, i', j', b1, b2, c, ec, q⟩
      exact ⟨v6, e6, v2, e2, i, j, a1, a2, a3, v4, e4, i', j', b1, b2, c, ec, hQ _ _ q⟩
noncomputable def spForm : Sp := fun vs H Q _ => ∃ (a : Addr) (f : Weights), vs = [.ref a] ∧ FD H a f ∧ f.length ≤ 1000 ∧ ∀ (H' : Hp) (p : Addr), Same H H' → H p = none → H' p = some (.lst ((flat f).map V.int)) → Q (.ref p) H'
theorem scFo : FnScope ["f", "row", "value", "weight"] ["f"] (defScope sForm) := ⟨rfl, rfl, rfl, by decide +kernel, rfl, by decide +kernel, by decide +kernel⟩
theorem flat_snoc (l : Weights) (x : Int × Nat) : flat (l ++ [x]) = flat l ++ [x.1] ++ [(x.2 : Int)] := by unfold flat; rw [List.flatMap_append]; simp
theorem ok_form {ff : Addr} {fd : FuncData} (F : Fun K "form_row" "form_row" sForm ff fd) : FnOk P w K mg base CX0 1 ff fd ["f"] spForm := by
  refine F.ok scFo (fun vs H Q E h => ?_) (fun cdv A outer s H vs Q E hr h => ?_)
  · obtain ⟨a, f, rfl, _⟩ := h
    rfl
  · obtain ⟨a, f, rfl, hf, len, k⟩ := h
    refine ⟨_, pss_cons (ps_set (i := 1) scFo.nd rfl (Or.inl rfl) (pe_lst pa_nil))
      (pss_cons (ps_for PassesOwn.never rfl (pi_items (pv 0)) (pg_tup rfl (pgs_cons (pg_name (i := 2) scFo.nd rfl (Or.inl rfl)) (pgs_cons (pg_name (i := 3) scFo.nd rfl (Or.inl rfl)) pgs_nil)))
        (pss_cons (ps_expr (pe_bm PySem.F.plainAttrs_list PySem.F.slot_list_append PySem.F.type_list_append mt_append (pv 1) (pa_cons (pv 2) pa_nil)))
        (pss_one (ps_expr (pe_bm PySem.F.plainAttrs_list PySem.F.slot_list_append PySem.F.type_list_append mt_append (pv 1) (pa_cons (pv 3) pa_nil))))))
      (pss_one (ps_ret (pv 1)))), ?_⟩
    refine ⟨Nat.zero_le _, fun p hp => ?_⟩
    have s1 : Same H (upd H p (.lst [])) := Same.upd (Same.refl _) hp
    obtain ⟨oa, ha⟩ := id hf
    refine ⟨_, rfl, a, oa, enc f, rfl, s1 _ _ ha, ?_⟩
    refine for_items (fun i σ H' => ∃ v2 v3 : Option V, σ = [some (.ref a), some (.ref p), v2, v3] ∧ Same H H' ∧ H' p = some (.lst ((flat (f.take i)).map V.int))) ⟨none, none, rfl, s1, upd_same⟩ (fun i σ H' _ ⟨_, _, _, s2, _⟩ => s2 _ _ ha) ?_ ?_
    · rintro i k1 w1 σ H' T1 hi' ⟨v2, v3, rfl, s2, hp2⟩ hT
      obtain ⟨x, hx, rfl, rfl⟩ := enc_get hi'
      have s3 : Same H (upd H' T1 (.tup [kV (Sum.inl x.1), .int (x.2 : Int)])) := Same.upd s2 hT
      have npT : p ≠ T1 := ne_of_none hp2 hT
      have hp3 : upd H' T1 (.tup [kV (Sum.inl x.1), .int (x.2 : Int)]) p = some (.lst ((flat (f.take i)).map V.int)) := by rw [upd_ne npT]; exact hp2
      have hlen : ((flat (f.take i)).map V.int).length + 1 < 16777216 := by
        rw [List.length_map, flat_len]
        have : (f.take i).length ≤ 1000 := Nat.le_trans (List.length_take_le' ..) len
        omega
      refine ⟨T1, _, rfl, SqT.of upd_same, rfl, _, _, rfl, _, _, rfl, rfl, ?_⟩
      refine ⟨_, rfl, .inl ⟨rfl, _, SqL.of hp3⟩, _, rfl, p, _, _, rfl, rfl, hp3, by rw [sizeLine_eq]; omega, ?_⟩
      refine ⟨_, rfl, .inl ⟨rfl, _, SqL.of upd_same⟩, _, rfl, p, _, _, rfl, rfl, upd_same, by rw [sizeLine_eq, List.length_append]; simpa using hlen, ?_⟩
      refine ⟨_, _, rfl, Same.upd2 (Same.upd2 s3 hp) hp, ?_⟩
      rw [upd_same, take_snoc hx, flat_snoc]
      simp; rfl
    · rintro σ H' ⟨v2, v3, rfl, s2, hp2⟩
      rw [enc_len, List.take_length] at hp2
      exact ⟨_, rfl, k H' p s2 hp hp2⟩
end
end Ev
end
section
set_option Elab.async false
set_option linter.all false
set_option maxRecDepth 100000
set_option maxHeartbeats 2000000
namespace Ev
open PySem PySem.Spec PyProof.Rows L2 Dx
noncomputable abbrev sKept : Stmt := top 41
noncomputable abbrev sMkW : Stmt := top 42
noncomputable abbrev sMkE : Stmt := top 43
noncomputable abbrev sMkA : Stmt := top 44
noncomputable abbrev sMkG : Stmt := top 45
noncomputable abbrev sMkL : Stmt := top 46
noncomputable abbrev sMkT : Stmt := top 47
noncomputable abbrev sMkM : Stmt := top 48
noncomputable abbrev sMkC : Stmt := top 49
inductive Why where
  | wrong | nofit | nothere
noncomputable def Why.num : Why → Nat
  | .wrong => 1
  | .nofit => 2
  | .nothere => 5
noncomputable def Why.cls (CN CT CW : Addr) : Why → Addr
  | .wrong => CW
  | .nofit => CN
  | .nothere => CT
noncomputable abbrev Out := Except Why Weights
noncomputable def fit (l : Weights) : Out := if fits l = true then .ok l else .error .nofit
noncomputable def oW (l : Weights) : Out := if 256 < l.length ∨ tot l = 0 then .error .wrong else fit (lowest l)
noncomputable def oE (lo hi : Int) : Out := if hi < lo then .error .wrong else if 256 ≤ hi - lo then .error .nofit else fit (lowest (evenL lo (hi - lo + 1).toNat))
noncomputable def o2 (st : State) (f g : Nat) (p : Weights → Weights → Out) : Out := match get st f, get st g with
  | some x, some y => p x y
  | _, _ => .error .wrong
noncomputable def o1 (st : State) (f : Nat) (p : Weights → Out) : Out := match get st f with
  | some x => p x
  | none => .error .wrong
noncomputable def oT (n : Nat) (x : Weights) : Out := if 100 < n then .error .wrong else match Dx.times x n with
  | none => .error .nofit
  | some l => .ok l
noncomputable def oM (a b : Nat) (x y : Weights) : Out := if a = 0 ∨ b = 0 ∨ 65535 < a ∨ 65535 < b then .error .wrong else fit (Dx.mix a b x y)
noncomputable def oG (lo hi : Int) (x : Weights) : Out := if inRange lo hi x = 0 then .error .nothere else fit (Dx.given lo hi x)
noncomputable def Desk (H : Hp) (dk : Addr) (st : State) (n : Nat) : Prop :=
  ∃ kvs : List (Key × V), H dk = some (.dK kvs) ∧ kvs.length ≤ n ∧ st.length = 16 ∧ ∀ i : Nat, (get st i = none → valV kvs (Sum.inl (i : Int)) = none) ∧ ∀ l, get st i = some l → ∃ a, valV kvs (Sum.inl (i : Int)) = some (.ref a) ∧ FD H a l ∧ Kept l
theorem Desk.mono {H H' : Hp} {dk : Addr} {st : State} {n : Nat} (D : Desk H dk st n) (s : Same H H') : Desk H' dk st n := by
  obtain ⟨kvs, h1, h2, h3, h4⟩ := D
  exact ⟨kvs, s _ _ h1, h2, h3, fun i => ⟨(h4 i).1, fun l hl => let ⟨a, e, fd, k⟩ := (h4 i).2 l hl; ⟨a, e, fd.mono s, k⟩⟩⟩
noncomputable def Made (CN CT CW : Addr) (H : Hp) (Q : VK) (E : XK) : Out → Prop
  | .ok l => ∀ (H' : Hp) (p : Addr), Same H H' → H p = none → FD H' p l → Kept l → Q (.ref p) H'
  | .error y => ∀ H' : Hp, Same H H' → E (.ref (y.cls CN CT CW)) none H'
theorem Made.res {CN CT CW : Addr} {H : Hp} {Q : VK} {E : XK} {l : Weights} (r : Made CN CT CW H Q E (fit l)) (k : fits l = true → Kept l) : Res CN H Q E l := by
  unfold fit at r
  refine ⟨fun h H' p s hp fd => ?_, fun h H' s => ?_⟩
  · rw [if_pos h] at r
    exact r H' p s hp fd (k h)
  · rw [if_neg (by rw [h]; exact Bool.false_ne_true)] at r
    exact r H' s
theorem kept_low {l : Weights} (h : ∃ v, 0 < wt l v) (hf : fits (lowest l) = true) : Kept (lowest l) := ⟨Good.of hf, lowest_ne h⟩
structure TxtD (K : PySem.W.Frag) (mg : Str → Option Value) (CW : Addr) : Prop where
  wr : mg "Wrong" = some (.ref CW)
  xW : Exc K CW
  pl : ∃ t, mg "PLACES" = some (.int 16 t)
  mp : ∃ t, mg "MOST_PAIRS" = some (.int 256 t)
  mt : ∃ t, mg "MOST_TIMES" = some (.int 100 t)
  mx : ∃ t, mg "MOST_PARTS" = some (.int 65535 t)
  dn : ∃ t, mg "DONE" = some (.int 0 t)
  rw : ∃ t, mg "WRONG" = some (.int (-1) t)
  rn : ∃ t, mg "NO_FIT" = some (.int (-2) t)
  rt : ∃ t, mg "NONE_THERE" = some (.int (-5) t)
  wt : ∃ t, mg "WEIGHTS" = some (.int 0 t)
section
variable {P : Program} {w : World} {K : PySem.W.Frag} {mg : Str → Option Value} {base : Heap} {CN CT CW : Addr}
noncomputable def spKept (CW : Addr) : Sp := fun vs H Q E => ∃ (dk : Addr) (st : State) (n i : Nat), vs = [.ref dk, .int (i : Int)] ∧ Desk H dk st n ∧ (get st i = none → ∀ H' : Hp, Same H H' → E (.ref CW) none H') ∧ ∀ l a, get st i = some l → FD H a l → Kept l → Q (.ref a) H
theorem scKe : FnScope ["kept", "place"] ["kept", "place"] (defScope sKept) := ⟨rfl, rfl, rfl, by decide +kernel, rfl, by decide +kernel, by decide +kernel⟩
theorem ok_kept {ff : Addr} {fd : FuncData} (F : Fun K "kept_at" "kept_at" sKept ff fd) (D : TxtD K mg CW) : FnOk P w K mg base (CXR P w) 1 ff fd ["kept", "place"] (spKept CW) := by
  refine F.okx scKe (fun vs H Q E h => ?_) (fun cdv A outer s H vs Q E hr h => ?_)
  · obtain ⟨dk, st, n, i, rfl, _⟩ := h
    rfl
  · obtain ⟨dk, st, n, i, rfl, ⟨kvs, h1, h2, h3, h4⟩, k1, k2⟩ := h
    have hu := hu_of hr
    refine ⟨_, pss_cons (ps_if (pt_cmp (pc_dnotin hu (pv 1) (pv 0))) (pss_one (ps_raise D.xW D.wr hr.hd rfl (pa_cons pe_str pa_nil))) pss_nil) (pss_one (ps_ret (pe_dget hu (pv 0) (pv 1) (fun _ _ => rfl)))), ?_⟩
    refine ⟨_, rfl, _, rfl, dk, _, rfl, DGet.k (k := Sum.inl (i : Int)) h1, _, rfl, ?_⟩
    cases e : get st i with
    | none =>
      rw [(h4 i).1 e]
      exact ⟨small (Nat.le_refl 1) (by decide), k1 e _ (Same.refl _)⟩
    | some l =>
      obtain ⟨a, ea, fd, kl⟩ := (h4 i).2 l e
      rw [ea]
      refine ⟨_, rfl, _, rfl, dk, _, rfl, ?_, k2 l a e fd kl⟩
      have g := DGet.k (k := Sum.inl (i : Int)) h1
      rw [ea] at g
      exact g
structure KepF (P : Program) (w : World) (K : PySem.W.Frag) (mg : Str → Option Value) (base : Heap) (CW fX : Addr) (fdX : FuncData) : Prop where
  ok : FnOk P w K mg base (CXR P w) 1 fX fdX ["kept", "place"] (spKept CW)
  kp : PySem.W.keepIn K (.ref fX) = true
  b : Binds K fdX ["kept", "place"] []
  mg : mg "kept_at" = some (.ref fX)
noncomputable def spMk (CN CT CW : Addr) (pat : List Int → State → Out → Prop) : Sp := fun vs H Q E => ∃ (dk c : Addr) (ns : List Int) (st : State) (n : Nat) (o : Out), vs = [.ref dk, .ref c] ∧ Desk H dk st n ∧ H c = some (.lst (ns.map V.int)) ∧ pat ns st o ∧ Made CN CT CW H Q E o
noncomputable def patW (ns : List Int) (_ : State) (o : Out) : Prop := ∃ (h z : Int) (l : Weights), ns = 0 :: h :: z :: flat l ∧ l.length ≤ 300 ∧ (∀ x ∈ l, x.2 < 2 ^ 32) ∧ o = oW l
noncomputable def patE (ns : List Int) (_ : State) (o : Out) : Prop := ∃ (h lo hi : Int), ns = [1, h, lo, hi] ∧ o = oE lo hi
noncomputable def pat2 (k : Int) (p : Weights → Weights → Out) (ns : List Int) (st : State) (o : Out) : Prop := ∃ (h : Int) (f g : Nat), ns = [k, h, (f : Int), (g : Int)] ∧ o = o2 st f g p
noncomputable def patT (ns : List Int) (st : State) (o : Out) : Prop := ∃ (h : Int) (f n : Nat), ns = [5, h, (f : Int), (n : Int)] ∧ o = o1 st f (oT n)
noncomputable def patM (ns : List Int) (st : State) (o : Out) : Prop := ∃ (h : Int) (f g a b : Nat), ns = [6, h, (f : Int), (g : Int), (a : Int), (b : Int)] ∧ o = o2 st f g (oM a b)
noncomputable def patG (ns : List Int) (st : State) (o : Out) : Prop := ∃ (h : Int) (f : Nat) (lo hi : Int), ns = [7, h, (f : Int), lo, hi] ∧ o = o1 st f (oG lo hi)
theorem at_k {ns : List Int} {k : Nat} {z : Int} (h : ns[k]? = some z) : (ns.map V.int)[k]? = some (V.int z) := by rw [List.getElem?_map, h]; rfl
theorem scMW : FnScope ["kept", "call", "pairs", "told"] ["kept", "call"] (defScope sMkW) := ⟨rfl, rfl, rfl, by decide +kernel, rfl, by decide +kernel, by decide +kernel⟩
structure PaiF (P : Program) (w : World) (K : PySem.W.Frag) (mg : Str → Option Value) (base : Heap) (fX : Addr) (fdX : FuncData) : Prop where
  ok : FnOk P w K mg base CX0 1 fX fdX ["pairs"] (spPairs K)
  kp : PySem.W.keepIn K (.ref fX) = true
  b : Binds K fdX ["pairs"] []
  mg : mg "weights_of_pairs" = some (.ref fX)
theorem cut3 (a b c : V) (r : List V) : cutV (a :: b :: c :: r) (some 3) none = r := by
  unfold cutV
  rw [HT.sIx_none, show (some (3 : Int)) = some ((3 : Nat) : Int) from rfl, HT.sIx_nat, show min 3 (a :: b :: c :: r).length = 3 by simp]
  show (List.take ((a :: b :: c :: r).length - 3) r) = r
  exact List.take_of_length_le (by simp)
theorem tot_addAll (l : Weights) : tot (addAll [] l) = 0 ↔ tot l = 0 := by
  rw [tot_zero_iff, tot_zero_iff]
  exact ⟨fun h v => by rw [← addAll_wt0]; exact h v, fun h v => by rw [addAll_wt0]; exact h v⟩
theorem tot_big {l : Weights} {c : Nat} (h : ∀ x ∈ l, x.2 ≤ c) : tot l ≤ l.length * c := by
  induction l with
  | nil => exact Nat.zero_le _
  | cons x l ih =>
    rw [tot_cons, List.length_cons, Nat.add_mul]
    have := ih fun y hy => h y (.tail _ hy)
    have := h x (.head _)
    omega
theorem ok_mkW {ff fX fP : Addr} {fd fdX fdP : FuncData} (F : Fun K "make_weights" "make_weights" sMkW ff fd) (T : Txt K mg CN CW) (D : TxtD K mg CW) (X : Fit P w K mg base CN fX fdX) (Y : PaiF P w K mg base fP fdP) :
    FnOk P w K mg base (CXR P w) 6 ff fd ["kept", "call"] (spMk CN CT CW patW) := by
  refine F.okx scMW (fun vs H Q E h => ?_) (fun cdv A outer s H vs Q E hr h => ?_)
  · obtain ⟨dk, c, ns, st, n, o, rfl, _⟩ := h
    rfl
  · obtain ⟨dk, c, ns, st, n, o, rfl, hD, hc, ⟨h, z, l, rfl, hl, hw, rfl⟩, r⟩ := h
    have hr1 : Room 1 _ := hr.mono (by decide)
    have hr3 : Room 3 _ := hr.mono (by decide)
    obtain ⟨t1, e1⟩ := D.mp
    refine ⟨_, pss_cons (ps_set (i := 2) scMW.nd rfl (Or.inl rfl) (pe_slice sl_list (pv 1) (po_some pe_int) po_none))
      (pss_cons (ps_if (pt_cmpR op_gt (pe_callB call_len_seq rfl T.len PySem.boot_len (pa_cons (pv 2) pa_nil)) (pe_op op_mul pe_int (pe_glob (v := .int 256) rfl e1 ⟨_, rfl⟩)) (nomark _)) (pss_one (ps_raise D.xW D.wr hr.hd rfl (pa_cons pe_str pa_nil))) pss_nil)
      (pss_cons (ps_set (i := 3) scMW.nd rfl (Or.inl rfl) (pe_call Y.ok hr1 rfl Y.mg Y.kp Y.b .nil pass0 (pa_cons (pv 2) pa_nil)))
      (pss_cons (ps_if (pt_cmp (pc_eqI (pe_sumV rfl rfl T.sum (pv 3)) pe_int)) (pss_one (ps_raise D.xW D.wr hr.hd rfl (pa_cons pe_str pa_nil))) pss_nil)
      (pss_one (ps_ret (pe_call X.ok hr3 rfl X.mg X.kp X.b .nil passR' (pa_cons (pe_frz (pv 3)) pa_nil))))))), ?_⟩
    refine ⟨_, rfl, _, rfl, c, _, rfl, SqL.of hc, fun p hp => ?_⟩
    rw [List.map_cons, List.map_cons, List.map_cons, cut3]
    have s1 : Same H (upd H p (.lst ((flat l).map V.int))) := Same.upd (Same.refl _) hp
    refine ⟨_, rfl, p, _, rfl, .inl (SqL.of upd_same), _, _, rfl, rfl, .inl ⟨by omega, by omega⟩, _, _, rfl, rfl, _, rfl, ?_⟩
    rw [List.length_map, flat_len]
    refine ifD (fun h1 => ?_) (fun h1 => ?_)
    · have e : oW l = .error .wrong := if_pos (.inl (by omega))
      rw [e] at r
      exact ⟨small (Nat.le_refl 1) (by decide), r _ s1⟩
    refine ⟨_, rfl, p, l, rfl, SqL.of upd_same, by omega, fun H2 q s2 hq hq2 => ?_⟩
    have s3 := s1.trans s2
    have hq0 := s1.free hq
    refine ⟨_, rfl, q, enc (addAll [] l), _, rfl, .inl hq2, enc_vals _, _, _, rfl, rfl, _, rfl, ?_⟩
    rw [sum_cast]
    refine ifD (fun h2 => ?_) (fun h2 => ?_)
    · have h2' : ((tot (addAll [] l) : Nat) : Int) = 0 := h2
      have e : oW l = .error .wrong := if_pos (.inr ((tot_addAll l).mp (by omega)))
      rw [e] at r
      exact ⟨small (Nat.le_refl 1) (by decide), r _ s3⟩
    have ht : tot l ≠ 0 := fun z => h2 (by rw [(tot_addAll l).mpr z]; rfl)
    have hpos : ∃ v, 0 < wt (addAll [] l) v := by
      apply Classical.byContradiction
      intro hn
      refine ht (tot_zero_iff.mpr fun v => ?_)
      have : ¬ 0 < wt (addAll [] l) v := fun q => hn ⟨v, q⟩
      rw [addAll_wt0] at this
      omega
    have e : oW l = fit (lowest l) := if_neg (by rintro (q | q); omega; exact ht q)
    rw [e, show lowest l = lowest (addAll [] l) from (lowest_congr fun v => addAll_wt0 l v).symm] at r
    refine ⟨_, rfl, q, _, rfl, hq2, True.intro, fun od => ?_⟩
    refine ⟨q, addAll [] l, rfl, ⟨od, upd_same⟩, ⟨nd0 l, Nat.le_trans (len0 l) (by omega), fun x hx => ?_⟩, hpos, (Made.res r fun hf => kept_low hpos hf).at (Same.upd2 s3 hq0)⟩
    rw [← wt_mem (nd0 l) hx, addAll_wt0]
    refine Nat.lt_of_le_of_lt (wt_le_tot l x.1) (Nat.lt_of_le_of_lt (tot_big (c := 2 ^ 32) fun y hy => Nat.le_of_lt (hw y hy)) ?_)
    have : l.length * 2 ^ 32 ≤ 300 * 2 ^ 32 := Nat.mul_le_mul_right _ hl
    exact Nat.lt_of_le_of_lt this (by decide)
theorem scME : FnScope ["kept", "call", "lo", "hi"] ["kept", "call"] (defScope sMkE) := ⟨rfl, rfl, rfl, by decide +kernel, rfl, by decide +kernel, by decide +kernel⟩
structure EveF (P : Program) (w : World) (K : PySem.W.Frag) (mg : Str → Option Value) (base : Heap) (CN fX : Addr) (fdX : FuncData) : Prop where
  ok : FnOk P w K mg base (CXR P w) 4 fX fdX ["lo", "hi"] (spEven CN)
  kp : PySem.W.keepIn K (.ref fX) = true
  b : Binds K fdX ["lo", "hi"] []
  mg : mg "even_of" = some (.ref fX)
theorem even_pos {lo : Int} {n : Nat} (h : 0 < n) : ∃ v, 0 < wt (evenL lo n) v := by
  have hm : (lo, 1) ∈ evenL lo n := List.mem_map.mpr ⟨0, List.mem_range.mpr h, by simp⟩
  exact ⟨lo, Nat.lt_of_lt_of_le Nat.one_pos (wt_ge hm rfl)⟩
theorem ok_mkE {ff fX : Addr} {fd fdX : FuncData} (F : Fun K "make_even" "make_even" sMkE ff fd) (D : TxtD K mg CW) (X : EveF P w K mg base CN fX fdX) : FnOk P w K mg base (CXR P w) 6 ff fd ["kept", "call"] (spMk CN CT CW patE) := by
  refine F.okx scME (fun vs H Q E h => ?_) (fun cdv A outer s H vs Q E hr h => ?_)
  · obtain ⟨dk, c, ns, st, n, o, rfl, _⟩ := h
    rfl
  · obtain ⟨dk, c, ns, st, n, o, rfl, hD, hc, ⟨h, lo, hi, rfl, rfl⟩, r⟩ := h
    have hr4 : Room 4 _ := hr.mono (by decide)
    refine ⟨_, pss_cons (ps_set (i := 2) scME.nd rfl (Or.inl rfl) (pe_ix ix_list (pv 1) pe_int (fun _ _ => rfl)))
      (pss_cons (ps_set (i := 3) scME.nd rfl (Or.inl rfl) (pe_ix ix_list (pv 1) pe_int (fun _ _ => rfl)))
      (pss_cons (ps_if (pt_cmpR op_lt (pv 3) (pv 2) (nomark _)) (pss_one (ps_raise D.xW D.wr hr.hd rfl (pa_cons pe_str pa_nil))) pss_nil)
      (pss_one (ps_ret (pe_call X.ok hr4 rfl X.mg X.kp X.b .nil passR' (pa_cons (pv 2) (pa_cons (pv 3) pa_nil))))))), ?_⟩
    refine ⟨_, rfl, c, _, _, _, rfl, rfl, SqL.of hc, at_of (j := 2) rfl rfl, _, rfl, c, _, _, _, rfl, rfl, SqL.of hc, at_of (j := 3) rfl rfl, ?_⟩
    refine ⟨_, rfl, _, rfl, _, _, rfl, rfl, _, rfl, ?_⟩
    refine ifD (fun h1 => ?_) (fun h1 => ?_)
    · have e : oE lo hi = .error .wrong := if_pos h1
      rw [e] at r
      exact ⟨small (Nat.le_refl 1) (by decide), r _ (Same.refl _)⟩
    refine ⟨_, rfl, _, rfl, lo, hi, rfl, by omega, fun h2 H' s' => ?_, fun h2 => ?_⟩
    · have e : oE lo hi = .error .nofit := by unfold oE; rw [if_neg h1, if_pos h2]
      rw [e] at r
      exact r H' s'
    · have e : oE lo hi = fit (lowest (evenL lo (hi - lo + 1).toNat)) := by unfold oE; rw [if_neg h1, if_neg (by omega)]
      rw [e] at r
      exact Made.res r fun hf => kept_low (even_pos (by omega)) hf
structure TwoF (P : Program) (w : World) (K : PySem.W.Frag) (mg : Str → Option Value) (base : Heap) (op : Int → Int → Int) (x : Str) (CN fX : Addr) (fdX : FuncData) : Prop where
  ok : FnOk P w K mg base (CXR P w) 5 fX fdX ["f", "g"] (spTwo op CN)
  kp : PySem.W.keepIn K (.ref fX) = true
  b : Binds K fdX ["f", "g"] []
  mg : mg x = some (.ref fX)
theorem o2_some {st : State} {f g : Nat} {p : Weights → Weights → Out} {x y : Weights} (hx : get st f = some x) (hy : get st g = some y) : o2 st f g p = p x y := by unfold o2; rw [hx, hy]
theorem o2_no1 {st : State} {f g : Nat} {p : Weights → Weights → Out} (hx : get st f = none) : o2 st f g p = .error .wrong := by unfold o2; rw [hx]
theorem o2_no2 {st : State} {f g : Nat} {p : Weights → Weights → Out} (hy : get st g = none) : o2 st f g p = .error .wrong := by unfold o2; rw [hy]; cases get st f <;> rfl
theorem o1_some {st : State} {f : Nat} {p : Weights → Out} {x : Weights} (hx : get st f = some x) : o1 st f p = p x := by unfold o1; rw [hx]
theorem o1_none {st : State} {f : Nat} {p : Weights → Out} (hx : get st f = none) : o1 st f p = .error .wrong := by unfold o1; rw [hx]
theorem two_read {op : Int → Int → Int} {k h : Int} {f g n : Nat} {st : State} {H : Hp} {Q : VK} {E : XK} {dk c : Addr} (hD : Desk H dk st n) (hc : H c = some (.lst (([k, h, (f : Int), (g : Int)] : List Int).map V.int))) (r : Made CN CT CW H Q E (o2 st f g fun x y => fit (both op x y))) :
    tCall (spTwo op CN) [] E (tCons (tCall (spKept CW) [] E (tCons (tVar 0) (tCons (tOp (rIxL K) (tVar 1) (tC (.int 2))) tNil))) (tCons (tCall (spKept CW) [] E (tCons (tVar 0) (tCons (tOp (rIxL K) (tVar 1) (tC (.int 3))) tNil))) tNil)) [some (.ref dk), some (.ref c)] H Q := by
  refine ⟨_, rfl, _, rfl, c, _, _, _, rfl, rfl, SqL.of hc, at_of (j := 2) rfl rfl, dk, st, n, f, rfl, hD, fun e H' s' => ?_, fun x a hx fa kx => ?_⟩
  · rw [o2_no1 e] at r
    exact r H' s'
  refine ⟨_, rfl, _, rfl, c, _, _, _, rfl, rfl, SqL.of hc, at_of (j := 3) rfl rfl, dk, st, n, g, rfl, hD, fun e H' s' => ?_, fun y b hy fb ky => ?_⟩
  · rw [o2_no2 e] at r
    exact r H' s'
  rw [o2_some hx hy] at r
  exact ⟨a, b, x, y, rfl, fa, fb, kx, ky, Made.res r fun hf => kept_low (conv_has kx ky) hf⟩
end
end Ev
end
section
set_option Elab.async false
set_option linter.all false
set_option maxRecDepth 100000
set_option maxHeartbeats 2000000
namespace Ev
open PySem PySem.Spec PyProof.Rows L2 Dx
noncomputable abbrev sTeC : Stmt := top 51
noncomputable abbrev sTeB : Stmt := top 52
noncomputable abbrev sTeM : Stmt := top 53
noncomputable abbrev sTeQ : Stmt := top 54
noncomputable abbrev sTeF : Stmt := top 55
section
variable {P : Program} {w : World} {K : PySem.W.Frag} {mg : Str → Option Value} {base : Heap} {CN CT CW : Addr}
theorem scMA : FnScope ["kept", "call"] ["kept", "call"] (defScope sMkA) := ⟨rfl, rfl, rfl, by decide +kernel, rfl, by decide +kernel, by decide +kernel⟩
theorem scMG : FnScope ["kept", "call"] ["kept", "call"] (defScope sMkG) := ⟨rfl, rfl, rfl, by decide +kernel, rfl, by decide +kernel, by decide +kernel⟩
theorem scML : FnScope ["kept", "call"] ["kept", "call"] (defScope sMkL) := ⟨rfl, rfl, rfl, by decide +kernel, rfl, by decide +kernel, by decide +kernel⟩
theorem ok_mkA {ff fX fK : Addr} {fd fdX fdK : FuncData} (F : Fun K "make_add" "make_add" sMkA ff fd) (X : TwoF P w K mg base (fun p q => p + q) "sum_of" CN fX fdX) (Y : KepF P w K mg base CW fK fdK) : FnOk P w K mg base (CXR P w) 6 ff fd ["kept", "call"] (spMk CN CT CW (pat2 2 fun x y => fit (both (fun p q => p + q) x y))) := by
  refine F.okx scMA (fun vs H Q E h => ?_) (fun cdv A outer s H vs Q E hr h => ?_)
  · obtain ⟨dk, c, ns, st, n, o, rfl, _⟩ := h
    rfl
  · obtain ⟨dk, c, ns, st, n, o, rfl, hD, hc, ⟨h, f, g, rfl, rfl⟩, r⟩ := h
    have hr1 : Room 1 _ := hr.mono (by decide)
    refine ⟨_, pss_one (ps_ret (pe_call X.ok hr rfl X.mg X.kp X.b .nil passR' (pa_cons (pe_call Y.ok hr1 rfl Y.mg Y.kp Y.b .nil passR' (pa_cons (pv 0) (pa_cons (pe_ix ix_list (pv 1) pe_int (fun _ _ => rfl)) pa_nil))) (pa_cons (pe_call Y.ok hr1 rfl Y.mg Y.kp Y.b .nil passR' (pa_cons (pv 0) (pa_cons (pe_ix ix_list (pv 1) pe_int (fun _ _ => rfl)) pa_nil))) pa_nil)))), ?_⟩
    exact two_read hD hc r
theorem ok_mkG {ff fX fK : Addr} {fd fdX fdK : FuncData} (F : Fun K "make_great" "make_great" sMkG ff fd) (X : TwoF P w K mg base opG "greater_of" CN fX fdX) (Y : KepF P w K mg base CW fK fdK) : FnOk P w K mg base (CXR P w) 6 ff fd ["kept", "call"] (spMk CN CT CW (pat2 3 fun x y => fit (both opG x y))) := by
  refine F.okx scMG (fun vs H Q E h => ?_) (fun cdv A outer s H vs Q E hr h => ?_)
  · obtain ⟨dk, c, ns, st, n, o, rfl, _⟩ := h
    rfl
  · obtain ⟨dk, c, ns, st, n, o, rfl, hD, hc, ⟨h, f, g, rfl, rfl⟩, r⟩ := h
    have hr1 : Room 1 _ := hr.mono (by decide)
    refine ⟨_, pss_one (ps_ret (pe_call X.ok hr rfl X.mg X.kp X.b .nil passR' (pa_cons (pe_call Y.ok hr1 rfl Y.mg Y.kp Y.b .nil passR' (pa_cons (pv 0) (pa_cons (pe_ix ix_list (pv 1) pe_int (fun _ _ => rfl)) pa_nil))) (pa_cons (pe_call Y.ok hr1 rfl Y.mg Y.kp Y.b .nil passR' (pa_cons (pv 0) (pa_cons (pe_ix ix_list (pv 1) pe_int (fun _ _ => rfl)) pa_nil))) pa_nil)))), ?_⟩
    exact two_read hD hc r
theorem ok_mkL {ff fX fK : Addr} {fd fdX fdK : FuncData} (F : Fun K "make_less" "make_less" sMkL ff fd) (X : TwoF P w K mg base opL "lesser_of" CN fX fdX) (Y : KepF P w K mg base CW fK fdK) : FnOk P w K mg base (CXR P w) 6 ff fd ["kept", "call"] (spMk CN CT CW (pat2 4 fun x y => fit (both opL x y))) := by
  refine F.okx scML (fun vs H Q E h => ?_) (fun cdv A outer s H vs Q E hr h => ?_)
  · obtain ⟨dk, c, ns, st, n, o, rfl, _⟩ := h
    rfl
  · obtain ⟨dk, c, ns, st, n, o, rfl, hD, hc, ⟨h, f, g, rfl, rfl⟩, r⟩ := h
    have hr1 : Room 1 _ := hr.mono (by decide)
    refine ⟨_, pss_one (ps_ret (pe_call X.ok hr rfl X.mg X.kp X.b .nil passR' (pa_cons (pe_call Y.ok hr1 rfl Y.mg Y.kp Y.b .nil passR' (pa_cons (pv 0) (pa_cons (pe_ix ix_list (pv 1) pe_int (fun _ _ => rfl)) pa_nil))) (pa_cons (pe_call Y.ok hr1 rfl Y.mg Y.kp Y.b .nil passR' (pa_cons (pv 0) (pa_cons (pe_ix ix_list (pv 1) pe_int (fun _ _ => rfl)) pa_nil))) pa_nil)))), ?_⟩
    exact two_read hD hc r
theorem scMT : FnScope ["kept", "call", "f", "n"] ["kept", "call"] (defScope sMkT) := ⟨rfl, rfl, rfl, by decide +kernel, rfl, by decide +kernel, by decide +kernel⟩
structure TimF (P : Program) (w : World) (K : PySem.W.Frag) (mg : Str → Option Value) (base : Heap) (CN fX : Addr) (fdX : FuncData) : Prop where
  ok : FnOk P w K mg base (CXR P w) 5 fX fdX ["f", "n"] (spTimes CN)
  kp : PySem.W.keepIn K (.ref fX) = true
  b : Binds K fdX ["f", "n"] []
  mg : mg "times_of" = some (.ref fX)
theorem ok_mkT {ff fX fK : Addr} {fd fdX fdK : FuncData} (F : Fun K "make_times" "make_times" sMkT ff fd) (D : TxtD K mg CW) (X : TimF P w K mg base CN fX fdX) (Y : KepF P w K mg base CW fK fdK) : FnOk P w K mg base (CXR P w) 6 ff fd ["kept", "call"] (spMk CN CT CW patT) := by
  refine F.okx scMT (fun vs H Q E h => ?_) (fun cdv A outer s H vs Q E hr h => ?_)
  · obtain ⟨dk, c, ns, st, n, o, rfl, _⟩ := h
    rfl
  · obtain ⟨dk, c, ns, st, n, o, rfl, hD, hc, ⟨h, f, m, rfl, rfl⟩, r⟩ := h
    have hr1 : Room 1 _ := hr.mono (by decide)
    obtain ⟨t1, e1⟩ := D.mt
    refine ⟨_, pss_cons (ps_set (i := 2) scMT.nd rfl (Or.inl rfl) (pe_call Y.ok hr1 rfl Y.mg Y.kp Y.b .nil passR' (pa_cons (pv 0) (pa_cons (pe_ix ix_list (pv 1) pe_int (fun _ _ => rfl)) pa_nil))))
      (pss_cons (ps_set (i := 3) scMT.nd rfl (Or.inl rfl) (pe_ix ix_list (pv 1) pe_int (fun _ _ => rfl)))
      (pss_cons (ps_if (pt_cmpR op_gt (pv 3) (pe_glob (v := .int 100) rfl e1 ⟨_, rfl⟩) (nomark _)) (pss_one (ps_raise D.xW D.wr hr.hd rfl (pa_cons pe_str pa_nil))) pss_nil)
      (pss_one (ps_ret (pe_call X.ok hr rfl X.mg X.kp X.b .nil passR' (pa_cons (pv 2) (pa_cons (pv 3) pa_nil))))))), ?_⟩
    refine ⟨_, rfl, _, rfl, c, _, _, _, rfl, rfl, SqL.of hc, at_of (j := 2) rfl rfl, dk, st, n, f, rfl, hD, fun e H' s' => ?_, fun x a hx fa kx => ?_⟩
    · rw [o1_none e] at r
      exact r H' s'
    rw [o1_some hx] at r
    refine ⟨_, rfl, c, _, _, _, rfl, rfl, SqL.of hc, at_of (j := 3) rfl rfl, _, rfl, _, _, rfl, rfl, _, rfl, ?_⟩
    refine ifD (fun h1 => ?_) (fun h1 => ?_)
    · have e : oT m x = .error .wrong := if_pos (by omega)
      rw [e] at r
      exact ⟨small (Nat.le_refl 1) (by decide), r _ (Same.refl _)⟩
    have e : oT m x = match Dx.times x m with | none => .error .nofit | some l => .ok l := if_neg (by omega)
    rw [e] at r
    refine ⟨_, rfl, _, rfl, a, x, m, rfl, fa, kx, by omega, fun l hl H' p s' hp fd hne => ?_, fun hl H' s' => ?_⟩
    · rw [hl] at r
      exact r H' p s' hp fd ⟨times_good hl, hne⟩
    · rw [hl] at r
      exact r H' s'
theorem scMM : FnScope ["kept", "call", "f", "g", "a", "b"] ["kept", "call"] (defScope sMkM) := ⟨rfl, rfl, rfl, by decide +kernel, rfl, by decide +kernel, by decide +kernel⟩
structure MixF (P : Program) (w : World) (K : PySem.W.Frag) (mg : Str → Option Value) (base : Heap) (CN fX : Addr) (fdX : FuncData) : Prop where
  ok : FnOk P w K mg base (CXR P w) 4 fX fdX ["f", "g", "a", "b"] (spMix CN)
  kp : PySem.W.keepIn K (.ref fX) = true
  b : Binds K fdX ["f", "g", "a", "b"] []
  mg : mg "mix_of" = some (.ref fX)
theorem mix_has {a b : Nat} {f g : Weights} (kf : Kept f) (kg : Kept g) (ha : 1 ≤ a) : ∃ v, 0 < wt (mixW a b f g) v := by
  cases hfe : f with
  | nil => exact absurd hfe kf.ne
  | cons x f' =>
    refine ⟨x.1, ?_⟩
    rw [← hfe, mix_wt kf.nd]
    have h1 : 0 < wt f x.1 := by rw [wt_mem kf.nd (x := x) (by rw [hfe]; exact .head _)]; exact kf.canon.pos x (by rw [hfe]; exact .head _)
    have h3 : 0 < a * tot g * wt f x.1 := Nat.mul_pos (Nat.mul_pos (by omega) (tot_pos kg)) h1
    omega
theorem ok_mkM {ff fX fK : Addr} {fd fdX fdK : FuncData} (F : Fun K "make_mix" "make_mix" sMkM ff fd) (D : TxtD K mg CW) (X : MixF P w K mg base CN fX fdX) (Y : KepF P w K mg base CW fK fdK) : FnOk P w K mg base (CXR P w) 6 ff fd ["kept", "call"] (spMk CN CT CW patM) := by
  refine F.okx scMM (fun vs H Q E h => ?_) (fun cdv A outer s H vs Q E hr h => ?_)
  · obtain ⟨dk, c, ns, st, n, o, rfl, _⟩ := h
    rfl
  · obtain ⟨dk, c, ns, st, n, o, rfl, hD, hc, ⟨h, f, g, a, b, rfl, rfl⟩, r⟩ := h
    have hr1 : Room 1 _ := hr.mono (by decide)
    have hr4 : Room 4 _ := hr.mono (by decide)
    obtain ⟨t1, e1⟩ := D.mx
    refine ⟨_, pss_cons (ps_set (i := 2) scMM.nd rfl (Or.inl rfl) (pe_call Y.ok hr1 rfl Y.mg Y.kp Y.b .nil passR' (pa_cons (pv 0) (pa_cons (pe_ix ix_list (pv 1) pe_int (fun _ _ => rfl)) pa_nil))))
      (pss_cons (ps_set (i := 3) scMM.nd rfl (Or.inl rfl) (pe_call Y.ok hr1 rfl Y.mg Y.kp Y.b .nil passR' (pa_cons (pv 0) (pa_cons (pe_ix ix_list (pv 1) pe_int (fun _ _ => rfl)) pa_nil))))
      (pss_cons (ps_set (i := 4) scMM.nd rfl (Or.inl rfl) (pe_ix ix_list (pv 1) pe_int (fun _ _ => rfl)))
      (pss_cons (ps_set (i := 5) scMM.nd rfl (Or.inl rfl) (pe_ix ix_list (pv 1) pe_int (fun _ _ => rfl)))
      (pss_cons (ps_if (PW.pt (pw_or (pt_cmpR op_lt (pv 4) pe_int (nomark _)) (pw_or (pt_cmpR op_gt (pv 4) (pe_glob (v := .int 65535) rfl e1 ⟨_, rfl⟩) (nomark _)) (pw_or (pt_cmpR op_lt (pv 5) pe_int (nomark _)) (pw_or1 (pt_cmpR op_gt (pv 5) (pe_glob (v := .int 65535) rfl e1 ⟨_, rfl⟩) (nomark _))))))) (pss_one (ps_raise D.xW D.wr hr.hd rfl (pa_cons pe_str pa_nil))) pss_nil)
      (pss_one (ps_ret (pe_call X.ok hr4 rfl X.mg X.kp X.b .nil passR' (pa_cons (pv 2) (pa_cons (pv 3) (pa_cons (pv 4) (pa_cons (pv 5) pa_nil))))))))))), ?_⟩
    refine ⟨_, rfl, _, rfl, c, _, _, _, rfl, rfl, SqL.of hc, at_of (j := 2) rfl rfl, dk, st, n, f, rfl, hD, fun e H' s' => ?_, fun x ax hx fa kx => ?_⟩
    · rw [o2_no1 e] at r
      exact r H' s'
    refine ⟨_, rfl, _, rfl, c, _, _, _, rfl, rfl, SqL.of hc, at_of (j := 3) rfl rfl, dk, st, n, g, rfl, hD, fun e H' s' => ?_, fun y ay hy fb ky => ?_⟩
    · rw [o2_no2 e] at r
      exact r H' s'
    rw [o2_some hx hy] at r
    refine ⟨_, rfl, c, _, _, _, rfl, rfl, SqL.of hc, at_of (j := 4) rfl rfl, _, rfl, c, _, _, _, rfl, rfl, SqL.of hc, at_of (j := 5) rfl rfl, ?_⟩
    have bad : (a = 0 ∨ b = 0 ∨ 65535 < a ∨ 65535 < b) → ∀ H' : Hp, Same H H' → E (.ref CW) none H' := fun q H' s' => by
      have e : oM a b x y = .error .wrong := if_pos q
      rw [e] at r
      exact r H' s'
    refine ⟨_, rfl, _, _, rfl, rfl, _, rfl, ifD (fun h1 => iteT ⟨small (Nat.le_refl 1) (by decide), bad (by omega) _ (Same.refl _)⟩) fun h1 => ?_⟩
    refine ⟨_, rfl, _, _, rfl, rfl, _, rfl, ifD (fun h2 => iteT ⟨small (Nat.le_refl 1) (by decide), bad (by omega) _ (Same.refl _)⟩) fun h2 => ?_⟩
    refine ⟨_, rfl, _, _, rfl, rfl, _, rfl, ifD (fun h3 => iteT ⟨small (Nat.le_refl 1) (by decide), bad (by omega) _ (Same.refl _)⟩) fun h3 => ?_⟩
    refine ⟨_, rfl, _, _, rfl, rfl, _, rfl, ifD (fun h4 => ⟨small (Nat.le_refl 1) (by decide), bad (by omega) _ (Same.refl _)⟩) fun h4 => ?_⟩
    have e : oM a b x y = fit (Dx.mix a b x y) := if_neg (by omega)
    rw [e] at r
    refine ⟨_, rfl, _, rfl, _, rfl, _, rfl, ax, ay, x, y, a, b, rfl, fa, fb, kx, ky, by omega, by omega, by omega, by omega, Made.res r fun hf => ?_⟩
    rw [← mix_lowest kx.nd] at hf ⊢
    exact kept_low (mix_has kx ky (by omega)) hf
theorem scMC : FnScope ["kept", "call"] ["kept", "call"] (defScope sMkC) := ⟨rfl, rfl, rfl, by decide +kernel, rfl, by decide +kernel, by decide +kernel⟩
structure GivF (P : Program) (w : World) (K : PySem.W.Frag) (mg : Str → Option Value) (base : Heap) (CN CT fX : Addr) (fdX : FuncData) : Prop where
  ok : FnOk P w K mg base (CXR P w) 4 fX fdX ["f", "lo", "hi"] (spGiven CN CT)
  kp : PySem.W.keepIn K (.ref fX) = true
  b : Binds K fdX ["f", "lo", "hi"] []
  mg : mg "given_of" = some (.ref fX)
theorem part_has {lo hi : Int} {f : Weights} (kf : Kept f) (h : inRange lo hi f ≠ 0) : ∃ v, 0 < wt (partL lo hi f) v := by
  cases e : partL lo hi f with
  | nil => exact absurd ((part_nil kf.canon.pos).mp e) h
  | cons x r => exact lowest_pos_of (x := x) (.head _) (kf.canon.pos x ((partL_sub lo hi f).mem (by rw [e]; exact .head _)))
theorem ok_mkC {ff fX fK : Addr} {fd fdX fdK : FuncData} (F : Fun K "make_given" "make_given" sMkC ff fd) (X : GivF P w K mg base CN CT fX fdX) (Y : KepF P w K mg base CW fK fdK) : FnOk P w K mg base (CXR P w) 6 ff fd ["kept", "call"] (spMk CN CT CW patG) := by
  refine F.okx scMC (fun vs H Q E h => ?_) (fun cdv A outer s H vs Q E hr h => ?_)
  · obtain ⟨dk, c, ns, st, n, o, rfl, _⟩ := h
    rfl
  · obtain ⟨dk, c, ns, st, n, o, rfl, hD, hc, ⟨h, f, lo, hi, rfl, rfl⟩, r⟩ := h
    have hr1 : Room 1 _ := hr.mono (by decide)
    have hr4 : Room 4 _ := hr.mono (by decide)
    refine ⟨_, pss_one (ps_ret (pe_call X.ok hr4 rfl X.mg X.kp X.b .nil passR' (pa_cons (pe_call Y.ok hr1 rfl Y.mg Y.kp Y.b .nil passR' (pa_cons (pv 0) (pa_cons (pe_ix ix_list (pv 1) pe_int (fun _ _ => rfl)) pa_nil))) (pa_cons (pe_ix ix_list (pv 1) pe_int (fun _ _ => rfl)) (pa_cons (pe_ix ix_list (pv 1) pe_int (fun _ _ => rfl)) pa_nil))))), ?_⟩
    refine ⟨_, rfl, _, rfl, c, _, _, _, rfl, rfl, SqL.of hc, at_of (j := 2) rfl rfl, dk, st, n, f, rfl, hD, fun e H' s' => ?_, fun x a hx fa kx => ?_⟩
    · rw [o1_none e] at r
      exact r H' s'
    rw [o1_some hx] at r
    refine ⟨_, rfl, c, _, _, _, rfl, rfl, SqL.of hc, at_of (j := 3) rfl rfl, _, rfl, c, _, _, _, rfl, rfl, SqL.of hc, at_of (j := 4) rfl rfl, ?_⟩
    refine ⟨a, x, lo, hi, rfl, fa, kx, fun e H' s' => ?_, fun e => ?_⟩
    · have q : oG lo hi x = .error .nothere := if_pos e
      rw [q] at r
      exact r H' s'
    · have q : oG lo hi x = fit (Dx.given lo hi x) := if_neg e
      rw [q] at r
      exact Made.res r fun hf => kept_low (part_has kx e) hf
noncomputable abbrev Tell := Except Why (List Int)
noncomputable def Tolds (CN CT CW : Addr) (H : Hp) (Q : VK) (E : XK) : Tell → Prop
  | .ok l => ∀ (H' : Hp) (p : Addr), Same H H' → H p = none → H' p = some (.lst (l.map V.int)) → Q (.ref p) H'
  | .error y => ∀ H' : Hp, Same H H' → E (.ref (y.cls CN CT CW)) none H'
noncomputable def t1 (st : State) (f : Nat) (p : Weights → Tell) : Tell := match get st f with
  | some x => p x
  | none => .error .wrong
noncomputable def t2 (st : State) (f g : Nat) (p : Weights → Weights → Tell) : Tell := match get st f, get st g with
  | some x, some y => p x y
  | _, _ => .error .wrong
theorem t1_some {st : State} {f : Nat} {p : Weights → Tell} {x : Weights} (hx : get st f = some x) : t1 st f p = p x := by unfold t1; rw [hx]
theorem t1_none {st : State} {f : Nat} {p : Weights → Tell} (hx : get st f = none) : t1 st f p = .error .wrong := by unfold t1; rw [hx]
theorem t2_some {st : State} {f g : Nat} {p : Weights → Weights → Tell} {x y : Weights} (hx : get st f = some x) (hy : get st g = some y) : t2 st f g p = p x y := by unfold t2; rw [hx, hy]
theorem t2_no1 {st : State} {f g : Nat} {p : Weights → Weights → Tell} (hx : get st f = none) : t2 st f g p = .error .wrong := by unfold t2; rw [hx]
theorem t2_no2 {st : State} {f g : Nat} {p : Weights → Weights → Tell} (hy : get st g = none) : t2 st f g p = .error .wrong := by unfold t2; rw [hy]; cases get st f <;> rfl
noncomputable def tF (n : Int) (d : Nat) : Tell := open Classical in if fracBad n d then .error .nofit else .ok (fracL n d)
noncomputable def tQ (a b : Nat) (x : Weights) : Tell := if a = 0 ∨ b < a then .error .wrong else .ok [Dx.quantile x a b]
theorem Tolds.frac {H : Hp} {Q : VK} {E : XK} {n : Int} {d : Nat} (r : Tolds CN CT CW H Q E (tF n d)) : FracRes CN H Q E n d := by
  unfold tF at r
  refine ⟨fun h H' s => ?_, fun h H' p s hp fd => ?_⟩
  · rw [if_pos h] at r
    exact r H' s
  · rw [if_neg h] at r
    exact r H' p s hp fd
noncomputable def spTe (CN CT CW : Addr) (pat : List Int → State → Tell → Prop) : Sp := fun vs H Q E => ∃ (dk c : Addr) (ns : List Int) (st : State) (n : Nat) (o : Tell), vs = [.ref dk, .ref c] ∧ Desk H dk st n ∧ H c = some (.lst (ns.map V.int)) ∧ pat ns st o ∧ Tolds CN CT CW H Q E o
noncomputable def patC (ns : List Int) (st : State) (o : Tell) : Prop := ∃ (f : Nat) (lo hi : Int), ns = [8, (f : Int), lo, hi] ∧ o = t1 st f fun x => tF ((inRange lo hi x : Nat) : Int) (tot x)
noncomputable def patB (ns : List Int) (st : State) (o : Tell) : Prop := ∃ (f g : Nat), ns = [9, (f : Int), (g : Int)] ∧ o = t2 st f g fun x y => tF ((Dx.beats x y : Nat) : Int) (tot x * tot y)
noncomputable def patN (ns : List Int) (st : State) (o : Tell) : Prop := ∃ (f : Nat), ns = [10, (f : Int)] ∧ o = t1 st f fun x => tF (moment x) (tot x)
noncomputable def patQ (ns : List Int) (st : State) (o : Tell) : Prop := ∃ (f a b : Nat), ns = [11, (f : Int), (a : Int), (b : Int)] ∧ b < 2 ^ 32 ∧ o = t1 st f (tQ a b)
noncomputable def patF (ns : List Int) (st : State) (o : Tell) : Prop := ∃ (f : Nat), ns = [12, (f : Int)] ∧ o = t1 st f fun x => .ok (flat x)
theorem scTC : FnScope ["kept", "call"] ["kept", "call"] (defScope sTeC) := ⟨rfl, rfl, rfl, by decide +kernel, rfl, by decide +kernel, by decide +kernel⟩
theorem scTB : FnScope ["kept", "call"] ["kept", "call"] (defScope sTeB) := ⟨rfl, rfl, rfl, by decide +kernel, rfl, by decide +kernel, by decide +kernel⟩
theorem scTM : FnScope ["kept", "call"] ["kept", "call"] (defScope sTeM) := ⟨rfl, rfl, rfl, by decide +kernel, rfl, by decide +kernel, by decide +kernel⟩
theorem scTQ : FnScope ["kept", "call", "f", "a", "b"] ["kept", "call"] (defScope sTeQ) := ⟨rfl, rfl, rfl, by decide +kernel, rfl, by decide +kernel, by decide +kernel⟩
theorem scTF : FnScope ["kept", "call"] ["kept", "call"] (defScope sTeF) := ⟨rfl, rfl, rfl, by decide +kernel, rfl, by decide +kernel, by decide +kernel⟩
structure DefF (P : Program) (w : World) (K : PySem.W.Frag) (mg : Str → Option Value) (base : Heap) (CX : CXT) (k : Nat) (x : Str) (ps : List Str) (sp : Sp) (fX : Addr) (fdX : FuncData) : Prop where
  ok : FnOk P w K mg base CX k fX fdX ps sp
  kp : PySem.W.keepIn K (.ref fX) = true
  b : Binds K fdX ps []
  mg : mg x = some (.ref fX)
theorem ok_teC {ff fX fK : Addr} {fd fdX fdK : FuncData} (F : Fun K "tell_chance" "tell_chance" sTeC ff fd) (X : DefF P w K mg base (CXR P w) 3 "chance_between" ["f", "lo", "hi"] (spChance CN) fX fdX) (Y : KepF P w K mg base CW fK fdK) : FnOk P w K mg base (CXR P w) 6 ff fd ["kept", "call"] (spTe CN CT CW patC) := by
  refine F.okx scTC (fun vs H Q E h => ?_) (fun cdv A outer s H vs Q E hr h => ?_)
  · obtain ⟨dk, c, ns, st, n, o, rfl, _⟩ := h
    rfl
  · obtain ⟨dk, c, ns, st, n, o, rfl, hD, hc, ⟨f, lo, hi, rfl, rfl⟩, r⟩ := h
    have hr1 : Room 1 _ := hr.mono (by decide)
    have hr3 : Room 3 _ := hr.mono (by decide)
    refine ⟨_, pss_one (ps_ret (pe_call X.ok hr3 rfl X.mg X.kp X.b .nil passR' (pa_cons (pe_call Y.ok hr1 rfl Y.mg Y.kp Y.b .nil passR' (pa_cons (pv 0) (pa_cons (pe_ix ix_list (pv 1) pe_int (fun _ _ => rfl)) pa_nil))) (pa_cons (pe_ix ix_list (pv 1) pe_int (fun _ _ => rfl)) (pa_cons (pe_ix ix_list (pv 1) pe_int (fun _ _ => rfl)) pa_nil))))), ?_⟩
    refine ⟨_, rfl, _, rfl, c, _, _, _, rfl, rfl, SqL.of hc, at_of (j := 1) rfl rfl, dk, st, n, f, rfl, hD, fun e H' s' => ?_, fun x a hx fa kx => ?_⟩
    · rw [t1_none e] at r
      exact r H' s'
    rw [t1_some hx] at r
    refine ⟨_, rfl, c, _, _, _, rfl, rfl, SqL.of hc, at_of (j := 2) rfl rfl, _, rfl, c, _, _, _, rfl, rfl, SqL.of hc, at_of (j := 3) rfl rfl, ?_⟩
    exact ⟨a, x, lo, hi, rfl, fa, kx, r.frac⟩
theorem ok_teB {ff fX fK : Addr} {fd fdX fdK : FuncData} (F : Fun K "tell_beats" "tell_beats" sTeB ff fd) (X : DefF P w K mg base (CXR P w) 3 "chance_to_beat" ["f", "g"] (spBeat CN) fX fdX) (Y : KepF P w K mg base CW fK fdK) : FnOk P w K mg base (CXR P w) 6 ff fd ["kept", "call"] (spTe CN CT CW patB) := by
  refine F.okx scTB (fun vs H Q E h => ?_) (fun cdv A outer s H vs Q E hr h => ?_)
  · obtain ⟨dk, c, ns, st, n, o, rfl, _⟩ := h
    rfl
  · obtain ⟨dk, c, ns, st, n, o, rfl, hD, hc, ⟨f, g, rfl, rfl⟩, r⟩ := h
    have hr1 : Room 1 _ := hr.mono (by decide)
    have hr3 : Room 3 _ := hr.mono (by decide)
    refine ⟨_, pss_one (ps_ret (pe_call X.ok hr3 rfl X.mg X.kp X.b .nil passR' (pa_cons (pe_call Y.ok hr1 rfl Y.mg Y.kp Y.b .nil passR' (pa_cons (pv 0) (pa_cons (pe_ix ix_list (pv 1) pe_int (fun _ _ => rfl)) pa_nil))) (pa_cons (pe_call Y.ok hr1 rfl Y.mg Y.kp Y.b .nil passR' (pa_cons (pv 0) (pa_cons (pe_ix ix_list (pv 1) pe_int (fun _ _ => rfl)) pa_nil))) pa_nil)))), ?_⟩
    refine ⟨_, rfl, _, rfl, c, _, _, _, rfl, rfl, SqL.of hc, at_of (j := 1) rfl rfl, dk, st, n, f, rfl, hD, fun e H' s' => ?_, fun x a hx fa kx => ?_⟩
    · rw [t2_no1 e] at r
      exact r H' s'
    refine ⟨_, rfl, _, rfl, c, _, _, _, rfl, rfl, SqL.of hc, at_of (j := 2) rfl rfl, dk, st, n, g, rfl, hD, fun e H' s' => ?_, fun y b hy fb ky => ?_⟩
    · rw [t2_no2 e] at r
      exact r H' s'
    rw [t2_some hx hy] at r
    exact ⟨a, b, x, y, rfl, fa, fb, kx, ky, r.frac⟩
theorem ok_teM {ff fX fK : Addr} {fd fdX fdK : FuncData} (F : Fun K "tell_mean" "tell_mean" sTeM ff fd) (X : DefF P w K mg base (CXR P w) 3 "mean" ["f"] (spMean CN) fX fdX) (Y : KepF P w K mg base CW fK fdK) : FnOk P w K mg base (CXR P w) 6 ff fd ["kept", "call"] (spTe CN CT CW patN) := by
  refine F.okx scTM (fun vs H Q E h => ?_) (fun cdv A outer s H vs Q E hr h => ?_)
  · obtain ⟨dk, c, ns, st, n, o, rfl, _⟩ := h
    rfl
  · obtain ⟨dk, c, ns, st, n, o, rfl, hD, hc, ⟨f, rfl, rfl⟩, r⟩ := h
    have hr1 : Room 1 _ := hr.mono (by decide)
    have hr3 : Room 3 _ := hr.mono (by decide)
    refine ⟨_, pss_one (ps_ret (pe_call X.ok hr3 rfl X.mg X.kp X.b .nil passR' (pa_cons (pe_call Y.ok hr1 rfl Y.mg Y.kp Y.b .nil passR' (pa_cons (pv 0) (pa_cons (pe_ix ix_list (pv 1) pe_int (fun _ _ => rfl)) pa_nil))) pa_nil))), ?_⟩
    refine ⟨_, rfl, _, rfl, c, _, _, _, rfl, rfl, SqL.of hc, at_of (j := 1) rfl rfl, dk, st, n, f, rfl, hD, fun e H' s' => ?_, fun x a hx fa kx => ?_⟩
    · rw [t1_none e] at r
      exact r H' s'
    rw [t1_some hx] at r
    exact ⟨a, x, rfl, fa, kx, r.frac⟩
theorem ok_teQ {ff fX fK : Addr} {fd fdX fdK : FuncData} (F : Fun K "tell_quantile" "tell_quantile" sTeQ ff fd) (D : TxtD K mg CW) (X : DefF P w K mg base CX0 2 "quantile" ["f", "a", "b"] spQuant fX fdX) (Y : KepF P w K mg base CW fK fdK) : FnOk P w K mg base (CXR P w) 6 ff fd ["kept", "call"] (spTe CN CT CW patQ) := by
  refine F.okx scTQ (fun vs H Q E h => ?_) (fun cdv A outer s H vs Q E hr h => ?_)
  · obtain ⟨dk, c, ns, st, n, o, rfl, _⟩ := h
    rfl
  · obtain ⟨dk, c, ns, st, n, o, rfl, hD, hc, ⟨f, a, b, rfl, hb, rfl⟩, r⟩ := h
    have hr1 : Room 1 _ := hr.mono (by decide)
    have hr2 : Room 2 _ := hr.mono (by decide)
    refine ⟨_, pss_cons (ps_set (i := 2) scTQ.nd rfl (Or.inl rfl) (pe_call Y.ok hr1 rfl Y.mg Y.kp Y.b .nil passR' (pa_cons (pv 0) (pa_cons (pe_ix ix_list (pv 1) pe_int (fun _ _ => rfl)) pa_nil))))
      (pss_cons (ps_set (i := 3) scTQ.nd rfl (Or.inl rfl) (pe_ix ix_list (pv 1) pe_int (fun _ _ => rfl)))
      (pss_cons (ps_set (i := 4) scTQ.nd rfl (Or.inl rfl) (pe_ix ix_list (pv 1) pe_int (fun _ _ => rfl)))
      (pss_cons (ps_if (PW.pt (pw_or (pt_cmpR op_lt (pv 3) pe_int (nomark _)) (pw_or1 (pt_cmpR op_gt (pv 3) (pv 4) (nomark _))))) (pss_one (ps_raise D.xW D.wr hr.hd rfl (pa_cons pe_str pa_nil))) pss_nil)
      (pss_one (ps_ret (pe_lst (pa_cons (pe_call X.ok hr2 rfl X.mg X.kp X.b .nil pass0 (pa_cons (pv 2) (pa_cons (pv 3) (pa_cons (pv 4) pa_nil)))) pa_nil))))))), ?_⟩
    refine ⟨_, rfl, _, rfl, c, _, _, _, rfl, rfl, SqL.of hc, at_of (j := 1) rfl rfl, dk, st, n, f, rfl, hD, fun e H' s' => ?_, fun x p hx fa kx => ?_⟩
    · rw [t1_none e] at r
      exact r H' s'
    rw [t1_some hx] at r
    refine ⟨_, rfl, c, _, _, _, rfl, rfl, SqL.of hc, at_of (j := 2) rfl rfl, _, rfl, c, _, _, _, rfl, rfl, SqL.of hc, at_of (j := 3) rfl rfl, ?_⟩
    have bad : (a = 0 ∨ b < a) → ∀ H' : Hp, Same H H' → E (.ref CW) none H' := fun q H' s' => by
      have e : tQ a b x = .error .wrong := if_pos q
      rw [e] at r
      exact r H' s'
    refine ⟨_, rfl, _, _, rfl, rfl, _, rfl, ifD (fun h1 => iteT ⟨small (Nat.le_refl 1) (by decide), bad (by omega) _ (Same.refl _)⟩) fun h1 => ?_⟩
    refine ⟨_, rfl, _, rfl, _, _, rfl, rfl, _, rfl, ifD (fun h2 => ⟨small (Nat.le_refl 1) (by decide), bad (by omega) _ (Same.refl _)⟩) fun h2 => ?_⟩
    have e : tQ a b x = .ok [Dx.quantile x a b] := if_neg (by omega)
    rw [e] at r
    refine ⟨_, rfl, _, rfl, _, rfl, p, x, a, b, rfl, fa, kx, by omega, hb, fun H1 s1 => ?_⟩
    exact ⟨small (m := 1) (Nat.le_refl 1) (by decide), fun q hq => r _ q (Same.upd s1 hq) (s1.free hq) upd_same⟩
theorem ok_teF {ff fX fK : Addr} {fd fdX fdK : FuncData} (F : Fun K "tell_form" "tell_form" sTeF ff fd) (X : DefF P w K mg base CX0 1 "form_row" ["f"] spForm fX fdX) (Y : KepF P w K mg base CW fK fdK) : FnOk P w K mg base (CXR P w) 6 ff fd ["kept", "call"] (spTe CN CT CW patF) := by
  refine F.okx scTF (fun vs H Q E h => ?_) (fun cdv A outer s H vs Q E hr h => ?_)
  · obtain ⟨dk, c, ns, st, n, o, rfl, _⟩ := h
    rfl
  · obtain ⟨dk, c, ns, st, n, o, rfl, hD, hc, ⟨f, rfl, rfl⟩, r⟩ := h
    have hr1 : Room 1 _ := hr.mono (by decide)
    refine ⟨_, pss_one (ps_ret (pe_call X.ok hr1 rfl X.mg X.kp X.b .nil pass0 (pa_cons (pe_call Y.ok hr1 rfl Y.mg Y.kp Y.b .nil passR' (pa_cons (pv 0) (pa_cons (pe_ix ix_list (pv 1) pe_int (fun _ _ => rfl)) pa_nil))) pa_nil))), ?_⟩
    refine ⟨_, rfl, _, rfl, c, _, _, _, rfl, rfl, SqL.of hc, at_of (j := 1) rfl rfl, dk, st, n, f, rfl, hD, fun e H' s' => ?_, fun x a hx fa kx => ?_⟩
    · rw [t1_none e] at r
      exact r H' s'
    rw [t1_some hx] at r
    have := kx.len
    exact ⟨a, x, rfl, fa, by omega, fun H' p s' hp hp' => r H' p s' hp hp'⟩
end
end Ev
end
section
set_option Elab.async false
set_option linter.all false
set_option maxRecDepth 100000
set_option maxHeartbeats 2000000
namespace Ev
open PySem PySem.Spec PyProof.Rows L2 Dx
noncomputable abbrev sBy : Stmt := top 57
noncomputable abbrev sTold : Stmt := top 58
noncomputable abbrev sAns : Stmt := top 59
noncomputable abbrev sCall : Stmt := top 60
noncomputable abbrev sAll : Stmt := top 61
noncomputable def pats : Nat → List Int → State → Out → Prop
  | 0 => patW
  | 1 => patE
  | 2 => pat2 2 fun x y => fit (both (fun p q => p + q) x y)
  | 3 => pat2 3 fun x y => fit (both opG x y)
  | 4 => pat2 4 fun x y => fit (both opL x y)
  | 5 => patT
  | 6 => patM
  | 7 => patG
  | _ => fun _ _ _ => False
noncomputable def tpats : Nat → List Int → State → Tell → Prop
  | 0 => patC
  | 1 => patB
  | 2 => patN
  | 3 => patQ
  | 4 => patF
  | _ => fun _ _ _ => False
structure MkRel (ns : List Int) (st : State) (k h : Nat) (o : Out) : Prop where
  lt : k < 8
  num : ns[0]? = some (k : Int)
  place : ns[1]? = some (h : Int)
  pat : pats k ns st o
structure TeRel (ns : List Int) (st : State) (k : Nat) (o : Tell) : Prop where
  lt : k < 5
  num : ns[0]? = some ((8 + k : Nat) : Int)
  pat : tpats k ns st o
inductive CallRel (ns : List Int) (st : State) : State → Tell → Prop
  | far {k h : Nat} {o : Out} : MkRel ns st k h o → 16 ≤ h → CallRel ns st st (.error .wrong)
  | new {k h : Nat} {l : Weights} : MkRel ns st k h (.ok l) → h < 16 → CallRel ns st (st.set h (some l)) (.ok [])
  | bad {k h : Nat} {y : Why} : MkRel ns st k h (.error y) → h < 16 → CallRel ns st st (.error y)
  | tell {k : Nat} {o : Tell} : TeRel ns st k o → CallRel ns st st o
theorem CallRel.split {ns : List Int} {st s' : State} {a : Tell} (C : CallRel ns st s' a) :
    (∃ k h o, MkRel ns st k h o ∧ (16 ≤ h → s' = st ∧ a = .error .wrong) ∧ (h < 16 → match o with | .ok l => s' = st.set h (some l) ∧ a = .ok [] | .error y => s' = st ∧ a = .error y)) ∨ (∃ k, TeRel ns st k a ∧ s' = st) := by
  cases C with
  | far R h => exact .inl ⟨_, _, _, R, fun _ => ⟨rfl, rfl⟩, fun q => absurd q (by omega)⟩
  | new R h => exact .inl ⟨_, _, _, R, fun q => absurd q (by omega), fun _ => ⟨rfl, rfl⟩⟩
  | bad R h => exact .inl ⟨_, _, _, R, fun q => absurd q (by omega), fun _ => ⟨rfl, rfl⟩⟩
  | tell R => exact .inr ⟨_, R, rfl⟩
theorem CallRel.err {ns : List Int} {st s' : State} {y : Why} (C : CallRel ns st s' (.error y)) : s' = st := by cases C <;> rfl
noncomputable def ansL : Tell → List Int
  | .ok l => 0 :: l
  | .error y => [-(y.num : Int)]
noncomputable def mkK (F : Nat → Addr) : List (Key × V) := [(Sum.inl 0, .ref (F 0)), (Sum.inl 1, .ref (F 1)), (Sum.inl 2, .ref (F 2)), (Sum.inl 3, .ref (F 3)), (Sum.inl 4, .ref (F 4)), (Sum.inl 5, .ref (F 5)), (Sum.inl 6, .ref (F 6)), (Sum.inl 7, .ref (F 7))]
noncomputable def teK (F : Nat → Addr) : List (Key × V) := [(Sum.inl 8, .ref (F 0)), (Sum.inl 9, .ref (F 1)), (Sum.inl 10, .ref (F 2)), (Sum.inl 11, .ref (F 3)), (Sum.inl 12, .ref (F 4))]
noncomputable def lenOf : Nat → Nat
  | 0 => 3 | 1 => 4 | 2 => 4 | 3 => 4 | 4 => 4 | 5 => 4 | 6 => 6 | 7 => 5 | 8 => 4 | 9 => 3 | 10 => 2 | 11 => 4 | 12 => 2 | _ => 0
noncomputable def lenK : List (Key × V) := [(Sum.inl 0, .int 3), (Sum.inl 1, .int 4), (Sum.inl 2, .int 4), (Sum.inl 3, .int 4), (Sum.inl 4, .int 4), (Sum.inl 5, .int 4), (Sum.inl 6, .int 6), (Sum.inl 7, .int 5), (Sum.inl 8, .int 4), (Sum.inl 9, .int 3), (Sum.inl 10, .int 2), (Sum.inl 11, .int 4), (Sum.inl 12, .int 2)]
theorem mkK_at (F : Nat → Addr) {k : Nat} (h : k < 8) : valV (mkK F) (Sum.inl (k : Int)) = some (.ref (F k)) := by
  match k, h with
  | 0, _ => rfl | 1, _ => rfl | 2, _ => rfl | 3, _ => rfl | 4, _ => rfl | 5, _ => rfl | 6, _ => rfl | 7, _ => rfl
  | k + 8, h => omega
theorem mkK_no (F : Nat → Addr) {k : Nat} (h : k < 5) : valV (mkK F) (Sum.inl ((8 + k : Nat) : Int)) = none := by
  match k, h with
  | 0, _ => rfl | 1, _ => rfl | 2, _ => rfl | 3, _ => rfl | 4, _ => rfl
  | k + 5, h => omega
theorem teK_at (F : Nat → Addr) {k : Nat} (h : k < 5) : valV (teK F) (Sum.inl ((8 + k : Nat) : Int)) = some (.ref (F k)) := by
  match k, h with
  | 0, _ => rfl | 1, _ => rfl | 2, _ => rfl | 3, _ => rfl | 4, _ => rfl
  | k + 5, h => omega
theorem lenK_at {k : Nat} (h : k ≤ 12) : valV lenK (Sum.inl (k : Int)) = some (.int (lenOf k : Nat)) := by
  match k, h with
  | 0, _ => rfl | 1, _ => rfl | 2, _ => rfl | 3, _ => rfl | 4, _ => rfl | 5, _ => rfl | 6, _ => rfl | 7, _ => rfl | 8, _ => rfl | 9, _ => rfl | 10, _ => rfl | 11, _ => rfl | 12, _ => rfl
  | k + 13, h => omega
noncomputable def SameB (dk : Addr) (H H' : Hp) : Prop := ∀ b o, H b = some o → b ≠ dk → H' b = some o
theorem Same.b {H H' : Hp} (s : Same H H') (dk : Addr) : SameB dk H H' := fun b o h _ => s b o h
theorem SameB.trans {dk : Addr} {H H1 H2 : Hp} (a : SameB dk H H1) (b : SameB dk H1 H2) : SameB dk H H2 := fun c o h n => b c o (a c o h n) n
theorem Desk.more {H : Hp} {dk : Addr} {st : State} {n m : Nat} (D : Desk H dk st n) (h : n ≤ m) : Desk H dk st m := let ⟨kvs, h1, h2, h3⟩ := D; ⟨kvs, h1, Nat.le_trans h2 h, h3⟩
theorem get_set {st : State} {h : Nat} {l : Weights} (hl : h < st.length) (i : Nat) : get (st.set h (some l)) i = if i = h then some l else get st i := by
  unfold Dx.get
  by_cases e : i = h
  · subst e
    rw [if_pos rfl, List.getElem?_set_self hl]; rfl
  · rw [if_neg e, List.getElem?_set_ne (fun q => e q.symm)]
theorem putK_at (kvs : List (Key × V)) (k : Key) (v : V) (k' : Key) : valV (putK kvs k v) k' = if k' = k then some v else valV kvs k' := valV_put kvs k k' v
section
variable {P : Program} {w : World} {K : PySem.W.Frag} {mg : Str → Option Value} {base : Heap} {CN CT CW : Addr}
theorem Desk.put {H H1 : Hp} {dk p : Addr} {st : State} {n h : Nat} {l : Weights} {kvs : List (Key × V)} (D : Desk H dk st n) (hk : H dk = some (.dK kvs)) (s : Same H H1) (hh : h < 16) (fd : FD H1 p l) (kl : Kept l) :
    Desk (upd H1 dk (.dK (putK kvs (Sum.inl (h : Int)) (.ref p)))) dk (st.set h (some l)) (n + 1) := by
  obtain ⟨kvs', h1, h2, h3, h4⟩ := D
  have e : kvs' = kvs := by rw [hk] at h1; cases h1; rfl
  subst e
  have fr : ∀ {a : Addr} {m : Weights}, FD H1 a m → FD (upd H1 dk (.dK (putK kvs' (Sum.inl (h : Int)) (.ref p)))) a m := fun {a m} ⟨o, e⟩ => ⟨o, by rw [upd_ne (ne_of e (s _ _ hk) (by intro z; cases z))]; exact e⟩
  refine ⟨_, upd_same, ?_, by rw [List.length_set]; exact h3, fun i => ?_⟩
  · have := length_putK kvs' (Sum.inl (h : Int)) (.ref p)
    omega
  · rw [get_set (by omega), putK_at]
    by_cases e : i = h
    · subst e
      rw [if_pos rfl, if_pos rfl]
      exact ⟨fun z => (nomatch z), fun m hm => by cases hm; exact ⟨p, rfl, fr fd, kl⟩⟩
    · have e' : ¬ (Sum.inl (i : Int) : Key) = Sum.inl (h : Int) := fun z => e (by have := Sum.inl.inj z; omega)
      rw [if_neg e, if_neg e']
      exact ⟨(h4 i).1, fun m hm => let ⟨a, ea, fa, ka⟩ := (h4 i).2 m hm; ⟨a, ea, fr (fa.mono s), ka⟩⟩
noncomputable def spBy (CN CT CW : Addr) : Sp := fun vs H Q E => ∃ (dk c : Addr) (ns : List Int) (st : State) (n k h : Nat) (o : Out), vs = [.ref dk, .ref c] ∧ Desk H dk st n ∧ H c = some (.lst (ns.map V.int)) ∧ MkRel ns st k h o ∧ (16 ≤ h → ∀ H' : Hp, Same H H' → E (.ref CW) none H') ∧ (h < 16 → Made CN CT CW H Q E o)
theorem scBy : FnScope ["kept", "call", "maker"] ["kept", "call"] (defScope sBy) := ⟨rfl, rfl, rfl, by decide +kernel, rfl, by decide +kernel, by decide +kernel⟩
structure MksF (P : Program) (w : World) (K : PySem.W.Frag) (mg : Str → Option Value) (base : Heap) (CN CT CW aM : Addr) (F : Nat → Addr) : Prop where
  dict : KDict P w K aM (mkK F)
  ok : ∀ k, k < 8 → ∃ fd, FnOk P w K mg base (CXR P w) 6 (F k) fd ["kept", "call"] (spMk CN CT CW (pats k)) ∧ PySem.W.keepIn K (.ref (F k)) = true ∧ Binds K fd ["kept", "call"] []
  mg : mg "MAKERS" = some (.ref aM)
theorem ok_by {ff aM : Addr} {fd : FuncData} {FM : Nat → Addr} (F : Fun K "made_by" "made_by" sBy ff fd) (D : TxtD K mg CW) (M : MksF P w K mg base CN CT CW aM FM) : FnOk P w K mg base (CXR P w) 7 ff fd ["kept", "call"] (spBy CN CT CW) := by
  refine F.okx scBy (fun vs H Q E h => ?_) (fun cdv A outer s H vs Q E hr h => ?_)
  · obtain ⟨dk, c, ns, st, n, k, h, o, rfl, _⟩ := h
    rfl
  · obtain ⟨dk, c, ns, st, n, k, h, o, rfl, hD, hc, R, k1, k2⟩ := h
    obtain ⟨t1, e1⟩ := D.pl
    refine ⟨_, pss_cons (ps_if (pt_cmpR op_ge (pe_ix ix_list (pv 1) pe_int (fun _ _ => rfl)) (pe_glob (v := .int 16) rfl e1 ⟨_, rfl⟩) (nomark _)) (pss_one (ps_raise D.xW D.wr hr.hd rfl (pa_cons pe_str pa_nil))) pss_nil)
      (pss_cons (ps_set (i := 2) scBy.nd rfl (Or.inl rfl) (pe_kget M.dict rfl M.mg (pe_ix ix_list (pv 1) pe_int (fun _ _ => rfl)) (fun _ _ => rfl)))
      (pss_one (ps_ret (pe_callV (i := 2) (R := fun f sp => ∃ k, k < 8 ∧ f = FM k ∧ sp = spMk CN CT CW (pats k)) rfl (Or.inl rfl)
        (fun f sp ⟨k, hk, ef, es⟩ => by subst ef es; obtain ⟨fd, a1, a2, a3⟩ := M.ok k hk; exact ⟨fd, _, a1, a2, a3⟩) hr passR' (pa_cons (pv 0) (pa_cons (pv 1) pa_nil)))))), ?_⟩
    refine ⟨_, rfl, c, _, _, _, rfl, rfl, SqL.of hc, at_of (j := 1) rfl (at_k R.place), _, _, rfl, rfl, _, rfl, ?_⟩
    refine ifD (fun h1 => ⟨small (Nat.le_refl 1) (by decide), k1 (by omega) _ (Same.refl _)⟩) (fun h1 => ?_)
    refine ⟨_, rfl, c, _, _, _, rfl, rfl, SqL.of hc, at_of (j := 0) rfl (at_k R.num), Sum.inl (k : Int), _, rfl, mkK_at FM R.lt, ?_⟩
    refine ⟨FM k, _, rfl, ⟨k, R.lt, rfl, rfl⟩, _, rfl, _, rfl, ?_⟩
    exact ⟨dk, c, ns, st, n, o, rfl, hD, hc, R.pat, k2 (by omega)⟩
noncomputable def Fin (CN CT CW dk : Addr) (n : Nat) (s' : State) (H : Hp) (Q : VK) (E : XK) : Tell → Prop
  | .ok l => ∀ (H' : Hp) (p : Addr), SameB dk H H' → Desk H' dk s' (n + 1) → H p = none → H' p = some (.lst (l.map V.int)) → Q (.ref p) H'
  | .error y => ∀ H' : Hp, Same H H' → E (.ref (y.cls CN CT CW)) none H'
noncomputable def spTold (CN CT CW : Addr) : Sp := fun vs H Q E => ∃ (dk c : Addr) (ns : List Int) (st : State) (n : Nat) (s' : State) (a : Tell), vs = [.ref dk, .ref c] ∧ Desk H dk st n ∧ n ≤ 1000 ∧ H c = some (.lst (ns.map V.int)) ∧ CallRel ns st s' a ∧ Fin CN CT CW dk n s' H Q E a
theorem scTo : FnScope ["kept", "call", "teller"] ["kept", "call"] (defScope sTold) := ⟨rfl, rfl, rfl, by decide +kernel, rfl, by decide +kernel, by decide +kernel⟩
structure TesF (P : Program) (w : World) (K : PySem.W.Frag) (mg : Str → Option Value) (base : Heap) (CN CT CW aT : Addr) (F : Nat → Addr) : Prop where
  dict : KDict P w K aT (teK F)
  ok : ∀ k, k < 5 → ∃ fd, FnOk P w K mg base (CXR P w) 6 (F k) fd ["kept", "call"] (spTe CN CT CW (tpats k)) ∧ PySem.W.keepIn K (.ref (F k)) = true ∧ Binds K fd ["kept", "call"] []
  mg : mg "TELLERS" = some (.ref aT)
theorem ok_told {ff fB aM aT : Addr} {fd fdB : FuncData} {FM FT : Nat → Addr} (F : Fun K "told_by" "told_by" sTold ff fd) (M : MksF P w K mg base CN CT CW aM FM) (N : TesF P w K mg base CN CT CW aT FT)
    (B : DefF P w K mg base (CXR P w) 7 "made_by" ["kept", "call"] (spBy CN CT CW) fB fdB) : FnOk P w K mg base (CXR P w) 8 ff fd ["kept", "call"] (spTold CN CT CW) := by
  refine F.okx scTo (fun vs H Q E h => ?_) (fun cdv A outer s H vs Q E hr h => ?_)
  · obtain ⟨dk, c, ns, st, n, s', a, rfl, _⟩ := h
    rfl
  · obtain ⟨dk, c, ns, st, n, s', a, rfl, hD, hn, hc, C, k⟩ := h
    have hu := hu_of hr
    have hr6 : Room 6 _ := hr.mono (by decide)
    refine ⟨_, pss_cons (ps_if (pt_cmp (pc_kin M.dict rfl M.mg (pe_ix ix_list (pv 1) pe_int (fun _ _ => rfl))))
        (pss_cons (ps_dput hu (pv 0) (pe_ix ix_list (pv 1) pe_int (fun _ _ => rfl)) (pe_call B.ok hr rfl B.mg B.kp B.b .nil passR' (pa_cons (pv 0) (pa_cons (pv 1) pa_nil))) rfl) (pss_one (ps_ret (pe_lst pa_nil)))) pss_nil)
      (pss_cons (ps_set (i := 2) scTo.nd rfl (Or.inl rfl) (pe_kget N.dict rfl N.mg (pe_ix ix_list (pv 1) pe_int (fun _ _ => rfl)) (fun _ _ => rfl)))
      (pss_one (ps_ret (pe_callV (i := 2) (R := fun f sp => ∃ k, k < 5 ∧ f = FT k ∧ sp = spTe CN CT CW (tpats k)) rfl (Or.inl rfl)
        (fun f sp ⟨k, hk, ef, es⟩ => by subst ef es; obtain ⟨fd, a1, a2, a3⟩ := N.ok k hk; exact ⟨fd, _, a1, a2, a3⟩) hr6 passR' (pa_cons (pv 0) (pa_cons (pv 1) pa_nil)))))), ?_⟩
    rcases C.split with ⟨k', h', o, R, q1, q2⟩ | ⟨k', R, es⟩
    · -- a maker
      refine ⟨_, rfl, c, _, _, _, rfl, rfl, SqL.of hc, at_of (j := 0) rfl (at_k R.num), Sum.inl (k' : Int), rfl, _, rfl, ?_⟩
      rw [mkK_at FM R.lt]
      refine iteT ?_
      refine ⟨_, rfl, _, rfl, dk, c, ns, st, n, k', h', o, rfl, hD, hc, R, fun h1 H1 s1 => ?_, fun h1 => ?_⟩
      · obtain ⟨_, ea⟩ := q1 h1
        subst ea
        exact k H1 s1
      · have q := q2 h1
        cases o with
        | error y =>
          obtain ⟨_, ea⟩ := q
          subst ea
          exact k
        | ok l =>
          obtain ⟨e1, e2⟩ := q
          subst e1 e2
          intro H1 p s1 hp fd kl
          obtain ⟨kvs, hk, hkn, h3, h4⟩ := id hD
          refine ⟨_, rfl, _, rfl, c, _, _, _, rfl, rfl, SqL.of (s1 _ _ hc), at_of (j := 1) rfl (at_k R.place), dk, _, rfl, DPut.k (k := Sum.inl (h' : Int)) (s1 _ _ hk) (small' (m := 1000) (by omega) (by decide)), ?_⟩
          have D1 := hD.put hk s1 h1 fd kl
          have sb : SameB dk H (upd H1 dk (.dK (putK kvs (Sum.inl (h' : Int)) (.ref p)))) := fun b o hb nb => by rw [upd_ne nb]; exact s1 b o hb
          refine ⟨Nat.zero_le _, fun q hq => ?_⟩
          have nq : q ≠ dk := fun e => by rw [e, upd_same] at hq; cases hq
          refine k _ q (fun b o hb nb => ?_) (D1.mono (Same.upd (Same.refl _) hq)) ?_ upd_same
          · have := sb b o hb nb
            rw [upd_ne (ne_of_none this hq)]; exact this
          · rw [upd_ne nq] at hq
            exact s1.free hq
    · -- a teller
      subst es
      refine ⟨_, rfl, c, _, _, _, rfl, rfl, SqL.of hc, at_of (j := 0) rfl (at_k R.num), Sum.inl ((8 + k' : Nat) : Int), rfl, _, rfl, ?_⟩
      rw [mkK_no FM R.lt]
      refine iteF ?_
      refine ⟨_, rfl, c, _, _, _, rfl, rfl, SqL.of hc, at_of (j := 0) rfl (at_k R.num), Sum.inl ((8 + k' : Nat) : Int), _, rfl, teK_at FT R.lt, ?_⟩
      refine ⟨FT k', _, rfl, ⟨k', R.lt, rfl, rfl⟩, _, rfl, _, rfl, ?_⟩
      refine ⟨dk, c, ns, s', n, a, rfl, hD, hc, R.pat, ?_⟩
      cases a with
      | error y => exact k
      | ok l => exact fun H' p s1 hp hp1 => k H' p (Same.b s1 dk) ((hD.mono s1).more (Nat.le_succ _)) hp hp1
noncomputable def spAns1 : Sp := fun vs H Q _ => ∃ (dk c : Addr) (ns : List Int) (st : State) (n : Nat) (s' : State) (a : Tell), vs = [.ref dk, .ref c] ∧ Desk H dk st n ∧ n ≤ 1000 ∧ H c = some (.lst (ns.map V.int)) ∧ CallRel ns st s' a ∧
  ∀ (H' : Hp) (p : Addr), SameB dk H H' → Desk H' dk s' (n + 1) → H p = none → H' p = some (.lst ((ansL a).map V.int)) → Q (.ref p) H'
theorem scAn : FnScope ["kept", "call", "told"] ["kept", "call"] (defScope sAns) := ⟨rfl, rfl, rfl, by decide +kernel, rfl, by decide +kernel, by decide +kernel⟩
noncomputable def thOf (CN CT CW : Addr) (tW tT tN : TS) : Value → Option TS
  | .ref a => if a = CW then some tW else if a = CT then some tT else if a = CN then some tN else none
  | _ => none
theorem thOf_is {tW tT tN t : TS} {cls : Value} (h : thOf CN CT CW tW tT tN cls = some t) : (cls = .ref CW ∧ t = tW) ∨ (cls = .ref CT ∧ t = tT) ∨ (cls = .ref CN ∧ t = tN) := by
  cases cls with
  | ref a =>
    simp only [thOf] at h
    split at h
    · rename_i e; subst e; cases h; exact .inl ⟨rfl, rfl⟩
    · split at h
      · rename_i e; subst e; cases h; exact .inr (.inl ⟨rfl, rfl⟩)
      · split at h
        · rename_i e; subst e; cases h; exact .inr (.inr ⟨rfl, rfl⟩)
        · cases h
  | _ => cases h
structure TxtX (K : PySem.W.Frag) (CN CT CW : Addr) : Prop where
  ww : PySem.W.exmOne K (.ref CW) (.ref CW) = some true
  tw : PySem.W.exmOne K (.ref CT) (.ref CW) = some false
  tt : PySem.W.exmOne K (.ref CT) (.ref CT) = some true
  nw : PySem.W.exmOne K (.ref CN) (.ref CW) = some false
  nt : PySem.W.exmOne K (.ref CN) (.ref CT) = some false
  nn : PySem.W.exmOne K (.ref CN) (.ref CN) = some true
noncomputable abbrev tOne (z : Int) : TS := tRet (tLst (tCons (tC (.int z)) tNil))
theorem TxtX.at (X : TxtX K CN CT CW) (y : Why) (tW tT tN : TS) : thOf CN CT CW tW tT tN (.ref (y.cls CN CT CW)) = some (match y with | .wrong => tW | .nothere => tT | .nofit => tN) := by
  have n1 : CT ≠ CW := fun e => by have := X.tw; rw [e, X.ww] at this; cases this
  have n2 : CN ≠ CW := fun e => by have := X.nw; rw [e, X.ww] at this; cases this
  have n3 : CN ≠ CT := fun e => by have := X.nt; rw [e, X.tt] at this; cases this
  cases y with
  | wrong => exact if_pos rfl
  | nothere => show (if CT = CW then _ else _) = _; rw [if_neg n1]; exact if_pos rfl
  | nofit => show (if CN = CW then some tW else if CN = CT then some tT else if CN = CN then some tN else none) = some tN; rw [if_neg n2, if_neg n3]; exact if_pos rfl
theorem get_kept {H : Hp} {dk : Addr} {st : State} {n i : Nat} {l : Weights} (D : Desk H dk st n) (h : get st i = some l) : Kept l := let ⟨_, _, _, _, h4⟩ := D; let ⟨_, _, _, k⟩ := (h4 i).2 l h; k
theorem tell_len {ns : List Int} {st s' : State} {l : List Int} {H : Hp} {dk : Addr} {n : Nat} (D : Desk H dk st n) (C : CallRel ns st s' (.ok l)) : l.length ≤ 512 := by
  have fr : ∀ {x : Int} {d : Nat}, (.ok l : Tell) = tF x d → l.length ≤ 512 := fun {x d} e => by
    unfold tF at e
    split at e
    · cases e
    · cases e; show 2 ≤ 512; decide
  rcases C.split with ⟨k', h', o, R, q1, q2⟩ | ⟨k', R, es⟩
  · rcases Nat.lt_or_ge h' 16 with h | h
    · have q := q2 h
      cases o with
      | error y => obtain ⟨_, e⟩ := q; cases e
      | ok m => obtain ⟨_, e⟩ := q; cases e; exact Nat.zero_le _
    · obtain ⟨_, e⟩ := q1 h; cases e
  · obtain ⟨hk, _, hp⟩ := R
    match k', hk, hp with
    | 0, _, hp =>
      obtain ⟨f, lo, hi, _, e⟩ := hp
      unfold t1 at e
      split at e
      · exact fr e
      · cases e
    | 1, _, hp =>
      obtain ⟨f, g, _, e⟩ := hp
      unfold t2 at e
      split at e
      · exact fr e
      · cases e
    | 2, _, hp =>
      obtain ⟨f, _, e⟩ := hp
      unfold t1 at e
      split at e
      · exact fr e
      · cases e
    | 3, _, hp =>
      obtain ⟨f, a, b, _, _, e⟩ := hp
      unfold t1 at e
      split at e
      · unfold tQ at e
        split at e
        · cases e
        · cases e; show 1 ≤ 512; decide
      · cases e
    | 4, _, hp =>
      obtain ⟨f, _, e⟩ := hp
      unfold t1 at e
      split at e
      · rename_i x hx
        cases e
        have := (get_kept D hx).len
        rw [flat_len]; omega
      · cases e
    | k + 5, hk, _ => omega
theorem ok_ans1 {ff fB : Addr} {fd fdB : FuncData} (F : Fun K "answer_to" "answer_to" sAns ff fd) (T : Txt K mg CN CW) (TB : TxtB K mg CT) (D : TxtD K mg CW) (X : TxtX K CN CT CW)
    (B : DefF P w K mg base (CXR P w) 8 "told_by" ["kept", "call"] (spTold CN CT CW) fB fdB) : FnOk P w K mg base (CXR P w) 9 ff fd ["kept", "call"] spAns1 := by
  refine F.okx scAn (fun vs H Q E h => ?_) (fun cdv A outer s H vs Q E hr h => ?_)
  · obtain ⟨dk, c, ns, st, n, s', a, rfl, _⟩ := h
    rfl
  · obtain ⟨dk, c, ns, st, n, s', a, rfl, hD, hn, hc, C, k⟩ := h
    obtain ⟨t1, e1⟩ := D.rw
    obtain ⟨t2, e2⟩ := D.rn
    obtain ⟨t3, e3⟩ := D.rt
    obtain ⟨t4, e4⟩ := D.dn
    refine ⟨_, pss_cons (ps_try (th := thOf CN CT CW (tOne (-1)) (tOne (-5)) (tOne (-2))) rfl rfl
        (fun pins W E' hE' => pss_one (ps_set (i := 2) scAn.nd rfl (Or.inl rfl) (pe_call B.ok hr rfl B.mg B.kp B.b .nil hE' (pa_cons (pv 0) (pa_cons (pv 1) pa_nil)))))
        (fun cls t ht => by
          rcases thOf_is ht with ⟨rfl, rfl⟩ | ⟨rfl, rfl⟩ | ⟨rfl, rfl⟩
          · exact ph_hit rfl D.wr X.ww fun e => pss_one (ps_ret (pe_lst (pa_cons (pe_glob (v := .int (-1)) rfl e1 ⟨_, rfl⟩) pa_nil)))
          · exact ph_pass rfl D.wr X.tw (ph_hit rfl TB.nt X.tt fun e => pss_one (ps_ret (pe_lst (pa_cons (pe_glob (v := .int (-5)) rfl e3 ⟨_, rfl⟩) pa_nil))))
          · exact ph_pass rfl D.wr X.nw (ph_pass rfl TB.nt X.nt (ph_hit rfl T.nf X.nn fun e => pss_one (ps_ret (pe_lst (pa_cons (pe_glob (v := .int (-2)) rfl e2 ⟨_, rfl⟩) pa_nil)))))))
      (pss_one (ps_ret (pe_op op_cat (pe_lst (pa_cons (pe_glob (v := .int 0) rfl e4 ⟨_, rfl⟩) pa_nil)) (pv 2)))), ?_⟩
    refine ⟨_, rfl, _, rfl, dk, c, ns, st, n, s', a, rfl, hD, hn, hc, C, ?_⟩
    cases a with
    | error y =>
      intro H1 s1
      have es : s' = st := C.err
      refine ⟨_, X.at y _ _ _, fun σ => ?_⟩
      subst es
      have fin : ∀ z : Int, z = -(y.num : Int) → tOne z { nx := fun _ H' => Q .non H', rt := Q } σ H1 := fun z ez => by
        refine ⟨small (m := 1) (Nat.le_refl 1) (by decide), fun p hp => ?_⟩
        refine k _ p (Same.b (Same.upd s1 hp) dk) ((hD.mono (Same.upd s1 hp)).more (Nat.le_succ _)) (s1.free hp) ?_
        rw [upd_same, ez]; rfl
      cases y with
      | wrong => exact fin _ rfl
      | nofit => exact fin _ rfl
      | nothere => exact fin _ rfl
    | ok l =>
      intro H1 p sb D1 hp hp1
      have hl := tell_len hD C
      refine ⟨small (m := 1) (Nat.le_refl 1) (by decide), fun q hq => ?_⟩
      have n1 : p ≠ q := ne_of_none hp1 hq
      refine ⟨_, rfl, q, p, _, _, rfl, rfl, upd_same, by rw [upd_ne n1]; exact hp1, ?_, fun u hu => ?_⟩
      · rw [List.length_map, sizeLine_eq]; show 1 + l.length ≤ _; omega
      have sq : Same H1 (upd H1 q (.lst [V.int 0])) := Same.upd (Same.refl _) hq
      have su := Same.upd sq (o := .lst ([V.int 0] ++ l.map V.int)) hu
      refine k _ u (sb.trans (Same.b su dk)) (D1.mono su) ?_ upd_same
      have h1u := sq.free hu
      cases e : H u with
      | none => rfl
      | some o =>
        by_cases ed : u = dk
        · obtain ⟨kvs, hk, _⟩ := D1
          rw [ed, hk] at h1u; cases h1u
        · rw [sb u o e ed] at h1u; cases h1u
end
end Ev
end
section
set_option Elab.async false
set_option linter.all false
set_option maxRecDepth 100000
set_option maxHeartbeats 2000000
namespace Ev
open PySem PySem.Spec PyProof.Rows L2 Dx
noncomputable def WholeC (cl : List Int) : Prop := ∃ (p : Nat) (r : List Int), p ≤ 12 ∧ cl = (p : Int) :: r ∧ (p ≠ 0 → cl.length = lenOf p) ∧ (p = 0 → ∃ (h : Int) (q : List Int), r = h :: (q.length : Int) :: q)
inductive Run : List Int → State → Nat → List Int → Prop
  | nil (st : State) : Run [] st 0 []
  | cons {l cl rest : List Int} {st s' : State} {a : Tell} {c : Nat} {out : List Int} : l = cl ++ rest → WholeC cl → CallRel cl st s' a → Run rest s' c out → Run l st (c + 1) (((ansL a).length : Int) :: (ansL a ++ out))
section
variable {P : Program} {w : World} {K : PySem.W.Frag} {mg : Str → Option Value} {base : Heap} {CN CT CW : Addr}
noncomputable def spCallAt (K : PySem.W.Frag) : Sp := fun vs H Q _ => ∃ (a : Addr) (ns cl rest : List Int) (j : Nat), vs = [.ref a, .int (j : Int)] ∧ SqL K H a (ns.map V.int) ∧ ns.drop j = cl ++ rest ∧ j ≤ ns.length ∧ WholeC cl ∧ ∀ p, H p = none → Q (.ref p) (upd H p (.lst (cl.map V.int)))
theorem scCa : FnScope ["calls", "start", "length"] ["calls", "start"] (defScope sCall) := ⟨rfl, rfl, rfl, by decide +kernel, rfl, by decide +kernel, by decide +kernel⟩
theorem cut_at {ns cl rest : List Int} {j : Nat} (h : ns.drop j = cl ++ rest) (hj : j ≤ ns.length) : cutV (ns.map V.int) (some (j : Int)) (some ((j : Int) + (cl.length : Int))) = cl.map V.int := by
  have hl : ns.length = j + (cl.length + rest.length) := by
    have := congrArg List.length h
    rw [List.length_drop, List.length_append] at this
    omega
  unfold cutV
  rw [show (j : Int) + (cl.length : Int) = ((j + cl.length : Nat) : Int) from rfl, HT.sIx_nat, HT.sIx_nat, List.length_map, show min j ns.length = j by omega, show min (j + cl.length) ns.length = j + cl.length by omega, ← List.map_drop, h, List.map_append]
  rw [show j + cl.length - j = (cl.map V.int).length by rw [List.length_map]; omega, List.take_left]
structure LenF (P : Program) (w : World) (K : PySem.W.Frag) (mg : Str → Option Value) (aL : Addr) : Prop where
  dict : KDict P w K aL lenK
  mg : mg "LENGTHS" = some (.ref aL)
theorem ok_call {ff aL : Addr} {fd : FuncData} (F : Fun K "call_at" "call_at" sCall ff fd) (D : TxtD K mg CW) (L : LenF P w K mg aL) : FnOk P w K mg base CX0 1 ff fd ["calls", "start"] (spCallAt K) := by
  refine F.ok scCa (fun vs H Q E h => ?_) (fun cdv A outer s H vs Q E hr h => ?_)
  · obtain ⟨a, ns, cl, rest, j, rfl, _⟩ := h
    rfl
  · obtain ⟨a, ns, cl, rest, j, rfl, hS, hd, hj, ⟨p, r, hp, ecl, h1, h2⟩, k⟩ := h
    obtain ⟨t1, e1⟩ := D.wt
    refine ⟨_, pss_cons (ps_set (i := 2) scCa.nd rfl (Or.inl rfl) (pe_kget L.dict rfl L.mg (pe_ix ix_list (pv 0) (pv 1) (fun _ _ => rfl)) (fun _ _ => rfl)))
      (pss_cons (ps_if (pt_cmp (pc_eqI (pe_ix ix_list (pv 0) (pv 1) (fun _ _ => rfl)) (pe_glob (v := .int 0) rfl e1 ⟨_, rfl⟩))) (pss_one (ps_set (i := 2) scCa.nd rfl (Or.inl rfl) (pe_op op_add (pv 2) (pe_ix ix_list (pv 0) (pe_op op_add (pv 1) pe_int) (fun _ _ => rfl))))) pss_nil)
      (pss_one (ps_ret (pe_slice sl_list (pv 0) (po_some (pv 1)) (po_some (pe_op op_add (pv 1) (pv 2))))))), ?_⟩
    have at_ : ∀ {i : Nat} {z : Int}, (cl ++ rest)[i]? = some z → (ns.map V.int)[j + i]? = some (V.int z) := fun {i z} e => by
      rw [← hd, List.getElem?_drop] at e
      exact at_k e
    have z0 : (ns.map V.int)[j]? = some (V.int (p : Int)) := at_ (i := 0) (by rw [ecl]; rfl)
    refine ⟨_, rfl, _, rfl, a, _, _, _, rfl, rfl, hS, at_of (j := j) rfl z0, Sum.inl (p : Int), _, rfl, lenK_at hp, ?_⟩
    refine ⟨_, rfl, _, rfl, a, _, _, _, rfl, rfl, hS, at_of (j := j) rfl z0, _, _, rfl, rfl, _, rfl, ?_⟩
    refine ifD (fun q => ?_) (fun q => ?_)
    · have q' : (p : Int) = 0 := q
      have p0 : p = 0 := by omega
      obtain ⟨h, x, er⟩ := h2 p0
      have z2 : (ns.map V.int)[j + 2]? = some (V.int (x.length : Int)) := at_ (i := 2) (by rw [ecl, er]; rfl)
      refine ⟨_, rfl, _, rfl, _, rfl, _, _, rfl, rfl, a, _, _, _, rfl, rfl, hS, at_of (j := j + 2) (by omega) z2, _, _, rfl, rfl, ?_⟩
      refine ⟨_, rfl, _, rfl, _, rfl, _, rfl, _, rfl, _, _, rfl, rfl, _, rfl, a, _, rfl, hS, fun u hu => ?_⟩
      have hlen : ((lenOf p : Nat) : Int) + (x.length : Int) = (cl.length : Int) := by
        rw [ecl, er, p0]
        show (3 : Int) + _ = _
        simp only [List.length_cons]; omega
      rw [hlen, cut_at hd hj]
      exact k u hu
    · have p0 : p ≠ 0 := fun z => q (by rw [z]; rfl)
      refine ⟨_, rfl, _, rfl, _, rfl, _, rfl, _, rfl, _, _, rfl, rfl, _, rfl, a, _, rfl, hS, fun u hu => ?_⟩
      rw [← h1 p0, cut_at hd hj]
      exact k u hu
noncomputable def spAll (K : PySem.W.Frag) : Sp := fun vs H Q _ => ∃ (a : Addr) (ns out : List Int) (c : Nat), vs = [.ref a] ∧ SqL K H a (ns.map V.int) ∧ Run ns Dx.start c out ∧ c ≤ 300 ∧ ∀ (H' : Hp) (p : Addr), H' p = some (.lst (out.map V.int)) → Q (.ref p) H'
theorem scAll : FnScope ["calls", "kept", "told", "start", "call", "answer"] ["calls"] (defScope sAll) := ⟨rfl, rfl, rfl, by decide +kernel, rfl, by decide +kernel, by decide +kernel⟩
theorem passE0 {X : Cx} : Passes (CXR P w) X E0 := fun _ _ _ _ _ _ _ ⟨_, _, _, _, q, _⟩ => q.elim
theorem desk0 {H : Hp} {dk : Addr} (h : H dk = some (.dK [])) : Desk H dk Dx.start 0 := by
  have g : ∀ i, Dx.get Dx.start i = none := fun i => by
    unfold Dx.get Dx.start
    rw [List.getElem?_replicate]
    split <;> rfl
  exact ⟨[], h, Nat.le_refl _, rfl, fun i => ⟨fun _ => rfl, fun l hl => by rw [g i] at hl; cases hl⟩⟩
theorem ok_all {ff fC fA : Addr} {fd fdC fdA : FuncData} (F : Fun K "answers" "answers" sAll ff fd) (T : Txt K mg CN CW) (X : DefF P w K mg base CX0 1 "call_at" ["calls", "start"] (spCallAt K) fC fdC)
    (Y : DefF P w K mg base (CXR P w) 9 "answer_to" ["kept", "call"] spAns1 fA fdA) : FnOk P w K mg base CX0 10 ff fd ["calls"] (spAll K) := by
  refine F.ok scAll (fun vs H Q E h => ?_) (fun cdv A outer s H vs Q E hr h => ?_)
  · obtain ⟨a, ns, out, c, rfl, _⟩ := h
    rfl
  · obtain ⟨a, ns, out, c, rfl, hS, hR, hc, k⟩ := h
    have hr1 : Room 1 _ := hr.mono (by decide)
    refine ⟨_, pss_cons (ps_set (i := 1) scAll.nd rfl (Or.inl rfl) pe_dnewK)
      (pss_cons (ps_set (i := 2) scAll.nd rfl (Or.inl rfl) (pe_lst pa_nil))
      (pss_cons (ps_set (i := 3) scAll.nd rfl (Or.inl rfl) pe_int)
      (pss_cons (ps_while PassesOwn.never (pt_cmpR op_lt (pv 3) (pe_callB call_len_seq rfl T.len PySem.boot_len (pa_cons (pv 0) pa_nil)) (nomark _))
        (pss_cons (ps_set (i := 4) scAll.nd rfl (Or.inl rfl) (pe_call X.ok hr1 rfl X.mg X.kp X.b .nil pass0 (pa_cons (pv 0) (pa_cons (pv 3) pa_nil))))
        (pss_cons (ps_set (i := 5) scAll.nd rfl (Or.inl rfl) (pe_call Y.ok hr rfl Y.mg Y.kp Y.b .nil passE0 (pa_cons (pv 1) (pa_cons (pv 4) pa_nil))))
        (pss_cons (ps_expr (pe_bm PySem.F.plainAttrs_list PySem.F.slot_list_append PySem.F.type_list_append mt_append (pv 2) (pa_cons (pe_callB call_len_seq rfl T.len PySem.boot_len (pa_cons (pv 5) pa_nil)) pa_nil)))
        (pss_cons (ps_expr (pe_bm PySem.F.plainAttrs_list PySem.F.slot_list_extend PySem.F.type_list_extend mt_extend (pv 2) (pa_cons (pv 5) pa_nil)))
        (pss_one (ps_set (i := 3) scAll.nd rfl (Or.inl rfl) (pe_op op_add (pv 3) (pe_callB call_len_seq rfl T.len PySem.boot_len (pa_cons (pv 4) pa_nil))))))))))
      (pss_one (ps_ret (pv 2)))))), ?_⟩
    intro dk hdk
    have s1 : Same H (upd H dk (.dK [])) := Same.upd (Same.refl _) hdk
    refine ⟨Nat.zero_le _, fun tl htl => ?_⟩
    have ndt : dk ≠ tl := ne_of_none upd_same htl
    have s2 := Same.upd s1 (o := .lst []) htl
    have htl0 := s1.free htl
    refine while_by (fun σ H' => ∃ (j m c' : Nat) (st : State) (o1 o2 : List Int) (v4 v5 : Option V), σ = [some (.ref a), some (.ref dk), some (.ref tl), some (.int (j : Int)), v4, v5] ∧ Same H H' ∧ Desk H' dk st m ∧ H' tl = some (.lst (o1.map V.int)) ∧ j ≤ ns.length ∧ Run (ns.drop j) st c' o2 ∧ o1 ++ o2 = out ∧ o1.length ≤ m * 1000 ∧ m + c' ≤ 300)
      (fun σ _ => match σ with | [_, _, _, some (.int j), _, _] => ns.length - j.toNat | _ => 0)
      ⟨0, 0, c, Dx.start, [], out, none, none, rfl, s2, desk0 (by rw [upd_ne ndt, upd_same]), upd_same, Nat.zero_le _, hR, rfl, Nat.zero_le _, by omega⟩ ?_ ?_
    · rintro σ H' ⟨j, m, c', st, o1, o2, v4, v5, rfl, s3, D, ht, hj, R, eo, hlen, hm⟩
      have hS' := s3.seq hS
      refine ⟨_, rfl, _, rfl, a, _, rfl, .inl hS', _, _, rfl, rfl, _, rfl, ?_⟩
      rw [List.length_map]
      refine ifD (fun h1 => ?_) (fun h1 => ?_)
      · -- one more call
        generalize eL : ns.drop j = L at R
        cases R with
        | nil =>
          have := congrArg List.length eL
          rw [List.length_drop, List.length_nil] at this
          omega
        | @cons _ cl rest _ st' an c'' o2' el0 hw C R' =>
        have el := eL.trans el0
        refine ⟨_, rfl, _, rfl, a, ns, cl, rest, j, rfl, hS', el, hj, hw, fun p hp => ?_⟩
        have s4 := Same.upd (Same.refl H') (o := .lst (cl.map V.int)) hp
        refine ⟨_, rfl, _, rfl, dk, p, cl, st, m, st', an, rfl, D.mono s4, by omega, upd_same, C, fun H2 q sb D2 hq hq2 => ?_⟩
        obtain ⟨kvs, hk, _⟩ := id D
        have ntd : tl ≠ dk := fun e => ndt e.symm
        have npd : p ≠ dk := fun e => by rw [e, hk] at hp; cases hp
        have npt : p ≠ tl := fun e => by rw [e, ht] at hp; cases hp
        have ht2 : H2 tl = some (.lst (o1.map V.int)) := sb tl _ (s4 _ _ ht) ntd
        have hp2 : H2 p = some (.lst (cl.map V.int)) := sb p _ upd_same npd
        have nqt : q ≠ tl := fun e => by rw [e, s4 _ _ ht] at hq; cases hq
        have nqp : q ≠ p := fun e => by rw [e, upd_same] at hq; cases hq
        have al : (ansL an).length ≤ 513 := by
          cases an with
          | error y => exact Nat.le_trans (Nat.le_refl 1) (by decide)
          | ok l => have := tell_len D C; show l.length + 1 ≤ 513; omega
        have b1 : o1.length ≤ 300000 := by
          have : m * 1000 ≤ 300 * 1000 := Nat.mul_le_mul_right _ (by omega)
          omega
        refine ⟨_, rfl, .inl ⟨rfl, _, SqL.of ht2⟩, _, rfl, q, _, rfl, .inl (SqL.of hq2), tl, _, _, rfl, rfl, ht2, by rw [List.length_map, sizeLine_eq]; omega, ?_⟩
        refine ⟨_, rfl, .inl ⟨rfl, _, SqL.of upd_same⟩, _, rfl, tl, q, _, _, rfl, rfl, upd_same, by rw [upd_ne nqt]; exact hq2, by rw [List.length_append, List.length_map, List.length_map, sizeLine_eq]; show o1.length + 1 + _ ≤ _; omega, ?_⟩
        have hp3 : upd (upd H2 tl (.lst (o1.map V.int ++ [V.int (((ansL an).map V.int).length : Nat)]))) tl (.lst (o1.map V.int ++ [V.int (((ansL an).map V.int).length : Nat)] ++ (ansL an).map V.int)) p = some (.lst (cl.map V.int)) := by
          rw [upd_ne npt, upd_ne npt]; exact hp2
        refine ⟨_, rfl, _, rfl, p, _, rfl, .inl (SqL.of hp3), _, _, rfl, rfl, ?_⟩
        have sH2 : Same H H2 := fun b o hb => by
          have hbd : b ≠ dk := fun e => by rw [e, hdk] at hb; cases hb
          exact sb b o (s4 b o (s3 b o hb)) hbd
        have jl : j + cl.length ≤ ns.length := by
          have := congrArg List.length el
          rw [List.length_drop, List.length_append] at this
          omega
        have cpos : 0 < cl.length := by
          obtain ⟨p', r', _, e, _⟩ := hw
          rw [e]; exact Nat.succ_pos _
        refine ⟨⟨j + cl.length, m + 1, c'', st', o1 ++ ((ansL an).length : Int) :: ansL an, o2', some (.ref p), some (.ref q), ?_, Same.upd2 (Same.upd2 sH2 htl0) htl0, ?_, ?_, jl, ?_, ?_, ?_, by omega⟩, ?_⟩
        · rw [List.length_map]; rfl
        · have sd : ∀ (X : Hp) (o : HO), Desk X dk st' (m + 1) → X tl = some o → (∀ a' l', FD X a' l' → a' ≠ tl) → ∀ o', Desk (upd X tl o') dk st' (m + 1) := fun X o DX hX ne o' => by
            obtain ⟨kv, g1, g2, g3, g4⟩ := DX
            exact ⟨kv, by rw [upd_ne ndt]; exact g1, g2, g3, fun i => ⟨(g4 i).1, fun l hl => let ⟨b, e, ⟨ob, f1⟩, f2⟩ := (g4 i).2 l hl; ⟨b, e, ⟨ob, by rw [upd_ne (ne b l ⟨ob, f1⟩)]; exact f1⟩, f2⟩⟩⟩
          have nf : ∀ (X : Hp) (l : List V), X tl = some (.lst l) → ∀ a' l', FD X a' l' → a' ≠ tl := fun X l hX a' l' ⟨ob, f1⟩ e => by rw [e, hX] at f1; cases f1
          exact sd _ _ (sd _ _ D2 ht2 (nf _ _ ht2) _) upd_same (nf _ _ upd_same) _
        · rw [upd_same, List.map_append, List.map_cons, List.length_map, List.append_assoc]; rfl
        · rw [← List.drop_drop, el, List.drop_left]; exact R'
        · rw [List.append_assoc]; exact eo
        · rw [List.length_append, List.length_cons, Nat.add_mul]; omega
        · show ns.length - ((j : Int) + _).toNat < ns.length - (j : Int).toNat
          rw [List.length_map]; omega
      · have hj' : ns.drop j = [] := List.drop_eq_nil_of_le (by omega)
        rw [hj'] at R
        have e2 : o2 = [] := by
          cases R with
          | nil => rfl
          | cons el hw _ _ =>
            obtain ⟨p', r', _, e, _⟩ := hw
            rw [e] at el; cases el
        rw [e2, List.append_nil] at eo
        subst eo
        exact ⟨_, rfl, k H' tl ht⟩
    · rintro σ H' Q1 Q2 hQ ⟨v3, e3, v0, e0, p, ys, a1, a2, i, j, b1, b2, c, ec, q⟩
      exact ⟨v3, e3, v0, e0, p, ys, a1, a2, i, j, b1, b2, c, ec, hQ _ _ q⟩
end
end Ev
end
section
set_option Elab.async false
set_option linter.all false
set_option maxRecDepth 100000
set_option maxHeartbeats 2000000
namespace Ev
open Dx
noncomputable def fin (st : State) (h : Nat) : Out → State × Answer
  | .ok l => (st.set h (some l), .told [])
  | .error y => (st, .refused y.num)
noncomputable def made (st : State) (h : Nat) (o : Out) : State × Answer := if 16 ≤ h then (st, .refused 1) else fin st h o
noncomputable def ansOf : Tell → Answer
  | .ok l => .told l
  | .error y => .refused y.num
theorem keep_fin (st : State) (h : Nat) (l : Weights) : keep st h l = fin st h (fit l) := by unfold keep fit no; split <;> rfl
theorem step_w (st : State) (h : Nat) (l : Weights) : step st (.weights h l) = made st h (oW l) := by
  show (if SLOTS ≤ h ∨ ROW < l.length ∨ tot l = 0 then no st 1 else keep st h (lowest l)) = _
  unfold made oW
  by_cases h1 : 16 ≤ h
  · rw [if_pos h1, if_pos (.inl h1)]; rfl
  · rw [if_neg h1]
    by_cases h2 : 256 < l.length ∨ tot l = 0
    · rw [if_pos h2, if_pos (.inr h2)]; rfl
    · rw [if_neg h2, if_neg (fun z => z.elim h1 h2), keep_fin]
theorem step_e (st : State) (h : Nat) (lo hi : Int) : step st (.even h lo hi) = made st h (oE lo hi) := by
  show (if SLOTS ≤ h ∨ hi < lo then no st 1 else if (VALUES : Int) < hi - lo + 1 then no st 2 else keep st h (lowest (evenL lo (hi - lo + 1).toNat))) = _
  unfold made oE
  by_cases h1 : 16 ≤ h
  · rw [if_pos h1, if_pos (.inl h1)]; rfl
  · rw [if_neg h1]
    by_cases h2 : hi < lo
    · rw [if_pos h2, if_pos (.inr h2)]; rfl
    · rw [if_neg h2, if_neg (fun z => z.elim h1 h2)]
      have hv : ((VALUES : Nat) : Int) = 256 := rfl
      by_cases h3 : 256 ≤ hi - lo
      · rw [if_pos h3, if_pos (by omega)]; rfl
      · rw [if_neg h3, if_neg (by omega), keep_fin]
theorem two_made {st : State} {h f g : Nat} {q : Weights → Weights → State × Answer} {p : Weights → Weights → Out} (hq : ∀ x y, q x y = fin st h (p x y)) : two st h f g q = made st h (o2 st f g p) := by
  unfold two made o2
  by_cases h1 : 16 ≤ h
  · rw [if_pos h1, if_pos (show SLOTS ≤ h from h1)]; rfl
  · rw [if_neg h1, if_neg (show ¬ SLOTS ≤ h from h1)]
    cases Dx.get st f with
    | none => rfl
    | some x =>
      cases Dx.get st g with
      | none => rfl
      | some y => exact hq x y
theorem two_one {st : State} {h f : Nat} {q : Weights → Weights → State × Answer} {p : Weights → Out} (hq : ∀ x, q x x = fin st h (p x)) : two st h f f q = made st h (o1 st f p) := by
  unfold two made o1
  by_cases h1 : 16 ≤ h
  · rw [if_pos h1, if_pos (show SLOTS ≤ h from h1)]; rfl
  · rw [if_neg h1, if_neg (show ¬ SLOTS ≤ h from h1)]
    cases Dx.get st f with
    | none => rfl
    | some x => exact hq x
theorem made_wrong {st : State} {h f : Nat} {p : Weights → Out} (hp : ∀ x, p x = .error .wrong) : made st h (o1 st f p) = (st, .refused 1) := by
  unfold made o1
  split
  · rfl
  · split
    · rw [hp]; rfl
    · rfl
theorem made_wrong2 {st : State} {h f g : Nat} {p : Weights → Weights → Out} (hp : ∀ x y, p x y = .error .wrong) : made st h (o2 st f g p) = (st, .refused 1) := by
  unfold made o2
  split
  · rfl
  · split
    · rw [hp]; rfl
    · rfl
theorem step_t (st : State) (h f n : Nat) : step st (.times h f n) = made st h (o1 st f (oT n)) := by
  show (if TIMES < n then no st 1 else two st h f f fun (x _ : Weights) => match Dx.times x n with | none => no st 2 | some l => keep st h l) = _
  by_cases h1 : 100 < n
  · rw [if_pos (show TIMES < n from h1), made_wrong (p := oT n) fun x => if_pos h1]; rfl
  · rw [if_neg (show ¬ TIMES < n from h1)]
    refine two_one fun x => ?_
    have e : oT n x = match Dx.times x n with | none => .error .nofit | some l => .ok l := if_neg h1
    rw [e]
    cases ht : Dx.times x n with
    | none => rfl
    | some l =>
      show keep st h l = _
      unfold keep
      rw [if_pos (times_good ht).fits]; rfl
theorem step_m (st : State) (h f g a b : Nat) : step st (.mix h f g a b) = made st h (o2 st f g (oM a b)) := by
  show (if a = 0 ∨ b = 0 ∨ PART < a ∨ PART < b then no st 1 else two st h f g fun (x y : Weights) => keep st h (Dx.mix a b x y)) = _
  by_cases h1 : a = 0 ∨ b = 0 ∨ 65535 < a ∨ 65535 < b
  · rw [if_pos (show a = 0 ∨ b = 0 ∨ PART < a ∨ PART < b from h1), made_wrong2 (p := oM a b) fun x y => if_pos h1]; rfl
  · rw [if_neg (show ¬ (a = 0 ∨ b = 0 ∨ PART < a ∨ PART < b) from h1)]
    refine two_made fun x y => ?_
    have e : oM a b x y = fit (Dx.mix a b x y) := if_neg h1
    rw [e, keep_fin]
theorem step_g (st : State) (h f : Nat) (lo hi : Int) : step st (.given h f lo hi) = made st h (o1 st f (oG lo hi)) := by
  show (two st h f f fun (x _ : Weights) => if inRange lo hi x = 0 then no st 5 else keep st h (Dx.given lo hi x)) = _
  refine two_one fun x => ?_
  unfold oG
  split
  · rfl
  · exact keep_fin _ _ _
theorem frac_tell (n : Int) (d : Nat) : Dx.frac n d = ansOf (tF n d) := by
  unfold tF
  by_cases h : fracBad n d
  · rw [if_pos h, frac_bad h]; rfl
  · rw [if_neg h, frac_good h]; rfl
theorem one_tell {st : State} {f : Nat} {q : Weights → Answer} {p : Weights → Tell} (hq : ∀ x, q x = ansOf (p x)) : one st f q = (st, ansOf (t1 st f p)) := by
  unfold one t1
  cases Dx.get st f with
  | none => rfl
  | some x => show (st, q x) = _; rw [hq]
theorem step_c (st : State) (f : Nat) (lo hi : Int) : step st (.chance f lo hi) = (st, ansOf (t1 st f fun x => tF ((inRange lo hi x : Nat) : Int) (tot x))) := one_tell fun x => frac_tell _ _
theorem step_b (st : State) (f g : Nat) : step st (.beats f g) = (st, ansOf (t2 st f g fun x y => tF ((Dx.beats x y : Nat) : Int) (tot x * tot y))) := by
  show (match Dx.get st g with | none => no st 1 | some y => one st f fun (x : Weights) => frac (Dx.beats x y : Nat) (tot x * tot y)) = _
  unfold t2
  cases Dx.get st g with
  | none => cases Dx.get st f <;> rfl
  | some y =>
    show one st f _ = _
    unfold one
    cases Dx.get st f with
    | none => rfl
    | some x => show (st, frac _ _) = (st, _); rw [frac_tell]
theorem step_n (st : State) (f : Nat) : step st (.mean f) = (st, ansOf (t1 st f fun x => tF (moment x) (tot x))) := one_tell fun x => frac_tell _ _
theorem step_q (st : State) (f a b : Nat) : step st (.quantile f a b) = (st, ansOf (t1 st f (tQ a b))) := one_tell fun x => by
  unfold tQ
  split <;> rfl
theorem step_f (st : State) (f : Nat) : step st (.form f) = (st, ansOf (t1 st f fun x => .ok (flat x))) := one_tell fun x => rfl
noncomputable def okP : List Int → Prop
  | v :: w :: l => (0 ≤ w ∧ w ≤ 4294967295) ∧ okP l
  | [] => True
  | [_] => False
theorem ok_zip : ∀ (l : List Int) (k : Nat), k % 2 = 0 → l.length % 2 = 0 →
    ((l.zipIdx k).all fun (x : Int × Nat) => if x.2 % 2 = 0 then decide (-9223372036854775808 ≤ x.1) && decide (x.1 ≤ 9223372036854775807) else decide (0 ≤ x.1) && decide (x.1 ≤ 4294967295)) = true → okP l
  | [], _, _, _, _ => trivial
  | [_], _, _, h, _ => absurd h (by simp)
  | v :: w :: l, k, hk, hl, h => by
    rw [List.zipIdx_cons, List.zipIdx_cons, List.all_cons, List.all_cons, Bool.and_eq_true, Bool.and_eq_true] at h
    have h2 := h.2.1
    rw [if_neg (show ¬ (k + 1) % 2 = 0 by omega), Bool.and_eq_true] at h2
    exact ⟨⟨of_decide_eq_true h2.1, of_decide_eq_true h2.2⟩, ok_zip l (k + 1 + 1) (by omega) (by simp only [List.length_cons] at hl; omega) h.2.2⟩
theorem flat_pairs : ∀ {l : List Int}, okP l → flat (DxNeutral.pairsOf l) = l ∧ ∀ x ∈ DxNeutral.pairsOf l, x.2 < 2 ^ 32
  | [], _ => ⟨rfl, fun _ h => nomatch h⟩
  | [_], h => h.elim
  | v :: w :: l, h => by
    obtain ⟨e, m⟩ := flat_pairs h.2
    have hw : ((w.toNat : Nat) : Int) = w := Int.toNat_of_nonneg h.1.1
    refine ⟨?_, fun x hx => ?_⟩
    · show v :: ((w.toNat : Nat) : Int) :: flat (DxNeutral.pairsOf l) = _
      rw [e, hw]
    · rcases List.mem_cons.mp hx with q | q
      · rw [q]; show w.toNat < 2 ^ 32; have := h.1; omega
      · exact m x q
theorem shown_ans (a : Tell) : DxNeutral.shown (ansOf a) = ansL a := by cases a <;> rfl
theorem rel_made {ns : List Int} {st : State} {k h : Nat} {o : Out} (R : MkRel ns st k h o) : ∃ s' a, CallRel ns st s' a ∧ made st h o = (s', ansOf a) := by
  unfold made
  rcases Nat.lt_or_ge h 16 with q | q
  · rw [if_neg (by omega)]
    cases o with
    | ok l => exact ⟨_, _, .new R q, rfl⟩
    | error y => exact ⟨_, _, .bad R q, rfl⟩
  · rw [if_pos q]
    exact ⟨_, _, .far R q, rfl⟩
theorem nat_of {z : Int} (h : DxNeutral.natural z 32 = true) : ((z.toNat : Nat) : Int) = z ∧ z.toNat < 2 ^ 32 := by
  unfold DxNeutral.natural at h
  rw [Bool.and_eq_true] at h
  have h1 := of_decide_eq_true h.1
  have h2 := of_decide_eq_true h.2
  omega
theorem fin_mk {st : State} {c : List (List Int)} {x : Dx.Call} {cl : List Int} {k h : Nat} {o : Out} (e1 : DxNeutral.read c = some x) (R : MkRel cl st k h o) (e4 : Dx.step st x = made st h o) : ∃ s' a, CallRel cl st s' a ∧ DxNeutral.step st c = (s', ansL a) := by
  obtain ⟨s', a, C, e5⟩ := rel_made R
  refine ⟨s', a, C, ?_⟩
  unfold DxNeutral.step
  rw [e1]
  show ((Dx.step st x).1, DxNeutral.shown (Dx.step st x).2) = _
  rw [e4, e5, shown_ans]
theorem fin_te {st : State} {c : List (List Int)} {x : Dx.Call} {cl : List Int} {k : Nat} {o : Tell} (e1 : DxNeutral.read c = some x) (R : TeRel cl st k o) (e4 : Dx.step st x = (st, ansOf o)) : ∃ s' a, CallRel cl st s' a ∧ DxNeutral.step st c = (s', ansL a) := by
  refine ⟨st, o, .tell R, ?_⟩
  unfold DxNeutral.step
  rw [e1]
  show ((Dx.step st x).1, DxNeutral.shown (Dx.step st x).2) = _
  rw [e4, shown_ans]
theorem len1 {α : Type} : ∀ {l : List α}, l.length = 1 → ∃ a, l = [a]
  | [a], _ => ⟨a, rfl⟩
theorem len2 {α : Type} {l : List α} (h : l.length = 2) : ∃ a b, l = [a, b] := by
  cases l with
  | nil => cases h
  | cons a r => obtain ⟨b, rfl⟩ := len1 (Nat.succ.inj h); exact ⟨a, b, rfl⟩
theorem len3 {α : Type} {l : List α} (h : l.length = 3) : ∃ a b c, l = [a, b, c] := by
  cases l with
  | nil => cases h
  | cons a r => obtain ⟨b, c, rfl⟩ := len2 (Nat.succ.inj h); exact ⟨a, b, c, rfl⟩
theorem len4 {α : Type} {l : List α} (h : l.length = 4) : ∃ a b c d, l = [a, b, c, d] := by
  cases l with
  | nil => cases h
  | cons a r => obtain ⟨b, c, d, rfl⟩ := len3 (Nat.succ.inj h); exact ⟨a, b, c, d, rfl⟩
theorem len5 {α : Type} {l : List α} (h : l.length = 5) : ∃ a b c d e, l = [a, b, c, d, e] := by
  cases l with
  | nil => cases h
  | cons a r => obtain ⟨b, c, d, e, rfl⟩ := len4 (Nat.succ.inj h); exact ⟨a, b, c, d, e, rfl⟩
theorem call0 {p : Int} {n : Nat} {r t : List Int} {c : List (List Int)} (hs : PyWqamar.shape p = some (n, 0)) (h : PyFlat.call PyWqamar.shape (p :: r) = some (c, t)) : ∃ xs, xs.length = n ∧ r = xs ++ t ∧ c = [p :: xs] := by
  unfold PyFlat.call at h
  dsimp only at h
  rw [hs] at h
  dsimp only at h
  by_cases hr : r.length < n
  · rw [if_pos hr] at h; cases h
  · rw [if_neg hr] at h
    cases h
    exact ⟨r.take n, by rw [List.length_take]; omega, (List.take_append_drop n r).symm, rfl⟩
theorem call1 {r t : List Int} {c : List (List Int)} (h : PyFlat.call PyWqamar.shape (0 :: r) = some (c, t)) : ∃ a x, r = a :: (x.length : Int) :: x ++ t ∧ c = [[0, a], x] := by
  unfold PyFlat.call at h
  dsimp only at h
  rw [show PyWqamar.shape 0 = some (1, 1) from rfl] at h
  dsimp only at h
  cases r with
  | nil => cases h
  | cons a r =>
    rw [if_neg (by simp)] at h
    cases r with
    | nil => cases h
    | cons z q =>
      by_cases hz : 0 ≤ z ∧ z.toNat ≤ q.length
      · simp only [List.drop_succ_cons, List.drop_zero, List.take_succ_cons, List.take_zero, PyFlat.rows, PyFlat.row, if_pos hz] at h
        cases h
        have e : (((q.take z.toNat).length : Nat) : Int) = z := by
          rw [List.length_take, Nat.min_eq_left hz.2]; exact Int.toNat_of_nonneg hz.1
        refine ⟨a, q.take z.toNat, ?_, rfl⟩
        rw [e, List.cons_append, List.cons_append, List.take_append_drop]
      · simp only [List.drop_succ_cons, List.drop_zero, List.take_succ_cons, List.take_zero, PyFlat.rows, PyFlat.row, if_neg hz] at h
        cases h
noncomputable def Reads1 (st : State) (l t : List Int) (c : List (List Int)) : Prop := ∃ cl s' a, l = cl ++ t ∧ WholeC cl ∧ CallRel cl st s' a ∧ DxNeutral.step st (PyWqamar.whole c) = (s', ansL a)
theorem reads_mk {st : State} {t : List Int} {c : List (List Int)} {x : Dx.Call} {cl : List Int} {k h : Nat} {o : Out} (e1 : DxNeutral.read (PyWqamar.whole c) = some x) (hw : WholeC cl) (R : MkRel cl st k h o) (e4 : Dx.step st x = made st h o) : Reads1 st (cl ++ t) t c :=
  let ⟨s', a, C, e⟩ := fin_mk e1 R e4
  ⟨cl, s', a, rfl, hw, C, e⟩
theorem reads_te {st : State} {t : List Int} {c : List (List Int)} {x : Dx.Call} {cl : List Int} {k : Nat} {o : Tell} (e1 : DxNeutral.read (PyWqamar.whole c) = some x) (hw : WholeC cl) (R : TeRel cl st k o) (e4 : Dx.step st x = (st, ansOf o)) : Reads1 st (cl ++ t) t c :=
  let ⟨s', a, C, e⟩ := fin_te e1 R e4
  ⟨cl, s', a, rfl, hw, C, e⟩
theorem wholeOf {p : Nat} {r : List Int} (hp : p ≤ 12) (h0 : p ≠ 0) (hl : r.length + 1 = lenOf p) : WholeC ((p : Int) :: r) := ⟨p, r, hp, rfl, fun _ => hl, fun z => absurd z h0⟩
theorem and1 {a b : Bool} (h : (a && b) = true) : a = true := (Bool.and_eq_true_iff.mp h).1
theorem and2 {a b : Bool} (h : (a && b) = true) : b = true := (Bool.and_eq_true_iff.mp h).2
variable (st : State) {r t : List Int} {c : List (List Int)}
theorem read0 (h : PyFlat.call PyWqamar.shape (0 :: r) = some (c, t)) (ha : DxNeutral.asked1 (PyWqamar.whole c) = true) : Reads1 st (0 :: r) t c := by
  obtain ⟨a, l, rfl, rfl⟩ := call1 h
  have ha' : (DxNeutral.natural a 32 && (decide (l.length ≤ 600) && (decide (l.length % 2 = 0) && (l.zipIdx.all fun (x : Int × Nat) => if x.2 % 2 = 0 then decide (-9223372036854775808 ≤ x.1) && decide (x.1 ≤ 9223372036854775807) else decide (0 ≤ x.1) && decide (x.1 ≤ 4294967295))))) = true := ha
  obtain ⟨n1, _⟩ := nat_of (and1 ha')
  have h2 : l.length ≤ 600 := of_decide_eq_true (and1 (and2 ha'))
  obtain ⟨f1, f2⟩ := flat_pairs (ok_zip l 0 rfl (of_decide_eq_true (and1 (and2 (and2 ha')))) (and2 (and2 (and2 ha'))))
  have hlen : 2 * (DxNeutral.pairsOf l).length = l.length := by rw [← flat_len, f1]
  exact reads_mk (k := 0) (h := a.toNat) (cl := 0 :: a :: (l.length : Int) :: l) rfl ⟨0, _, by decide, rfl, fun z => absurd rfl z, fun _ => ⟨a, l, rfl⟩⟩ ⟨by decide, rfl, by rw [n1]; rfl, ⟨a, _, DxNeutral.pairsOf l, by rw [f1], by omega, f2, rfl⟩⟩ (step_w _ _ _)
theorem read1 (h : PyFlat.call PyWqamar.shape (1 :: r) = some (c, t)) (ha : DxNeutral.asked1 (PyWqamar.whole c) = true) : Reads1 st (1 :: r) t c := by
  obtain ⟨xs, hl, rfl, rfl⟩ := call0 (n := 3) rfl h
  obtain ⟨a, lo, hi, rfl⟩ := len3 hl
  obtain ⟨n1, _⟩ := nat_of (and1 (b := _) ha)
  exact reads_mk (k := 1) (h := a.toNat) (cl := [1, a, lo, hi]) rfl (wholeOf (p := 1) (by decide) (by decide) rfl) ⟨by decide, rfl, by rw [n1]; rfl, ⟨a, lo, hi, rfl, rfl⟩⟩ (step_e _ _ _ _)
theorem read2 (h : PyFlat.call PyWqamar.shape (2 :: r) = some (c, t)) (ha : DxNeutral.asked1 (PyWqamar.whole c) = true) : Reads1 st (2 :: r) t c := by
  obtain ⟨xs, hl, rfl, rfl⟩ := call0 (n := 3) rfl h
  obtain ⟨a, f, g, rfl⟩ := len3 hl
  obtain ⟨n1, _⟩ := nat_of (and1 (b := _) ha)
  obtain ⟨n2, _⟩ := nat_of (and1 (and2 (a := DxNeutral.natural a 32) ha))
  obtain ⟨n3, _⟩ := nat_of (and2 (and2 (a := DxNeutral.natural a 32) ha))
  exact reads_mk (k := 2) (h := a.toNat) (cl := [2, a, f, g]) rfl (wholeOf (p := 2) (by decide) (by decide) rfl) ⟨by decide, rfl, by rw [n1]; rfl, ⟨a, f.toNat, g.toNat, by rw [n2, n3], rfl⟩⟩ (two_made fun x y => keep_fin _ _ _)
theorem read3 (h : PyFlat.call PyWqamar.shape (3 :: r) = some (c, t)) (ha : DxNeutral.asked1 (PyWqamar.whole c) = true) : Reads1 st (3 :: r) t c := by
  obtain ⟨xs, hl, rfl, rfl⟩ := call0 (n := 3) rfl h
  obtain ⟨a, f, g, rfl⟩ := len3 hl
  obtain ⟨n1, _⟩ := nat_of (and1 (b := _) ha)
  obtain ⟨n2, _⟩ := nat_of (and1 (and2 (a := DxNeutral.natural a 32) ha))
  obtain ⟨n3, _⟩ := nat_of (and2 (and2 (a := DxNeutral.natural a 32) ha))
  exact reads_mk (k := 3) (h := a.toNat) (cl := [3, a, f, g]) rfl (wholeOf (p := 3) (by decide) (by decide) rfl) ⟨by decide, rfl, by rw [n1]; rfl, ⟨a, f.toNat, g.toNat, by rw [n2, n3], rfl⟩⟩ (two_made fun x y => keep_fin _ _ _)
theorem read4 (h : PyFlat.call PyWqamar.shape (4 :: r) = some (c, t)) (ha : DxNeutral.asked1 (PyWqamar.whole c) = true) : Reads1 st (4 :: r) t c := by
  obtain ⟨xs, hl, rfl, rfl⟩ := call0 (n := 3) rfl h
  obtain ⟨a, f, g, rfl⟩ := len3 hl
  obtain ⟨n1, _⟩ := nat_of (and1 (b := _) ha)
  obtain ⟨n2, _⟩ := nat_of (and1 (and2 (a := DxNeutral.natural a 32) ha))
  obtain ⟨n3, _⟩ := nat_of (and2 (and2 (a := DxNeutral.natural a 32) ha))
  exact reads_mk (k := 4) (h := a.toNat) (cl := [4, a, f, g]) rfl (wholeOf (p := 4) (by decide) (by decide) rfl) ⟨by decide, rfl, by rw [n1]; rfl, ⟨a, f.toNat, g.toNat, by rw [n2, n3], rfl⟩⟩ (two_made fun x y => keep_fin _ _ _)
theorem read5 (h : PyFlat.call PyWqamar.shape (5 :: r) = some (c, t)) (ha : DxNeutral.asked1 (PyWqamar.whole c) = true) : Reads1 st (5 :: r) t c := by
  obtain ⟨xs, hl, rfl, rfl⟩ := call0 (n := 3) rfl h
  obtain ⟨a, f, g, rfl⟩ := len3 hl
  obtain ⟨n1, _⟩ := nat_of (and1 (b := _) ha)
  obtain ⟨n2, _⟩ := nat_of (and1 (and2 (a := DxNeutral.natural a 32) ha))
  obtain ⟨n3, _⟩ := nat_of (and2 (and2 (a := DxNeutral.natural a 32) ha))
  exact reads_mk (k := 5) (h := a.toNat) (cl := [5, a, f, g]) rfl (wholeOf (p := 5) (by decide) (by decide) rfl) ⟨by decide, rfl, by rw [n1]; rfl, ⟨a, f.toNat, g.toNat, by rw [n2, n3], rfl⟩⟩ (step_t _ _ _ _)
theorem read6 (h : PyFlat.call PyWqamar.shape (6 :: r) = some (c, t)) (ha : DxNeutral.asked1 (PyWqamar.whole c) = true) : Reads1 st (6 :: r) t c := by
  obtain ⟨xs, hl, rfl, rfl⟩ := call0 (n := 5) rfl h
  obtain ⟨a, f, g, x, y, rfl⟩ := len5 hl
  obtain ⟨n1, _⟩ := nat_of (and1 (b := _) ha)
  have h2 := and2 (a := DxNeutral.natural a 32) ha
  have h3 := and2 (a := DxNeutral.natural f 32) h2
  have h4 := and2 (a := DxNeutral.natural g 32) h3
  obtain ⟨n2, _⟩ := nat_of (and1 (b := _) h2)
  obtain ⟨n3, _⟩ := nat_of (and1 (b := _) h3)
  obtain ⟨n4, _⟩ := nat_of (and1 (b := _) h4)
  obtain ⟨n5, _⟩ := nat_of (and2 (a := DxNeutral.natural x 32) h4)
  exact reads_mk (k := 6) (h := a.toNat) (cl := [6, a, f, g, x, y]) rfl (wholeOf (p := 6) (by decide) (by decide) rfl) ⟨by decide, rfl, by rw [n1]; rfl, ⟨a, f.toNat, g.toNat, x.toNat, y.toNat, by rw [n2, n3, n4, n5], rfl⟩⟩ (step_m _ _ _ _ _ _)
theorem read7 (h : PyFlat.call PyWqamar.shape (7 :: r) = some (c, t)) (ha : DxNeutral.asked1 (PyWqamar.whole c) = true) : Reads1 st (7 :: r) t c := by
  obtain ⟨xs, hl, rfl, rfl⟩ := call0 (n := 4) rfl h
  obtain ⟨a, f, lo, hi, rfl⟩ := len4 hl
  obtain ⟨n1, _⟩ := nat_of (and1 (b := _) ha)
  obtain ⟨n2, _⟩ := nat_of (and1 (b := _) (and2 (a := DxNeutral.natural a 32) ha))
  exact reads_mk (k := 7) (h := a.toNat) (cl := [7, a, f, lo, hi]) rfl (wholeOf (p := 7) (by decide) (by decide) rfl) ⟨by decide, rfl, by rw [n1]; rfl, ⟨a, f.toNat, lo, hi, by rw [n2], rfl⟩⟩ (step_g _ _ _ _ _)
theorem read8 (h : PyFlat.call PyWqamar.shape (8 :: r) = some (c, t)) (ha : DxNeutral.asked1 (PyWqamar.whole c) = true) : Reads1 st (8 :: r) t c := by
  obtain ⟨xs, hl, rfl, rfl⟩ := call0 (n := 3) rfl h
  obtain ⟨f, lo, hi, rfl⟩ := len3 hl
  obtain ⟨n1, _⟩ := nat_of (and1 (b := _) ha)
  exact reads_te (k := 0) (cl := [8, f, lo, hi]) rfl (wholeOf (p := 8) (by decide) (by decide) rfl) ⟨by decide, rfl, ⟨f.toNat, lo, hi, by rw [n1], rfl⟩⟩ (step_c _ _ _ _)
theorem read9 (h : PyFlat.call PyWqamar.shape (9 :: r) = some (c, t)) (ha : DxNeutral.asked1 (PyWqamar.whole c) = true) : Reads1 st (9 :: r) t c := by
  obtain ⟨xs, hl, rfl, rfl⟩ := call0 (n := 2) rfl h
  obtain ⟨f, g, rfl⟩ := len2 hl
  obtain ⟨n1, _⟩ := nat_of (and1 (b := _) ha)
  obtain ⟨n2, _⟩ := nat_of (and2 (a := DxNeutral.natural f 32) ha)
  exact reads_te (k := 1) (cl := [9, f, g]) rfl (wholeOf (p := 9) (by decide) (by decide) rfl) ⟨by decide, rfl, ⟨f.toNat, g.toNat, by rw [n1, n2], rfl⟩⟩ (step_b _ _ _)
theorem read10 (h : PyFlat.call PyWqamar.shape (10 :: r) = some (c, t)) (ha : DxNeutral.asked1 (PyWqamar.whole c) = true) : Reads1 st (10 :: r) t c := by
  obtain ⟨xs, hl, rfl, rfl⟩ := call0 (n := 1) rfl h
  obtain ⟨f, rfl⟩ := len1 hl
  obtain ⟨n1, _⟩ := nat_of (z := f) ha
  exact reads_te (k := 2) (cl := [10, f]) rfl (wholeOf (p := 10) (by decide) (by decide) rfl) ⟨by decide, rfl, ⟨f.toNat, by rw [n1], rfl⟩⟩ (step_n _ _)
theorem read11 (h : PyFlat.call PyWqamar.shape (11 :: r) = some (c, t)) (ha : DxNeutral.asked1 (PyWqamar.whole c) = true) : Reads1 st (11 :: r) t c := by
  obtain ⟨xs, hl, rfl, rfl⟩ := call0 (n := 3) rfl h
  obtain ⟨f, x, y, rfl⟩ := len3 hl
  obtain ⟨n1, _⟩ := nat_of (and1 (b := _) ha)
  have h2 := and2 (a := DxNeutral.natural f 32) ha
  obtain ⟨n2, _⟩ := nat_of (and1 (b := _) h2)
  obtain ⟨n3, m3⟩ := nat_of (and2 (a := DxNeutral.natural x 32) h2)
  exact reads_te (k := 3) (cl := [11, f, x, y]) rfl (wholeOf (p := 11) (by decide) (by decide) rfl) ⟨by decide, rfl, ⟨f.toNat, x.toNat, y.toNat, by rw [n1, n2, n3], m3, rfl⟩⟩ (step_q _ _ _ _)
theorem read12 (h : PyFlat.call PyWqamar.shape (12 :: r) = some (c, t)) (ha : DxNeutral.asked1 (PyWqamar.whole c) = true) : Reads1 st (12 :: r) t c := by
  obtain ⟨xs, hl, rfl, rfl⟩ := call0 (n := 1) rfl h
  obtain ⟨f, rfl⟩ := len1 hl
  obtain ⟨n1, _⟩ := nat_of (z := f) ha
  exact reads_te (k := 4) (cl := [12, f]) rfl (wholeOf (p := 12) (by decide) (by decide) rfl) ⟨by decide, rfl, ⟨f.toNat, by rw [n1], rfl⟩⟩ (step_f _ _)
theorem shape_no {p : Int} (h0 : p ≠ 0) (h1 : p ≠ 1) (h2 : p ≠ 2) (h3 : p ≠ 3) (h4 : p ≠ 4) (h5 : p ≠ 5) (h6 : p ≠ 6) (h7 : p ≠ 7) (h8 : p ≠ 8) (h9 : p ≠ 9) (h10 : p ≠ 10) (h11 : p ≠ 11) (h12 : p ≠ 12) : PyWqamar.shape p = none := by
  unfold PyWqamar.shape
  rw [if_neg h0, if_neg h1, if_neg h2, if_neg h3, if_neg h4, if_neg h5, if_neg h6, if_neg h7, if_neg h8, if_neg h9, if_neg h10, if_neg h11, if_neg h12]
theorem one_call {p : Int} (h : PyFlat.call PyWqamar.shape (p :: r) = some (c, t)) (ha : DxNeutral.asked1 (PyWqamar.whole c) = true) : Reads1 st (p :: r) t c := by
  by_cases h0 : p = 0
  · subst h0; exact read0 st h ha
  by_cases h1 : p = 1
  · subst h1; exact read1 st h ha
  by_cases h2 : p = 2
  · subst h2; exact read2 st h ha
  by_cases h3 : p = 3
  · subst h3; exact read3 st h ha
  by_cases h4 : p = 4
  · subst h4; exact read4 st h ha
  by_cases h5 : p = 5
  · subst h5; exact read5 st h ha
  by_cases h6 : p = 6
  · subst h6; exact read6 st h ha
  by_cases h7 : p = 7
  · subst h7; exact read7 st h ha
  by_cases h8 : p = 8
  · subst h8; exact read8 st h ha
  by_cases h9 : p = 9
  · subst h9; exact read9 st h ha
  by_cases h10 : p = 10
  · subst h10; exact read10 st h ha
  by_cases h11 : p = 11
  · subst h11; exact read11 st h ha
  by_cases h12 : p = 12
  · subst h12; exact read12 st h ha
  unfold PyFlat.call at h
  dsimp only at h
  rw [shape_no h0 h1 h2 h3 h4 h5 h6 h7 h8 h9 h10 h11 h12] at h
  cases h
theorem told_cons (a : List Int) (r : List (List Int)) : PyFlat.told (a :: r) = (a.length : Int) :: (a ++ PyFlat.told r) := by
  unfold PyFlat.told
  rw [List.flatMap_cons]; rfl
theorem run_of : ∀ (fuel : Nat) (l : List Int) (cs : List (List (List Int))) (st : State), PyFlat.calls PyWqamar.shape fuel l = some cs → (cs.map PyWqamar.whole).all DxNeutral.asked1 = true → Run l st cs.length (PyFlat.told (PyFlat.played DxNeutral.step st (cs.map PyWqamar.whole)))
  | fuel, [], cs, st, h, _ => by
    have e : cs = [] := by
      cases fuel <;> (unfold PyFlat.calls at h; cases h; rfl)
    subst e
    exact .nil st
  | 0, _ :: _, cs, st, h, _ => by unfold PyFlat.calls at h; cases h
  | fuel + 1, p :: r, cs, st, h, ha => by
    unfold PyFlat.calls at h
    cases hc : PyFlat.call PyWqamar.shape (p :: r) with
    | none => rw [hc] at h; cases h
    | some ct =>
      obtain ⟨c, t⟩ := ct
      rw [hc] at h
      dsimp only at h
      cases hr : PyFlat.calls PyWqamar.shape fuel t with
      | none => rw [hr] at h; cases h
      | some cs' =>
        rw [hr] at h
        cases h
        rw [List.map_cons, List.all_cons, Bool.and_eq_true] at ha
        obtain ⟨cl, s', a, e5, e2, C, e3⟩ := one_call st hc ha.1
        have ih := run_of fuel t cs' s' hr ha.2
        show Run (p :: r) st (cs'.length + 1) (PyFlat.told ((DxNeutral.step st (PyWqamar.whole c)).2 :: PyFlat.played DxNeutral.step (DxNeutral.step st (PyWqamar.whole c)).1 (cs'.map PyWqamar.whole)))
        rw [e3, told_cons]
        exact .cons e5 e2 C ih
theorem answers_run {ns : List Int} (h : PyWqamar.answers_asked ns = true) : ∃ c, c ≤ 300 ∧ Run ns Dx.start c (PyWqamar.answers ns) := by
  unfold PyWqamar.answers_asked PyWqamar.calls at h
  unfold PyWqamar.answers PyWqamar.calls
  cases hc : PyFlat.calls PyWqamar.shape ns.length ns with
  | none => rw [hc] at h; cases h
  | some cs =>
    rw [hc] at h
    dsimp only at h ⊢
    rw [Bool.and_eq_true] at h
    have h1 : (cs.map PyWqamar.whole).length ≤ 300 := of_decide_eq_true h.1
    rw [List.length_map] at h1
    have h2 := h.2
    unfold DxNeutral.asked at h2
    rw [Bool.and_eq_true] at h2
    exact ⟨cs.length, h1, run_of _ ns cs Dx.start hc h2.1⟩
end Ev
end
section
set_option Elab.async false
set_option linter.all false
set_option maxRecDepth 100000
set_option maxHeartbeats 2000000
namespace Ev
open PySem PySem.Spec PyProof.Rows L2 Dx
noncomputable def vIs : V → Value → Bool
  | .int i, .int j _ => i == j
  | .ref a, .ref b => a == b
  | _, _ => false
theorem vIs_rel {x : V} {u : Value} (h : vIs x u = true) : RelV x u := by
  cases x with
  | int i => cases u with
    | int j t => exact ⟨t, by rw [show i = j from eq_of_beq h]⟩
    | _ => cases h
  | ref a => cases u with
    | ref b => show Value.ref b = Value.ref a; rw [show a = b from eq_of_beq h]
    | _ => cases h
  | _ => cases h
noncomputable def entIs (e : DictEntry) (kv : Key × V) : Bool := match kv.1 with
  | .inl k => (e.hash == hashInt k) && ((match e.key with | .int i _ => i == k | _ => false) && vIs kv.2 e.val)
  | .inr _ => false
noncomputable def dictIs : List DictEntry → List (Key × V) → Bool
  | [], [] => true
  | e :: es, kv :: kvs => entIs e kv && dictIs es kvs
  | _, _ => false
theorem ent_ok {P : Program} {w : World} {e : DictEntry} {kv : Key × V} (h : entIs e kv = true) : (mixKind P w).is kv.1 e.key = true ∧ e.hash = (mixKind P w).hash kv.1 ∧ RelV kv.2 e.val := by
  obtain ⟨k, v⟩ := kv
  cases k with
  | inr x => cases h
  | inl k =>
    have h' : ((e.hash == hashInt k) && ((match e.key with | .int i _ => i == k | _ => false) && vIs v e.val)) = true := h
    rw [Bool.and_eq_true, Bool.and_eq_true] at h'
    obtain ⟨h1, h2, h3⟩ := h'
    refine ⟨?_, eq_of_beq h1, vIs_rel h3⟩
    cases hk : e.key with
    | int i t =>
      rw [hk] at h2
      have e1 : i = k := eq_of_beq h2
      subst e1
      exact mixKind_int P w i t
    | _ => rw [hk] at h2; cases h2
theorem dict_ok {P : Program} {w : World} : ∀ {es : List DictEntry} {kvs : List (Key × V)}, dictIs es kvs = true → ∃ vs : List (Key × Value), KV kvs vs ∧ Pairs (mixKind P w) es vs ∧ (∀ e ∈ es, ∃ k, (mixKind P w).is k e.key = true ∧ e.hash = (mixKind P w).hash k) ∧ vs.map (·.1) = kvs.map (·.1)
  | [], [], _ => ⟨[], .nil, .nil, (fun _ h => nomatch h), rfl⟩
  | e :: es, kv :: kvs, h => by
    have h' : (entIs e kv && dictIs es kvs) = true := h
    rw [Bool.and_eq_true] at h'
    obtain ⟨h1, h2, h3⟩ := ent_ok (P := P) (w := w) h'.1
    obtain ⟨vs, a1, a2, a3, a4⟩ := dict_ok (P := P) (w := w) h'.2
    refine ⟨(kv.1, e.val) :: vs, .cons ⟨rfl, h3⟩ a1, .cons h1 rfl a2, fun x hx => ?_, by rw [List.map_cons, List.map_cons, a4]⟩
    rcases List.mem_cons.mp hx with q | q
    · rw [q]; exact ⟨kv.1, h1, h2⟩
    · exact a3 x q
  | [], _ :: _, h => by cases h
  | _ :: _, [], h => by cases h
structure KD (K : PySem.W.Frag) (x : Str) (a : Addr) (kvs : List (Key × V)) : Prop where
  ns : PySem.W.nsIn K mainGlobals x = some (some (.ref a))
  ex : ∃ es ep, K.lookup a = some ⟨.type "dict", none, .dict es ep, #[]⟩ ∧ dictIs es.toList kvs = true
  lo : (a == sysModules) = false
  nd : (kvs.map (·.1)).Nodup
theorem kd_mk {K : PySem.W.Frag} {x : Str} {a : Addr} {kvs : List (Key × V)} {es : Array DictEntry} {ep : Nat} (a1 : PySem.W.nsIn K mainGlobals x = some (some (.ref a))) (a2 : K.lookup a = some ⟨.type "dict", none, .dict es ep, #[]⟩) (a3 : dictIs es.toList kvs = true) (a4 : (a == sysModules) = false) (a5 : (kvs.map (·.1)).Nodup) : KD K x a kvs := ⟨a1, ⟨es, ep, a2, a3⟩, a4, a5⟩
theorem KD.dict {P : Program} {w : World} {K : PySem.W.Frag} {x : Str} {a : Addr} {kvs : List (Key × V)} (D : KD K x a kvs) : KDict P w K a kvs := by
  obtain ⟨es, ep, l, d⟩ := D.ex
  obtain ⟨vs, a1, a2, a3, a4⟩ := dict_ok (P := P) (w := w) d
  exact ⟨D.lo, vs, a1, fun h X => ⟨_, es, ep, X a _ l, ⟨rfl, rfl, rfl⟩, rfl, fun e he => a3 e (by simpa using he), a2, by rw [a4]; exact D.nd⟩⟩
theorem mk_nd : ([Sum.inl 0, Sum.inl 1, Sum.inl 2, Sum.inl 3, Sum.inl 4, Sum.inl 5, Sum.inl 6, Sum.inl 7] : List Key).Nodup := by decide
theorem te_nd : ([Sum.inl 8, Sum.inl 9, Sum.inl 10, Sum.inl 11, Sum.inl 12] : List Key).Nodup := by decide
theorem len_nd : (lenK.map (·.1)).Nodup := by unfold lenK; decide
structure FnAt (K : PySem.W.Frag) (x : Str) (st : Stmt) (f : Addr) : Prop where
  ns : PySem.W.nsIn K mainGlobals x = some (some (.ref f))
  fn : ∃ fd, Fun K x x st f fd
theorem fn_mk {K : PySem.W.Frag} {x : Str} {st : Stmt} {f : Addr} {oc : Value} {od an : Option Addr} {osl : Array (Option Value)} {kV doc pm cdv ct : Value} (a : PySem.W.nsIn K mainGlobals x = some (some (.ref f)))
    (l : K.lookup f = some ⟨oc, od, .func (PySem.W.fnOf x x (defArgs st) (defBody st) (defScope st) .none kV doc pm an cdv ct), osl⟩) (c : PySem.W.codeIn K cdv x = true) (k : PySem.W.keepIn K (.ref f) = true) : FnAt K x st f := ⟨a, _, fun_mk l c k⟩
theorem int_mk {K : PySem.W.Frag} {x : Str} {z : Int} {t : Tok} (a : PySem.W.nsIn K mainGlobals x = some (some (.int z t))) : ∃ t, PySem.W.nsIn K mainGlobals x = some (some (.int z t)) := ⟨t, a⟩
theorem exc_mk {K : PySem.W.Frag} {C ns : Addr} {bm bs : List Value} {nm qn : Str} {hd : Bool} {sn : List Str} {sub : List Value} {ab : Bool} {col : Option Bool} {dd : Option Addr} {k0 k1 k2 k3 k5 : Option Value}
    (l : K.lookup C = some ⟨.type "type", dd, .cls ⟨nm, bs, .ref C :: bm, ns, qn, hd, sn, sub, ab, col, false⟩, #[k0, k1, k2, k3, some (.builtin "ValueError.__new__"), k5]⟩) (o : PySem.W.nsOkIn K ns = true) (i : PySem.W.nsIn K ns "__init__" = some none)
    (t : PySem.W.tailIn K [.type "ValueError", .type "Exception", .type "BaseException", .type "object"] bm = true) : Exc K C := ⟨bm, ns, nm, qn, bs, hd, sn, sub, ab, col, dd, k0, k1, k2, k3, k5, l, o, i, t⟩
structure Excs (K : PySem.W.Frag) (CN CT CW : Addr) : Prop where
  n : PySem.W.nsIn K mainGlobals "NoFit" = some (some (.ref CN))
  t : PySem.W.nsIn K mainGlobals "NoneThere" = some (some (.ref CT))
  w : PySem.W.nsIn K mainGlobals "Wrong" = some (some (.ref CW))
  xn : Exc K CN
  xt : Exc K CT
  xw : Exc K CW
  ww : PySem.W.exmOne K (.ref CW) (.ref CW) = some true
  tw : PySem.W.exmOne K (.ref CT) (.ref CW) = some false
  tt : PySem.W.exmOne K (.ref CT) (.ref CT) = some true
  nw : PySem.W.exmOne K (.ref CN) (.ref CW) = some false
  nt : PySem.W.exmOne K (.ref CN) (.ref CT) = some false
  nn : PySem.W.exmOne K (.ref CN) (.ref CN) = some true
structure Facts (K : PySem.W.Frag) : Prop where
  f6 : ∃ f, FnAt K "common_divisor" (top 6) f
  f7 : ∃ f, FnAt K "lowest" (top 7) f
  f8 : ∃ f, FnAt K "fits" (top 8) f
  f9 : ∃ f, FnAt K "fitting_of" (top 9) f
  f10 : ∃ f, FnAt K "weights_of_pairs" (top 10) f
  f11 : ∃ f, FnAt K "even_of" (top 11) f
  f12 : ∃ f, FnAt K "sum_of" (top 12) f
  f13 : ∃ f, FnAt K "later_of" (top 13) f
  f14 : ∃ f, FnAt K "greater_of" (top 14) f
  f15 : ∃ f, FnAt K "lesser_of" (top 15) f
  f16 : ∃ f, FnAt K "times_of" (top 16) f
  f17 : ∃ f, FnAt K "mix_of" (top 17) f
  f18 : ∃ f, FnAt K "part_between" (top 18) f
  f19 : ∃ f, FnAt K "given_of" (top 19) f
  f22 : ∃ f, FnAt K "fraction" (top 22) f
  f23 : ∃ f, FnAt K "whole_weight" (top 23) f
  f24 : ∃ f, FnAt K "chance_between" (top 24) f
  f25 : ∃ f, FnAt K "chance_to_beat" (top 25) f
  f26 : ∃ f, FnAt K "mean" (top 26) f
  f27 : ∃ f, FnAt K "quantile" (top 27) f
  f28 : ∃ f, FnAt K "form_row" (top 28) f
  f41 : ∃ f, FnAt K "kept_at" (top 41) f
  f57 : ∃ f, FnAt K "made_by" (top 57) f
  f58 : ∃ f, FnAt K "told_by" (top 58) f
  f59 : ∃ f, FnAt K "answer_to" (top 59) f
  f60 : ∃ f, FnAt K "call_at" (top 60) f
  f61 : ∃ f, FnAt K "answers" (top 61) f
  mks : ∃ a f0 f1 f2 f3 f4 f5 f6 f7, KD K "MAKERS" a [(Sum.inl 0, .ref f0), (Sum.inl 1, .ref f1), (Sum.inl 2, .ref f2), (Sum.inl 3, .ref f3), (Sum.inl 4, .ref f4), (Sum.inl 5, .ref f5), (Sum.inl 6, .ref f6), (Sum.inl 7, .ref f7)] ∧ FnAt K "make_weights" (top 42) f0 ∧ FnAt K "make_even" (top 43) f1 ∧ FnAt K "make_add" (top 44) f2 ∧ FnAt K "make_great" (top 45) f3 ∧ FnAt K "make_less" (top 46) f4 ∧ FnAt K "make_times" (top 47) f5 ∧ FnAt K "make_mix" (top 48) f6 ∧ FnAt K "make_given" (top 49) f7
  tes : ∃ a f0 f1 f2 f3 f4, KD K "TELLERS" a [(Sum.inl 8, .ref f0), (Sum.inl 9, .ref f1), (Sum.inl 10, .ref f2), (Sum.inl 11, .ref f3), (Sum.inl 12, .ref f4)] ∧ FnAt K "tell_chance" (top 51) f0 ∧ FnAt K "tell_beats" (top 52) f1 ∧ FnAt K "tell_mean" (top 53) f2 ∧ FnAt K "tell_quantile" (top 54) f3 ∧ FnAt K "tell_form" (top 55) f4
  ln : ∃ a, KD K "LENGTHS" a lenK
  ex : ∃ CN CT CW, Excs K CN CT CW
  iMOST_VALUES : ∃ t, PySem.W.nsIn K mainGlobals "MOST_VALUES" = some (some (.int 256 t))
  iFARTHEST_VALUE : ∃ t, PySem.W.nsIn K mainGlobals "FARTHEST_VALUE" = some (some (.int 2147483647 t))
  iMOST_WEIGHT : ∃ t, PySem.W.nsIn K mainGlobals "MOST_WEIGHT" = some (some (.int 1099511627776 t))
  iTOO_GREAT : ∃ t, PySem.W.nsIn K mainGlobals "TOO_GREAT" = some (some (.int 9223372036854775808 t))
  iPLACES : ∃ t, PySem.W.nsIn K mainGlobals "PLACES" = some (some (.int 16 t))
  iMOST_PAIRS : ∃ t, PySem.W.nsIn K mainGlobals "MOST_PAIRS" = some (some (.int 256 t))
  iMOST_TIMES : ∃ t, PySem.W.nsIn K mainGlobals "MOST_TIMES" = some (some (.int 100 t))
  iMOST_PARTS : ∃ t, PySem.W.nsIn K mainGlobals "MOST_PARTS" = some (some (.int 65535 t))
  iDONE : ∃ t, PySem.W.nsIn K mainGlobals "DONE" = some (some (.int 0 t))
  iWRONG : ∃ t, PySem.W.nsIn K mainGlobals "WRONG" = some (some (.int (-1) t))
  iNO_FIT : ∃ t, PySem.W.nsIn K mainGlobals "NO_FIT" = some (some (.int (-2) t))
  iNONE_THERE : ∃ t, PySem.W.nsIn K mainGlobals "NONE_THERE" = some (some (.int (-5) t))
  iWEIGHTS : ∃ t, PySem.W.nsIn K mainGlobals "WEIGHTS" = some (some (.int 0 t))
  nlen : PySem.W.nsIn K mainGlobals "len" = some none
  nsorted : PySem.W.nsIn K mainGlobals "sorted" = some none
  nmin : PySem.W.nsIn K mainGlobals "min" = some none
  nmax : PySem.W.nsIn K mainGlobals "max" = some none
  nsum : PySem.W.nsIn K mainGlobals "sum" = some none
  nrange : PySem.W.nsIn K mainGlobals "range" = some none
  nset : PySem.W.nsIn K mainGlobals "set" = some none
  nlist : PySem.W.nsIn K mainGlobals "list" = some none
  nreversed : PySem.W.nsIn K mainGlobals "reversed" = some none
  nabs : PySem.W.nsIn K mainGlobals "abs" = some none
theorem all_mk {P : Program} {w : World} {K : PySem.W.Frag} {h : Heap} {mg : Str → Option Value} {fa : Addr} (X : K.In h) (G : h.Ns mainGlobals mg) (hfa : mg "answers" = some (.ref fa)) (B : Facts K) :
    ∃ fd : FuncData, (∀ (s : Shared) (us : List Value), us.length = (["calls"] : List Str).length → BindsTo s fd ⟨us, []⟩ ((["calls"] : List Str).zip us)) ∧ ∀ base : Heap, K.In base → base.Ns mainGlobals mg → FnOk P w K mg base CX0 10 fa fd ["calls"] (spAll K) := by
  have gi : ∀ {x : Str} {z : Int}, (∃ t, PySem.W.nsIn K mainGlobals x = some (some (.int z t))) → ∃ t, mg x = some (.int z t) := fun ⟨t, e⟩ => ⟨t, PySem.W.mg_of X G e⟩
  have gn : ∀ {x : Str}, PySem.W.nsIn K mainGlobals x = some none → mg x = none := fun e => PySem.W.mg_none_of X G e
  obtain ⟨CN, CT, CW, xs⟩ := B.ex
  have T : Txt K mg CN CW := ⟨gi B.iMOST_VALUES, gi B.iFARTHEST_VALUE, gi B.iMOST_WEIGHT, PySem.W.mg_of X G xs.n, xs.xn, gn B.nlen, gn B.nsorted, gn B.nmin, gn B.nmax, gn B.nsum, gn B.nrange⟩
  have TB : TxtB K mg CT := ⟨PySem.W.mg_of X G xs.t, xs.xt, gn B.nset, gn B.nlist, gn B.nreversed, gn B.nabs, gi B.iTOO_GREAT⟩
  have TD : TxtD K mg CW := ⟨PySem.W.mg_of X G xs.w, xs.xw, gi B.iPLACES, gi B.iMOST_PAIRS, gi B.iMOST_TIMES, gi B.iMOST_PARTS, gi B.iDONE, gi B.iWRONG, gi B.iNO_FIT, gi B.iNONE_THERE, gi B.iWEIGHTS⟩
  have TX : TxtX K CN CT CW := ⟨xs.ww, xs.tw, xs.tt, xs.nw, xs.nt, xs.nn⟩
  obtain ⟨p6, s6⟩ := B.f6; obtain ⟨d6, F6⟩ := s6.fn; have m6 := PySem.W.mg_of X G s6.ns; have b6 := F6.binds (ps := ["a", "b"]) fun _ _ _ _ _ _ us hl => by obtain ⟨_, _, rfl⟩ := len2 hl; rfl
  obtain ⟨p7, s7⟩ := B.f7; obtain ⟨d7, F7⟩ := s7.fn; have m7 := PySem.W.mg_of X G s7.ns; have b7 := F7.binds (ps := ["weights"]) fun _ _ _ _ _ _ us hl => by obtain ⟨_, rfl⟩ := len1 hl; rfl
  obtain ⟨p8, s8⟩ := B.f8; obtain ⟨d8, F8⟩ := s8.fn; have m8 := PySem.W.mg_of X G s8.ns; have b8 := F8.binds (ps := ["form"]) fun _ _ _ _ _ _ us hl => by obtain ⟨_, rfl⟩ := len1 hl; rfl
  obtain ⟨p9, s9⟩ := B.f9; obtain ⟨d9, F9⟩ := s9.fn; have m9 := PySem.W.mg_of X G s9.ns; have b9 := F9.binds (ps := ["weights"]) fun _ _ _ _ _ _ us hl => by obtain ⟨_, rfl⟩ := len1 hl; rfl
  obtain ⟨p10, s10⟩ := B.f10; obtain ⟨d10, F10⟩ := s10.fn; have m10 := PySem.W.mg_of X G s10.ns; have b10 := F10.binds (ps := ["pairs"]) fun _ _ _ _ _ _ us hl => by obtain ⟨_, rfl⟩ := len1 hl; rfl
  obtain ⟨p11, s11⟩ := B.f11; obtain ⟨d11, F11⟩ := s11.fn; have m11 := PySem.W.mg_of X G s11.ns; have b11 := F11.binds (ps := ["lo", "hi"]) fun _ _ _ _ _ _ us hl => by obtain ⟨_, _, rfl⟩ := len2 hl; rfl
  obtain ⟨p12, s12⟩ := B.f12; obtain ⟨d12, F12⟩ := s12.fn; have m12 := PySem.W.mg_of X G s12.ns; have b12 := F12.binds (ps := ["f", "g"]) fun _ _ _ _ _ _ us hl => by obtain ⟨_, _, rfl⟩ := len2 hl; rfl
  obtain ⟨p13, s13⟩ := B.f13; obtain ⟨d13, F13⟩ := s13.fn; have m13 := PySem.W.mg_of X G s13.ns; have b13 := F13.binds (ps := ["f", "g", "order"]) fun _ _ _ _ _ _ us hl => by obtain ⟨_, _, _, rfl⟩ := len3 hl; rfl
  obtain ⟨p14, s14⟩ := B.f14; obtain ⟨d14, F14⟩ := s14.fn; have m14 := PySem.W.mg_of X G s14.ns; have b14 := F14.binds (ps := ["f", "g"]) fun _ _ _ _ _ _ us hl => by obtain ⟨_, _, rfl⟩ := len2 hl; rfl
  obtain ⟨p15, s15⟩ := B.f15; obtain ⟨d15, F15⟩ := s15.fn; have m15 := PySem.W.mg_of X G s15.ns; have b15 := F15.binds (ps := ["f", "g"]) fun _ _ _ _ _ _ us hl => by obtain ⟨_, _, rfl⟩ := len2 hl; rfl
  obtain ⟨p16, s16⟩ := B.f16; obtain ⟨d16, F16⟩ := s16.fn; have m16 := PySem.W.mg_of X G s16.ns; have b16 := F16.binds (ps := ["f", "n"]) fun _ _ _ _ _ _ us hl => by obtain ⟨_, _, rfl⟩ := len2 hl; rfl
  obtain ⟨p17, s17⟩ := B.f17; obtain ⟨d17, F17⟩ := s17.fn; have m17 := PySem.W.mg_of X G s17.ns; have b17 := F17.binds (ps := ["f", "g", "a", "b"]) fun _ _ _ _ _ _ us hl => by obtain ⟨_, _, _, _, rfl⟩ := len4 hl; rfl
  obtain ⟨p18, s18⟩ := B.f18; obtain ⟨d18, F18⟩ := s18.fn; have m18 := PySem.W.mg_of X G s18.ns; have b18 := F18.binds (ps := ["f", "lo", "hi"]) fun _ _ _ _ _ _ us hl => by obtain ⟨_, _, _, rfl⟩ := len3 hl; rfl
  obtain ⟨p19, s19⟩ := B.f19; obtain ⟨d19, F19⟩ := s19.fn; have m19 := PySem.W.mg_of X G s19.ns; have b19 := F19.binds (ps := ["f", "lo", "hi"]) fun _ _ _ _ _ _ us hl => by obtain ⟨_, _, _, rfl⟩ := len3 hl; rfl
  obtain ⟨p22, s22⟩ := B.f22; obtain ⟨d22, F22⟩ := s22.fn; have m22 := PySem.W.mg_of X G s22.ns; have b22 := F22.binds (ps := ["numerator", "denominator"]) fun _ _ _ _ _ _ us hl => by obtain ⟨_, _, rfl⟩ := len2 hl; rfl
  obtain ⟨p23, s23⟩ := B.f23; obtain ⟨d23, F23⟩ := s23.fn; have m23 := PySem.W.mg_of X G s23.ns; have b23 := F23.binds (ps := ["f"]) fun _ _ _ _ _ _ us hl => by obtain ⟨_, rfl⟩ := len1 hl; rfl
  obtain ⟨p24, s24⟩ := B.f24; obtain ⟨d24, F24⟩ := s24.fn; have m24 := PySem.W.mg_of X G s24.ns; have b24 := F24.binds (ps := ["f", "lo", "hi"]) fun _ _ _ _ _ _ us hl => by obtain ⟨_, _, _, rfl⟩ := len3 hl; rfl
  obtain ⟨p25, s25⟩ := B.f25; obtain ⟨d25, F25⟩ := s25.fn; have m25 := PySem.W.mg_of X G s25.ns; have b25 := F25.binds (ps := ["f", "g"]) fun _ _ _ _ _ _ us hl => by obtain ⟨_, _, rfl⟩ := len2 hl; rfl
  obtain ⟨p26, s26⟩ := B.f26; obtain ⟨d26, F26⟩ := s26.fn; have m26 := PySem.W.mg_of X G s26.ns; have b26 := F26.binds (ps := ["f"]) fun _ _ _ _ _ _ us hl => by obtain ⟨_, rfl⟩ := len1 hl; rfl
  obtain ⟨p27, s27⟩ := B.f27; obtain ⟨d27, F27⟩ := s27.fn; have m27 := PySem.W.mg_of X G s27.ns; have b27 := F27.binds (ps := ["f", "a", "b"]) fun _ _ _ _ _ _ us hl => by obtain ⟨_, _, _, rfl⟩ := len3 hl; rfl
  obtain ⟨p28, s28⟩ := B.f28; obtain ⟨d28, F28⟩ := s28.fn; have m28 := PySem.W.mg_of X G s28.ns; have b28 := F28.binds (ps := ["f"]) fun _ _ _ _ _ _ us hl => by obtain ⟨_, rfl⟩ := len1 hl; rfl
  obtain ⟨p41, s41⟩ := B.f41; obtain ⟨d41, F41⟩ := s41.fn; have m41 := PySem.W.mg_of X G s41.ns; have b41 := F41.binds (ps := ["kept", "place"]) fun _ _ _ _ _ _ us hl => by obtain ⟨_, _, rfl⟩ := len2 hl; rfl
  obtain ⟨p57, s57⟩ := B.f57; obtain ⟨d57, F57⟩ := s57.fn; have m57 := PySem.W.mg_of X G s57.ns; have b57 := F57.binds (ps := ["kept", "call"]) fun _ _ _ _ _ _ us hl => by obtain ⟨_, _, rfl⟩ := len2 hl; rfl
  obtain ⟨p58, s58⟩ := B.f58; obtain ⟨d58, F58⟩ := s58.fn; have m58 := PySem.W.mg_of X G s58.ns; have b58 := F58.binds (ps := ["kept", "call"]) fun _ _ _ _ _ _ us hl => by obtain ⟨_, _, rfl⟩ := len2 hl; rfl
  obtain ⟨p59, s59⟩ := B.f59; obtain ⟨d59, F59⟩ := s59.fn; have m59 := PySem.W.mg_of X G s59.ns; have b59 := F59.binds (ps := ["kept", "call"]) fun _ _ _ _ _ _ us hl => by obtain ⟨_, _, rfl⟩ := len2 hl; rfl
  obtain ⟨p60, s60⟩ := B.f60; obtain ⟨d60, F60⟩ := s60.fn; have m60 := PySem.W.mg_of X G s60.ns; have b60 := F60.binds (ps := ["calls", "start"]) fun _ _ _ _ _ _ us hl => by obtain ⟨_, _, rfl⟩ := len2 hl; rfl
  obtain ⟨p61, s61⟩ := B.f61; obtain ⟨d61, F61⟩ := s61.fn; have m61 := PySem.W.mg_of X G s61.ns; have b61 := F61.binds (ps := ["calls"]) fun _ _ _ _ _ _ us hl => by obtain ⟨_, rfl⟩ := len1 hl; rfl
  obtain ⟨aM, k0, k1, k2, k3, k4, k5, k6, k7, hM, u0, u1, u2, u3, u4, u5, u6, u7⟩ := B.mks
  obtain ⟨dm0, M0⟩ := u0.fn; have bm0 := M0.binds (ps := ["kept", "call"]) fun _ _ _ _ _ _ us hl => by obtain ⟨_, _, rfl⟩ := len2 hl; rfl
  obtain ⟨dm1, M1⟩ := u1.fn; have bm1 := M1.binds (ps := ["kept", "call"]) fun _ _ _ _ _ _ us hl => by obtain ⟨_, _, rfl⟩ := len2 hl; rfl
  obtain ⟨dm2, M2⟩ := u2.fn; have bm2 := M2.binds (ps := ["kept", "call"]) fun _ _ _ _ _ _ us hl => by obtain ⟨_, _, rfl⟩ := len2 hl; rfl
  obtain ⟨dm3, M3⟩ := u3.fn; have bm3 := M3.binds (ps := ["kept", "call"]) fun _ _ _ _ _ _ us hl => by obtain ⟨_, _, rfl⟩ := len2 hl; rfl
  obtain ⟨dm4, M4⟩ := u4.fn; have bm4 := M4.binds (ps := ["kept", "call"]) fun _ _ _ _ _ _ us hl => by obtain ⟨_, _, rfl⟩ := len2 hl; rfl
  obtain ⟨dm5, M5⟩ := u5.fn; have bm5 := M5.binds (ps := ["kept", "call"]) fun _ _ _ _ _ _ us hl => by obtain ⟨_, _, rfl⟩ := len2 hl; rfl
  obtain ⟨dm6, M6⟩ := u6.fn; have bm6 := M6.binds (ps := ["kept", "call"]) fun _ _ _ _ _ _ us hl => by obtain ⟨_, _, rfl⟩ := len2 hl; rfl
  obtain ⟨dm7, M7⟩ := u7.fn; have bm7 := M7.binds (ps := ["kept", "call"]) fun _ _ _ _ _ _ us hl => by obtain ⟨_, _, rfl⟩ := len2 hl; rfl
  obtain ⟨aT, j0, j1, j2, j3, j4, hT, v0, v1, v2, v3, v4⟩ := B.tes
  obtain ⟨dt0, N0⟩ := v0.fn; have bt0 := N0.binds (ps := ["kept", "call"]) fun _ _ _ _ _ _ us hl => by obtain ⟨_, _, rfl⟩ := len2 hl; rfl
  obtain ⟨dt1, N1⟩ := v1.fn; have bt1 := N1.binds (ps := ["kept", "call"]) fun _ _ _ _ _ _ us hl => by obtain ⟨_, _, rfl⟩ := len2 hl; rfl
  obtain ⟨dt2, N2⟩ := v2.fn; have bt2 := N2.binds (ps := ["kept", "call"]) fun _ _ _ _ _ _ us hl => by obtain ⟨_, _, rfl⟩ := len2 hl; rfl
  obtain ⟨dt3, N3⟩ := v3.fn; have bt3 := N3.binds (ps := ["kept", "call"]) fun _ _ _ _ _ _ us hl => by obtain ⟨_, _, rfl⟩ := len2 hl; rfl
  obtain ⟨dt4, N4⟩ := v4.fn; have bt4 := N4.binds (ps := ["kept", "call"]) fun _ _ _ _ _ _ us hl => by obtain ⟨_, _, rfl⟩ := len2 hl; rfl
  obtain ⟨aL, hL⟩ := B.ln
  have e := hfa.symm.trans m61
  cases e
  refine ⟨d61, ?_, fun base kb nb => ?_⟩
  · obtain ⟨oc, od, kV, doc, pm, an, cdv, ct, osl, e, lk, hcd⟩ := F61.ex
    rw [e]
    exact fun s us hu => by obtain ⟨_, rfl⟩ := len1 hu; exact .of_eq rfl
  have fit : Fit P w K mg base CN p9 d9 := Fit.make F9 b9 m9 T F6 b6 m6 F7 b7 m7 F8 b8 m8
  have pai : PaiF P w K mg base p10 d10 := ⟨ok_pairs F10 T, F10.kp, b10, m10⟩
  have eve : EveF P w K mg base CN p11 d11 := ⟨ok_even F11 T fit, F11.kp, b11, m11⟩
  have sum : SumF P w K mg base CN p12 d12 := ⟨ok_sum F12 T fit, F12.kp, b12, m12⟩
  have add : TwoF P w K mg base (fun p q => p + q) "sum_of" CN p12 d12 := ⟨(sum.ok.mono (by decide)).imp fun _ _ _ _ z => z, F12.kp, b12, m12⟩
  have lat : LatF P w K mg base CN p13 d13 := ⟨ok_later F13 T fit, F13.kp, b13, m13⟩
  have gre : TwoF P w K mg base opG "greater_of" CN p14 d14 := ⟨ok_great F14 T TB lat, F14.kp, b14, m14⟩
  have les : TwoF P w K mg base opL "lesser_of" CN p15 d15 := ⟨ok_less F15 T TB lat, F15.kp, b15, m15⟩
  have tim : TimF P w K mg base CN p16 d16 := ⟨ok_times F16 T sum, F16.kp, b16, m16⟩
  have mix : MixF P w K mg base CN p17 d17 := ⟨ok_mix F17 T fit, F17.kp, b17, m17⟩
  have par : ParF P w K mg base p18 d18 := ⟨ok_part F18, F18.kp, b18, m18⟩
  have giv : GivF P w K mg base CN CT p19 d19 := ⟨ok_given F19 T TB fit par, F19.kp, b19, m19⟩
  have mes : MesF P w K mg base CN p22 p23 d22 d23 := ⟨ok_frac F22 T TB F6 b6 m6, F22.kp, b22, m22, ok_whole F23 T, F23.kp, b23, m23⟩
  have cha : DefF P w K mg base (CXR P w) 3 "chance_between" ["f", "lo", "hi"] (spChance CN) p24 d24 := ⟨ok_chance F24 mes par, F24.kp, b24, m24⟩
  have bea : DefF P w K mg base (CXR P w) 3 "chance_to_beat" ["f", "g"] (spBeat CN) p25 d25 := ⟨ok_beat F25 T TB mes, F25.kp, b25, m25⟩
  have mea : DefF P w K mg base (CXR P w) 3 "mean" ["f"] (spMean CN) p26 d26 := ⟨ok_mean F26 mes, F26.kp, b26, m26⟩
  have qua : DefF P w K mg base CX0 2 "quantile" ["f", "a", "b"] spQuant p27 d27 := ⟨ok_quant F27 TB mes, F27.kp, b27, m27⟩
  have frm : DefF P w K mg base CX0 1 "form_row" ["f"] spForm p28 d28 := ⟨ok_form F28, F28.kp, b28, m28⟩
  have kep : KepF P w K mg base CW p41 d41 := ⟨ok_kept F41 TD, F41.kp, b41, m41⟩
  let FM : Nat → Addr := fun k => match k with | 0 => k0 | 1 => k1 | 2 => k2 | 3 => k3 | 4 => k4 | 5 => k5 | 6 => k6 | 7 => k7 | _ => 0
  let FT : Nat → Addr := fun k => match k with | 0 => j0 | 1 => j1 | 2 => j2 | 3 => j3 | 4 => j4 | _ => 0
  have mks : MksF P w K mg base CN CT CW aM FM := by
    refine ⟨hM.dict, fun k hk => ?_, PySem.W.mg_of X G hM.ns⟩
    match k, hk with
    | 0, _ => exact ⟨dm0, ok_mkW M0 T TD fit pai, M0.kp, bm0⟩
    | 1, _ => exact ⟨dm1, ok_mkE M1 TD eve, M1.kp, bm1⟩
    | 2, _ => exact ⟨dm2, ok_mkA M2 add kep, M2.kp, bm2⟩
    | 3, _ => exact ⟨dm3, ok_mkG M3 gre kep, M3.kp, bm3⟩
    | 4, _ => exact ⟨dm4, ok_mkL M4 les kep, M4.kp, bm4⟩
    | 5, _ => exact ⟨dm5, ok_mkT M5 TD tim kep, M5.kp, bm5⟩
    | 6, _ => exact ⟨dm6, ok_mkM M6 TD mix kep, M6.kp, bm6⟩
    | 7, _ => exact ⟨dm7, ok_mkC M7 giv kep, M7.kp, bm7⟩
    | k + 8, hk => exact absurd hk (by omega)
  have tes : TesF P w K mg base CN CT CW aT FT := by
    refine ⟨hT.dict, fun k hk => ?_, PySem.W.mg_of X G hT.ns⟩
    match k, hk with
    | 0, _ => exact ⟨dt0, ok_teC N0 cha kep, N0.kp, bt0⟩
    | 1, _ => exact ⟨dt1, ok_teB N1 bea kep, N1.kp, bt1⟩
    | 2, _ => exact ⟨dt2, ok_teM N2 mea kep, N2.kp, bt2⟩
    | 3, _ => exact ⟨dt3, ok_teQ N3 TD qua kep, N3.kp, bt3⟩
    | 4, _ => exact ⟨dt4, ok_teF N4 frm kep, N4.kp, bt4⟩
    | k + 5, hk => exact absurd hk (by omega)
  have by_ : DefF P w K mg base (CXR P w) 7 "made_by" ["kept", "call"] (spBy CN CT CW) p57 d57 := ⟨ok_by F57 TD mks, F57.kp, b57, m57⟩
  have tol : DefF P w K mg base (CXR P w) 8 "told_by" ["kept", "call"] (spTold CN CT CW) p58 d58 := ⟨ok_told F58 mks tes by_, F58.kp, b58, m58⟩
  have ans : DefF P w K mg base (CXR P w) 9 "answer_to" ["kept", "call"] spAns1 p59 d59 := ⟨ok_ans1 F59 T TB TD TX tol, F59.kp, b59, m59⟩
  have cal : DefF P w K mg base CX0 1 "call_at" ["calls", "start"] (spCallAt K) p60 d60 := ⟨ok_call F60 TD ⟨hL.dict, PySem.W.mg_of X G hL.ns⟩, F60.kp, b60, m60⟩
  exact ok_all F61 T cal ans
theorem spec_all {K : PySem.W.Frag} {H : Hp} {xs : List V} {ns : List Int} (hx : DwAll K H xs [PySem.W.WData.list (ns.map PySem.W.WData.int)]) (ha : PyWqamar.answers_asked ns = true) :
    spAll K xs H (fun v H' => Dw K H' v (PySem.W.WData.list ((PyWqamar.answers ns).map PySem.W.WData.int))) fun _ _ _ => False := by
  cases hx with
  | cons h1 h2 =>
    cases h2
    cases h1 with
    | lst hs hd =>
      have e := ints_dw ns _ hd
      subst e
      obtain ⟨c, hc, R⟩ := answers_run ha
      exact ⟨_, ns, _, c, rfl, hs, R, hc, fun H' p hp => .lst (SqL.of hp) (dw_ints _)⟩
end Ev
end
open PySem PySem.W PyProof.Rows
set_option Elab.async false
set_option maxRecDepth 100000 in
set_option maxHeartbeats 0 in
theorem PySem.Challenge.cw_evenshare_s01_answers_holds : PySem.Challenge.rw_evenshare_s01_answers.Holds := by
  w_on; k_headS; (case hw => exact ⟨[.list [.int 12, .int 0]], by decide +kernel, by decide +kernel⟩)
  k_fillS
  refine L2.walk_specK (r := PySem.Challenge.rw_evenshare_s01_answers) (k := 10) (CX := L2.CX0) (ps := ["calls"]) (sp := Ev.spAll) (by decide +kernel) rfl rfl ⟨rfl, by decide, by decide⟩ (fun w h Y => PySem.W.kIn_of Y) ?F ?S (fun _ _ _ _ z => z)
  case F =>
    intro w mg fa h Y KX G hmg
    refine Ev.all_mk KX G hmg ?B
    refine' ⟨?f6, ?f7, ?f8, ?f9, ?f10, ?f11, ?f12, ?f13, ?f14, ?f15, ?f16, ?f17, ?f18, ?f19, ?f22, ?f23, ?f24, ?f25, ?f26, ?f27, ?f28, ?f41, ?f57, ?f58, ?f59, ?f60, ?f61, ?mks, ?tes, ?ln, ?ex, ?iMOST_VALUES, ?iFARTHEST_VALUE, ?iMOST_WEIGHT, ?iTOO_GREAT, ?iPLACES, ?iMOST_PAIRS, ?iMOST_TIMES, ?iMOST_PARTS, ?iDONE, ?iWRONG, ?iNO_FIT, ?iNONE_THERE, ?iWEIGHTS, ?nlen, ?nsorted, ?nmin, ?nmax, ?nsum, ?nrange, ?nset, ?nlist, ?nreversed, ?nabs⟩
    (case f6 => refine' ⟨_, Ev.fn_mk ?a ?l ?c ?k⟩; (case a => k_is); (case l => k_is); (case c => k_is); (case k => k_is))
    (case f7 => refine' ⟨_, Ev.fn_mk ?a ?l ?c ?k⟩; (case a => k_is); (case l => k_is); (case c => k_is); (case k => k_is))
    (case f8 => refine' ⟨_, Ev.fn_mk ?a ?l ?c ?k⟩; (case a => k_is); (case l => k_is); (case c => k_is); (case k => k_is))
    (case f9 => refine' ⟨_, Ev.fn_mk ?a ?l ?c ?k⟩; (case a => k_is); (case l => k_is); (case c => k_is); (case k => k_is))
    (case f10 => refine' ⟨_, Ev.fn_mk ?a ?l ?c ?k⟩; (case a => k_is); (case l => k_is); (case c => k_is); (case k => k_is))
    (case f11 => refine' ⟨_, Ev.fn_mk ?a ?l ?c ?k⟩; (case a => k_is); (case l => k_is); (case c => k_is); (case k => k_is))
    (case f12 => refine' ⟨_, Ev.fn_mk ?a ?l ?c ?k⟩; (case a => k_is); (case l => k_is); (case c => k_is); (case k => k_is))
    (case f13 => refine' ⟨_, Ev.fn_mk ?a ?l ?c ?k⟩; (case a => k_is); (case l => k_is); (case c => k_is); (case k => k_is))
    (case f14 => refine' ⟨_, Ev.fn_mk ?a ?l ?c ?k⟩; (case a => k_is); (case l => k_is); (case c => k_is); (case k => k_is))
    (case f15 => refine' ⟨_, Ev.fn_mk ?a ?l ?c ?k⟩; (case a => k_is); (case l => k_is); (case c => k_is); (case k => k_is))
    (case f16 => refine' ⟨_, Ev.fn_mk ?a ?l ?c ?k⟩; (case a => k_is); (case l => k_is); (case c => k_is); (case k => k_is))
    (case f17 => refine' ⟨_, Ev.fn_mk ?a ?l ?c ?k⟩; (case a => k_is); (case l => k_is); (case c => k_is); (case k => k_is))
    (case f18 => refine' ⟨_, Ev.fn_mk ?a ?l ?c ?k⟩; (case a => k_is); (case l => k_is); (case c => k_is); (case k => k_is))
    (case f19 => refine' ⟨_, Ev.fn_mk ?a ?l ?c ?k⟩; (case a => k_is); (case l => k_is); (case c => k_is); (case k => k_is))
    (case f22 => refine' ⟨_, Ev.fn_mk ?a ?l ?c ?k⟩; (case a => k_is); (case l => k_is); (case c => k_is); (case k => k_is))
    (case f23 => refine' ⟨_, Ev.fn_mk ?a ?l ?c ?k⟩; (case a => k_is); (case l => k_is); (case c => k_is); (case k => k_is))
    (case f24 => refine' ⟨_, Ev.fn_mk ?a ?l ?c ?k⟩; (case a => k_is); (case l => k_is); (case c => k_is); (case k => k_is))
    (case f25 => refine' ⟨_, Ev.fn_mk ?a ?l ?c ?k⟩; (case a => k_is); (case l => k_is); (case c => k_is); (case k => k_is))
    (case f26 => refine' ⟨_, Ev.fn_mk ?a ?l ?c ?k⟩; (case a => k_is); (case l => k_is); (case c => k_is); (case k => k_is))
    (case f27 => refine' ⟨_, Ev.fn_mk ?a ?l ?c ?k⟩; (case a => k_is); (case l => k_is); (case c => k_is); (case k => k_is))
    (case f28 => refine' ⟨_, Ev.fn_mk ?a ?l ?c ?k⟩; (case a => k_is); (case l => k_is); (case c => k_is); (case k => k_is))
    (case f41 => refine' ⟨_, Ev.fn_mk ?a ?l ?c ?k⟩; (case a => k_is); (case l => k_is); (case c => k_is); (case k => k_is))
    (case f57 => refine' ⟨_, Ev.fn_mk ?a ?l ?c ?k⟩; (case a => k_is); (case l => k_is); (case c => k_is); (case k => k_is))
    (case f58 => refine' ⟨_, Ev.fn_mk ?a ?l ?c ?k⟩; (case a => k_is); (case l => k_is); (case c => k_is); (case k => k_is))
    (case f59 => refine' ⟨_, Ev.fn_mk ?a ?l ?c ?k⟩; (case a => k_is); (case l => k_is); (case c => k_is); (case k => k_is))
    (case f60 => refine' ⟨_, Ev.fn_mk ?a ?l ?c ?k⟩; (case a => k_is); (case l => k_is); (case c => k_is); (case k => k_is))
    (case f61 => refine' ⟨_, Ev.fn_mk ?a ?l ?c ?k⟩; (case a => k_is); (case l => k_is); (case c => k_is); (case k => k_is))
    (case mks => refine' ⟨_, _, _, _, _, _, _, _, _, Ev.kd_mk ?a1 ?a2 ?a3 ?a4 ?a5, Ev.fn_mk ?a10 ?l10 ?c10 ?k10, Ev.fn_mk ?a20 ?l20 ?c20 ?k20, Ev.fn_mk ?a30 ?l30 ?c30 ?k30, Ev.fn_mk ?a40 ?l40 ?c40 ?k40, Ev.fn_mk ?a50 ?l50 ?c50 ?k50, Ev.fn_mk ?a60 ?l60 ?c60 ?k60, Ev.fn_mk ?a70 ?l70 ?c70 ?k70, Ev.fn_mk ?a80 ?l80 ?c80 ?k80⟩; (case a10 => k_is); (case l10 => k_is); (case c10 => k_is); (case k10 => k_is); (case a20 => k_is); (case l20 => k_is); (case c20 => k_is); (case k20 => k_is); (case a30 => k_is); (case l30 => k_is); (case c30 => k_is); (case k30 => k_is); (case a40 => k_is); (case l40 => k_is); (case c40 => k_is); (case k40 => k_is); (case a50 => k_is); (case l50 => k_is); (case c50 => k_is); (case k50 => k_is); (case a60 => k_is); (case l60 => k_is); (case c60 => k_is); (case k60 => k_is); (case a70 => k_is); (case l70 => k_is); (case c70 => k_is); (case k70 => k_is); (case a80 => k_is); (case l80 => k_is); (case c80 => k_is); (case k80 => k_is); (case a1 => k_is); (case a2 => k_is); (case a3 => kernel_rfl); (case a4 => kernel_rfl); (case a5 => exact Ev.mk_nd))
    (case tes => refine' ⟨_, _, _, _, _, _, Ev.kd_mk ?a1 ?a2 ?a3 ?a4 ?a5, Ev.fn_mk ?a10 ?l10 ?c10 ?k10, Ev.fn_mk ?a20 ?l20 ?c20 ?k20, Ev.fn_mk ?a30 ?l30 ?c30 ?k30, Ev.fn_mk ?a40 ?l40 ?c40 ?k40, Ev.fn_mk ?a50 ?l50 ?c50 ?k50⟩; (case a10 => k_is); (case l10 => k_is); (case c10 => k_is); (case k10 => k_is); (case a20 => k_is); (case l20 => k_is); (case c20 => k_is); (case k20 => k_is); (case a30 => k_is); (case l30 => k_is); (case c30 => k_is); (case k30 => k_is); (case a40 => k_is); (case l40 => k_is); (case c40 => k_is); (case k40 => k_is); (case a50 => k_is); (case l50 => k_is); (case c50 => k_is); (case k50 => k_is); (case a1 => k_is); (case a2 => k_is); (case a3 => kernel_rfl); (case a4 => kernel_rfl); (case a5 => exact Ev.te_nd))
    (case ln => refine' ⟨_, Ev.kd_mk ?a1 ?a2 ?a3 ?a4 Ev.len_nd⟩; (case a1 => k_is); (case a2 => k_is); (case a3 => kernel_rfl); (case a4 => kernel_rfl))
    (case ex => refine' ⟨_, _, _, ?x1, ?x2, ?x3, Ev.exc_mk ?l1 ?o1 ?i1 ?t1, Ev.exc_mk ?l2 ?o2 ?i2 ?t2, Ev.exc_mk ?l3 ?o3 ?i3 ?t3, ?y1, ?y2, ?y3, ?y4, ?y5, ?y6⟩; (case x1 => k_is); (case x2 => k_is); (case x3 => k_is); (case l1 => k_is); (case o1 => kernel_rfl); (case i1 => k_is); (case t1 => kernel_rfl); (case l2 => k_is); (case o2 => kernel_rfl); (case i2 => k_is); (case t2 => kernel_rfl); (case l3 => k_is); (case o3 => kernel_rfl); (case i3 => k_is); (case t3 => kernel_rfl); (case y1 => kernel_rfl); (case y2 => kernel_rfl); (case y3 => kernel_rfl); (case y4 => kernel_rfl); (case y5 => kernel_rfl); (case y6 => kernel_rfl))
    (case iMOST_VALUES => refine' Ev.int_mk ?a; (case a => k_is))
    (case iFARTHEST_VALUE => refine' Ev.int_mk ?a; (case a => k_is))
    (case iMOST_WEIGHT => refine' Ev.int_mk ?a; (case a => k_is))
    (case iTOO_GREAT => refine' Ev.int_mk ?a; (case a => k_is))
    (case iPLACES => refine' Ev.int_mk ?a; (case a => k_is))
    (case iMOST_PAIRS => refine' Ev.int_mk ?a; (case a => k_is))
    (case iMOST_TIMES => refine' Ev.int_mk ?a; (case a => k_is))
    (case iMOST_PARTS => refine' Ev.int_mk ?a; (case a => k_is))
    (case iDONE => refine' Ev.int_mk ?a; (case a => k_is))
    (case iWRONG => refine' Ev.int_mk ?a; (case a => k_is))
    (case iNO_FIT => refine' Ev.int_mk ?a; (case a => k_is))
    (case iNONE_THERE => refine' Ev.int_mk ?a; (case a => k_is))
    (case iWEIGHTS => refine' Ev.int_mk ?a; (case a => k_is))
    (case nlen => k_is)
    (case nsorted => k_is)
    (case nmin => k_is)
    (case nmax => k_is)
    (case nsum => k_is)
    (case nrange => k_is)
    (case nset => k_is)
    (case nlist => k_is)
    (case nreversed => k_is)
    (case nabs => k_is)
  case S =>
    intro K H xs a hO hwi hask hx
    exact Ev.spec_all (ns := a.1) hx hask

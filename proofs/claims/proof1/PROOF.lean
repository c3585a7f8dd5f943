import PyProof.Rows.All
import Wide.All
import OpenK.AllK
import Wide.FinOn
import PyProof.EqAt
import PyProof.EqKinds
import PyProof.TupleCall
import KE.BitLaws
import Open.SpecLaws
import KE.OsHead
import KE.OsGo
import PyFlatLaws
import PySem.Challenge.RW_restsquares_s01_answers
section
-- CHANGE: your row's module here, as the last of these rows
set_option Elab.async false
set_option linter.all false
set_option maxRecDepth 100000
namespace L2
open PySem PySem.Spec PyProof.Rows

noncomputable abbrev Key := Sum Int Str
noncomputable def keyIs : Key → Value → Bool
  | .inl k, v => Value.isInt k v
  | .inr x, v => Value.isStrOf x v
noncomputable def keyH (w : World) : Key → Int
  | .inl k => hashInt k
  | .inr x => hashStr w x
theorem keyIs_shape : ∀ {k : Key} {v : Value}, keyIs k v = true → (∃ i t, k = Sum.inl i ∧ v = Value.int i t) ∨ (∃ x t, k = Sum.inr x ∧ v = Value.str x t)
  | .inl i, v, h => by
    obtain ⟨t, e⟩ := Value.isInt_shape (k := i) (v := v) h
    exact .inl ⟨i, t, rfl, e⟩
  | .inr x, v, h => by
    obtain ⟨t, e⟩ := Value.isStrOf_shape (x := x) (v := v) h
    exact .inr ⟨x, t, rfl, e⟩
theorem key_ll (a b : Int) : decide ((Sum.inl a : Key) = Sum.inl b) = (a == b) := by
  by_cases e : a = b
  · subst e; simp
  · have h : ¬ (Sum.inl a : Key) = Sum.inl b := fun q => e (Sum.inl.inj q)
    rw [decide_eq_false h]
    exact (beq_eq_false_iff_ne.mpr e).symm
theorem key_rr (a b : Str) : decide ((Sum.inr a : Key) = Sum.inr b) = decide (a = b) := by
  by_cases e : a = b
  · subst e; simp
  · have h : ¬ (Sum.inr a : Key) = Sum.inr b := fun q => e (Sum.inr.inj q)
    rw [decide_eq_false h, decide_eq_false e]
theorem key_lr (a : Int) (b : Str) : decide ((Sum.inl a : Key) = Sum.inr b) = false := decide_eq_false (fun q => nomatch q)
theorem key_rl (a : Str) (b : Int) : decide ((Sum.inr a : Key) = Sum.inl b) = false := decide_eq_false (fun q => nomatch q)

noncomputable def mixKind (prog : Program) (w : World) : PySem.KeyKind prog w Key where
  is := keyIs
  hash := keyH w
  inj := fun v a b ha hb => by
    rcases keyIs_shape ha with ⟨i, t, rfl, rfl⟩ | ⟨x, t, rfl, rfl⟩
    · rcases keyIs_shape hb with ⟨j, u, rfl, e⟩ | ⟨y, u, rfl, e⟩
      · injection e with e1 _; rw [e1]
      · exact nomatch e
    · rcases keyIs_shape hb with ⟨j, u, rfl, e⟩ | ⟨y, u, rfl, e⟩
      · exact nomatch e
      · injection e with e1 _; rw [e1]
  byValue := fun k v h => by
    rcases keyIs_shape h with ⟨i, t, rfl, rfl⟩ | ⟨x, t, rfl, rfl⟩ <;> rfl
  pyHash := fun hv h => by
    rcases keyIs_shape hv with ⟨i, t, rfl, rfl⟩ | ⟨x, t, rfl, rfl⟩
    · exact wpAny_pyHash_int h
    · exact wpAny_pyHash_str h
  eqBool := fun hu hv h => by
    rcases keyIs_shape hu with ⟨i, t, rfl, rfl⟩ | ⟨x, t, rfl, rfl⟩
    · rcases keyIs_shape hv with ⟨j, u, rfl, rfl⟩ | ⟨y, u, rfl, rfl⟩
      · rw [key_ll] at h; exact wpAny_eqBool_int h
      · rw [key_lr] at h; exact SeqAt.EqAt.int_str i t y u _ _ _ _ h
    · rcases keyIs_shape hv with ⟨j, u, rfl, rfl⟩ | ⟨y, u, rfl, rfl⟩
      · rw [key_rl] at h; exact SeqAt.EqAt.str_int x t j u _ _ _ _ h
      · rw [key_rr] at h; exact wpAny_eqBool_str h
  «strs» := fun k x t v h => by
    rcases keyIs_shape h with ⟨i, u, rfl, e⟩ | ⟨y, u, rfl, e⟩
    · exact nomatch e
    · injection e with e1 _
      subst e1
      cases v <;> rfl

end L2

namespace L2
open PySem PySem.Spec PyProof.Rows

inductive V where
  | non | bl (b : Bool) | int (i : Int) | str (x : Str) | byt (b : Array UInt8) | flt (b : UInt64) | ref (a : Addr) | ty (n : String)
  deriving DecidableEq

noncomputable def RelV : V → Value → Prop
  | .non, u => u = Value.none
  | .bl b, u => u = Value.bool b
  | .int i, u => ∃ t, u = Value.int i t
  | .str x, u => ∃ t, u = Value.str x t
  | .byt b, u => ∃ t, u = Value.bytes b t
  | .flt b, u => ∃ t, u = Value.float b t
  | .ref a, u => u = Value.ref a
  | .ty n, u => u = Value.type n

noncomputable abbrev Vals : List V → List Value → Prop := Paired RelV
theorem Vals.length {xs : List V} {us : List Value} (r : Vals xs us) : xs.length = us.length := Paired.length r
theorem Vals.get : ∀ {xs : List V} {us : List Value} {i : Nat} {x : V}, Vals xs us → xs[i]? = some x → ∃ u, us[i]? = some u ∧ RelV x u
  | _, _, _, _, .nil, e => by simp at e
  | _, _, 0, _, .cons r _, e => by simp at e; subst e; exact ⟨_, rfl, r⟩
  | _, _, i + 1, x, .cons _ t, e => by
    obtain ⟨u, h1, h2⟩ := Vals.get (i := i) (x := x) t (by simpa using e)
    exact ⟨u, by simpa using h1, h2⟩
theorem Vals.set {x : V} {u : Value} (r : RelV x u) : ∀ {xs : List V} {us : List Value} (i : Nat), Vals xs us → Vals (xs.set i x) (us.set i u)
  | _, _, _, .nil => .nil
  | _, _, 0, .cons _ t => .cons r t
  | _, _, i + 1, .cons q t => .cons q (Vals.set r i t)
theorem Vals.append : ∀ {xs ys : List V} {us ws : List Value}, Vals xs us → Vals ys ws → Vals (xs ++ ys) (us ++ ws)
  | _, _, _, _, .nil, s => s
  | _, _, _, _, .cons r t, s => .cons r (Vals.append t s)
theorem Vals.take : ∀ {xs : List V} {us : List Value} (n : Nat), Vals xs us → Vals (xs.take n) (us.take n)
  | _, _, 0, _ => .nil
  | _, _, _ + 1, .nil => .nil
  | _, _, n + 1, .cons r t => .cons r (Vals.take n t)
theorem Vals.drop : ∀ {xs : List V} {us : List Value} (n : Nat), Vals xs us → Vals (xs.drop n) (us.drop n)
  | _, _, 0, r => r
  | _, _, _ + 1, .nil => .nil
  | _, _, n + 1, .cons _ t => Vals.drop n t
noncomputable def RelO : Option V → Option Value → Prop
  | some v, some u => RelV v u
  | none, none => True
  | _, _ => False
noncomputable def KV {κ : Type} : List (κ × V) → List (κ × Value) → Prop := Paired fun (p : κ × V) (q : κ × Value) => p.1 = q.1 ∧ RelV p.2 q.2

noncomputable def kV : Key → V
  | .inl i => .int i
  | .inr x => .str x

inductive HO where
  /-- a list -/
  | lst (xs : List V)
  /-- a tuple (never changes) -/
  | tup (xs : List V)
  /-- a dict whose keys are ints and texts; one whose keys are tuples of ints and texts (the empty one is both) -/
  | dK (kvs : List (Key × V)) | dT (kvs : List (List Key × V))
  /-- a set of ints: its members, its size -/
  | set (S : Int → Bool) (n : Nat)
  /-- an instance of the class at C, its dict at dx, its attributes -/
  | ins (C dx : Addr) (fs : List (Str × V))
  /-- the dict of the instance at x -/
  | own (x : Addr)
  /-- the dict of an exception -/
  | xd (fs : List (Str × V))
  /-- a bound method, f of x -/
  | met (f x : Addr)
  /-- a range object lo, lo + 1, .. below hi -/
  | rng (lo hi : Int)
  /-- a thing that is known to the object (the script; a dict while a loop walks it): read, never written while it is so -/
  | frz (o : Obj) (u : HO)
  /-- a code object's table -/
  | tbl (ps : Array Value)
  /-- any other thing, by what is true of its one object (a def of one's own: SetO a S n := HO.ext fun h => ..) -/
  | ext (φ : Heap → Prop)

noncomputable abbrev Hp := Addr → Option HO
noncomputable def upd (H : Hp) (a : Addr) (o : HO) : Hp := fun b => if b = a then some o else H b
theorem upd_same {H : Hp} {a : Addr} {o : HO} : upd H a o a = some o := by unfold upd; rw [if_pos rfl]
theorem upd_ne {H : Hp} {a b : Addr} {o : HO} (h : b ≠ a) : upd H a o b = H b := by unfold upd; rw [if_neg h]
theorem ne_of {H : Hp} {a b : Addr} {o u : HO} (h : H a = some o) (h' : H b = some u) (d : o ≠ u) : a ≠ b := by
  intro e; subst e; rw [h] at h'; exact d (Option.some.inj h')
theorem ne_of_none {H : Hp} {a b : Addr} {o : HO} (h : H a = some o) (h' : H b = none) : a ≠ b := by
  intro e; subst e; rw [h] at h'; cases h'

section
variable (P : Program) (w : World)
noncomputable def ObjOk (H : Hp) (h : Heap) (a : Addr) : HO → Prop
  | .lst xs => xs.length ≤ sizeLine ∧ ∃ (its : List Value) (n : Nat), Vals xs its ∧ h.get? a = some { cls := .type "list", data := .seq its.toArray n }
  | .tup xs => xs.length ≤ sizeLine ∧ ∃ its : List Value, Vals xs its ∧ IsTup h a its.toArray
  | .dK kvs => kvs.length ≤ sizeLine ∧ (a == sysModules) = false ∧ ∃ vs, KV kvs vs ∧ h.DictOf (mixKind P w) a vs
  | .dT kvs => kvs.length ≤ sizeLine ∧ (a == sysModules) = false ∧ ∃ xs : List (List Key × Addr × Value),
      Paired (fun (p : List Key × V) (q : List Key × Addr × Value) => p.1 = q.1 ∧ H q.2.1 = some (.tup (p.1.map kV)) ∧ RelV p.2 q.2.2) kvs xs ∧
      ∃ o es ep, h.get? a = some o ∧ o.ExactDict ∧ o.data = .dict es ep ∧ es.toList = xs.map (entryOfKey (tupleKind (mixKind P w))) ∧ (xs.map (·.1)).Nodup
  | .set S n => h.SetOf (intKind P w) a S n
  | .ins C dx fs => H dx = some (.own a) ∧ fs.length ≤ 1000 ∧ dx ≠ a ∧ h.get? a = some (PySem.W.instObj C dx) ∧
      ∃ mA, h.Ns1 dx mA ∧ (∀ f, RelO (fs.lookup f) (mA f)) ∧ PySem.Within mA (fs.map (·.1))
  | .own _ => ∃ o, h.get? a = some o
  | .xd fs => ∃ mA, h.Ns1 a mA ∧ ∀ f, RelO (fs.lookup f) (mA f)
  | .rng lo hi => ∃ t u v, h.get? a = some { cls := .type "range", data := .fields #[.int lo t, .int hi u, .int 1 v] }
  | .frz o u => h.get? a = some o ∧ ObjOk H h a u
  | .tbl ps => h.get? a = some { cls := .none, data := .fields ps }
  | .met f x => h.get? a = some (PySem.W.methodObj (.ref f) (.ref x))
  | .ext φ => φ h ∧ (∃ o, h.get? a = some o) ∧ ∀ h1 h2 : Heap, φ h1 → (∀ o, h1.get? a = some o → h2.get? a = some o) → φ h2
noncomputable def HOk (H : Hp) (h : Heap) : Prop := ∀ a o, H a = some o → ObjOk P w H h a o
end

section
variable {P : Program} {w : World} {H H' : Hp} {h h' : Heap} {a : Addr} {o : HO}
theorem ObjOk.lt (x : ObjOk P w H h a o) : a < h.objs.size := by
  cases o with
  | lst xs => obtain ⟨_, _, _, _, e⟩ := x; exact Heap.lt_size e
  | tup xs => obtain ⟨_, _, _, p⟩ := x; exact p.lt
  | dK kvs => obtain ⟨_, _, _, _, o, _, _, e, _⟩ := x; exact Heap.lt_size e
  | dT kvs => obtain ⟨_, _, _, _, o, _, _, e, _⟩ := x; exact Heap.lt_size e
  | set S n => obtain ⟨o, _, _, _, e, _⟩ := x; exact Heap.lt_size e
  | ins C dx fs => obtain ⟨_, _, _, e, _⟩ := x; exact Heap.lt_size e
  | own y => obtain ⟨_, e⟩ := x; exact Heap.lt_size e
  | xd fs => obtain ⟨_, ⟨_, _, _, e, _⟩, _⟩ := x; exact Heap.lt_size e
  | rng lo hi => obtain ⟨_, _, _, e⟩ := x; exact Heap.lt_size e
  | frz ob u => obtain ⟨e, _⟩ := x; exact Heap.lt_size e
  | tbl ps => exact Heap.lt_size (show h.get? a = some _ from x)
  | met f y => exact Heap.lt_size (show h.get? a = some _ from x)
  | ext φ => obtain ⟨_, ⟨_, e⟩, _⟩ := x; exact Heap.lt_size e
theorem Paired.mapP {α β : Type} {F G : α → β → Prop} : ∀ {l₁ : List α} {l₂ : List β}, Paired F l₁ l₂ → (∀ a b, F a b → G a b) → Paired G l₁ l₂
  | _, _, .nil, _ => .nil
  | _, _, .cons r t, f => .cons (f _ _ r) (Paired.mapP t f)
theorem ObjOk.stay (x : ObjOk P w H h a o) (k : ∀ b u, (b = a ∨ H b = some (.own a)) → h.get? b = some u → h'.get? b = some u)
    (ho : ∀ b, H b = some (.own a) → H' b = some (.own a)) (ht : ∀ b xs, H b = some (.tup xs) → H' b = some (.tup xs)) : ObjOk P w H' h' a o := by
  induction o with
  | lst xs => obtain ⟨z, its, n, r, e⟩ := x; exact ⟨z, its, n, r, k _ _ (.inl rfl) e⟩
  | tup xs => obtain ⟨z, its, r, ob, e, c⟩ := x; exact ⟨z, its, r, ob, k _ _ (.inl rfl) e, c⟩
  | dK kvs => obtain ⟨z, y, vs, r, ob, es, ep, e, c⟩ := x; exact ⟨z, y, vs, r, ob, es, ep, k _ _ (.inl rfl) e, c⟩
  | dT kvs =>
    obtain ⟨z, y, xs, r, ob, es, ep, e, c⟩ := x
    exact ⟨z, y, xs, Paired.mapP r fun p q z => ⟨z.1, ht _ _ z.2.1, z.2.2⟩, ob, es, ep, k _ _ (.inl rfl) e, c⟩
  | set S n => obtain ⟨ob, es, ep, t, e, c⟩ := x; exact ⟨ob, es, ep, t, k _ _ (.inl rfl) e, c⟩
  | ins C dx fs =>
    obtain ⟨d, z, ne, e, mA, ⟨od, es, ep, e2, c⟩, r⟩ := x
    exact ⟨ho _ d, z, ne, k _ _ (.inl rfl) e, mA, ⟨od, es, ep, k _ _ (.inr d) e2, c⟩, r⟩
  | own y => obtain ⟨ob, e⟩ := x; exact ⟨ob, k _ _ (.inl rfl) e⟩
  | xd fs => obtain ⟨mA, ⟨od, es, ep, e, c⟩, r⟩ := x; exact ⟨mA, ⟨od, es, ep, k _ _ (.inl rfl) e, c⟩, r⟩
  | rng lo hi => obtain ⟨t, u, v, e⟩ := x; exact ⟨t, u, v, k _ _ (.inl rfl) e⟩
  | frz ob u ih => obtain ⟨e, q⟩ := x; exact ⟨k _ _ (.inl rfl) e, ih q⟩
  | tbl ps =>
    have e : h.get? a = some { cls := .none, data := .fields ps } := x
    show h'.get? a = some { cls := .none, data := .fields ps }
    exact k a _ (.inl rfl) e
  | met f y =>
    have e : h.get? a = some (PySem.W.methodObj (.ref f) (.ref y)) := x
    show h'.get? a = some (PySem.W.methodObj (.ref f) (.ref y))
    exact k a _ (.inl rfl) e
  | ext φ => obtain ⟨p, ⟨o, e⟩, st⟩ := x; exact ⟨st _ _ p fun o q => k _ _ (.inl rfl) q, ⟨o, k _ _ (.inl rfl) e⟩, st⟩
theorem HOk.lt (x : HOk P w H h) (e : H a = some o) : a < h.objs.size := (x a o e).lt
theorem HOk.fresh (x : HOk P w H h) (e : h.objs.size ≤ a) : H a = none := by
  cases q : H a with
  | none => rfl
  | some u => exact absurd (Nat.lt_of_lt_of_le (x.lt q) e) (Nat.lt_irrefl _)
theorem HOk.kept (x : HOk P w H h) (k : ∀ b u, h.get? b = some u → h'.get? b = some u) : HOk P w H h' := fun a o e =>
  (x a o e).stay (fun b u _ q => k b u q) (fun _ q => q) fun _ _ q => q
theorem HOk.laid (x : HOk P w H h) (k : ∀ b u, h.get? b = some u → h'.get? b = some u) (hp : h.objs.size ≤ a) (new : ObjOk P w (upd H a o) h' a o) : HOk P w (upd H a o) h' := fun b u e => by
  have hn := x.fresh hp
  by_cases hb : b = a
  · subst hb; rw [upd_same] at e; cases e; exact new
  · rw [upd_ne hb] at e
    exact (x b u e).stay (fun c v _ q => k c v q) (fun c q => by rw [upd_ne (ne_of_none q hn)]; exact q) fun c xs q => by rw [upd_ne (ne_of_none q hn)]; exact q
end

noncomputable def Rd (H : Hp) (a : Addr) (u : HO) : Prop := H a = some u ∨ ∃ o, H a = some (.frz o u)
theorem Rd.ok {P : Program} {w : World} {H : Hp} {h : Heap} {a : Addr} {u : HO} (r : Rd H a u) (x : HOk P w H h) : ObjOk P w H h a u := by
  rcases r with r | ⟨o, r⟩
  · exact x a u r
  · obtain ⟨_, q⟩ := x a _ r
    exact q
noncomputable def Mut : Option HO → Prop
  | some (.lst _) => True
  | some (.dK _) => True
  | some (.dT _) => True
  | some (.set _ _) => True
  | some (.ins _ _ _) => True
  | some (.ext _) => True
  | _ => False
section
variable {P : Program} {w : World} {H : Hp} {h h' : Heap} {x e : Addr} {o' : HO}
theorem HOk.write (ok : HOk P w H h) (mu : Mut (H x)) (he : e = x ∨ H e = some (.own x)) (k : ∀ b u, b ≠ e → h.get? b = some u → h'.get? b = some u) (heo : ∃ u, h'.get? e = some u)
    (new : ObjOk P w (upd H x o') h' x o') : HOk P w (upd H x o') h' := fun b u q => by
  have nown : ∀ c y, H c = some (.own y) → c ≠ x := fun c y r z => by subst z; rw [r] at mu; exact mu
  have ntup : ∀ c xs, H c = some (.tup xs) → c ≠ x := fun c xs r z => by subst z; rw [r] at mu; exact mu
  by_cases hb : b = x
  · subst hb; rw [upd_same] at q; cases q; exact new
  · rw [upd_ne hb] at q
    by_cases hbe : b = e
    · have q' : H b = some (.own x) := by
        rcases he with z | z
        · exact absurd (hbe.trans z) hb
        · rw [hbe]; exact z
      rw [q] at q'; cases q'
      obtain ⟨v, hv⟩ := heo
      exact ⟨v, by rw [hbe]; exact hv⟩
    · refine (ok b u q).stay (fun c v hc r => k c v ?_ r) (fun c r => by rw [upd_ne (nown c b r)]; exact r) fun c xs r => by rw [upd_ne (ntup c xs r)]; exact r
      rcases hc with rfl | hc
      · exact hbe
      · rintro rfl
        rcases he with z | z
        · exact nown c b hc z
        · rw [hc] at z; cases z; exact hb rfl
end

structure Un (fs ex : List Addr) (H H' : Hp) (h h' : Heap) : Prop where
  keep : ∀ b o, h.get? b = some o → H b = none → b ∉ fs → b ∉ ex → h'.get? b = some o
  slot : ∀ b o, h.get? b = some o → H b = none → b ∈ fs → b ∉ ex → ∃ sl, h'.get? b = some { o with slots := sl }
  free : ∀ b o, h.get? b = some o → H b = none → b ∉ ex → H' b = none
  there : ∀ b o, h.get? b = some o → b ∉ ex → ∃ o', h'.get? b = some o'
  tups : ∀ b xs, H b = some (.tup xs) → H' b = some (.tup xs)
  frzs : ∀ b o u, H b = some (.frz o u) → H' b = some (.frz o u)
  tbls : ∀ b ps, H b = some (.tbl ps) → ∃ more, H' b = some (.tbl (ps ++ more))
section
variable {fs fs' ex ex' : List Addr} {H H1 H2 : Hp} {h h1 h2 h' : Heap} {a x e : Addr} {o : HO}
theorem Un.any (u : Un fs ex H H1 h h1) {b : Addr} {ob : Obj} (q : h.get? b = some ob) (n : H b = none) (hx : b ∉ ex) : ∃ sl, h1.get? b = some { ob with slots := sl } := by
  by_cases hb : b ∈ fs
  · exact u.slot b ob q n hb hx
  · exact ⟨ob.slots, u.keep b ob q n hb hx⟩
theorem Un.kept (k : ∀ b u, h.get? b = some u → h'.get? b = some u) : Un fs ex H H h h' :=
  ⟨fun b ob q _ _ _ => k b ob q, fun b ob q _ _ _ => ⟨ob.slots, k b ob q⟩, fun _ _ _ n _ => n, fun b ob q _ => ⟨ob, k b ob q⟩, fun _ _ q => q, fun _ _ _ q => q, fun _ ps q => ⟨#[], by rw [q]; simp⟩⟩
theorem Un.refl : Un fs ex H H h h := Un.kept fun _ _ q => q
theorem Un.laid (k : ∀ b u, h.get? b = some u → h'.get? b = some u) (hp : h.objs.size ≤ a) (hn : H a = none) : Un fs ex H (upd H a o) h h' where
  keep := fun b u q _ _ _ => k b u q
  slot := fun b u q _ _ _ => ⟨u.slots, k b u q⟩
  free := fun b u q n _ => by rw [upd_ne (Nat.ne_of_lt (Nat.lt_of_lt_of_le (Heap.lt_size q) hp))]; exact n
  there := fun b u q _ => ⟨u, k b u q⟩
  tups := fun b xs q => by rw [upd_ne (ne_of_none q hn)]; exact q
  frzs := fun b u xs q => by rw [upd_ne (ne_of_none q hn)]; exact q
  tbls := fun b ps q => ⟨#[], by rw [upd_ne (ne_of_none q hn), q]; simp⟩
theorem Un.write (mu : Mut (H x)) (he : e = x ∨ H e = some (.own x)) (k : ∀ b u, b ≠ e → h.get? b = some u → h'.get? b = some u) (heo : ∃ u, h'.get? e = some u) : Un fs ex H (upd H x o) h h' := by
  have hx : ∀ b, H b = none → b ≠ x := fun b n z => by subst z; rw [n] at mu; exact mu
  have hb : ∀ b, H b = none → b ≠ e := fun b n z => by
    subst z
    rcases he with r | r
    · exact hx b n r
    · rw [n] at r; cases r
  have hm : ∀ b u, H b = some u → ¬ Mut (some u) → b ≠ x := fun b u q nm z => by subst z; rw [q] at mu; exact nm mu
  refine ⟨fun b u q n _ _ => k b u (hb b n) q, fun b u q n _ _ => ⟨u.slots, k b u (hb b n) q⟩, fun b u q n _ => by rw [upd_ne (hx b n)]; exact n, fun b u q _ => ?_,
    fun b xs q => by rw [upd_ne (hm b _ q fun z => z)]; exact q, fun b u xs q => by rw [upd_ne (hm b _ q fun z => z)]; exact q, fun b ps q => ⟨#[], by rw [upd_ne (hm b _ q fun z => z), q]; simp⟩⟩
  by_cases hbe : b = e
  · subst hbe; exact heo
  · exact ⟨u, k b u hbe q⟩
end

noncomputable def trk (h : Heap) (H : Hp) : List Addr := (List.range h.objs.size).filter fun a => (H a).isSome
noncomputable def hidT (h : Heap) (H : Hp) : Heap := PySem.W.hideAll h (trk h H)
theorem hidT_size (h : Heap) (H : Hp) : (hidT h H).objs.size = h.objs.size := PySem.W.hideAll_size _ _
theorem hidT_get {h : Heap} {H : Hp} {b : Addr} {o : Obj} (e : h.get? b = some o) (n : H b = none) : (hidT h H).get? b = some o :=
  PySem.W.hideAll_get _ e fun hm => by
    have q : (H b).isSome = true := (List.mem_filter.mp hm).2
    rw [n] at q; simp at q
theorem of_hidT {h : Heap} {H : Hp} {b : Addr} {o : Obj} (e : (hidT h H).get? b = some o) : h.get? b = some o ∧ H b = none := by
  have e' : h.get? b = some o := PySem.W.of_hideAll (trk h H) e
  refine ⟨e', ?_⟩
  cases q : H b with
  | none => rfl
  | some x =>
    have hm : b ∈ trk h H := List.mem_filter.mpr ⟨List.mem_range.mpr (Heap.lt_size e'), by simp [q]⟩
    have z : (hidT h H).get? b = none := PySem.W.hideAll_none (trk h H) hm
    rw [z] at e; cases e

end L2

namespace L2
open PySem PySem.Spec PyProof.Rows

structure Mod (K : PySem.W.Frag) (mg : Str → Option Value) (base : Heap) : Prop where
  kin : K.In base
  glob : base.Ns mainGlobals mg
  blt : ∃ mb, base.Ns builtinsNs mb ∧ ∀ x : Str, x ≠ "__name__" → mb x = bootBuiltins x
  nolimit : base.NoLimit

structure Cx where
  prog : Program
  w : World
  K : PySem.W.Frag
  mg : Str → Option Value
  base : Heap
  A : Around
  N : List Str
  s_0 : Shared
  H_0 : Hp
  env : Env
  outer : List Env
  stack : List Env
  ex : List Addr
  fn : Str → Bool
  calm : Bool
  pn : List (Addr × Obj)
  xe : Value → Shared → Prop
noncomputable def frs (l : List Env) : List Addr := l.filterMap (·.frame)
noncomputable abbrev Cx.fs (X : Cx) : List Addr := frs X.outer

noncomputable def Vis (sc : Scope) (x : Str) : Prop := sc.names.lookup x = some .local ∨ sc.names.lookup x = some .cell ∨ sc.names.lookup x = some .free
noncomputable def Loc (sc : Scope) (x : Str) : Prop := sc.names.lookup x = some .local ∨ sc.names.lookup x = some .cell
noncomputable def Look (env : Env) (h : Heap) (m : Str → Option Value) (x : Str) (u : Value) : Prop :=
  (env.kindOf x = some .local ∧ m x = some u) ∨ ((env.kindOf x = some .cell ∨ env.kindOf x = some .free) ∧ ∃ c, env.cells.lookup x = some c ∧ h.IsCell c (some u))

structure Cx.Ok (X : Cx) : Prop where
  mod : Mod X.K X.mg X.base
  kind : X.env.scope.kind = .function
  glob : X.env.globals = mainGlobals
  blt : X.env.builtins = builtinsNs
  above : X.s_0.heap.objs.size ≤ X.env.locals
  inj : ∀ x y c, X.env.cells.lookup x = some c → X.env.cells.lookup y = some c → x = y
  has : ∀ x, (X.env.kindOf x = some .cell ∨ X.env.kindOf x = some .free) → ∃ c, X.env.cells.lookup x = some c
  cab : ∀ x c, X.fn x = true → X.env.cells.lookup x = some c → X.s_0.heap.objs.size ≤ c
  hd : X.calm = true → X.A.handled = none
  frames : X.A.frames = some X.stack
  stk : X.stack = X.outer ∨ (X.stack = X.env :: X.outer ∧ X.env.frame = some X.env.locals)
  exf : ∀ b ∈ X.ex, b ≠ X.env.locals ∧ ∀ x c, X.env.cells.lookup x = some c → c ≠ b
  bs : ∀ b o, X.base.get? b = some o → X.s_0.heap.get? b = some o ∧ X.H_0 b = none
  bsz : X.base.objs.size ≤ X.s_0.heap.objs.size
  noex : ∀ b o, X.base.get? b = some o → b ∉ X.ex
  exfs : ∀ b ∈ X.ex, b ∉ X.fs
  funs : X.s_0.heap.FunFrames X.base X.outer
  frf : ∀ b ∈ X.fs, X.H_0 b = none

structure Inv (X : Cx) (pins : List (Addr × Obj)) (σ : List (Option V)) (H : Hp) (s : Shared) : Prop where
  ok : X.Ok
  os : s.os = X.s_0.os
  bare : AllBare s.gens
  base : Un X.fs X.ex X.H_0 H X.s_0.heap s.heap
  loc : ∃ m, s.heap.Ns X.env.locals m ∧ ∀ (i : Nat) (x : Str) (v : V), X.N[i]? = some x → σ[i]? = some (some v) → Vis X.env.scope x → ∃ u, RelV v u ∧ Look X.env s.heap m x u
  cell : ∀ x c, X.env.cells.lookup x = some c → ∃ v, s.heap.IsCell c v
  free : H X.env.locals = none
  freeC : ∀ x c, X.env.cells.lookup x = some c → H c = none
  pin : ∀ p ∈ X.pn ++ pins, s.heap.get? p.1 = some p.2 ∧ H p.1 = none ∧ p.1 ≠ X.env.locals ∧ p.1 ∉ X.fs ∧ ∀ v, p.2.data ≠ .cell v
  hok : HOk X.prog X.w H s.heap
  len : σ.length = X.N.length

section
variable {X : Cx} {pins : List (Addr × Obj)} {σ : List (Option V)} {H H' : Hp} {s : Shared} {h' : Heap}

theorem Cx.Ok.nofr (ok : X.Ok) {b : Addr} {o : Obj} (e : X.base.get? b = some o) : b ∉ X.fs := fun hb => by
  have := (ok.funs.mem hb).1
  rw [e] at this; cases this
theorem Inv.bs (I : Inv X pins σ H s) : ∀ b o, X.base.get? b = some o → s.heap.get? b = some o ∧ H b = none := fun b o e =>
  ⟨I.base.keep b o (I.ok.bs b o e).1 (I.ok.bs b o e).2 (I.ok.nofr e) (I.ok.noex b o e), I.base.free b o (I.ok.bs b o e).1 (I.ok.bs b o e).2 (I.ok.noex b o e)⟩
theorem Inv.bk (I : Inv X pins σ H s) : ∀ b o, X.base.get? b = some o → s.heap.get? b = some o := fun b o e => (I.bs b o e).1
theorem Inv.mod (I : Inv X pins σ H s) : Mod X.K X.mg X.base := I.ok.mod
theorem Inv.kIn (I : Inv X pins σ H s) : X.K.In s.heap := I.ok.mod.kin.keeps I.bk
theorem Inv.lt (I : Inv X pins σ H s) : X.env.locals < s.heap.objs.size := let ⟨_, hn, _⟩ := I.loc; hn.lt
theorem Inv.sz (I : Inv X pins σ H s) : X.s_0.heap.objs.size ≤ s.heap.objs.size := Nat.le_trans I.ok.above (Nat.le_of_lt I.lt)
theorem Inv.nofs (I : Inv X pins σ H s) {a : Addr} (h : s.heap.objs.size ≤ a) : a ∉ X.fs := fun hb => by
  obtain ⟨_, o, ho, _⟩ := I.ok.funs.mem hb
  exact absurd (Nat.lt_of_lt_of_le (Heap.lt_size ho) (Nat.le_trans I.sz h)) (Nat.lt_irrefl _)
theorem Inv.cne (I : Inv X pins σ H s) : ∀ x c, X.env.cells.lookup x = some c → c ≠ X.env.locals := fun x c e z => by
  obtain ⟨v, o, ho, hd⟩ := I.cell x c e
  obtain ⟨m, ⟨o', es, ep, ho', hd', _⟩, _⟩ := I.loc
  rw [z, ho'] at ho; cases ho; rw [hd'] at hd; cases hd
theorem Inv.funs (I : Inv X pins σ H s) : s.heap.FunFrames X.base X.outer := by
  have all : ∀ (l : List Env), (∀ b ∈ frs l, b ∈ X.fs) → X.s_0.heap.FunFrames X.base l → s.heap.FunFrames X.base l := by
    intro l
    induction l with
    | nil => intro _ _; trivial
    | cons env r ih =>
      intro hs hl
      obtain ⟨hk, ⟨L, o, hf, hn, ho, hd⟩, hr⟩ := hl
      have hL : L ∈ X.fs := hs L (by unfold frs; rw [List.filterMap_cons, hf]; exact List.mem_cons_self)
      obtain ⟨sl, e⟩ := I.base.slot L o ho (I.ok.frf L hL) hL fun z => I.ok.exfs L z hL
      exact ⟨hk, ⟨L, _, hf, hn, e, hd⟩, ih (fun b hb => hs b (by unfold frs; rw [List.filterMap_cons, hf]; exact List.mem_cons_of_mem _ hb)) hr⟩
  exact all X.outer (fun _ hb => hb) I.ok.funs

theorem Inv.stack (I : Inv X pins σ H s) : s.heap.FunFrames X.base X.stack := by
  rcases I.ok.stk with e | ⟨e, hf⟩
  · rw [e]; exact I.funs
  · rw [e]
    obtain ⟨m, hn, _⟩ := I.loc
    refine .cons (by rw [I.ok.kind]; decide) hf hn ?_ I.funs
    exact Heap.get?_none_of_le (Nat.le_trans I.ok.bsz I.ok.above)
theorem Inv.stkSub (I : Inv X pins σ H s) : ∀ b ∈ frs X.stack, b ∈ X.env.locals :: X.fs := fun b hb => by
  rcases I.ok.stk with e | ⟨e, hf⟩
  · rw [e] at hb; exact List.mem_cons_of_mem _ hb
  · rw [e] at hb
    unfold frs at hb
    rw [List.filterMap_cons, hf] at hb
    exact hb
theorem Inv.stkFree (I : Inv X pins σ H s) : ∀ b ∈ frs X.stack, H b = none := fun b hb => by
  rcases List.mem_cons.mp (I.stkSub b hb) with e | hb
  · rw [e]; exact I.free
  · obtain ⟨_, o, ho, _⟩ := I.ok.funs.mem hb
    exact I.base.free b o ho (I.ok.frf b hb) fun z => I.ok.exfs b z hb

theorem Inv.step {g' : Array GenState} {t' : Nat} {d' : Drawn} {ch : List Addr} (I : Inv X pins σ H s)
    (hch : ∀ b ∈ ch, (b ∈ X.ex ∨ X.s_0.heap.objs.size ≤ b) ∧ b ≠ X.env.locals ∧ (∀ x c, X.env.cells.lookup x = some c → c ≠ b) ∧ ∀ p ∈ X.pn ++ pins, p.1 ≠ b)
    (keep : ∀ b o, b ≠ X.env.locals → b ∉ X.fs → b ∉ ch → s.heap.get? b = some o → H b = none → h'.get? b = some o)
    (slot : ∀ b o, b ≠ X.env.locals → b ∈ X.fs → b ∉ ch → s.heap.get? b = some o → H b = none → ∃ sl, h'.get? b = some { o with slots := sl }) (free : ∀ b o, b ∉ ch → s.heap.get? b = some o → H b = none → H' b = none)
    (there : ∀ b o, b ∉ ch → s.heap.get? b = some o → ∃ o', h'.get? b = some o')
    (tups : ∀ b xs, H b = some (.tup xs) → H' b = some (.tup xs)) (frzs : ∀ b o u, H b = some (.frz o u) → H' b = some (.frz o u)) (tbls : ∀ b ps, H b = some (.tbl ps) → ∃ more, H' b = some (.tbl (ps ++ more)))
    (ns : ∀ m, s.heap.Ns X.env.locals m → h'.Ns X.env.locals m) (hok : HOk X.prog X.w H' h') (hg : AllBare g') :
    Inv X pins σ H' { s with heap := h', gens := g', drawn := d', toks := t' } := by
  have neL : ∀ b o, X.s_0.heap.get? b = some o → b ≠ X.env.locals := fun b o e => Nat.ne_of_lt (Nat.lt_of_lt_of_le (Heap.lt_size e) I.ok.above)
  have neC : ∀ b o, X.s_0.heap.get? b = some o → b ∉ X.ex → b ∉ ch := fun b o e hx hb => by
    rcases (hch b hb).1 with z | z
    · exact hx z
    · exact absurd (Nat.lt_of_lt_of_le (Heap.lt_size e) z) (Nat.lt_irrefl _)
  have cellK : ∀ x c, X.env.cells.lookup x = some c → ∀ v, s.heap.IsCell c v → h'.IsCell c v := fun x c e v ⟨o, ho, hd⟩ => by
    have nch : c ∉ ch := fun z => (hch c z).2.2.1 x c e rfl
    by_cases hc : c ∈ X.fs
    · obtain ⟨sl, q⟩ := slot c o (I.cne x c e) hc nch ho (I.freeC x c e)
      exact ⟨_, q, hd⟩
    · exact ⟨o, keep c o (I.cne x c e) hc nch ho (I.freeC x c e), hd⟩
  refine ⟨I.ok, I.os, hg, ⟨fun b o e n hb hx => ?_, fun b o e n hb hx => ?_, fun b o e n hx => ?_, fun b o e hx => ?_, fun b xs e => tups b xs (I.base.tups b xs e), fun b o xs e => frzs b o xs (I.base.frzs b o xs e), fun b ps e => ?_⟩, ?_, fun x c e => ?_, ?_, fun x c e => ?_, fun p hp => ?_, hok, I.len⟩
  · exact keep b o (neL b o e) hb (neC b o e hx) (I.base.keep b o e n hb hx) (I.base.free b o e n hx)
  · obtain ⟨sl, e1⟩ := I.base.slot b o e n hb hx
    obtain ⟨sl', e2⟩ := slot b _ (neL b o e) hb (neC b o e hx) e1 (I.base.free b o e n hx)
    exact ⟨sl', e2⟩
  · obtain ⟨o', e1⟩ := I.base.there b o e hx
    exact free b o' (neC b o e hx) e1 (I.base.free b o e n hx)
  · obtain ⟨o', e1⟩ := I.base.there b o e hx
    exact there b o' (neC b o e hx) e1
  · obtain ⟨m1, e1⟩ := I.base.tbls b ps e
    obtain ⟨m2, e2⟩ := tbls b _ e1
    exact ⟨m1 ++ m2, by rw [e2, Array.append_assoc]⟩
  · obtain ⟨m, hn, hl⟩ := I.loc
    refine ⟨m, ns m hn, fun i x v e1 e2 e3 => ?_⟩
    obtain ⟨u, r, l⟩ := hl i x v e1 e2 e3
    refine ⟨u, r, ?_⟩
    rcases l with l | ⟨k, c, e, z⟩
    · exact .inl l
    · exact .inr ⟨k, c, e, cellK x c e _ z⟩
  · obtain ⟨v, z⟩ := I.cell x c e
    exact ⟨v, cellK x c e v z⟩
  · obtain ⟨m, ⟨o, _, _, ho, _⟩, _⟩ := I.loc
    exact free _ o (fun z => (hch _ z).2.1 rfl) ho I.free
  · obtain ⟨v, o, ho, hd⟩ := I.cell x c e
    exact free c o (fun z => (hch c z).2.2.1 x c e rfl) ho (I.freeC x c e)
  · obtain ⟨e, n, ne, nf, d⟩ := I.pin p hp
    have nch : p.1 ∉ ch := fun z => (hch p.1 z).2.2.2 p hp rfl
    exact ⟨keep p.1 p.2 ne nf nch e n, free p.1 p.2 nch e n, ne, nf, d⟩
theorem Inv.un {t' : Nat} (I : Inv X pins σ H s) (u : Un X.fs [] H H' s.heap h') (hok : HOk X.prog X.w H' h') : Inv X pins σ H' { s with heap := h', toks := t' } := by
  obtain ⟨m, ⟨o, es, ep, ho, r⟩, _⟩ := id I.loc
  obtain ⟨sl, hL⟩ := u.any ho I.free (by simp)
  exact I.step (g' := s.gens) (d' := s.drawn) (ch := []) (fun _ z => nomatch z) (fun b o _ hb _ e n => u.keep b o e n hb (by simp)) (fun b o _ hb _ e n => u.slot b o e n hb (by simp)) (fun b o _ e n => u.free b o e n (by simp)) (fun b o _ e => u.there b o e (by simp)) u.tups u.frzs u.tbls (fun m' hm => by
    obtain ⟨o', es', ep', ho', r'⟩ := hm
    rw [ho] at ho'; cases ho'
    exact ⟨_, es', ep', hL, r'⟩) hok I.bare
theorem Inv.call {g' : Array GenState} {t' : Nat} {d' : Drawn} {ch : List Addr} (I : Inv X pins σ H s) (u : Un (frs X.stack) ch H H' s.heap h') (hok : HOk X.prog X.w H' h') (hg : AllBare g')
    (hch : ∀ b ∈ ch, (b ∈ X.ex ∨ X.s_0.heap.objs.size ≤ b) ∧ b ≠ X.env.locals ∧ (∀ x c, X.env.cells.lookup x = some c → c ≠ b) ∧ ∀ p ∈ X.pn ++ pins, p.1 ≠ b) :
    Inv X pins σ H' { s with heap := h', gens := g', drawn := d', toks := t' } := by
  obtain ⟨m, ⟨o, es, ep, ho, r⟩, _⟩ := id I.loc
  obtain ⟨sl, hL⟩ := u.any ho I.free fun z => (hch _ z).2.1 rfl
  exact I.step (ch := ch) hch (fun b o hL hb hc e n => u.keep b o e n (fun z => (List.mem_cons.mp (I.stkSub b z)).elim hL hb) hc) (fun b o _ _ hc e n => u.any e n hc) (fun b o hc e n => u.free b o e n hc) (fun b o hc e => u.there b o e hc) u.tups u.frzs u.tbls (fun m' hm => by
    obtain ⟨o', es', ep', ho', r'⟩ := hm
    rw [ho] at ho'; cases ho'
    exact ⟨_, es', ep', hL, r'⟩) hok hg
theorem Inv.turned {t' : Nat} {it : Addr} (I : Inv X pins σ H s) (k : ∀ b o, b ≠ it → s.heap.get? b = some o → h'.get? b = some o) (hn : H it = none) (hL : it ≠ X.env.locals)
    (h1 : it ∈ X.ex ∨ X.s_0.heap.objs.size ≤ it) (h2 : ∀ x c, X.env.cells.lookup x = some c → c ≠ it) (h3 : ∀ p ∈ X.pn ++ pins, p.1 ≠ it) : Inv X pins σ H { s with heap := h', toks := t' } := by
  have nit : ∀ b u, H b = some u → b ≠ it := fun b u e z => by rw [z, hn] at e; cases e
  refine I.step (g' := s.gens) (d' := s.drawn) (ch := [it]) (fun b hb => ?_) (fun b o _ _ hc e _ => k b o (fun z => hc (by simp [z])) e) (fun b o _ _ hc e _ => ⟨o.slots, k b o (fun z => hc (by simp [z])) e⟩) (fun _ _ _ _ n => n)
    (fun b o hc e => ⟨o, k b o (fun z => hc (by simp [z])) e⟩) (fun _ _ e => e) (fun _ _ _ e => e) (fun b ps e => ⟨#[], by rw [e]; simp⟩) (fun m hm => ?_) (fun b u e => ?_) I.bare
  · have e : b = it := by simpa using hb
    subst e
    exact ⟨h1, hL, h2, h3⟩
  · obtain ⟨o, es, ep, ho, r⟩ := hm
    exact ⟨o, es, ep, k _ o (Ne.symm hL) ho, r⟩
  · refine (I.hok b u e).stay (fun c v hc q => k c v ?_ q) (fun _ q => q) fun _ _ q => q
    rcases hc with z | z
    · rw [z]; exact nit b u e
    · exact nit c _ z
theorem Inv.tok (I : Inv X pins σ H s) (t : Nat) : Inv X pins σ H { s with toks := t } := I.un (h' := s.heap) (t' := t) Un.refl I.hok
theorem Inv.kept {t' : Nat} (I : Inv X pins σ H s) (k : ∀ b u, s.heap.get? b = some u → h'.get? b = some u) : Inv X pins σ H { s with heap := h', toks := t' } := I.un (Un.kept k) (I.hok.kept k)
theorem Inv.laid {a : Addr} {o : HO} {t' : Nat} (I : Inv X pins σ H s) (k : ∀ b u, s.heap.get? b = some u → h'.get? b = some u) (hp : s.heap.objs.size ≤ a) (new : ObjOk X.prog X.w (upd H a o) h' a o) :
    Inv X pins σ (upd H a o) { s with heap := h', toks := t' } := I.un (Un.laid k hp (I.hok.fresh hp)) (I.hok.laid k hp new)
theorem Inv.write {x e : Addr} {o : HO} {t' : Nat} (I : Inv X pins σ H s) (mu : Mut (H x)) (he : e = x ∨ H e = some (.own x)) (k : ∀ b u, b ≠ e → s.heap.get? b = some u → h'.get? b = some u) (heo : ∃ u, h'.get? e = some u)
    (new : ObjOk X.prog X.w (upd H x o) h' x o) : Inv X pins σ (upd H x o) { s with heap := h', toks := t' } := I.un (Un.write mu he k heo) (I.hok.write mu he k heo new)
theorem Inv.weak {σ' : List (Option V)} (I : Inv X pins σ H s) (hl : σ'.length = σ.length) (w : ∀ (i : Nat) v, σ'[i]? = some (some v) → σ[i]? = some (some v)) : Inv X pins σ' H s :=
  ⟨I.ok, I.os, I.bare, I.base, let ⟨m, hn, hl'⟩ := I.loc; ⟨m, hn, fun i x v e1 e2 e3 => hl' i x v e1 (w i v e2) e3⟩, I.cell, I.free, I.freeC, I.pin, I.hok, hl.trans I.len⟩
theorem Inv.pins_of {pins' : List (Addr × Obj)} (I : Inv X pins σ H s) (h : ∀ p ∈ pins', s.heap.get? p.1 = some p.2 ∧ H p.1 = none ∧ p.1 ≠ X.env.locals ∧ p.1 ∉ X.fs ∧ ∀ v, p.2.data ≠ .cell v) : Inv X pins' σ H s :=
  ⟨I.ok, I.os, I.bare, I.base, I.loc, I.cell, I.free, I.freeC, fun p hp => (List.mem_append.mp hp).elim (fun z => I.pin p (List.mem_append_left _ z)) (h p), I.hok, I.len⟩

theorem nodup_ix {N : List Str} (hN : N.Nodup) {i j : Nat} {x : Str} (a : N[i]? = some x) (b : N[j]? = some x) : i = j := by
  obtain ⟨h1, e1⟩ := List.getElem?_eq_some_iff.mp a
  obtain ⟨h2, e2⟩ := List.getElem?_eq_some_iff.mp b
  exact (List.getElem_inj hN).mp (e1.trans e2.symm)

theorem store_ok2 {M : Model} {A : Around} {E : Value → Shared → Prop} {i : Nat} {x : Str} {v : V} {u : Value} {Q : Unit → Shared → Prop} (I : Inv X pins σ H s) (hN : X.N.Nodup) (hi : X.N[i]? = some x) (hx : Loc X.env.scope x) (r : RelV v u)
    (h : ∀ s', Inv X pins (σ.set i (some v)) H s' → (∃ a, Heap.SameBut a s.heap s'.heap ∧ (a = X.env.locals ∨ X.env.cells.lookup x = some a)) → Q () s') (hf : X.fn x = true ∨ X.env.scope.names.lookup x = some .local := by first | exact .inl rfl | exact .inr rfl | assumption) : wpAny M A (storeName X.env x u) Q E s := by
  obtain ⟨m, hn, hl⟩ := id I.loc
  have hcls : (X.env.scope.kind == .class || (X.env.scope.kind == .module && X.env.locals != X.env.globals)) = false := by rw [I.ok.kind]; rfl
  have hiσ : i < σ.length := by rw [I.len]; exact (List.getElem?_eq_some_iff.mp hi).1
  have cne := I.cne
  have tracked : ∀ {a : Addr} {h' : Heap}, (∃ o, s.heap.get? a = some o ∧ H a = none) → Heap.SameBut a s.heap h' → HOk X.prog X.w H h' := fun {a h'} ha hs b ob e => by
    obtain ⟨_, _, hfree⟩ := ha
    refine (I.hok b ob e).stay (fun c w' hc q => (hs.2 c ?_).trans q) (fun _ q => q) fun _ _ q => q
    rintro rfl
    rcases hc with rfl | hc
    · rw [hfree] at e; cases e
    · rw [hfree] at hc; cases hc
  rcases hx with hk | hk
  · refine wpAny_storeName_local hk hn (fun h' hn' hs => ?_) hcls
    obtain ⟨oL, _, _, hoL, _⟩ := id hn
    refine h _ ⟨I.ok, I.os, I.bare, ⟨fun b o e n hb hx => ?_, fun b o e n hb hx => ?_, I.base.free, fun b o e hx => ?_, I.base.tups, I.base.frzs, I.base.tbls⟩, ⟨_, hn', fun j y v' e1 e2 e3 => ?_⟩, fun y c e => ?_, I.free, I.freeC, fun p hp => ?_, tracked ⟨oL, hoL, I.free⟩ hs, by simpa using I.len⟩ ⟨_, hs, .inl rfl⟩
    · exact (hs.2 b (Nat.ne_of_lt (Nat.lt_of_lt_of_le (Heap.lt_size e) I.ok.above))).trans (I.base.keep b o e n hb hx)
    · obtain ⟨sl, e1⟩ := I.base.slot b o e n hb hx
      exact ⟨sl, (hs.2 b (Nat.ne_of_lt (Nat.lt_of_lt_of_le (Heap.lt_size e) I.ok.above))).trans e1⟩
    · obtain ⟨o', e1⟩ := I.base.there b o e hx
      exact ⟨o', (hs.2 b (Nat.ne_of_lt (Nat.lt_of_lt_of_le (Heap.lt_size e) I.ok.above))).trans e1⟩
    · by_cases hj : j = i
      · subst hj
        rw [hi] at e1; cases e1
        rw [List.getElem?_set_self hiσ] at e2
        cases e2
        exact ⟨u, r, .inl ⟨hk, by simp⟩⟩
      · rw [List.getElem?_set_ne (Ne.symm hj)] at e2
        obtain ⟨u', r', q⟩ := hl j y v' e1 e2 e3
        refine ⟨u', r', ?_⟩
        rcases q with ⟨k, e⟩ | ⟨k, c, e, z⟩
        · refine .inl ⟨k, ?_⟩
          have : y ≠ x := fun e => hj (nodup_ix hN e1 (e ▸ hi))
          simp [this, e]
        · exact .inr ⟨k, c, e, z.sameBut hs (cne y c e)⟩
    · obtain ⟨w', z⟩ := I.cell y c e
      exact ⟨w', z.sameBut hs (cne y c e)⟩
    · obtain ⟨e, n, ne, nf, d⟩ := I.pin p hp
      exact ⟨(hs.2 p.1 ne).trans e, n, ne, nf, d⟩
  · have hfn : X.fn x = true := by
      rcases hf with z | z
      · exact z
      · rw [z] at hk; cases hk
    obtain ⟨c, hc⟩ := I.ok.has x (.inl hk)
    obtain ⟨w', z⟩ := I.cell x c hc
    refine wpAny_storeName_cell I.ok.kind hk hc z (fun h' hc' hs => ?_)
    obtain ⟨oc, hoc, hocd⟩ := id z
    refine h { s with heap := h' } ⟨I.ok, I.os, I.bare, ⟨fun b o e n hb hx => ?_, fun b o e n hb hx => ?_, I.base.free, fun b o e hx => ?_, I.base.tups, I.base.frzs, I.base.tbls⟩, ⟨m, hn.sameBut hs (Ne.symm (cne x c hc)), fun j y v' e1 e2 e3 => ?_⟩, fun y c' e => ?_, I.free, I.freeC, fun p hp => ?_, tracked ⟨oc, hoc, I.freeC x c hc⟩ hs, by simpa using I.len⟩ ⟨c, hs, .inr hc⟩
    · exact (hs.2 b (Nat.ne_of_lt (Nat.lt_of_lt_of_le (Heap.lt_size e) (I.ok.cab x c hfn hc)))).trans (I.base.keep b o e n hb hx)
    · obtain ⟨sl, e1⟩ := I.base.slot b o e n hb hx
      exact ⟨sl, (hs.2 b (Nat.ne_of_lt (Nat.lt_of_lt_of_le (Heap.lt_size e) (I.ok.cab x c hfn hc)))).trans e1⟩
    · obtain ⟨o', e1⟩ := I.base.there b o e hx
      exact ⟨o', (hs.2 b (Nat.ne_of_lt (Nat.lt_of_lt_of_le (Heap.lt_size e) (I.ok.cab x c hfn hc)))).trans e1⟩
    · by_cases hj : j = i
      · subst hj
        rw [hi] at e1; cases e1
        rw [List.getElem?_set_self hiσ] at e2
        cases e2
        exact ⟨u, r, .inr ⟨.inl hk, c, hc, hc'⟩⟩
      · rw [List.getElem?_set_ne (Ne.symm hj)] at e2
        obtain ⟨u', r', q⟩ := hl j y v' e1 e2 e3
        refine ⟨u', r', ?_⟩
        rcases q with q | ⟨k, c', e, z'⟩
        · exact .inl q
        · refine .inr ⟨k, c', e, z'.sameBut hs ?_⟩
          rintro rfl
          exact hj (nodup_ix hN e1 (I.ok.inj _ _ _ e hc ▸ hi))
    · by_cases hcc : c' = c
      · subst hcc; exact ⟨_, hc'⟩
      · obtain ⟨w2, z2⟩ := I.cell y c' e
        exact ⟨w2, z2.sameBut hs hcc⟩
    · obtain ⟨e, n, ne, nf, d⟩ := I.pin p hp
      refine ⟨(hs.2 p.1 ?_).trans e, n, ne, nf, d⟩
      intro q
      rw [q, hoc] at e
      have q' : oc = p.2 := Option.some.inj e
      exact d w' (by rw [← q']; exact hocd)
theorem store_ok {M : Model} {A : Around} {E : Value → Shared → Prop} {i : Nat} {x : Str} {v : V} {u : Value} {Q : Unit → Shared → Prop} (I : Inv X pins σ H s) (hN : X.N.Nodup) (hi : X.N[i]? = some x) (hx : Loc X.env.scope x) (r : RelV v u)
    (h : ∀ s', Inv X pins (σ.set i (some v)) H s' → Q () s') (hf : X.fn x = true ∨ X.env.scope.names.lookup x = some .local := by first | exact .inl rfl | exact .inr rfl | assumption) : wpAny M A (storeName X.env x u) Q E s :=
  store_ok2 I hN hi hx r (fun s' I' _ => h s' I') hf
theorem Inv.call' {s' : Shared} {ch : List Addr} (I : Inv X pins σ H s) (ho : s'.os = s.os) (u : Un (frs X.stack) ch H H' s.heap s'.heap) (hok : HOk X.prog X.w H' s'.heap) (hg : AllBare s'.gens)
    (hch : ∀ b ∈ ch, (b ∈ X.ex ∨ X.s_0.heap.objs.size ≤ b) ∧ b ≠ X.env.locals ∧ (∀ x c, X.env.cells.lookup x = some c → c ≠ b) ∧ ∀ p ∈ X.pn ++ pins, p.1 ≠ b) : Inv X pins σ H' s' := by
  obtain ⟨h', g', d', t', o'⟩ := s'
  have e : o' = s.os := ho
  subst e
  exact I.call (g' := g') (t' := t') (d' := d') u hok hg hch
end

noncomputable abbrev XK := Value → Option Addr → Hp → Prop
noncomputable abbrev St := List (Option V)
noncomputable abbrev VK := V → Hp → Prop
noncomputable abbrev TE := St → Hp → VK → Prop
noncomputable abbrev TT := St → Hp → (Bool → Hp → Prop) → Prop
noncomputable abbrev TA := St → Hp → (List V → Hp → Prop) → Prop
structure Ends where
  nx : St → Hp → Prop
  rt : VK
  bk : St → Hp → Prop := fun _ _ => False
  ct : St → Hp → Prop := fun _ _ => False
noncomputable abbrev TS := Ends → St → Hp → Prop

noncomputable def EP (X : Cx) (pins : List (Addr × Obj)) (σ : St) (Q : VK) (u : Value) (s' : Shared) : Prop := ∃ v H', Inv X pins σ H' s' ∧ RelV v u ∧ Q v H'
noncomputable def TP (X : Cx) (pins : List (Addr × Obj)) (σ : St) (Q : Bool → Hp → Prop) (b : Bool) (s' : Shared) : Prop := ∃ H', Inv X pins σ H' s' ∧ Q b H'
noncomputable def AP (X : Cx) (pins : List (Addr × Obj)) (σ : St) (Q : List V → Hp → Prop) (us : List Value) (s' : Shared) : Prop := ∃ vs H', Inv X pins σ H' s' ∧ Vals vs us ∧ Q vs H'
noncomputable def SP (X : Cx) (pins : List (Addr × Obj)) (D : Ends) (f : Flow) (s' : Shared) : Prop :=
  match f with
  | .next => ∃ σ' H', Inv X pins σ' H' s' ∧ D.nx σ' H'
  | .brk => ∃ σ' H', Inv X pins σ' H' s' ∧ D.bk σ' H'
  | .cont => ∃ σ' H', Inv X pins σ' H' s' ∧ D.ct σ' H'
  | .ret u => ∃ v σ' H', Inv X pins σ' H' s' ∧ RelV v u ∧ D.rt v H'

noncomputable def PE (X : Cx) (e : Expr) (t : TE) : Prop :=
  ∀ (pins : List (Addr × Obj)) (s : Shared) (σ : St) (H : Hp) (Q : VK), Inv X pins σ H s → t σ H Q → wpAny (model X.prog X.w) X.A (eval e X.env) (EP X pins σ Q) X.xe s
noncomputable def PT (X : Cx) (e : Expr) (t : TT) : Prop :=
  ∀ (pins : List (Addr × Obj)) (s : Shared) (σ : St) (H : Hp) (Q : Bool → Hp → Prop), Inv X pins σ H s → t σ H Q → wpAny (model X.prog X.w) X.A (isTrue e X.env (eval e X.env)) (TP X pins σ Q) X.xe s
noncomputable def PW (X : Cx) (e : Expr) (t : TT) : Prop :=
  ∀ (whole : Sem Value) (pins : List (Addr × Obj)) (s : Shared) (σ : St) (H : Hp) (Q : Bool → Hp → Prop), Inv X pins σ H s → t σ H Q → wpAny (model X.prog X.w) X.A (isTrue e X.env whole) (TP X pins σ Q) X.xe s
theorem PW.pt {X : Cx} {e : Expr} {t : TT} (h : PW X e t) : PT X e t := h _
noncomputable def PA (X : Cx) (es : List Expr) (t : TA) : Prop :=
  ∀ (pos : Pos) (pins : List (Addr × Obj)) (s : Shared) (σ : St) (H : Hp) (Q : List V → Hp → Prop), Inv X pins σ H s → t σ H Q → wpAny (model X.prog X.w) X.A (spliced (backTo pos (starEach es X.env))) (AP X pins σ Q) X.xe s
noncomputable def PS (X : Cx) (st : Stmt) (t : TS) : Prop :=
  ∀ (pins : List (Addr × Obj)) (s : Shared) (σ : St) (H : Hp) (D : Ends), Inv X pins σ H s → t D σ H → wpAny (model X.prog X.w) X.A (exec st X.env) (SP X pins D) X.xe s
noncomputable def PSs (X : Cx) (st : List Stmt) (t : TS) : Prop :=
  ∀ (pins : List (Addr × Obj)) (s : Shared) (σ : St) (H : Hp) (D : Ends), Inv X pins σ H s → t D σ H → wpAny (model X.prog X.w) X.A (execs st X.env) (SP X pins D) X.xe s
theorem thn {α : Type} {t : Sem α} {Q Q' : α → Shared → Prop} {M : Model} {A : Around} {E : Value → Shared → Prop} {s : Shared} (h : wpAny M A t Q E s) (hQ : ∀ a s, Q a s → Q' a s) : wpAny M A t Q' E s := wpAny_mono h hQ fun _ _ x => x
end L2

namespace L2
open PySem PySem.Spec PyProof.Rows
section
variable {X : Cx}

noncomputable def tVar (i : Nat) : TE := fun σ H Q => ∃ v, σ[i]? = some (some v) ∧ Q v H
noncomputable def tC (v : V) : TE := fun _ H Q => Q v H
theorem pe_var {i : Nat} {x : Str} {pos : Pos} (hN : X.N[i]? = some x) (hv : Vis X.env.scope x) (hd : (x == ("__debug__" : Str)) = false := by decide) (hcd : (x == ("__classdict__" : Str)) = false := by decide) : PE X (.Name x pos) (tVar i) := by
  intro pins s σ H Q I h
  obtain ⟨v, e, h⟩ := h
  obtain ⟨m, hn, hl⟩ := I.loc
  obtain ⟨u, r, l⟩ := hl i x v hN e hv
  have fin : EP X pins σ Q u s := ⟨v, H, I, r, h⟩
  rcases l with ⟨hk, hm⟩ | ⟨hk, c, hc, hcell⟩
  · exact wpAny_Name (wpAny_loadName_local I.ok.kind hk hn hm fin) hd
  · rcases hk with hk | hk
    · exact wpAny_Name (wpAny_loadName_cell I.ok.kind hk hc hcell fin) hd
    · exact wpAny_Name (wpAny_loadName_free I.ok.kind hk hc hcell fin hcd) hd
theorem pe_int {i j pos} : PE X (.Constant (.int i) j pos) (tC (.int i)) := fun _ _ _ H _ I h => wpAny_Constant_int ⟨.int i, H, I.tok _, ⟨_, rfl⟩, h⟩
theorem pe_non {j pos} : PE X (.Constant .none j pos) (tC .non) := fun _ _ _ H _ I h => Constant_none ⟨.non, H, I, rfl, h⟩
noncomputable def Gl (X : Cx) (x : Str) : Prop := X.env.kindOf x = some .globalImplicit
theorem ld_glob {E : Value → Shared → Prop} {pins : List (Addr × Obj)} {s : Shared} {σ : St} {H : Hp} {x : Str} {u : Value} {pos : Pos} {Q : Value → Shared → Prop} (I : Inv X pins σ H s) (hg : Gl X x) (hm : X.mg x = some u) (h : Q u s)
    (hd : (x == ("__debug__" : Str)) = false := by decide) : wpAny (model X.prog X.w) X.A (eval (.Name x pos) X.env) Q E s :=
  Calls.Name_function_global I.ok.kind hg (Calls.loadGlobal_global (by rw [I.ok.glob]; exact I.mod.glob.keeps I.bk) hm h) hd
theorem ld_blt {E : Value → Shared → Prop} {pins : List (Addr × Obj)} {s : Shared} {σ : St} {H : Hp} {x : Str} {u : Value} {pos : Pos} {Q : Value → Shared → Prop} (I : Inv X pins σ H s) (hg : Gl X x) (hm : X.mg x = none) (hv : bootBuiltins x = some u) (h : Q u s)
    (hn : x ≠ "__name__" := by decide) (hd : (x == ("__debug__" : Str)) = false := by decide) : wpAny (model X.prog X.w) X.A (eval (.Name x pos) X.env) Q E s := by
  obtain ⟨mb, h1, h2⟩ := I.mod.blt
  exact Calls.Name_function_global I.ok.kind hg (Calls.loadGlobal_builtin (by rw [I.ok.glob]; exact I.mod.glob.keeps I.bk) hm (by rw [I.ok.blt]; exact h1.keeps I.bk) ((h2 x hn).trans hv) h) hd
theorem pe_glob {x : Str} {v : V} {u : Value} {pos : Pos} (hg : Gl X x) (hm : X.mg x = some u) (r : RelV v u) (hd : (x == ("__debug__" : Str)) = false := by decide) : PE X (.Name x pos) (tC v) :=
  fun _ _ _ H _ I h => ld_glob I hg hm ⟨v, H, I, r, h⟩ hd
variable {a b : Expr} {ta tb : TE} {pos : Pos}
noncomputable def tB (t : TE) : TT := fun σ H Q => t σ H fun x H1 => ∃ c, x = .bl c ∧ Q c H1
theorem pt_val {e : Expr} {t : TE} (h : PE X e t) (he : ∀ whole, isTrue e X.env whole = (do let v ← whole; standAt e.pos; holding [v] (truthy v)) := by intro _; rfl) : PT X e (tB t) := by
  intro pins s σ H Q I hw
  refine isTrue_plain (thn (h pins s σ H _ I hw) fun v s1 ⟨x, H1, I1, r1, q1⟩ => ?_) (he _)
  obtain ⟨d, rfl, q⟩ := q1
  cases r1
  exact wpAny_truthy_bool ⟨H1, I1, q⟩

variable {tA tB' : TT} {rest : List Expr}
noncomputable def tAnd (t u : TT) : TT := fun σ H Q => t σ H fun c H1 => if c = true then u σ H1 Q else Q false H1
noncomputable def tOr (t u : TT) : TT := fun σ H Q => t σ H fun c H1 => if c = true then Q true H1 else u σ H1 Q
theorem pw_and1 (ha : PT X a tA) : PW X (.BoolOp .And [a] pos) tA := by
  intro wh pins s σ H Q I h
  refine isTrue_and (thn (ha pins s σ H Q I h) fun c s1 e => ?_)
  cases c with
  | true => exact isTrue_and_nil e
  | false => exact e
theorem pw_or1 (ha : PT X a tA) : PW X (.BoolOp .Or [a] pos) tA := by
  intro wh pins s σ H Q I h
  refine isTrue_or (thn (ha pins s σ H Q I h) fun c s1 e => ?_)
  cases c with
  | false => exact isTrue_or_nil e
  | true => exact e
theorem pw_and (ha : PT X a tA) (hb : PW X (.BoolOp .And (b :: rest) pos) tB') : PW X (.BoolOp .And (a :: b :: rest) pos) (tAnd tA tB') := by
  intro wh pins s σ H Q I h
  refine isTrue_and (thn (ha pins s σ H _ I h) fun c s1 ⟨H1, I1, q1⟩ => ?_)
  cases c with
  | true => exact hb wh pins s1 σ H1 Q I1 q1
  | false => exact ⟨H1, I1, q1⟩
theorem pw_or (ha : PT X a tA) (hb : PW X (.BoolOp .Or (b :: rest) pos) tB') : PW X (.BoolOp .Or (a :: b :: rest) pos) (tOr tA tB') := by
  intro wh pins s σ H Q I h
  refine isTrue_or (thn (ha pins s σ H _ I h) fun c s1 ⟨H1, I1, q1⟩ => ?_)
  cases c with
  | true => exact ⟨H1, I1, q1⟩
  | false => exact hb wh pins s1 σ H1 Q I1 q1
noncomputable def tIf (t : TT) (ta tb : TE) : TE := fun σ H Q => t σ H fun c H1 => if c = true then ta σ H1 Q else tb σ H1 Q
theorem pe_ifExp {c : Expr} (hc : PT X c tA) (ha : PE X a ta) (hb : PE X b tb) : PE X (.IfExp c a b pos) (tIf tA ta tb) := by
  intro pins s σ H Q I h
  refine wpAny_IfExp (thn (hc pins s σ H _ I h) fun d s1 ⟨H1, I1, q1⟩ => ?_)
  cases d with
  | true => exact ha pins s1 σ H1 Q I1 q1
  | false => exact hb pins s1 σ H1 Q I1 q1
end
end L2

namespace L2
open PySem PySem.Spec PyProof.Rows

noncomputable def SqL (K : PySem.W.Frag) (H : Hp) (a : Addr) (xs : List V) : Prop :=
  Rd H a (.lst xs) ∨
    ∃ (o : Obj) (its : Array Value) (n : Nat), K.lookup a = some o ∧ o.cls = .type "list" ∧ o.dict = none ∧ o.data = .seq its n ∧ its.size ≤ sizeLine ∧ Vals xs its.toList
noncomputable def SqT (K : PySem.W.Frag) (H : Hp) (a : Addr) (xs : List V) : Prop :=
  Rd H a (.tup xs) ∨
    ∃ (o : Obj) (its : Array Value) (n : Nat), K.lookup a = some o ∧ o.cls = .type "tuple" ∧ o.data = .seq its n ∧ its.size ≤ sizeLine ∧ Vals xs its.toList
noncomputable def absV : Value → Option V
  | .none => some .non
  | .bool b => some (.bl b)
  | .int i _ => some (.int i)
  | .str x _ => some (.str x)
  | .bytes b _ => some (.byt b)
  | .float b _ => some (.flt b)
  | .ref a => some (.ref a)
  | .type n => some (.ty n)
  | _ => none
theorem RelV.abs {x : V} {u : Value} (r : RelV x u) : absV u = some x := by
  cases x with
  | non => cases r; rfl
  | bl _ => cases r; rfl
  | int _ => obtain ⟨t, rfl⟩ := r; rfl
  | str _ => obtain ⟨t, rfl⟩ := r; rfl
  | byt _ => obtain ⟨t, rfl⟩ := r; rfl
  | flt _ => obtain ⟨t, rfl⟩ := r; rfl
  | ref _ => cases r; rfl
  | ty _ => cases r; rfl
theorem RelV.inj {x y : V} {u : Value} (r : RelV x u) (q : RelV y u) : x = y := Option.some.inj (r.abs.symm.trans q.abs)
theorem Vals.inj : ∀ {xs ys : List V} {us : List Value}, Vals xs us → Vals ys us → xs = ys
  | _, _, _, .nil, .nil => rfl
  | _, _, _, .cons r t, .cons r' t' => by rw [r.inj r', Vals.inj t t']
section
variable {X : Cx} {pins : List (Addr × Obj)} {σ : St} {H : Hp} {s : Shared} {a : Addr} {xs ys : List V}
theorem SqL.of {K : PySem.W.Frag} (h : H a = some (.lst xs)) : SqL K H a xs := .inl (.inl h)
theorem SqT.of {K : PySem.W.Frag} (h : H a = some (.tup xs)) : SqT K H a xs := .inl (.inl h)
theorem Inv.list (I : Inv X pins σ H s) (h : SqL X.K H a xs) : ∃ its : List Value, Vals xs its ∧ PlainL s.heap a its.toArray ∧ xs.length ≤ sizeLine := by
  rcases h with h | ⟨o, its, n, hk, hc, hd, hs, hz, r⟩
  · obtain ⟨z, its, n, r, e⟩ := h.ok I.hok
    exact ⟨its, r, ⟨_, n, e, rfl, rfl, rfl⟩, z⟩
  · refine ⟨its.toList, r, ⟨o, n, I.kIn a o hk, hc, hd, by simpa using hs⟩, ?_⟩
    have e := r.length
    simp only [Array.length_toList] at e
    omega
theorem Inv.tuple (I : Inv X pins σ H s) (h : SqT X.K H a xs) : ∃ its : List Value, Vals xs its ∧ IsTup s.heap a its.toArray ∧ xs.length ≤ sizeLine := by
  rcases h with h | ⟨o, its, n, hk, hc, hs, hz, r⟩
  · obtain ⟨z, its, r, p⟩ := h.ok I.hok
    exact ⟨its, r, p, z⟩
  · refine ⟨its.toList, r, ⟨o, I.kIn a o hk, hc, n, by simpa using hs⟩, ?_⟩
    have e := r.length
    simp only [Array.length_toList] at e
    omega
theorem Inv.list_inj (I : Inv X pins σ H s) (h : SqL X.K H a xs) (h' : SqL X.K H a ys) : xs = ys := by
  obtain ⟨its, r, ⟨o, n, e, _, _, d⟩, _⟩ := I.list h
  obtain ⟨its', r', ⟨o', n', e', _, _, d'⟩, _⟩ := I.list h'
  rw [e] at e'; cases e'
  rw [d] at d'
  injection d' with d1 _
  have : its = its' := by simpa using congrArg Array.toList d1
  subst this
  exact r.inj r'
end

noncomputable abbrev Cx.wish (X : Cx) (E : Value → Shared → Prop) : Cx := { X with xe := E }
noncomputable abbrev Cx.nox (X : Cx) : Cx := X.wish fun _ _ => False
theorem Cx.Ok.wish {X : Cx} (ok : X.Ok) (E : Value → Shared → Prop) : (X.wish E).Ok :=
  ⟨ok.mod, ok.kind, ok.glob, ok.blt, ok.above, ok.inj, ok.has, ok.cab, ok.hd, ok.frames, ok.stk, ok.exf, ok.bs, ok.bsz, ok.noex, ok.exfs, ok.funs, ok.frf⟩
theorem Cx.Ok.unwish {X : Cx} {E : Value → Shared → Prop} (ok : (X.wish E).Ok) : X.Ok :=
  ⟨ok.mod, ok.kind, ok.glob, ok.blt, ok.above, ok.inj, ok.has, ok.cab, ok.hd, ok.frames, ok.stk, ok.exf, ok.bs, ok.bsz, ok.noex, ok.exfs, ok.funs, ok.frf⟩
section
variable {X : Cx} {pins : List (Addr × Obj)} {σ : St} {H : Hp} {s : Shared} {E : Value → Shared → Prop}
theorem Inv.wish (I : Inv X pins σ H s) (E : Value → Shared → Prop) : Inv (X.wish E) pins σ H s := ⟨I.ok.wish E, I.os, I.bare, I.base, I.loc, I.cell, I.free, I.freeC, I.pin, I.hok, I.len⟩
theorem Inv.unwish (I : Inv (X.wish E) pins σ H s) : Inv X pins σ H s := ⟨I.ok.unwish, I.os, I.bare, I.base, I.loc, I.cell, I.free, I.freeC, I.pin, I.hok, I.len⟩
theorem SP.unwish {D : Ends} {f : Flow} {s' : Shared} (h : SP (X.wish E) pins D f s') : SP X pins D f s' := by
  cases f with
  | next => obtain ⟨σ', H', I, q⟩ := h; exact ⟨σ', H', I.unwish, q⟩
  | brk => obtain ⟨σ', H', I, q⟩ := h; exact ⟨σ', H', I.unwish, q⟩
  | cont => obtain ⟨σ', H', I, q⟩ := h; exact ⟨σ', H', I.unwish, q⟩
  | ret u => obtain ⟨v, σ', H', I, r, q⟩ := h; exact ⟨v, σ', H', I.unwish, r, q⟩
theorem PSs.nox {st : List Stmt} {t : TS} (h : PSs X.nox st t) : PSs X st t := fun pins s σ H D I hw =>
  wpAny_mono (h pins s σ H D (I.wish _) hw) (fun _ _ q => q.unwish) fun _ _ z => False.elim z
end

section
variable {X : Cx} {st : Stmt} {rest : List Stmt} {t u : TS} {e : Expr} {te : TE} {pos : Pos}
noncomputable def tNext : TS := fun D σ H => D.nx σ H
noncomputable def tSeq (t u : TS) : TS := fun D σ H => t { D with nx := u D } σ H
theorem pss_nil : PSs X [] tNext := fun _ _ σ H _ I h => wpAny_execs_nil ⟨σ, H, I, h⟩
theorem pss_cons (h1 : PS X st t) (h2 : PSs X rest u) : PSs X (st :: rest) (tSeq t u) := by
  intro pins s σ H D I h
  refine wpAny_execs_cons (thn (h1 pins s σ H { D with nx := u D } I h) fun f s1 q => ?_)
  cases f with
  | next =>
    obtain ⟨σ', H', I', q⟩ := q
    exact h2 pins s1 σ' H' D I' q
  | ret v => exact q
  | brk => exact q
  | cont => exact q
theorem pss_one (h1 : PS X st t) : PSs X [st] t := by
  intro pins s σ H D I h
  refine wpAny_execs_cons (thn (h1 pins s σ H D I h) fun f s1 q => ?_)
  cases f with
  | next => exact wpAny_execs_nil q
  | ret v => exact q
  | brk => exact q
  | cont => exact q
theorem Inv.quiet {pins : List (Addr × Obj)} {σ : St} {H : Hp} {s : Shared} (I : Inv X pins σ H s) : interactive X.env = false := by simp [interactive, I.ok.kind]
noncomputable def tDrop (te : TE) : TS := fun D σ H => te σ H fun _ H1 => D.nx σ H1
theorem ps_expr (he : PE X e te) (hs : swapsWith e none pos.line X.env = pure false := by rfl) : PS X (.Expr e pos) (tDrop te) := by
  intro pins s σ H D I h
  exact wpAny_Expr_any (thn (he pins s σ H _ I h) fun v s1 ⟨x, H1, I1, r1, q1⟩ => ⟨σ, H1, I1, q1⟩) I.quiet hs
noncomputable def tRet (te : TE) : TS := fun D σ H => te σ H D.rt
theorem ps_ret (he : PE X e te) : PS X (.Return (some e) pos) (tRet te) := by
  intro pins s σ H D I h
  exact wpAny_Return_some (thn (he pins s σ H _ I h) fun v s1 ⟨x, H1, I1, r1, q1⟩ => ⟨x, σ, H1, I1, r1, q1⟩)
noncomputable def tIfS (c : TT) (t u : TS) : TS := fun D σ H => c σ H fun b H1 => if b = true then t D σ H1 else u D σ H1
theorem ps_if {c : Expr} {a b : List Stmt} {tc : TT} (hc : PT X c tc) (ha : PSs X a t) (hb : PSs X b u) : PS X (.If c a b pos) (tIfS tc t u) := by
  intro pins s σ H D I h
  refine wpAny_If (thn (hc pins s σ H _ I h) fun d s1 ⟨H1, I1, q1⟩ => ?_)
  cases d with
  | true => exact ha pins s1 σ H1 D I1 q1
  | false => exact hb pins s1 σ H1 D I1 q1
end

noncomputable abbrev TG := V → St → Hp → (St → Hp → Prop) → Prop
noncomputable abbrev TGs := List V → St → Hp → (St → Hp → Prop) → Prop
noncomputable def PG (X : Cx) (target : Expr) (t : TG) : Prop :=
  ∀ (pins : List (Addr × Obj)) (s : Shared) (σ : St) (H : Hp) (v : V) (u : Value) (Q : St → Hp → Prop), Inv X pins σ H s → RelV v u → t v σ H Q →
    wpAny (model X.prog X.w) X.A (assign target X.env u) (fun _ s' => ∃ σ' H', Inv X pins σ' H' s' ∧ Q σ' H') X.xe s
noncomputable def PGs (X : Cx) (ts : List Expr) (t : TGs) : Prop :=
  ∀ (pins : List (Addr × Obj)) (s : Shared) (σ : St) (H : Hp) (vs : List V) (us : List Value) (Q : St → Hp → Prop), Inv X pins σ H s → Vals vs us → t vs σ H Q →
    wpAny (model X.prog X.w) X.A (assignInOrder ((assignEach ts X.env).map (·.2)) us) (fun _ s' => ∃ σ' H', Inv X pins σ' H' s' ∧ Q σ' H') X.xe s
noncomputable abbrev TSet := V → V → V → Hp → (Hp → Prop) → Prop
noncomputable def PSet (X : Cx) (t : TSet) : Prop :=
  ∀ (pins : List (Addr × Obj)) (s : Shared) (σ : St) (H : Hp) (o i v : V) (ov iv u : Value) (Q : Hp → Prop), Inv X pins σ H s → RelV o ov → RelV i iv → RelV v u → t o i v H Q →
    wpAny (model X.prog X.w) X.A (setItem ov iv u) (fun _ s' => ∃ H', Inv X pins σ H' s' ∧ Q H') X.xe s
section
variable {X : Cx} {pos : Pos}
noncomputable def gName (i : Nat) : TG := fun v σ H Q => Q (σ.set i (some v)) H
theorem pg_name {i : Nat} {x : Str} (hN : X.N.Nodup) (hi : X.N[i]? = some x) (hx : Loc X.env.scope x) (hf : X.fn x = true ∨ X.env.scope.names.lookup x = some .local := by first | exact .inl rfl | exact .inr rfl | assumption) : PG X (.Name x pos) (gName i) := by
  intro pins s σ H v u Q I r h
  exact wpAny_assign_Name (store_ok I hN hi hx r (fun s' I' => ⟨_, H, I', h⟩) hf)
noncomputable def gNil : TGs := fun vs σ H Q => vs = [] ∧ Q σ H
noncomputable def gCons (t : TG) (u : TGs) : TGs := fun vs σ H Q => ∃ v r, vs = v :: r ∧ t v σ H fun σ' H' => u r σ' H' Q
theorem pgs_nil : PGs X [] gNil := by
  intro pins s σ H vs us Q I r h
  obtain ⟨e, h⟩ := h
  subst e
  cases r
  exact assignInOrder_nil ⟨σ, H, I, h⟩
theorem pgs_cons {e : Expr} {es : List Expr} {t : TG} {u : TGs} (h1 : PG X e t) (h2 : PGs X es u)
    (hs : (assignEach (e :: es) X.env).map (·.2) = assign e X.env :: (assignEach es X.env).map (·.2) := by rfl) : PGs X (e :: es) (gCons t u) := by
  intro pins s σ H vs us Q I r h
  obtain ⟨v, vr, e1, h⟩ := h
  subst e1
  cases r with
  | cons r rr =>
    rw [hs]
    refine assignInOrder_cons (thn (h1 pins s σ H _ _ _ I r h) fun _ s1 ⟨σ1, H1, I1, q1⟩ => ?_)
    exact h2 pins s1 σ1 H1 _ _ Q I1 rr q1
noncomputable def gTup (K : PySem.W.Frag) (n : Nat) (t : TGs) : TG := fun v σ H Q => ∃ a xs, v = .ref a ∧ SqT K H a xs ∧ xs.length = n ∧ t xs σ H Q
theorem pg_tup {es : List Expr} {k : Nat} {t : TGs} {n : Nat} (hc : X.calm = true) (h : PGs X es t)
    (hn : (assignEach es X.env).length = n := by rfl) (hst : (assignEach es X.env).findIdx? (·.1) = none := by rfl) : PG X (.Tuple es k pos) (gTup X.K n t) := by
  intro pins s σ H v u Q I r hw
  obtain ⟨a, xs, e1, hq, hl, hw⟩ := hw
  subst e1
  cases r
  obtain ⟨its, rv, ht, hz⟩ := I.tuple hq
  refine assign_Tuple_tuple (I.ok.hd hc) ht (by simp [hn, ← hl, rv.length]) hst fun h' hx => ?_
  have I1 : Inv X pins σ H { s with heap := h' } := I.kept (t' := s.toks) fun b o e => hx b o (Nat.ne_of_lt (Heap.lt_size e)) e
  exact h pins _ σ H xs _ Q I1 (by simpa using rv) hw
noncomputable def gSub (to ti : TE) (t : TSet) : TG := fun v σ H Q => to σ H fun o H1 => ti σ H1 fun i H2 => t o i v H2 fun H3 => Q σ H3
theorem pg_sub {o i : Expr} {to ti : TE} {t : TSet} (ho : PE X o to) (hi : PE X i ti) (hs : PSet X t)
    (ha : ∀ v, assign (.Subscript o i pos) X.env v = (do
      let ov ← holding [v] (eval o X.env)
      let iv ← holding [v, ov] (eval i X.env)
      standAt pos
      holding [v, ov, iv] (setItem ov iv v)
      release [v, ov, iv] []) := by intro _; rfl) : PG X (.Subscript o i pos) (gSub to ti t) := by
  intro pins s σ H v u Q I r h
  rw [ha]
  refine wpAny_bind (wpAny_holding (thn (ho pins s σ H _ I h) fun ov s1 ⟨x, H1, I1, r1, q1⟩ => ?_))
  refine wpAny_bind (wpAny_holding (thn (hi pins s1 σ H1 _ I1 q1) fun iv s2 ⟨y, H2, I2, r2, q2⟩ => ?_))
  refine wpAny_bind (wpAny_standAt (wpAny_bind (wpAny_holding (thn (hs pins s2 σ H2 x y v ov iv u _ I2 r1 r2 r q2) fun _ s3 ⟨H3, I3, q3⟩ => ?_))))
  exact wpAny_release ⟨σ, H3, I3, q3⟩
noncomputable def tAsg (te : TE) (g : TG) : TS := fun D σ H => te σ H fun x H1 => g x σ H1 D.nx
theorem ps_asg {tg e : Expr} {te : TE} {g : TG} (he : PE X e te) (hg : PG X tg g) (hs : swapsWithSole [tg] e pos.line X.env = pure false := by rfl) (hw : swappedStores [tg] e X.env = pure none := by rfl)
    (h1 : (assignEach [tg] X.env).map (·.2) = [assign tg X.env] := by rfl) : PS X (.Assign [tg] e pos) (tAsg te g) := by
  intro pins s σ H D I h
  refine wpAny_Assign_stores (thn (he pins s σ H _ I h) fun v s1 ⟨x, H1, I1, r1, q1⟩ => ?_) hs hw
  rw [h1]
  exact thn (hg pins s1 σ H1 x v _ I1 r1 q1) fun _ s2 q => q
theorem ps_set {i : Nat} {x : Str} {e : Expr} {te : TE} {pos' : Pos} (hN : X.N.Nodup) (hi : X.N[i]? = some x) (hx : Loc X.env.scope x) (he : PE X e te) (hs : swapsWith e (some (.Name x pos')) pos.line X.env = pure false := by rfl) (hf : X.fn x = true ∨ X.env.scope.names.lookup x = some .local := by first | exact .inl rfl | exact .inr rfl | assumption) :
    PS X (.Assign [.Name x pos'] e pos) (tAsg te (gName i)) := by
  intro pins s σ H D I h
  refine wpAny_Assign_Name (thn (he pins s σ H _ I h) fun v s1 ⟨y, H1, I1, r1, q1⟩ => ?_) hs
  exact store_ok I1 hN hi hx r1 (fun s2 I2 => ⟨_, H1, I2, q1⟩) hf
end

section
variable {X : Cx} {pos : Pos}
noncomputable def tWhile (c : TT) (tb : TS) : TS := fun D σ H => ∃ W : Nat → St → Hp → Prop, (∃ m, W m σ H) ∧ ∀ m σ H, W m σ H →
  c σ H fun b H1 => if b = true then ∃ N : St → Hp → Prop, (∀ σ' H', N σ' H' → ∃ m', m' < m ∧ W m' σ' H') ∧ tb { D with nx := N, ct := N, bk := D.nx } σ H1 else D.nx σ H1
theorem ps_while {c : Expr} {body : List Stmt} {tc : TT} {tb : TS} (hp : PassesOwn (model X.prog X.w) X.A X.env X.xe) (hc : PT X c tc) (hb : PSs X body tb) : PS X (.While c body [] pos) (tWhile tc tb) := by
  intro pins s σ H D I h
  obtain ⟨W, ⟨m0, w0⟩, turn⟩ := h
  refine wpAny_While (codeAny_whileLoop (fun n s' => ∃ σ' H', Inv X pins σ' H' s' ∧ W n σ' H') ?_ m0 ⟨σ, H, I, w0⟩)
  rintro n s1 ⟨σ1, H1, I1, w1⟩
  refine wpAny_passesOwn hp (thn (hc pins s1 σ1 H1 _ I1 (turn n σ1 H1 w1)) fun b s2 ⟨H2, I2, q2⟩ => ?_)
  cases b with
  | true =>
    obtain ⟨N, hN, q2⟩ := q2
    rw [if_pos rfl]
    refine wpAny_passesOwn hp (thn (hb pins s2 σ1 H2 _ I2 q2) fun f s3 q3 => ?_)
    cases f with
    | next =>
      obtain ⟨σ3, H3, I3, n3⟩ := q3
      obtain ⟨m', hm, w3⟩ := hN σ3 H3 n3
      exact ⟨m', hm, σ3, H3, I3, w3⟩
    | cont =>
      obtain ⟨σ3, H3, I3, n3⟩ := q3
      obtain ⟨m', hm, w3⟩ := hN σ3 H3 n3
      exact ⟨m', hm, σ3, H3, I3, w3⟩
    | brk => exact q3
    | ret v => exact q3
  | false =>
    rw [if_neg Bool.false_ne_true]
    exact wpAny_execs_nil ⟨σ1, H2, I2, q2⟩
end

structure It where
  go : Nat → Hp → Prop
  yld : Nat → Hp → V → Hp → Prop
  stop : Nat → Hp → Prop
noncomputable def FpOk (X : Cx) (pins : List (Addr × Obj)) (H : Hp) (b : Addr) : Prop :=
  H b = none ∧ b ≠ X.env.locals ∧ b ∉ X.fs ∧ (b ∈ X.ex ∨ X.s_0.heap.objs.size ≤ b) ∧ (∀ x c, X.env.cells.lookup x = some c → c ≠ b) ∧ ∀ p ∈ X.pn ++ pins, p.1 ≠ b
theorem Inv.fpOk {X : Cx} {pins : List (Addr × Obj)} {σ : St} {H H' : Hp} {s : Shared} {b : Addr} (I : Inv X pins σ H s) (hb : s.heap.objs.size ≤ b) (hn : H' b = none) : FpOk X pins H' b := by
  refine ⟨hn, Nat.ne_of_gt (Nat.lt_of_lt_of_le I.lt hb), I.nofs hb, .inr (Nat.le_trans I.sz hb), fun x c e z => ?_, fun p hp z => ?_⟩
  · obtain ⟨v, q⟩ := I.cell x c e
    exact absurd (Nat.lt_of_lt_of_le q.lt (by rw [z]; exact hb)) (Nat.lt_irrefl _)
  · exact absurd (Nat.lt_of_lt_of_le (Heap.lt_size (I.pin p hp).1) (by rw [z]; exact hb)) (Nat.lt_irrefl _)
structure Turn (P : Program) (w : World) (K : PySem.W.Frag) (tg : Expr) (J : It) (fp : List Addr) (it : Addr) (tn : Nat → Heap → Prop) : Prop where
  mem : it ∈ fp
  obj : ∀ i h, tn i h → ∀ b ∈ fp, ∃ o, h.get? b = some o ∧ ∀ v, o.data ≠ .cell v
  keep : ∀ i h h', tn i h → (∀ b ∈ fp, ∀ o, h.get? b = some o → h'.get? b = some o) → tn i h'
  item : ∀ (X : Cx), X.prog = P → X.w = w → X.K = K → X.calm = true → ∀ (i : Nat) (pins : List (Addr × Obj)) (s : Shared) (σ : St) (H : Hp) (E : Value → Shared → Prop), Inv X pins σ H s → (∀ b ∈ fp, FpOk X pins H b) → tn i s.heap → J.go i H →
    wpAny (model P w) X.A (pyNext (.ref it)) (fun r s1 => ∃ u, r = some u ∧
      wpAny (model P w) X.A (letOwnedTupleGo tg (.ref it) u) (fun _ s2 => ∃ x H', Inv X pins σ H' s2 ∧ RelV x u ∧ J.yld i H x H' ∧ tn (i + 1) s2.heap ∧ ∀ b ∈ fp, H' b = none) E s1) E s
  done : ∀ (X : Cx), X.prog = P → X.w = w → X.K = K → X.calm = true → ∀ (i : Nat) (pins : List (Addr × Obj)) (s : Shared) (σ : St) (H : Hp) (E : Value → Shared → Prop), Inv X pins σ H s → (∀ b ∈ fp, FpOk X pins H b) → tn i s.heap → J.stop i H →
    wpAny (model P w) X.A (pyNext (.ref it)) (fun r s1 => r = none ∧ Inv X pins σ H s1) E s
  self : ∀ (A : Around) (i : Nat) (s : Shared) (Q : Value → Shared → Prop) (E : Value → Shared → Prop), tn i s.heap → Q (.ref it) s → wpAny (model P w) A (pyIter (.ref it)) Q E s
noncomputable abbrev TI := St → Hp → (It → Hp → Prop) → Prop
noncomputable def PIE (X : Cx) (pins : List (Addr × Obj)) (σ : St) (tg : Expr) (R : It → Hp → Prop) (itv : Value) (s2 : Shared) : Prop :=
  ∃ (it : Addr) (fp : List Addr) (tn : Nat → Heap → Prop) (J : It) (H' : Hp), itv = .ref it ∧ Inv X pins σ H' s2 ∧ Turn X.prog X.w X.K tg J fp it tn ∧ tn 0 s2.heap ∧ (∀ b ∈ fp, FpOk X pins H' b) ∧ R J H'
noncomputable def PI (X : Cx) (tg iter : Expr) (wi : TI) : Prop :=
  ∀ (pins : List (Addr × Obj)) (s : Shared) (σ : St) (H : Hp) (R : It → Hp → Prop), Inv X pins σ H s → wi σ H R →
    wpAny (model X.prog X.w) X.A (eval iter X.env) (fun v s1 => wpAny (model X.prog X.w) X.A (pyIter v) (PIE X pins σ tg R) X.xe s1) X.xe s

theorem go_of {M : Model} {A : Around} {E : Value → Shared → Prop} {s : Shared} {tg : Expr} {it : Addr} {u : Value} {o : Obj} {n : String} {vs : Array Value} {Q : Unit → Shared → Prop} (ho : s.heap.get? it = some o) (hc : o.cls = .type n) (hd : o.data = .fields vs)
    (hn : ["enumerate", "zip", "dict_itemiterator", "dict_reverseitemiterator", "odict_iterator", "itertools.zip_longest", "itertools.pairwise"].contains n = false) (hQ : Q () s) : wpAny M A (letOwnedTupleGo tg (.ref it) u) Q E s := by
  unfold letOwnedTupleGo
  cases tg <;> first
    | exact wpAny_pure hQ
    | (cases u <;> first
        | exact wpAny_pure hQ
        | (refine wpAny_bind (wpAny_load ho ?_)
           rw [hc, hd]
           show wpAny M A (if (["enumerate", "zip", "dict_itemiterator", "dict_reverseitemiterator", "odict_iterator", "itertools.zip_longest", "itertools.pairwise"].contains n && vs[0]? == some (rawInt _)) = true then _ else _) Q E s
           rw [if_neg (by intro h; rw [hn, Bool.false_and] at h; cases h)]
           exact wpAny_pure hQ))

noncomputable def Itl (K : PySem.W.Frag) (a : Addr) : It :=
  ⟨fun i H => ∃ xs x, SqL K H a xs ∧ xs[i]? = some x, fun i H x H' => H' = H ∧ ∀ xs, SqL K H a xs → xs[i]? = some x, fun i H => ∃ xs, SqL K H a xs ∧ xs.length ≤ i⟩
noncomputable def Itr (lo : Int) (n : Nat) : It := ⟨fun i _ => i < n, fun i H x H' => H' = H ∧ x = .int (lo + i), fun i _ => n ≤ i⟩
theorem turn_list {P : Program} {w : World} {K : PySem.W.Frag} {tg : Expr} (a it : Addr) : Turn P w K tg (Itl K a) [it] it (fun i h => h.IsListIter it a i) where
  mem := by simp
  obj := fun i h st b hb => by
    have e : b = it := by simpa using hb
    subst e
    obtain ⟨o, e, c, d⟩ := st
    exact ⟨o, e, fun v z => by rw [d] at z; cases z⟩
  keep := fun i h h' st k => st.at fun o e => k it (by simp) o e
  item := by
    intro X hP hw hK hc i pins s σ H E I hf st hg
    subst hP hw hK
    obtain ⟨xs, x, hq, hx⟩ := hg
    obtain ⟨its, rv, p, hz⟩ := I.list hq
    obtain ⟨u, hu, ru⟩ := rv.get hx
    obtain ⟨f0, f1, f2, f3, f4, f5⟩ := hf it (by simp)
    refine wpAny_pyNext_list_item st p.isList (x := u) (by simpa using hu) fun h' st' sb => ?_
    have I1 : Inv X pins σ H { s with heap := h' } := I.turned (t' := s.toks) (fun b o hb e => (sb.2 b hb).trans e) f0 f1 f3 f4 f5
    obtain ⟨o, e, c, d⟩ := id st'
    exact ⟨u, rfl, go_of (s := { s with heap := h' }) e c d (by decide) ⟨x, H, I1, ru, ⟨rfl, fun ys hy => by rw [I.list_inj hy hq]; exact hx⟩, st', fun b hb => (hf b hb).1⟩⟩
  done := by
    intro X hP hw hK hc i pins s σ H E I hf st hg
    subst hP hw hK
    obtain ⟨xs, hq, hx⟩ := hg
    obtain ⟨its, rv, p, hz⟩ := I.list hq
    obtain ⟨f0, f1, f2, f3, f4, f5⟩ := hf it (by simp)
    have hl := rv.length
    exact wpAny_pyNext_list_end (I.ok.hd hc) st p.isList (by simp; omega) fun h' eb => ⟨rfl, I.turned (t' := s.toks) (fun b o hb e => eb b o hb e) f0 f1 f3 f4 f5⟩
  self := fun _ _ _ _ _ st h => wpAny_pyIter_listiter st h
theorem turn_range {P : Program} {w : World} {K : PySem.W.Frag} {tg : Expr} (it : Addr) (lo : Int) (n : Nat) : Turn P w K tg (Itr lo n) [it] it (fun i h => IsRangeIter h it (lo + (i : Nat) * 1) ((n : Int) - (i : Nat)) 1) where
  mem := by simp
  obj := fun i h st b hb => by
    have e : b = it := by simpa using hb
    subst e
    exact ⟨_, st, fun v z => by
      have z' : Data.fields _ = Data.cell v := z
      cases z'⟩
  keep := fun i h h' st k => k it (by simp) _ st
  item := by
    intro X hP hw hK hc i pins s σ H E I hf st hg
    subst hP hw hK
    obtain ⟨f0, f1, f2, f3, f4, f5⟩ := hf it (by simp)
    have W := Walks.range (prog := X.prog) (w := X.w) (I.ok.hd hc) it lo 1 n
    refine W.item i s _ _ hg st fun v h' tk hv st' kk => ?_
    obtain ⟨t, rfl⟩ := hv
    have I1 : Inv X pins σ H { s with heap := h', toks := tk } := I.turned (fun b o hb e => kk b o (by simpa using hb) e) f0 f1 f3 f4 f5
    refine ⟨_, rfl, go_of (s := { s with heap := h', toks := tk }) (n := "range_iterator") st' rfl rfl (by decide) ⟨.int (lo + i), H, I1, ⟨t, ?_⟩, ⟨rfl, rfl⟩, st', fun b hb => (hf b hb).1⟩⟩
    rw [Int.mul_one]
  done := by
    intro X hP hw hK hc i pins s σ H E I hf st hg
    subst hP hw hK
    obtain ⟨f0, f1, f2, f3, f4, f5⟩ := hf it (by simp)
    exact wpAny_pyNext_range_end (I.ok.hd hc) st (by have : n ≤ i := hg; omega) fun h' eb => ⟨rfl, I.turned (t' := s.toks) (fun b o hb e => eb b o hb e) f0 f1 f3 f4 f5⟩
  self := fun _ _ _ _ _ st h => wpAny_pyIter_rangeiter st h
end L2

namespace L2
open PySem PySem.Spec PyProof.Rows
section
variable {X : Cx} {tg : Expr}
noncomputable def iList (K : PySem.W.Frag) (tl : TE) : TI := fun σ H R => tl σ H fun x H1 => ∃ a, x = .ref a ∧ (∃ xs, SqL K H1 a xs) ∧ R (Itl K a) H1
theorem pi_list {l : Expr} {tl : TE} (hl : PE X l tl) : PI X tg l (iList X.K tl) := by
  intro pins s σ H R I h
  refine thn (hl pins s σ H _ I h) fun v s1 ⟨x, H1, I1, r1, q1⟩ => ?_
  obtain ⟨a, e, ⟨xs, hq⟩, q⟩ := q1
  subst e
  cases r1
  obtain ⟨its, rv, p, hz⟩ := I1.list hq
  refine wpAny_pyIter_list p.isList ?_
  refine ⟨s1.heap.objs.size, [s1.heap.objs.size], _, _, H1, rfl, I1.kept (t' := s1.toks) fun b o e => Heap.get?_push_of_some _ e, turn_list a _, ⟨_, Heap.get?_push_size _ rfl, rfl, rfl⟩, fun b hb => ?_, q⟩
  have e : b = s1.heap.objs.size := by simpa using hb
  subst e
  exact I1.fpOk (Nat.le_refl _) (I1.hok.fresh (Nat.le_refl _))
theorem range_it {pins : List (Addr × Obj)} {σ : St} {H : Hp} {s : Shared} {R : It → Hp → Prop} {E : Value → Shared → Prop} {lo hi : Int} {t u v : Tok} {tk : Nat} (I : Inv X pins σ H s) (h1 : -(2 ^ 62) ≤ lo) (h2 : lo < 2 ^ 62) (h3 : -(2 ^ 62) ≤ hi) (h4 : hi < 2 ^ 62)
    (q : R (Itr lo (hi - lo).toNat) H) : wpAny (model X.prog X.w) X.A (pyIter (.ref s.heap.objs.size)) (PIE X pins σ tg R) E { s with heap := s.heap.push { cls := .type "range", data := .fields #[.int lo t, .int hi u, .int 1 v] }, toks := tk } := by
  refine wpAny_pyIter_range (IsRange.new ..) (small_one h1 h2 h3 h4) ?_
  have I1 : Inv X pins σ H { s with heap := s.heap.push { cls := .type "range", data := .fields #[.int lo t, .int hi u, .int 1 v] }, toks := tk } := I.kept fun b o e => Heap.get?_push_of_some _ e
  refine ⟨(s.heap.push { cls := .type "range", data := .fields #[.int lo t, .int hi u, .int 1 v] }).objs.size, [(s.heap.push { cls := .type "range", data := .fields #[.int lo t, .int hi u, .int 1 v] }).objs.size], _, _, H, rfl,
    I1.kept (t' := tk) fun b o e => Heap.get?_push_of_some _ e, turn_range _ lo (hi - lo).toNat, ?_, fun b hb => ?_, q⟩
  · have e1 : lo + ((0 : Nat) : Int) * 1 = lo := by simp
    have e2 : (((hi - lo).toNat : Nat) : Int) - ((0 : Nat) : Int) = Builtin.Range.rangeSize lo hi 1 := by rw [rangeSize_one]; split <;> omega
    show IsRangeIter _ _ (lo + ((0 : Nat) : Int) * 1) ((((hi - lo).toNat : Nat) : Int) - ((0 : Nat) : Int)) 1
    rw [e1, e2]
    exact Heap.get?_push_size _ rfl
  · have e : b = (s.heap.push { cls := .type "range", data := .fields #[.int lo t, .int hi u, .int 1 v] }).objs.size := by simpa using hb
    subst e
    exact I1.fpOk (Nat.le_refl _) (I1.hok.fresh (Nat.le_refl _))
noncomputable def iRng1 (ta : TA) : TI := fun σ H R => ta σ H fun vs H1 => ∃ j : Int, vs = [.int j] ∧ -(2 ^ 62) ≤ j ∧ j < 2 ^ 62 ∧ R (Itr 0 j.toNat) H1
noncomputable def iRng2 (ta : TA) : TI := fun σ H R => ta σ H fun vs H1 => ∃ i j : Int, vs = [.int i, .int j] ∧ (-(2 ^ 62) ≤ i ∧ i < 2 ^ 62 ∧ -(2 ^ 62) ≤ j ∧ j < 2 ^ 62) ∧ R (Itr i (j - i).toNat) H1
theorem pi_range1 {a : Expr} {ta : TA} {p pos : Pos} (hg : Gl X "range") (hm : X.mg "range" = none) (ha : PA X [a] ta) (hs : starEach [a] X.env = [(false, eval a X.env)] := by rfl) : PI X tg (.Call (.Name "range" p) [a] [] pos) (iRng1 ta) := by
  intro pins s σ H R I h
  refine Call_ (ld_blt I hg hm boot_range (PyProof.Rows.callWith_type1 (thn (ha pos pins s σ H _ I h) fun us s1 ⟨vs, H1, I1, r1, q1⟩ => ?_) hs rfl))
  obtain ⟨j, e, q1, q2, q⟩ := q1
  subst e
  cases r1 with
  | cons r rr =>
    cases rr
    obtain ⟨t, rfl⟩ := r
    exact call_range_1 (range_it I1 (by omega) (by omega) q1 q2 (by simpa using q))
theorem pi_range2 {a b : Expr} {ta : TA} {p pos : Pos} (hg : Gl X "range") (hm : X.mg "range" = none) (ha : PA X [a, b] ta) (hs : starEach [a, b] X.env = [(false, eval a X.env), (false, eval b X.env)] := by rfl) (hs2 : starEach [b] X.env = [(false, eval b X.env)] := by rfl) :
    PI X tg (.Call (.Name "range" p) [a, b] [] pos) (iRng2 ta) := by
  intro pins s σ H R I h
  refine Call_ (ld_blt I hg hm boot_range (PyProof.Rows.callWith_type1 (thn (ha pos pins s σ H _ I h) fun us s1 ⟨vs, H1, I1, r1, q1⟩ => ?_) (by rw [hs, hs2]) (by rw [hs2]; rfl)))
  obtain ⟨i, j, e, ⟨q1, q2, q3, q4⟩, q⟩ := q1
  subst e
  cases r1 with
  | cons r rr =>
    cases rr with
    | cons r' rr =>
      cases rr
      obtain ⟨t, rfl⟩ := r
      obtain ⟨t', rfl⟩ := r'
      exact call_range_2 (range_it I1 q1 q2 q3 q4 q)

noncomputable def tFor (wi : TI) (g : TG) (tb : TS) : TS := fun D σ H => wi σ H fun J H1 => ∃ W : Nat → Nat → St → Hp → Prop, (∃ m, W 0 m σ H1) ∧ ∀ i m σ H, W i m σ H →
  (J.stop i H ∧ D.nx σ H) ∨ (J.go i H ∧ ∃ N : St → Hp → Prop, (∀ σ' H', N σ' H' → ∃ m', m' < m ∧ W (i + 1) m' σ' H') ∧ ∀ x H', J.yld i H x H' → g x σ H' fun σ2 H2 => tb { D with nx := N, ct := N, bk := D.nx } σ2 H2)
noncomputable def pinsAt (fp : List Addr) (h : Heap) : List (Addr × Obj) := fp.filterMap fun b => (h.get? b).map fun o => (b, o)
theorem mem_pinsAt {fp : List Addr} {h : Heap} {b : Addr} {o : Obj} (hb : b ∈ fp) (e : h.get? b = some o) : (b, o) ∈ pinsAt fp h := List.mem_filterMap.mpr ⟨b, hb, by rw [e]; rfl⟩
theorem of_pinsAt {fp : List Addr} {h : Heap} {p : Addr × Obj} (hp : p ∈ pinsAt fp h) : p.1 ∈ fp ∧ h.get? p.1 = some p.2 := by
  obtain ⟨b, hb, e⟩ := List.mem_filterMap.mp hp
  cases q : h.get? b with
  | none => rw [q] at e; cases e
  | some o =>
    rw [q] at e
    have e' : (b, o) = p := Option.some.inj e
    subst e'
    exact ⟨hb, q⟩
theorem Inv.pinned {pins : List (Addr × Obj)} {σ : St} {H : Hp} {s : Shared} {fp : List Addr} (I : Inv X pins σ H s) (hf : ∀ b ∈ fp, FpOk X pins H b) (ho : ∀ b ∈ fp, ∃ o, s.heap.get? b = some o ∧ ∀ v, o.data ≠ .cell v) : Inv X (pins ++ pinsAt fp s.heap) σ H s :=
  I.pins_of fun p hp => (List.mem_append.mp hp).elim (fun z => I.pin p (List.mem_append_right _ z)) fun z => by
    obtain ⟨hb, e⟩ := of_pinsAt z
    obtain ⟨f0, f1, f2, _⟩ := hf p.1 hb
    obtain ⟨o, e', d⟩ := ho p.1 hb
    rw [e] at e'; cases e'
    exact ⟨e, f0, f1, f2, d⟩
theorem Inv.unpinned {pins pl : List (Addr × Obj)} {σ : St} {H : Hp} {s : Shared} (I : Inv X (pins ++ pl) σ H s) : Inv X pins σ H s := I.pins_of fun p hp => I.pin p (List.mem_append_right _ (List.mem_append_left _ hp))
theorem ps_for {iter : Expr} {body : List Stmt} {wi : TI} {g : TG} {tb : TS} {pos : Pos} (hp : PassesOwn (model X.prog X.w) X.A X.env X.xe) (hc : X.calm = true) (hi : PI X tg iter wi) (hg : PG X tg g) (hb : PSs X body tb)
    (hs : ∀ x, foldedSetIterable iter X.env x = pure x := by intro _; rfl) : PS X (.For tg iter body [] pos) (tFor wi g tb) := by
  intro pins s σ H D I h
  refine wpAny_For (thn (hi pins s σ H _ I h) fun v s1 h1 => thn h1 fun itv s2 h2 => ?_) hs
  obtain ⟨it, fp, tn, J, H2, e, I2, T, st2, f2, W, ⟨m0, w0⟩, turn⟩ := h2
  subst e
  -- what stays true of the iterator's objects through the loop
  have stat : ∀ {H' : Hp}, (∀ b ∈ fp, H' b = none) → ∀ b ∈ fp, FpOk X pins H' b := fun hn b hb => ⟨hn b hb, (f2 b hb).2⟩
  refine codeAny_forLoop_any (fun n s' => ∃ i σ' H', Inv X pins σ' H' s' ∧ tn i s'.heap ∧ (∀ b ∈ fp, H' b = none) ∧ W i n σ' H') ?_ m0 ⟨0, σ, H2, I2, st2, fun b hb => (f2 b hb).1, w0⟩
  rintro n s3 ⟨i, σ3, H3, I3, st3, fr3, w3⟩
  rcases turn i n σ3 H3 w3 with ⟨stop, qn⟩ | ⟨go, N, hN, step⟩
  · refine wpAny_passesOwn hp (thn (T.done X rfl rfl rfl hc i pins s3 σ3 H3 X.xe I3 (stat fr3) st3 stop) fun r s4 ⟨hr, I4⟩ => ?_)
    subst hr
    exact wpAny_execs_nil ⟨σ3, H3, I4, qn⟩
  · refine wpAny_passesOwn hp (thn (T.item X rfl rfl rfl hc i pins s3 σ3 H3 X.xe I3 (stat fr3) st3 go) fun r s4 ⟨u, hr, h4⟩ => ?_)
    subst hr
    refine wpAny_passesOwn hp (thn h4 fun _ s5 ⟨x, H5, I5, r5, y5, st5, fr5⟩ => ?_)
    have I5' := I5.pinned (stat fr5) (T.obj _ _ st5)
    refine wpAny_passesOwn hp (thn (hg _ s5 σ3 H5 x u _ I5' r5 (step x H5 y5)) fun _ s6 ⟨σ6, H6, I6, q6⟩ => ?_)
    refine wpAny_passesOwn hp (thn (hb _ s6 σ6 H6 _ I6 q6) fun f s7 q7 => ?_)
    have again : ∀ {σ7 : St} {H7 : Hp}, Inv X (pins ++ pinsAt fp s5.heap) σ7 H7 s7 → N σ7 H7 → ∃ m, m < n ∧ ∃ i σ' H', Inv X pins σ' H' s7 ∧ tn i s7.heap ∧ (∀ b ∈ fp, H' b = none) ∧ W i m σ' H' := fun {σ7 H7} I7 n7 => by
      obtain ⟨m', hm, w7⟩ := hN σ7 H7 n7
      refine ⟨m', hm, i + 1, σ7, H7, I7.unpinned, T.keep _ _ _ st5 fun b hb o e => (I7.pin (b, o) (List.mem_append_right _ (List.mem_append_right _ (mem_pinsAt hb e)))).1, fun b hb => ?_, w7⟩
      obtain ⟨o, e, d⟩ := T.obj _ _ st5 b hb
      exact (I7.pin (b, o) (List.mem_append_right _ (List.mem_append_right _ (mem_pinsAt hb e)))).2.1
    cases f with
    | next => obtain ⟨σ7, H7, I7, n7⟩ := q7; exact again I7 n7
    | cont => obtain ⟨σ7, H7, I7, n7⟩ := q7; exact again I7 n7
    | brk => obtain ⟨σ7, H7, I7, q7⟩ := q7; exact ⟨σ7, H7, I7.unpinned, q7⟩
    | ret v => obtain ⟨x7, σ7, H7, I7, r7, q7⟩ := q7; exact ⟨x7, σ7, H7, I7.unpinned, r7, q7⟩
end

theorem for_list {K : PySem.W.Frag} {a : Addr} {xs : List V} {g : TG} {tb : TS} {D : Ends} {σ : St} {H : Hp} (Pv : Nat → St → Hp → Prop) (h0 : Pv 0 σ H) (hl : ∀ i σ H, i ≤ xs.length → Pv i σ H → SqL K H a xs)
    (hs : ∀ i x σ H, xs[i]? = some x → Pv i σ H → g x σ H fun σ2 H2 => tb { D with nx := Pv (i + 1), ct := Pv (i + 1), bk := D.nx } σ2 H2) (hd : ∀ σ H, Pv xs.length σ H → D.nx σ H) :
    ∃ W : Nat → Nat → St → Hp → Prop, (∃ m, W 0 m σ H) ∧ ∀ i m σ H, W i m σ H →
      ((Itl K a).stop i H ∧ D.nx σ H) ∨ ((Itl K a).go i H ∧ ∃ N : St → Hp → Prop, (∀ σ' H', N σ' H' → ∃ m', m' < m ∧ W (i + 1) m' σ' H') ∧ ∀ x H', (Itl K a).yld i H x H' → g x σ H' fun σ2 H2 => tb { D with nx := N, ct := N, bk := D.nx } σ2 H2) := by
  refine ⟨fun i m σ H => m = xs.length - i ∧ i ≤ xs.length ∧ Pv i σ H, ⟨xs.length, by simp, Nat.zero_le _, h0⟩, ?_⟩
  rintro i m σ H ⟨rfl, hi, p⟩
  have q := hl i σ H hi p
  by_cases hlt : i < xs.length
  · refine .inr ⟨⟨xs, xs[i], q, by simp [hlt]⟩, Pv (i + 1), fun σ' H' p' => ⟨xs.length - (i + 1), by omega, rfl, hlt, p'⟩, fun x H' y => ?_⟩
    obtain ⟨e, y⟩ := y
    subst e
    exact hs i x σ _ (y xs q) p
  · have e : i = xs.length := by omega
    subst e
    exact .inl ⟨⟨xs, q, Nat.le_refl _⟩, hd σ H p⟩
theorem for_range {lo : Int} {n : Nat} {g : TG} {tb : TS} {D : Ends} {σ : St} {H : Hp} (Pv : Nat → St → Hp → Prop) (h0 : Pv 0 σ H)
    (hs : ∀ i σ H, i < n → Pv i σ H → g (.int (lo + i)) σ H fun σ2 H2 => tb { D with nx := Pv (i + 1), ct := Pv (i + 1), bk := D.nx } σ2 H2) (hd : ∀ σ H, Pv n σ H → D.nx σ H) :
    ∃ W : Nat → Nat → St → Hp → Prop, (∃ m, W 0 m σ H) ∧ ∀ i m σ H, W i m σ H →
      ((Itr lo n).stop i H ∧ D.nx σ H) ∨ ((Itr lo n).go i H ∧ ∃ N : St → Hp → Prop, (∀ σ' H', N σ' H' → ∃ m', m' < m ∧ W (i + 1) m' σ' H') ∧ ∀ x H', (Itr lo n).yld i H x H' → g x σ H' fun σ2 H2 => tb { D with nx := N, ct := N, bk := D.nx } σ2 H2) := by
  refine ⟨fun i m σ H => m = n - i ∧ i ≤ n ∧ Pv i σ H, ⟨n, by simp, Nat.zero_le _, h0⟩, ?_⟩
  rintro i m σ H ⟨rfl, hi, p⟩
  by_cases hlt : i < n
  · refine .inr ⟨hlt, Pv (i + 1), fun σ' H' p' => ⟨n - (i + 1), by omega, rfl, hlt, p'⟩, fun x H' y => ?_⟩
    obtain ⟨e, y⟩ := y
    subst e y
    exact hs i σ _ hlt p
  · have e : i = n := by omega
    subst e
    exact .inl ⟨Nat.le_refl _, hd σ H p⟩
theorem while_by {c : TT} {tb : TS} {D : Ends} {σ : St} {H : Hp} (Pv : St → Hp → Prop) (μ : St → Hp → Nat) (h0 : Pv σ H)
    (hs : ∀ σ H, Pv σ H → c σ H fun b H1 => if b = true then tb { D with nx := fun σ' H' => Pv σ' H' ∧ μ σ' H' < μ σ H, ct := fun σ' H' => Pv σ' H' ∧ μ σ' H' < μ σ H, bk := D.nx } σ H1 else D.nx σ H1)
    (mono : ∀ σ H Q Q', (∀ b H1, Q b H1 → Q' b H1) → c σ H Q → c σ H Q') : tWhile c tb D σ H := by
  refine ⟨fun m σ H => m = μ σ H ∧ Pv σ H, ⟨_, rfl, h0⟩, ?_⟩
  rintro m σ H ⟨rfl, p⟩
  refine mono σ H _ _ (fun b H1 q => ?_) (hs σ H p)
  cases b with
  | true => exact ⟨_, fun σ' H' ⟨p', l⟩ => ⟨_, l, rfl, p'⟩, q⟩
  | false => exact q
end L2

namespace L2
open PySem PySem.Spec PyProof.Rows

noncomputable abbrev R2 := V → V → Hp → VK → Prop
noncomputable def OpR (X : Cx) (f : Value → Value → Sem Value) (r : R2) : Prop :=
  ∀ (pins : List (Addr × Obj)) (s : Shared) (σ : St) (H : Hp) (x y : V) (v u : Value) (Q : VK), Inv X pins σ H s → RelV x v → RelV y u → r x y H Q →
    wpAny (model X.prog X.w) X.A (f v u) (EP X pins σ Q) X.xe s
noncomputable def CallR (X : Cx) (f : Value) (r : List V → Hp → VK → Prop) : Prop :=
  ∀ (pins : List (Addr × Obj)) (s : Shared) (σ : St) (H : Hp) (xs : List V) (us : List Value) (Q : VK), Inv X pins σ H s → Vals xs us → r xs H Q →
    wpAny (model X.prog X.w) X.A (call f us) (EP X pins σ Q) X.xe s
noncomputable def tOp (r : R2) (ta tb : TE) : TE := fun σ H Q => ta σ H fun x H1 => tb σ H1 fun y H2 => r x y H2 Q
noncomputable def rI (C : Int → Int → Prop) (g : Int → Int → V) : R2 := fun x y H Q => ∃ i j, x = .int i ∧ y = .int j ∧ C i j ∧ Q (g i j) H
noncomputable def rI0 (g : Int → Int → V) : R2 := fun x y H Q => ∃ i j, x = .int i ∧ y = .int j ∧ Q (g i j) H
section
variable {X : Cx} {a b c : Expr} {ta tb tc : TE} {pos : Pos}

theorem binT (ha : PE X a ta) (hb : PE X b tb) {pins : List (Addr × Obj)} {s : Shared} {σ : St} {H : Hp} {R : V → V → Hp → Prop} (I : Inv X pins σ H s)
    (h : ta σ H fun x H1 => tb σ H1 fun y H2 => R x y H2) {Q : Value → Shared → Prop} {f : Value → Value → Sem Value}
    (hf : ∀ v u s2 x y H2, Inv X pins σ H2 s2 → RelV x v → RelV y u → R x y H2 → wpAny (model X.prog X.w) X.A (f v u) Q X.xe s2) :
    wpAny (model X.prog X.w) X.A (eval a X.env) (fun v s₁ => wpAny (model X.prog X.w) X.A (eval b X.env) (fun u s₂ => wpAny (model X.prog X.w) X.A (f v u) Q X.xe s₂) X.xe s₁) X.xe s := by
  refine thn (ha pins s σ H _ I h) fun v s1 ⟨x, H1, I1, r1, q1⟩ => ?_
  refine thn (hb pins s1 σ H1 _ I1 q1) fun u s2 ⟨y, H2, I2, r2, q2⟩ => ?_
  exact hf v u s2 x y H2 I2 r1 r2 q2

theorem pe_op {op : Operator} {r : R2} (ho : OpR X (binaryOp op) r) (ha : PE X a ta) (hb : PE X b tb) : PE X (.BinOp a op b pos) (tOp r ta tb) := by
  intro pins s σ H Q I h
  exact wpAny_BinOp (binT ha hb I h fun v u s2 x y H2 I2 rx ry q => ho pins s2 σ H2 x y v u Q I2 rx ry q)
theorem opI {f : Value → Value → Sem Value} {C : Int → Int → Prop} {g : Int → Int → Int}
    (rule : ∀ (i j : Int) (t u : Tok) (s : Shared) (Q : Value → Shared → Prop) (E : Value → Shared → Prop), C i j → Q (.int (g i j) s.toks) { s with toks := s.toks + 1 } → wpAny (model X.prog X.w) X.A (f (.int i t) (.int j u)) Q E s) :
    OpR X f (rI C fun i j => .int (g i j)) := by
  intro pins s σ H x y v u Q I rx ry h
  obtain ⟨i, j, rfl, rfl, hc, q⟩ := h
  obtain ⟨t, rfl⟩ := rx
  obtain ⟨t', rfl⟩ := ry
  exact rule i j t t' s _ _ hc ⟨.int (g i j), H, I.tok _, ⟨_, rfl⟩, q⟩
theorem opI0 {f : Value → Value → Sem Value} {g : Int → Int → Int}
    (rule : ∀ (i j : Int) (t u : Tok) (s : Shared) (Q : Value → Shared → Prop) (E : Value → Shared → Prop), Q (.int (g i j) s.toks) { s with toks := s.toks + 1 } → wpAny (model X.prog X.w) X.A (f (.int i t) (.int j u)) Q E s) :
    OpR X f (rI0 fun i j => .int (g i j)) := by
  intro pins s σ H x y v u Q I rx ry h
  obtain ⟨i, j, rfl, rfl, q⟩ := h
  obtain ⟨t, rfl⟩ := rx
  obtain ⟨t', rfl⟩ := ry
  exact rule i j t t' s _ _ ⟨.int (g i j), H, I.tok _, ⟨_, rfl⟩, q⟩
theorem opB0 {f : Value → Value → Sem Value} {g : Int → Int → Bool}
    (rule : ∀ (i j : Int) (t u : Tok) (s : Shared) (Q : Value → Shared → Prop) (E : Value → Shared → Prop), Q (.bool (g i j)) s → wpAny (model X.prog X.w) X.A (f (.int i t) (.int j u)) Q E s) :
    OpR X f (rI0 fun i j => .bl (g i j)) := by
  intro pins s σ H x y v u Q I rx ry h
  obtain ⟨i, j, rfl, rfl, q⟩ := h
  obtain ⟨t, rfl⟩ := rx
  obtain ⟨t', rfl⟩ := ry
  exact rule i j t t' s _ _ ⟨.bl (g i j), H, I, rfl, q⟩

theorem op_add : OpR X (binaryOp .Add) (rI0 fun i j => .int (i + j)) := opI0 fun _ _ _ _ _ _ _ q => add_int q
theorem op_sub : OpR X (binaryOp .Sub) (rI0 fun i j => .int (i - j)) := opI0 fun _ _ _ _ _ _ _ q => sub_int q
theorem op_mod : OpR X (binaryOp .Mod) (rI (fun _ j => 0 < j) fun i j => .int (i % j)) := opI fun i j _ _ _ _ _ hc q => by
  have h1 : (0 : Int) < j := hc
  exact mod_int' (by omega) (by rw [Int.fmod_eq_emod_of_nonneg i (by omega)]; exact q)
end

noncomputable def scal : V → V → Bool
  | .non, .non => true | .non, .int _ => true | .int _, .non => true | .non, .bl _ => true | .bl _, .non => true | .non, .str _ => true | .str _, .non => true
  | .int _, .int _ => true | .bl _, .bl _ => true | .str _, .str _ => true | .byt _, .byt _ => true
  | .int _, .str _ => true | .str _, .int _ => true | .bl _, .str _ => true | .str _, .bl _ => true
  | _, _ => false
noncomputable def rEq : R2 := fun x y H Q => scal x y = true ∧ Q (.bl (decide (x = y))) H
noncomputable def rNe : R2 := fun x y H Q => scal x y = true ∧ Q (.bl (!decide (x = y))) H

theorem dec_int {i j : Int} : decide (V.int i = V.int j) = (i == j) := by
  rw [Bool.eq_iff_iff]
  simp
theorem dec_bl {i j : Bool} : decide (V.bl i = V.bl j) = (i == j) := by
  rw [Bool.eq_iff_iff]
  simp
theorem dec_str {i j : Str} : decide (V.str i = V.str j) = (i == j) := by
  rw [Bool.eq_iff_iff]
  simp
theorem dec_byt {i j : Array UInt8} : decide (V.byt i = V.byt j) = (i.toList == j.toList) := by
  rw [Bool.eq_iff_iff]
  cases i
  cases j
  simp

section
variable {X : Cx} {a b c : Expr} {ta tb tc : TE} {pos : Pos}
theorem fin_bl {pins : List (Addr × Obj)} {σ : St} {H : Hp} {s : Shared} {Q : VK} {k k' : Bool} (I : Inv X pins σ H s) (q : Q (.bl k) H) (e : k = k') : EP X pins σ Q (.bool k') s := by
  subst e
  exact ⟨.bl k, H, I, rfl, q⟩
theorem op_eq : OpR X (compareOp .Eq) rEq := by
  intro pins s σ H x y v u Q I rx ry h
  obtain ⟨hs, q⟩ := h
  cases x with
  | non =>
    cases rx
    cases y with
    | non => cases ry; exact PySem.EqNone.eq_none_none (fin_bl I q (by simp))
    | bl j => cases ry; exact PySem.EqNone.eq_none_bool (fin_bl I q (by simp))
    | int j => obtain ⟨t', rfl⟩ := ry; exact PySem.EqNone.eq_none_int (fin_bl I q (by simp))
    | str j => obtain ⟨t', rfl⟩ := ry; exact PySem.EqNone.eq_none_str (fin_bl I q (by simp))
    | _ => exact absurd (show false = true from hs) Bool.false_ne_true
  | bl i =>
    cases rx
    cases y with
    | non => cases ry; exact PySem.EqNone.eq_bool_none (fin_bl I q (by simp))
    | bl j => cases ry; exact eq_bool (fin_bl I q dec_bl)
    | str j => obtain ⟨t', rfl⟩ := ry; exact PySem.EqMixed.eq_bool_str (fin_bl I q (by simp))
    | _ => exact absurd (show false = true from hs) Bool.false_ne_true
  | int i =>
    obtain ⟨t, rfl⟩ := rx
    cases y with
    | non => cases ry; exact PySem.EqNone.eq_int_none (fin_bl I q (by simp))
    | int j => obtain ⟨t', rfl⟩ := ry; exact eq_int (fin_bl I q dec_int)
    | str j => obtain ⟨t', rfl⟩ := ry; exact PySem.EqMixed.eq_int_str (fin_bl I q (by simp))
    | _ => exact absurd (show false = true from hs) Bool.false_ne_true
  | str i =>
    obtain ⟨t, rfl⟩ := rx
    cases y with
    | non => cases ry; exact PySem.EqNone.eq_str_none (fin_bl I q (by simp))
    | bl j => cases ry; exact PySem.EqMixed.eq_str_bool (fin_bl I q (by simp))
    | int j => obtain ⟨t', rfl⟩ := ry; exact PySem.EqMixed.eq_str_int (fin_bl I q (by simp))
    | str j => obtain ⟨t', rfl⟩ := ry; exact eq_str (fin_bl I q dec_str)
    | _ => exact absurd (show false = true from hs) Bool.false_ne_true
  | byt i =>
    obtain ⟨t, rfl⟩ := rx
    cases y with
    | byt j => obtain ⟨t', rfl⟩ := ry; exact PySem.W.eq_bytes (fin_bl I q dec_byt)
    | _ => exact absurd (show false = true from hs) Bool.false_ne_true
  | _ => cases y <;> exact absurd (show false = true from hs) Bool.false_ne_true
theorem op_ne : OpR X (compareOp .NotEq) rNe := by
  intro pins s σ H x y v u Q I rx ry h
  obtain ⟨hs, q⟩ := h
  cases x with
  | non =>
    cases rx
    cases y with
    | non => cases ry; exact PySem.EqNone.ne_none_none (fin_bl I q (by simp))
    | bl j => cases ry; exact PySem.EqNone.ne_none_bool (fin_bl I q (by simp))
    | int j => obtain ⟨t', rfl⟩ := ry; exact PySem.EqNone.ne_none_int (fin_bl I q (by simp))
    | str j => obtain ⟨t', rfl⟩ := ry; exact PySem.EqNone.ne_none_str (fin_bl I q (by simp))
    | _ => exact absurd (show false = true from hs) Bool.false_ne_true
  | bl i =>
    cases rx
    cases y with
    | non => cases ry; exact PySem.EqNone.ne_bool_none (fin_bl I q (by simp))
    | bl j => cases ry; exact ne_bool (fin_bl I q (congrArg not dec_bl))
    | str j => obtain ⟨t', rfl⟩ := ry; exact PySem.EqMixed.ne_bool_str (fin_bl I q (by simp))
    | _ => exact absurd (show false = true from hs) Bool.false_ne_true
  | int i =>
    obtain ⟨t, rfl⟩ := rx
    cases y with
    | non => cases ry; exact PySem.EqNone.ne_int_none (fin_bl I q (by simp))
    | int j => obtain ⟨t', rfl⟩ := ry; exact ne_int (fin_bl I q (congrArg not dec_int))
    | str j => obtain ⟨t', rfl⟩ := ry; exact PySem.EqMixed.ne_int_str (fin_bl I q (by simp))
    | _ => exact absurd (show false = true from hs) Bool.false_ne_true
  | str i =>
    obtain ⟨t, rfl⟩ := rx
    cases y with
    | non => cases ry; exact PySem.EqNone.ne_str_none (fin_bl I q (by simp))
    | bl j => cases ry; exact PySem.EqMixed.ne_str_bool (fin_bl I q (by simp))
    | int j => obtain ⟨t', rfl⟩ := ry; exact PySem.EqMixed.ne_str_int (fin_bl I q (by simp))
    | str j => obtain ⟨t', rfl⟩ := ry; exact ne_str (fin_bl I q (congrArg not dec_str))
    | _ => exact absurd (show false = true from hs) Bool.false_ne_true
  | byt i =>
    obtain ⟨t, rfl⟩ := rx
    cases y with
    | byt j => obtain ⟨t', rfl⟩ := ry; exact PySem.W.ne_bytes (fin_bl I q (congrArg not dec_byt))
    | _ => exact absurd (show false = true from hs) Bool.false_ne_true
  | _ => cases y <;> exact absurd (show false = true from hs) Bool.false_ne_true

theorem op_lt : OpR X (compareOp .Lt) (rI0 fun i j => .bl (decide (i < j))) := opB0 fun _ _ _ _ _ _ _ q => lt_int q
theorem op_gt : OpR X (compareOp .Gt) (rI0 fun i j => .bl (decide (j < i))) := opB0 fun _ _ _ _ _ _ _ q => gt_int q
theorem op_ge : OpR X (compareOp .GtE) (rI0 fun i j => .bl (decide (j ≤ i))) := opB0 fun _ _ _ _ _ _ _ q => ge_int q
theorem op_isN : OpR X (compareOp .Is) (fun x y H Q => y = .non ∧ Q (.bl (decide (x = .non))) H) := by
  intro pins s σ H x y v u Q I rx ry h
  obtain ⟨rfl, q⟩ := h
  cases ry
  refine is_none_gen (fin_bl I q ?_)
  cases x <;> first
    | (cases rx; rfl)
    | (obtain ⟨t, rfl⟩ := rx; rfl)
theorem nomark (b : Expr) {op : CmpOp} (h : op ≠ .In := by decide) (h2 : op ≠ .NotIn := by decide) : behindInMarks op b = false := by
  have e1 : (op == CmpOp.In) = false := by cases op <;> first | rfl | exact absurd rfl h
  have e2 : (op == CmpOp.NotIn) = false := by cases op <;> first | rfl | exact absurd rfl h2
  cases b <;> simp [behindInMarks, e1, e2]
theorem pe_cmpR {op : CmpOp} {r : R2} (ho : OpR X (compareOp op) r) (ha : PE X a ta) (hb : PE X b tb) (hm : behindInMarks op b = false) : PE X (.Compare a [op] [b] pos) (tOp r ta tb) := by
  intro pins s σ H Q I h
  exact wpAny_Compare1 (binT ha hb I h fun v u s2 x y H2 I2 rx ry q => ho pins s2 σ H2 x y v u Q I2 rx ry q) hm
noncomputable def tTest (t : TE) : TT := fun σ H Q => t σ H fun x H' => ∃ k, x = .bl k ∧ Q k H'
theorem pt_cmpR {op : CmpOp} {r : R2} (ho : OpR X (compareOp op) r) (ha : PE X a ta) (hb : PE X b tb) (hm : behindInMarks op b = false) : PT X (.Compare a [op] [b] pos) (tTest (tOp r ta tb)) := by
  intro pins s σ H Q I h
  refine wpAny_isTrue_Compare1 (thn (ha pins s σ H _ I h) fun v s1 ⟨x, H1, I1, r1, q1⟩ => thn (hb pins s1 σ H1 _ I1 q1) fun u s2 ⟨y, H2, I2, r2, q2⟩ =>
    thn (ho pins s2 σ H2 x y v u _ I2 r1 r2 q2) fun c s3 ⟨z, H3, I3, r3, k, e, q3⟩ => ?_) hm
  subst e
  cases r3
  exact wpAny_truthy_bool ⟨H3, I3, q3⟩
theorem line63 : (sizeLine : Nat) < 2 ^ 63 := by rw [sizeLine_eq]; decide
theorem vals1 {x : V} {us : List Value} (r : Vals [x] us) : ∃ u, us = [u] ∧ RelV x u := by
  cases r with
  | cons r1 r2 => cases r2; exact ⟨_, rfl, r1⟩
theorem vals2 {x y : V} {us : List Value} (r : Vals [x, y] us) : ∃ u w', us = [u, w'] ∧ RelV x u ∧ RelV y w' := by
  cases r with
  | cons r1 r2 =>
    cases r2 with
    | cons r3 r4 => cases r4; exact ⟨_, _, rfl, r1, r3⟩
theorem call_max2 (hc : X.calm = true) : CallR X (.builtin "max") (fun xs H Q => ∃ i j, xs = [.int i, .int j] ∧ Q (.int (if j > i then j else i)) H) := by
  intro pins s σ H xs us Q I r h
  obtain ⟨i, j, rfl, q⟩ := h
  obtain ⟨u, w', rfl, ⟨t, rfl⟩, ⟨t', rfl⟩⟩ := vals2 r
  refine max_two_ints (I.ok.hd hc) fun h' tk k => ⟨_, H, I.kept k, ?_, q⟩
  by_cases hj : j > i
  · rw [if_pos hj, if_pos hj]; exact ⟨_, rfl⟩
  · rw [if_neg hj, if_neg hj]; exact ⟨_, rfl⟩
theorem call_min2 (hc : X.calm = true) : CallR X (.builtin "min") (fun xs H Q => ∃ i j, xs = [.int i, .int j] ∧ Q (.int (if j < i then j else i)) H) := by
  intro pins s σ H xs us Q I r h
  obtain ⟨i, j, rfl, q⟩ := h
  obtain ⟨u, w', rfl, ⟨t, rfl⟩, ⟨t', rfl⟩⟩ := vals2 r
  refine min_two_ints (I.ok.hd hc) fun h' tk k => ⟨_, H, I.kept k, ?_, q⟩
  by_cases hj : j < i
  · rw [if_pos hj, if_pos hj]; exact ⟨_, rfl⟩
  · rw [if_neg hj, if_neg hj]; exact ⟨_, rfl⟩
end
end L2

namespace L2
open PySem PySem.Spec PyProof.Rows

structure ObjM (h : Heap) (x dx C : Addr) (mA : Str → Option Value) : Prop where
  obj : h.get? x = some (PySem.W.instObj C dx)
  ns : h.Ns1 dx mA
  ne : dx ≠ x

theorem lookIn_ns {h : Heap} {dx : Addr} {mA : Str → Option Value} (n : h.Ns1 dx mA) : ∃ od, h.get? dx = some od ∧ ∀ name, PySem.W.lookIn name od = some (mA name) := by
  obtain ⟨o, es, ep, ho, hd, hk, _, hm⟩ := n
  refine ⟨o, ho, fun name => ?_⟩
  have e := hm name
  unfold nsFind findBy at e
  rw [← Array.find?_toList] at e
  unfold PySem.W.lookIn
  rw [hd]
  dsimp only
  split
  · rename_i y q
    rw [q] at e
    exact congrArg some e
  · rename_i q
    rw [q] at e
    have a : es.toList.any (·.refKey) = false := by
      rw [List.any_eq_false]
      intro y hy
      obtain ⟨z, t, hkey⟩ := hk y (Array.mem_toList_iff.mp hy)
      simp [DictEntry.refKey, hkey]
    have a' : ¬ es.toList.any (·.refKey) = true := by rw [a]; exact Bool.false_ne_true
    rw [if_neg a']
    exact congrArg some e

theorem ObjM.look {h : Heap} {x dx C : Addr} {mA : Str → Option Value} (I : ObjM h x dx C mA) : ∃ od, PySem.W.InstAt h x (PySem.W.instObj C dx) C (some od) ∧ ∀ name, PySem.W.lookIn name od = some (mA name) :=
  let ⟨od, ho, hl⟩ := lookIn_ns I.ns
  ⟨od, ⟨I.obj, rfl, rfl, ho⟩, hl⟩

section
variable {prog : Program} {w : World} {A : Around} {E : Value → Shared → Prop} {s : Shared} {K : PySem.W.Frag} {x dx C f : Addr} {mA : Str → Option Value} {name : Str} {v : Value}

theorem get_map {expr : Bool} {Q : Value → Shared → Prop} (X : K.In s.heap) (I : ObjM s.heap x dx C mA) (hg : PySem.W.plainGet K C name = true) (hh : PySem.W.hasDictIn K C = true)
    (ha : PySem.W.findIn K (.ref C) name = some none) (hv : mA name = some v) (hv' : PySem.W.handedIn v = true) (h : Q v { s with toks := s.toks + 1 }) :
    wpAny (model prog w) A (getAttr (.ref x) name expr) Q E s := by
  obtain ⟨od, J, hl⟩ := I.look
  exact PySem.W.get_value X J (PySem.W.plainGet_of hg).1 (PySem.W.findObj_own hh ha rfl (by rw [hl, hv])) hv' h

theorem set_map {ns : List Str} {Q : Unit → Shared → Prop} (X : K.In s.heap) (I : ObjM s.heap x dx C mA)
    (hs : PySem.W.findIn K (.ref C) "__setattr__" = some (some (.builtin "object.__setattr__"))) (hp : PySem.W.plainOver K C = true) (ht : PySem.W.takerIn K C name = some none) (hh : PySem.W.hasDictIn K C = true)
    (hw : PySem.Within mA ns) (hsz : ns.length ≤ sizeLine)
    (h : ∀ h', ObjM h' x dx C (fun y => if y = name then some v else mA y) → Heap.SameBut dx s.heap h' → Q () { s with heap := h', toks := s.toks + 2 }) :
    wpAny (model prog w) A (setAttr (.ref x) name v) Q E s := by
  obtain ⟨od, J, hl⟩ := I.look
  refine PySem.W.set_plain X J hs (PySem.W.osa_open (s := { s with toks := s.toks + 1 }) (r := none) X J hp ht fun b => ?_)
  obtain ⟨cd, hc, hd'⟩ := PySem.W.any_some hh
  have hx : s.heap.get? x = some ⟨.ref C, some dx, .plain, #[]⟩ := I.obj
  refine wpAny_bind (wpAny_pure (wpAny_bind (wpAny_bind (wpAny_loadPart hx (wpAny_bind (PySem.W.Looks.here (s := { s with toks := s.toks + 1 }) (PySem.W.looks_clsIn X hc) ?_))))))
  rw [hd']
  refine wpAny_pure (a := some dx) (wpAny_bind (wpAny_pure (wpAny_bind ?_)))
  refine wpAny_nsSet1 (s := { s with toks := s.toks + 1 }) I.ns fun h' hn2 hs2 => ?_
  obtain ⟨oD, esD, epD, hoD, hdD, hcD⟩ := hn2.count (PySem.Within.cons name v hw)
  refine wpAny_bind (wpAny_lookBehind hoD (by rw [hdD]; exact pastItsLine_dict (Nat.le_trans hcD (by rw [List.length_cons]; omega))) ?_)
  exact wpAny_pure (h _ ⟨(hs2.2 _ (Ne.symm I.ne)).trans I.obj, hn2, I.ne⟩ hs2)

theorem make_map {R : Result → Shared → Prop} {vs : List Value} {kw : List (Str × Value)} (X : K.In s.heap) (hm : PySem.W.makesIn K C = true)
    (hi : PySem.W.findIn K (.ref C) "__init__" = some (some (.ref f))) (hf : PySem.W.typeIn K (.ref f) = some (.type "function"))
    (h : codeAny (model prog w) (A.under (.builtin "type.__call__" ⟨.ref C :: vs, kw⟩)) (.call (.ref f) ⟨.ref (s.heap.objs.size + 1) :: vs, kw⟩) (PySem.W.InitBack (s.heap.objs.size + 1) R)
      { s with heap := (s.heap.push PySem.W.emptyDict).push (PySem.W.instObj C s.heap.objs.size) }) :
    codeAny (model prog w) A (.call (.ref C) ⟨vs, kw⟩) R s := by
  obtain ⟨hh, g, d, t, os⟩ := s
  exact PySem.W.make_core (PySem.W.makes_of X hm) (PySem.W.looks_findIn X hi) (fun self => PySem.W.bind_fn X self hf) (.inl rfl) h
end

noncomputable def putF (f : Str) (v : V) : List (Str × V) → List (Str × V)
  | [] => [(f, v)]
  | (g, x) :: r => if g = f then (g, v) :: r else (g, x) :: putF f v r
theorem lookup_putF (f g : Str) (v : V) : ∀ fs : List (Str × V), (putF f v fs).lookup g = if g = f then some v else fs.lookup g
  | [] => by
    show List.lookup g [(f, v)] = _
    by_cases h : g = f
    · have hb : (g == f) = true := beq_iff_eq.mpr h
      simp only [List.lookup, hb, if_pos h]
    · have hb : (g == f) = false := beq_eq_false_iff_ne.mpr h
      simp only [List.lookup, hb, if_neg h]
  | (k, x) :: r => by
    have ih := lookup_putF f g v r
    rw [show putF f v ((k, x) :: r) = (if k = f then (k, v) :: r else (k, x) :: putF f v r) from rfl]
    by_cases hk : k = f
    · rw [if_pos hk]
      by_cases h : g = k
      · have hb : (g == k) = true := beq_iff_eq.mpr h
        simp only [List.lookup, hb, if_pos (h.trans hk)]
      · have hb : (g == k) = false := beq_eq_false_iff_ne.mpr h
        simp only [List.lookup, hb, if_neg (fun e : g = f => h (e.trans hk.symm))]
    · rw [if_neg hk]
      by_cases h : g = k
      · have hb : (g == k) = true := beq_iff_eq.mpr h
        simp only [List.lookup, hb, if_neg (fun e : g = f => hk (h.symm.trans e))]
      · have hb : (g == k) = false := beq_eq_false_iff_ne.mpr h
        simp only [List.lookup, hb]
        exact ih
theorem keys_putF (f : Str) (v : V) : ∀ fs : List (Str × V), f ∈ (putF f v fs).map (·.1) ∧ ∀ g, g ∈ fs.map (·.1) → g ∈ (putF f v fs).map (·.1)
  | [] => ⟨by simp [putF], fun g h => by simp at h⟩
  | (k, x) :: r => by
    obtain ⟨i1, i2⟩ := keys_putF f v r
    rw [show putF f v ((k, x) :: r) = (if k = f then (k, v) :: r else (k, x) :: putF f v r) from rfl]
    by_cases hk : k = f
    · rw [if_pos hk]
      subst hk
      exact ⟨by simp, fun g h => by simpa using h⟩
    · rw [if_neg hk]
      refine ⟨?_, fun g h => ?_⟩
      · rw [List.map_cons]
        exact List.mem_cons_of_mem _ i1
      · rw [List.map_cons] at h ⊢
        rcases List.mem_cons.mp h with e | e
        · exact List.mem_cons.mpr (.inl e)
        · exact List.mem_cons_of_mem _ (i2 g e)
theorem length_putF (f : Str) (v : V) : ∀ fs : List (Str × V), (putF f v fs).length ≤ fs.length + 1
  | [] => by simp [putF]
  | (k, x) :: r => by
    have ih := length_putF f v r
    rw [show putF f v ((k, x) :: r) = (if k = f then (k, v) :: r else (k, x) :: putF f v r) from rfl]
    by_cases hk : k = f
    · rw [if_pos hk, List.length_cons, List.length_cons]; omega
    · rw [if_neg hk, List.length_cons, List.length_cons]; omega

theorem RelO.some_of {v : V} {o : Option Value} (r : RelO (some v) o) : ∃ u, o = some u ∧ RelV v u := by
  cases o with
  | none => exact (show False from r).elim
  | some u => exact ⟨u, rfl, r⟩
theorem handed_of {v : V} {u : Value} (r : RelV v u) : PySem.W.handedIn u = true := by
  cases v with
  | non => cases (show u = Value.none from r); rfl
  | bl b => cases (show u = Value.bool b from r); rfl
  | int i => obtain ⟨t, e⟩ := (show ∃ t, u = Value.int i t from r); cases e; rfl
  | str x => obtain ⟨t, e⟩ := (show ∃ t, u = Value.str x t from r); cases e; rfl
  | byt b => obtain ⟨t, e⟩ := (show ∃ t, u = Value.bytes b t from r); cases e; rfl
  | flt b => obtain ⟨t, e⟩ := (show ∃ t, u = Value.float b t from r); cases e; rfl
  | ref a => cases (show u = Value.ref a from r); rfl
  | ty n => cases (show u = Value.type n from r); rfl

section
variable {P : Program} {w : World} {H H' : Hp} {h h' : Heap} {a C dx : Addr} {fs fs' : List (Str × V)}
theorem ins_get (hok : HOk P w H h) (e : H a = some (.ins C dx fs)) : ∃ mA, ObjM h a dx C mA ∧ (∀ f, RelO (fs.lookup f) (mA f)) ∧ PySem.Within mA (fs.map (·.1)) ∧ fs.length ≤ 1000 ∧ H dx = some (.own a) := by
  obtain ⟨d, z, ne, ob, mA, n, r, q⟩ := (show ObjOk P w H h a (.ins C dx fs) from hok a _ e)
  exact ⟨mA, ⟨ob, n, ne⟩, r, q, z, d⟩
end

structure Cls (K : PySem.W.Frag) (C : Addr) : Prop where
  pg : PySem.W.plainGet K C Str.empty = true
  hd : PySem.W.hasDictIn K C = true
  po : PySem.W.plainOver K C = true
  sa : PySem.W.findIn K (.ref C) "__setattr__" = some (some (.builtin "object.__setattr__"))
theorem Cls.get {K : PySem.W.Frag} {C : Addr} (c : Cls K C) (f : Str) : PySem.W.plainGet K C f = true := c.pg
noncomputable def NoAttr (K : PySem.W.Frag) (C : Addr) (f : Str) : Prop := PySem.W.findIn K (.ref C) f = some none
theorem NoAttr.taker {K : PySem.W.Frag} {C : Addr} {f : Str} (n : NoAttr K C f) : PySem.W.takerIn K C f = some none := by
  unfold PySem.W.takerIn
  rw [show PySem.W.findIn K (.ref C) f = some none from n]
  rfl
section
variable {X : Cx} {pins : List (Addr × Obj)} {σ : St} {H : Hp} {s : Shared} {a C dx : Addr} {fs : List (Str × V)} {f : Str} {v : V} {A : Around} {E : Value → Shared → Prop}

theorem getattr_ok {b : Bool} {Q : Value → Shared → Prop} (I : Inv X pins σ H s) (e : H a = some (.ins C dx fs)) (c : Cls X.K C) (n : NoAttr X.K C f) (l : fs.lookup f = some v)
    (h : ∀ u s', Inv X pins σ H s' → RelV v u → Q u s') : wpAny (model X.prog X.w) A (getAttr (.ref a) f b) Q E s := by
  obtain ⟨mA, O, r, _, _, _⟩ := ins_get I.hok e
  obtain ⟨u, hu, ru⟩ := RelO.some_of (v := v) (o := mA f) (by rw [← l]; exact r f)
  exact get_map I.kIn O (c.get f) c.hd n hu (handed_of ru) (h u _ (I.tok _) ru)

theorem setattr_ok {y : V} {u : Value} {Q : Unit → Shared → Prop} (I : Inv X pins σ H s) (e : H a = some (.ins C dx fs)) (c : Cls X.K C) (n : NoAttr X.K C f) (hl : fs.length < 1000) (ry : RelV y u)
    (h : ∀ s', Inv X pins σ (upd H a (.ins C dx (putF f y fs))) s' → Q () s') : wpAny (model X.prog X.w) A (setAttr (.ref a) f u) Q E s := by
  obtain ⟨mA, O, r, wi, _, ho⟩ := ins_get I.hok e
  have hz : (fs.map (·.1)).length ≤ sizeLine := by rw [List.length_map, sizeLine_eq]; omega
  refine set_map I.kIn O c.sa c.po n.taker c.hd wi hz fun h' O' sb => h _ ?_
  have hd : ∃ o, h'.get? dx = some o := let ⟨o, _, _, e', _⟩ := O'.ns; ⟨o, e'⟩
  refine I.write (x := a) (e := dx) (by rw [e]; exact True.intro) (.inr ho) (fun b q hb z => (sb.2 b hb).trans z) hd ?_
  refine ⟨by rw [upd_ne O.ne]; exact ho, ?_, O.ne, O'.obj, _, O'.ns, fun g => ?_, fun g hg => ?_⟩
  · have := length_putF f y fs; omega
  · show RelO ((putF f y fs).lookup g) (if g = f then some u else mA g)
    rw [lookup_putF]
    by_cases q : g = f
    · rw [if_pos q, if_pos q]; exact ry
    · rw [if_neg q, if_neg q]; exact r g
  · by_cases q : g = f
    · rw [q]; exact (keys_putF f y fs).1
    · refine (keys_putF f y fs).2 g (wi g fun z => hg ?_)
      show (if g = f then some u else mA g) = none
      rw [if_neg q]; exact z

theorem Inv.made (I : Inv X pins σ H s) : Inv X pins σ (upd (upd H s.heap.objs.size (.own (s.heap.objs.size + 1))) (s.heap.objs.size + 1) (.ins C s.heap.objs.size []))
    { s with heap := (s.heap.push PySem.W.emptyDict).push (PySem.W.instObj C s.heap.objs.size) } := by
  have e1 : (s.heap.push PySem.W.emptyDict).get? s.heap.objs.size = some PySem.W.emptyDict := Heap.get?_push_size s.heap rfl
  have e2 : ((s.heap.push PySem.W.emptyDict).push (PySem.W.instObj C s.heap.objs.size)).get? (s.heap.objs.size + 1) = some (PySem.W.instObj C s.heap.objs.size) := by
    have := Heap.get?_push_size (s.heap.push PySem.W.emptyDict) (o := PySem.W.instObj C s.heap.objs.size) rfl
    rwa [Heap.size_push] at this
  have e3 : (s.heap.push PySem.W.emptyDict).Ns s.heap.objs.size (fun _ => none) := ⟨PySem.W.emptyDict, #[], _, e1, rfl, (fun e he => absurd he (by simp)), fun _ => rfl⟩
  have I1 := I.laid (a := s.heap.objs.size) (o := .own (s.heap.objs.size + 1)) (h' := s.heap.push PySem.W.emptyDict) (t' := s.toks) (fun b u q => Heap.get?_push_of_some _ q) (Nat.le_refl _) ⟨_, e1⟩
  refine I1.laid (a := s.heap.objs.size + 1) (o := .ins C s.heap.objs.size []) (t' := s.toks) (fun b u q => Heap.get?_push_of_some _ q) (Nat.le_of_eq (Heap.size_push _ _)) ?_
  have ne : s.heap.objs.size ≠ s.heap.objs.size + 1 := Nat.ne_of_lt (Nat.lt_succ_self _)
  refine ⟨by rw [upd_ne ne, upd_same], Nat.zero_le _, ne, e2, fun _ => none, (Heap.Ns1.of_empty e3).at fun o q => Heap.get?_push_of_some _ q, fun _ => True.intro, fun y hy => absurd rfl hy⟩

theorem attr_of {prog : Program} {w : World} {env : Env} {e : Expr} {f : Str} {pos : Pos} {s : Shared} {Q : Value → Shared → Prop} (hb : attributeBase e f env (eval e env) = eval e env)
    (h : wpAny (model prog w) A (eval e env) (fun o s₁ => wpAny (model prog w) A (getAttr o f true) Q E s₁) E s) : wpAny (model prog w) A (eval (.Attribute e f pos) env) Q E s :=
  Attribute_any_ h (by rw [arm_eval_Attribute, hb])
end

noncomputable def tFld (K : PySem.W.Frag) (ta : TE) (f : Str) : TE := fun σ H Q => ta σ H fun x H1 => ∃ a C dx fs v, x = .ref a ∧ H1 a = some (.ins C dx fs) ∧ Cls K C ∧ NoAttr K C f ∧ fs.lookup f = some v ∧ Q v H1
noncomputable def sFld (K : PySem.W.Frag) (ta tv : TE) (f : Str) : TS := fun D σ H => tv σ H fun y H1 => ta σ H1 fun x H2 => ∃ a C dx fs, x = .ref a ∧ H2 a = some (.ins C dx fs) ∧ Cls K C ∧ NoAttr K C f ∧ fs.length < 1000 ∧
  D.nx σ (upd H2 a (.ins C dx (putF f y fs)))
section
variable {X : Cx} {o e value : Expr} {f : Str} {pos pos' tpos : Pos} {ta tv : TE}
theorem pe_fld (he : PE X e ta) (hb : attributeBase e f X.env (eval e X.env) = eval e X.env) : PE X (.Attribute e f pos) (tFld X.K ta f) := by
  intro pins s σ H Q I h
  refine attr_of hb (thn (he pins s σ H _ I h) fun u s1 ⟨x, H1, I1, rx, a, C, dx, fs, v, ex, ea, c, n, l, q⟩ => ?_)
  subst ex
  obtain rfl : u = Value.ref a := rx
  exact getattr_ok I1 ea c n l fun u' s2 I2 ru => ⟨v, H1, I2, ru, q⟩
theorem ps_fld (ha : PE X o ta) (hv : PE X value tv) (hs : swapsWith value (some (.Attribute o f pos')) pos.line X.env = pure false) : PS X (.Assign [.Attribute o f pos'] value pos) (sFld X.K ta tv f) := by
  intro pins s σ H D I h
  refine plainObj_wpAny_Assign_Attribute (thn (hv pins s σ H _ I h) fun u s1 ⟨y, H1, I1, ry, q⟩ => thn (ha pins s1 σ H1 _ I1 q) fun ov s2 ⟨x, H2, I2, rx, a, C, dx, fs, ex, ea, c, n, l, q2⟩ => ?_) hs
  subst ex
  obtain rfl : ov = Value.ref a := rx
  exact setattr_ok I2 ea c n l ry fun s3 I3 => ⟨σ, _, I3, q2⟩
end

section
variable {X : Cx} {pins : List (Addr × Obj)} {σ : St} {H : Hp} {s : Shared} {A : Around} {E : Value → Shared → Prop} {Q : Value → Shared → Prop} {c : Value} {b : Bool}
end
end L2

namespace L2
open PySem PySem.Spec PyProof.Rows

structure Room (k : Nat) (A : Around) : Prop where
  hd : A.handled = none
  dp : A.depth + 3 * k + 5 < recursionLimit
  un : A.units + 16 * k + 200 < cLine
theorem Room.mono {j k : Nat} {A : Around} (r : Room k A) (h : j ≤ k) : Room j A := ⟨r.hd, by have := r.dp; omega, by have := r.un; omega⟩
theorem Room.deeper {k : Nat} {A : Around} (r : Room (k + 1) A) (env : Env) : Room k (A.deeper env) :=
  ⟨r.hd, by have := r.dp; show A.depth + 1 + 3 * k + 5 < _; omega, by have := r.un; show A.units + 3 + 16 * k + 200 < _; omega⟩
theorem make_depth {A : Around} {C : Addr} {us : List Value} {kw : List (Str × Value)} : (A.under (.builtin "type.__call__" ⟨.ref C :: us, kw⟩)).depth = A.depth + 1 := by
  first | rfl | simp [Around.under, Code.weight, Code.isCreation, Code.isGuard, Code.isCaller, Code.frames, Code.isFrame, guardIds]
theorem make_units {A : Around} {C : Addr} {us : List Value} {kw : List (Str × Value)} : (A.under (.builtin "type.__call__" ⟨.ref C :: us, kw⟩)).units = A.units + 1 := by
  first | rfl | simp [Around.under, Code.cUnits, Code.frames, Code.isFrame]
theorem Room.make {k : Nat} {A : Around} (r : Room (k + 1) A) (C : Addr) (us : List Value) (kw : List (Str × Value)) : Room k (A.under (.builtin "type.__call__" ⟨.ref C :: us, kw⟩)) :=
  ⟨r.hd, by have := r.dp; rw [make_depth]; omega, by have := r.un; rw [make_units]; omega⟩
theorem Room.depth {k : Nat} {A : Around} (r : Room k A) : A.depth < recursionLimit := by have := r.dp; omega
noncomputable def tNil : TA := fun _ H Q => Q [] H
noncomputable def tCons (ta : TE) (tr : TA) : TA := fun σ H Q => ta σ H fun x H1 => tr σ H1 fun xs H2 => Q (x :: xs) H2
section
variable {X : Cx} {e : Expr} {es : List Expr} {te : TE} {t : TA} {pos : Pos}
theorem pa_nil : PA X [] tNil := fun _ _ _ _ H Q I h => Calls.spliced_nil ⟨[], H, I, .nil, h⟩
theorem pa_cons (ha : PE X e te) (hr : PA X es t) (hs : starEach (e :: es) X.env = (false, eval e X.env) :: starEach es X.env := by rfl) : PA X (e :: es) (tCons te t) := by
  intro pos pins s σ H Q I h
  rw [hs]
  show wpAny _ _ (spliced ((false, eval e X.env) :: backTo pos (starEach es X.env))) _ _ s
  refine Calls.spliced_cons (thn (ha pins s σ H _ I h) fun u s1 ⟨x, H1, I1, r1, q1⟩ => ?_)
  exact thn (hr pos pins s1 σ H1 _ I1 q1) fun us s2 ⟨xs, H2, I2, r2, q2⟩ => ⟨x :: xs, H2, I2, .cons r1 r2, q2⟩

noncomputable def tLst (t : TA) : TE := fun σ H Q => t σ H fun xs H1 => xs.length ≤ sizeLine ∧ ∀ p, H1 p = none → Q (.ref p) (upd H1 p (.lst xs))
theorem pe_lst (h : PA X es t) : PE X (.List es pos) (tLst t) := by
  intro pins s σ H Q I hq
  refine wpAny_List_spliced (thn (h pos pins s σ H _ I hq) fun us s1 ⟨xs, H1, I1, r, z, q⟩ => ⟨by rw [← r.length]; exact z, ?_⟩)
  have hf : H1 s1.heap.objs.size = none := I1.hok.fresh (Nat.le_refl _)
  refine ⟨.ref s1.heap.objs.size, upd H1 s1.heap.objs.size (.lst xs), I1.laid (t' := s1.toks) (fun b u e => Heap.get?_push_of_some _ e) (Nat.le_refl _) ?_, rfl, q _ hf⟩
  exact ⟨z, us, 0, r, Heap.get?_push_size _ rfl⟩
end

noncomputable abbrev Sp := List V → Hp → VK → XK → Prop
noncomputable abbrev CXT := List Env → Hp → Shared → XK → Value → Shared → Prop

structure Env0 (P : Program) (w : World) (K : PySem.W.Frag) (mg : Str → Option Value) (base : Heap) (A : Around) (outer : List Env) (s : Shared) (H : Hp) : Prop where
  frames : A.frames = some outer
  mod : Mod K mg base
  bs : ∀ b o, base.get? b = some o → s.heap.get? b = some o ∧ H b = none
  bsz : base.objs.size ≤ s.heap.objs.size
  funs : s.heap.FunFrames base outer
  frf : ∀ b ∈ frs outer, H b = none
  hok : HOk P w H s.heap
  bare : AllBare s.gens
noncomputable def CE (outer : List Env) (P : Program) (w : World) (H : Hp) (s : Shared) (Q : VK) (u : Value) (s' : Shared) : Prop :=
  ∃ v H', s'.os = s.os ∧ AllBare s'.gens ∧ Un (frs outer) [] H H' s.heap s'.heap ∧ HOk P w H' s'.heap ∧ RelV v u ∧ Q v H'
noncomputable def CR (CX : CXT) (outer : List Env) (P : Program) (w : World) (H : Hp) (s : Shared) (Q : VK) (E : XK) (r : Result) (s' : Shared) : Prop :=
  match r with
  | .ok (.ret u) => CE outer P w H s Q u s'
  | .ok _ => False
  | .error e => CX outer H s E e s'
structure FnOk (P : Program) (w : World) (K : PySem.W.Frag) (mg : Str → Option Value) (base : Heap) (CX : CXT) (k : Nat) (f : Addr) (fd : FuncData) (ps : List Str) (sp : Sp) : Prop where
  len : ∀ vs H Q E, sp vs H Q E → vs.length = ps.length
  run : ∀ (A : Around) (outer : List Env) (s : Shared) (H : Hp) (args : Args) (us : List Value) (vs : List V) (Q : VK) (E : XK), Room k A → Env0 P w K mg base A outer s H → BindsTo s fd args (ps.zip us) → Vals vs us → sp vs H Q E →
    codeAny (model P w) A (.call (.ref f) args) (CR CX outer P w H s Q E) s
theorem Env0.make {P : Program} {w : World} {K : PySem.W.Frag} {mg : Str → Option Value} {base : Heap} {A : Around} {outer : List Env} {s : Shared} {H : Hp} (e : Env0 P w K mg base A outer s H) (C : Addr) (us : List Value) (kw : List (Str × Value)) :
    Env0 P w K mg base (A.under (.builtin "type.__call__" ⟨.ref C :: us, kw⟩)) outer s H := ⟨by first | exact e.frames | (simpa [Around.under, Code.envs, Code.isFrame, pushEnvs] using e.frames), e.mod, e.bs, e.bsz, e.funs, e.frf, e.hok, e.bare⟩
section
variable {X : Cx} {pins : List (Addr × Obj)} {σ : St} {H : Hp} {s s' : Shared}
theorem Inv.env0 (I : Inv X pins σ H s) : Env0 X.prog X.w X.K X.mg X.base X.A X.stack s H :=
  ⟨I.ok.frames, I.ok.mod, I.bs, Nat.le_trans I.ok.bsz I.sz, I.stack, I.stkFree, I.hok, I.bare⟩
theorem Inv.after {Q : VK} {u : Value} (I : Inv X pins σ H s) (h : CE X.stack X.prog X.w H s Q u s') : EP X pins σ Q u s' := by
  obtain ⟨v, H', os, bare, un, hok, r, q⟩ := h
  obtain ⟨hh, g, d, t, os'⟩ := s'
  obtain rfl : os' = s.os := os
  exact ⟨v, H', I.call (h' := hh) (g' := g) (d' := d) (t' := t) (ch := []) un hok bare (fun b z => absurd z (by simp)), r, q⟩
end

noncomputable def tCall (sp : Sp) (dvs : List V) (E : XK) (t : TA) : TE := fun σ H Q => t σ H fun vs H1 => sp (vs ++ dvs) H1 Q E
noncomputable def tMake (C : Addr) (sp : Sp) (dvs : List V) (E : XK) (t : TA) : TE := fun σ H Q => t σ H fun vs H1 => ∀ x dx, H1 x = none → H1 dx = none → dx ≠ x →
  sp (.ref x :: (vs ++ dvs)) (upd (upd H1 dx (.own x)) x (.ins C dx [])) (fun v H2 => v = .non ∧ Q (.ref x) H2) E

noncomputable def Binds (K : PySem.W.Frag) (fd : FuncData) (ps : List Str) (ds : List Value) : Prop :=
  ∀ (s : Shared) (us : List Value), K.In s.heap → (us ++ ds).length = ps.length → BindsTo s fd ⟨us, []⟩ (ps.zip (us ++ ds))
theorem Binds.all {K : PySem.W.Frag} {fd : FuncData} {ps : List Str} (h : ∀ us : List Value, us.length = ps.length → bindArgs fd ⟨us, []⟩ = pure (ps.zip us)) : Binds K fd ps [] := fun s us _ hl => by
  rw [List.append_nil] at hl ⊢
  exact .of_eq (h us hl)

noncomputable def Passes (CX : CXT) (X : Cx) (E : XK) : Prop := ∀ (pins : List (Addr × Obj)) (σ : St) (H : Hp) (s : Shared) (e : Value) (s' : Shared), Inv X pins σ H s → CX X.stack H s E e s' → X.xe e s'

section
variable {X : Cx} {CX : CXT} {k : Nat} {f C : Addr} {fd : FuncData} {ps : List Str} {sp : Sp} {dvs : List V} {ds : List Value} {E : XK} {x m : Str} {p pos apos : Pos} {e o : Expr} {es : List Expr} {ta : TE} {t : TA}

theorem run_fn {pins : List (Addr × Obj)} {σ : St} {H : Hp} {s : Shared} {Q : VK} {us : List Value} {vs : List V} (F : FnOk X.prog X.w X.K X.mg X.base CX k f fd ps sp) (hr : Room k X.A) (hb : Binds X.K fd ps ds) (hd : Vals dvs ds) (hx : Passes CX X E)
    (I : Inv X pins σ H s) (r : Vals vs us) (h : sp (vs ++ dvs) H Q E) : wpAny (model X.prog X.w) X.A (call (.ref f) us) (EP X pins σ Q) X.xe s := by
  have r2 : Vals (vs ++ dvs) (us ++ ds) := r.append hd
  have hl : (us ++ ds).length = ps.length := by rw [← r2.length]; exact F.len _ _ _ _ h
  refine wpAny_call (codeAny_mono (F.run X.A X.stack s H ⟨us, []⟩ (us ++ ds) (vs ++ dvs) Q E hr I.env0 (hb s us I.kIn hl) r2 h) fun r s' hq => ?_)
  cases r with
  | error e => exact hx pins σ H s e s' I hq
  | ok fl =>
    cases fl with
    | ret u => exact I.after hq
    | next => exact False.elim hq
    | brk => exact False.elim hq
    | cont => exact False.elim hq

theorem pe_call (F : FnOk X.prog X.w X.K X.mg X.base CX k f fd ps sp) (hr : Room k X.A) (hg : Gl X x) (hm : X.mg x = some (.ref f)) (hk : PySem.W.keepIn X.K (.ref f) = true) (hb : Binds X.K fd ps ds) (hd : Vals dvs ds) (hx : Passes CX X E)
    (ha : PA X (e :: es) t) (hdb : (x == ("__debug__" : Str)) = false := by decide) (he : starEach (e :: es) X.env = (false, eval e X.env) :: starEach es X.env := by rfl) (hpl : (backTo pos (starEach es X.env)).any (·.1) = false := by rfl) :
    PE X (.Call (.Name x p) (e :: es) [] pos) (tCall sp dvs E t) := by
  intro pins s σ H Q I h
  refine wpAny_Call_Name_kw (ld_glob I hg hm ?_ hdb)
  refine PySem.W.callWith_K (h₀ := X.base) I.ok.mod.kin hk (thn (ha pos pins s σ H _ I h) fun us s1 ⟨vs, H1, I1, r, q⟩ => ⟨I1.kIn, ?_⟩) he hpl
  exact run_fn F hr hb hd hx I1 r q
structure Mk (K : PySem.W.Frag) (C f : Addr) : Prop where
  makes : PySem.W.makesIn K C = true
  init : PySem.W.findIn K (.ref C) "__init__" = some (some (.ref f))
  fn : PySem.W.isFn K (.ref f) = true
  kp : PySem.W.keepIn K (.ref C) = true

theorem run_make {pins : List (Addr × Obj)} {σ : St} {H : Hp} {s : Shared} {Q : VK} {us : List Value} {vs : List V} (M : Mk X.K C f) (F : FnOk X.prog X.w X.K X.mg X.base CX k f fd ps sp) (hr : Room (k + 1) X.A) (hb : Binds X.K fd ps ds) (hd : Vals dvs ds)
    (hx : Passes CX X E) (I : Inv X pins σ H s) (r : Vals vs us)
    (h : ∀ x dx, H x = none → H dx = none → dx ≠ x → sp (.ref x :: (vs ++ dvs)) (upd (upd H dx (.own x)) x (.ins C dx [])) (fun v H2 => v = .non ∧ Q (.ref x) H2) E) :
    wpAny (model X.prog X.w) X.A (call (.ref C) us) (EP X pins σ Q) X.xe s := by
  have hq := h (s.heap.objs.size + 1) s.heap.objs.size (I.hok.fresh (Nat.le_succ _)) (I.hok.fresh (Nat.le_refl _)) (Nat.ne_of_lt (Nat.lt_succ_self _))
  have I2 := Inv.made (C := C) I
  have r2 : Vals (V.ref (s.heap.objs.size + 1) :: (vs ++ dvs)) (Value.ref (s.heap.objs.size + 1) :: (us ++ ds)) := .cons rfl (r.append hd)
  have hl : (Value.ref (s.heap.objs.size + 1) :: us ++ ds).length = ps.length := by
    have e := r2.length
    rw [F.len _ _ _ _ hq] at e
    exact e.symm
  refine wpAny_call (make_map (f := f) I.kIn M.makes M.init (beq_iff_eq.mp M.fn) (codeAny_mono (F.run _ X.stack _ _ ⟨Value.ref (s.heap.objs.size + 1) :: us, []⟩ (Value.ref (s.heap.objs.size + 1) :: (us ++ ds)) _ _ E (hr.make C us [])
    (I2.env0.make C us []) (hb _ (Value.ref (s.heap.objs.size + 1) :: us) I2.kIn hl) r2 hq) fun r s' hq' => ?_))
  cases r with
  | error e => exact hx pins σ _ _ e s' I2 hq'
  | ok fl =>
    cases fl with
    | ret u =>
      obtain ⟨v, H', I3, rv, ev, q3⟩ := I2.after hq'
      subst ev
      exact ⟨rv, ⟨V.ref (s.heap.objs.size + 1), H', I3, rfl, q3⟩⟩
    | next => exact False.elim hq'
    | brk => exact False.elim hq'
    | cont => exact False.elim hq'
theorem pe_make0 (M : Mk X.K C f) (F : FnOk X.prog X.w X.K X.mg X.base CX k f fd ps sp) (hr : Room (k + 1) X.A) (hg : Gl X x) (hm : X.mg x = some (.ref C)) (hb : Binds X.K fd ps ds) (hd : Vals dvs ds) (hx : Passes CX X E)
    (hdb : (x == ("__debug__" : Str)) = false := by decide) : PE X (.Call (.Name x p) [] [] pos) (tMake C sp dvs E tNil) := by
  intro pins s σ H Q I h
  refine wpAny_Call_Name_kw (ld_glob I hg hm ?_ hdb)
  exact PySem.W.callWith_K0 I.kIn M.kp (run_make (us := []) M F hr hb hd hx I .nil h)
end

section
variable {X : Cx} {CX : CXT} {k : Nat} {f C : Addr} {fd : FuncData} {ps ks : List Str} {sp : Sp} {E : XK} {x m : Str} {p pos apos kpos : Pos} {e o : Expr} {es : List Expr} {kws : List Keyword} {te ta : TE} {t tk : TA} {nm : Option Str}
variable {g : List Value → List Value → List Value} {gV : List V → List V → List V}
end

structure FnScope (N P : List Str) (sc : Scope) : Prop where
  kind : sc.kind = .function
  co : sc.isCoroutine = false
  gen : sc.isGenerator = false
  nd : N.Nodup
  pre : N.take P.length = P
  par : ∀ x ∈ P, sc.names.lookup x = some .local ∨ sc.names.lookup x = some .cell
  nofree : ∀ y ∈ sc.names, y.2 ≠ .free

theorem bindL_out {kindOf : Str → Option NameKind} {x : Str} : ∀ {binds : List (Str × Value)} {m : Str → Option Value}, (∀ v, (x, v) ∉ binds) → bindL kindOf binds m x = m x
  | [], _, _ => rfl
  | (n, v) :: r, m, h => by
    unfold bindL
    rw [bindL_out fun w hw => h w (List.mem_cons_of_mem _ hw)]
    split
    · have : x ≠ n := by rintro rfl; exact h v List.mem_cons_self
      simp [this]
    · rfl
theorem bindC_out {kindOf : Str → Option NameKind} {x : Str} : ∀ {binds : List (Str × Value)} {m : Str → Option Value}, (∀ v, (x, v) ∉ binds) → bindC kindOf binds m x = m x
  | [], _, _ => rfl
  | (n, v) :: r, m, h => by
    unfold bindC
    rw [bindC_out fun w hw => h w (List.mem_cons_of_mem _ hw)]
    split
    · rfl
    · have : x ≠ n := by rintro rfl; exact h v List.mem_cons_self
      simp [this]
theorem bindL_get {kindOf : Str → Option NameKind} {x : Str} {v : Value} : ∀ {P : List Str} {vs : List Value} {i : Nat} {m : Str → Option Value}, P.Nodup → P[i]? = some x → vs[i]? = some v → kindOf x = some .local →
    bindL kindOf (P.zip vs) m x = some v
  | [], _, _, _, _, h, _, _ => by simp at h
  | _ :: _, [], _, _, _, _, h, _ => by simp at h
  | p :: P, w :: vs, 0, m, nd, h1, h2, hk => by
    simp at h1 h2; subst h1; subst h2
    show bindL kindOf ((p, w) :: P.zip vs) m p = _
    unfold bindL
    rw [bindL_out fun v hv => (List.nodup_cons.mp nd).1 (List.of_mem_zip hv).1, if_pos hk]
    simp
  | p :: P, w :: vs, i + 1, m, nd, h1, h2, hk => by
    show bindL kindOf ((p, w) :: P.zip vs) m x = _
    unfold bindL
    exact bindL_get (i := i) (List.nodup_cons.mp nd).2 (by simpa using h1) (by simpa using h2) hk
theorem bindC_get {kindOf : Str → Option NameKind} {x : Str} {v : Value} : ∀ {P : List Str} {vs : List Value} {i : Nat} {m : Str → Option Value}, P.Nodup → P[i]? = some x → vs[i]? = some v → kindOf x ≠ some .local →
    bindC kindOf (P.zip vs) m x = some v
  | [], _, _, _, _, h, _, _ => by simp at h
  | _ :: _, [], _, _, _, _, h, _ => by simp at h
  | p :: P, w :: vs, 0, m, nd, h1, h2, hk => by
    simp at h1 h2; subst h1; subst h2
    show bindC kindOf ((p, w) :: P.zip vs) m p = _
    unfold bindC
    rw [bindC_out fun v hv => (List.nodup_cons.mp nd).1 (List.of_mem_zip hv).1, if_neg hk]
    simp
  | p :: P, w :: vs, i + 1, m, nd, h1, h2, hk => by
    show bindC kindOf ((p, w) :: P.zip vs) m x = _
    unfold bindC
    exact bindC_get (i := i) (List.nodup_cons.mp nd).2 (by simpa using h1) (by simpa using h2) hk

noncomputable def start (N : List Str) (vs : List V) : St := vs.map some ++ List.replicate (N.length - vs.length) none

noncomputable def cxOf (CX : CXT) (P : Program) (w : World) (K : PySem.W.Frag) (mg : Str → Option Value) (base : Heap) (N : List Str) (qual : Str) (scope : Scope) (f : Addr) (cd : Value) (A : Around) (outer : List Env) (s : Shared) (H : Hp) (E : XK) : Cx where
  prog := P
  w := w
  K := K
  mg := mg
  base := base
  A := A.deeper (envOfC qual scope s.heap.objs.size f cd)
  N := N
  s_0 := s
  H_0 := H
  env := envOfC qual scope s.heap.objs.size f cd
  outer := outer
  stack := envOfC qual scope s.heap.objs.size f cd :: outer
  ex := []
  calm := true
  fn := fun _ => true
  pn := []
  xe := fun e s' => wpAny (model P w) (A.deeper (envOfC qual scope s.heap.objs.size f cd)) (leaving (envOfC qual scope s.heap.objs.size f cd) e) (fun _ s'' => CX outer H s E e s'') (fun e' s'' => CX outer H s E e' s'') s'

theorem cell_has {sc : Scope} {n : Nat} {x : Str} (h : sc.names.lookup x = some .cell) : ∃ c, (cellsFrom n sc.names []).lookup x = some c := by
  have q := PySem.W.cellsFrom_some sc.names n [] (.inl h)
  exact Option.isSome_iff_exists.mp q

theorem inv_start {CX : CXT} {P : Program} {w : World} {K : PySem.W.Frag} {mg : Str → Option Value} {base : Heap} {N ps : List Str} {qual : Str} {scope : Scope} {f : Addr} {cd : Value} {A : Around} {outer : List Env} {s s1 : Shared} {H : Hp} {E : XK} {us : List Value} {vs : List V}
    (S : FnScope N ps scope) (hd : A.handled = none) (e0 : Env0 P w K mg base A outer s H) (hl : vs.length = ps.length) (r : Vals vs us)
    (x : InCallC s s.heap.objs.size (bindL (envOfC qual scope s.heap.objs.size f cd).kindOf (ps.zip us) fun _ => none) (cellsFrom (s.heap.objs.size + 1) scope.names []) (bindC (envOfC qual scope s.heap.objs.size f cd).kindOf (ps.zip us) fun _ => none) s1) :
    Inv (cxOf CX P w K mg base N qual scope f cd A outer s H E) [] (start N vs) H s1 := by
  have hpl : ps.length ≤ N.length := by have := congrArg List.length S.pre; rw [List.length_take] at this; omega
  obtain ⟨h1, tk, rfl, hk⟩ := x.done
  have noA : ∀ b : Addr, b ∉ (cxOf CX P w K mg base N qual scope f cd A outer s H E).ex := fun b z => absurd (show b ∈ ([] : List Addr) from z) (by simp)
  refine ⟨⟨e0.mod, S.kind, rfl, rfl, Nat.le_refl _, fun y z c h1 h2 => ?_, fun y hy => ?_, fun y c _ h => ?_, fun _ => hd, Around.frames_deeper e0.frames, .inr ⟨rfl, rfl⟩, fun b z => absurd z (noA b), e0.bs, e0.bsz, fun b _ _ => noA b, fun b z => absurd z (noA b), e0.funs, e0.frf⟩,
    rfl, e0.bare, Un.kept hk, ⟨_, x.toInCall.ns, fun i y v h1 h2 h3 => ?_⟩, fun y c h => ⟨_, x.cell y c h⟩, e0.hok.fresh (Nat.le_refl _), fun y c h => ?_, fun p hp => absurd (show p ∈ ([] : List (Addr × Obj)) from hp) (by simp), e0.hok.kept hk, ?_⟩
  · exact name_of_addr x.apart (PySem.mem_of_lookup h1) (PySem.mem_of_lookup h2)
  · have hy : scope.names.lookup y = some .cell ∨ scope.names.lookup y = some .free := hy
    rcases hy with hy | hy
    · exact cell_has hy
    · exact absurd rfl (S.nofree _ (PySem.mem_of_lookup hy))
  · exact Nat.le_of_lt (x.above y c (PySem.mem_of_lookup h))
  · have hi : i < vs.length := by
      unfold start at h2
      by_cases hi : i < vs.length
      · exact hi
      · rw [List.getElem?_append_right (by simpa using hi)] at h2
        rw [List.getElem?_replicate] at h2
        split at h2 <;> cases h2
    have ha : vs[i]? = some v := by
      unfold start at h2
      rw [List.getElem?_append_left (by simpa using hi), List.getElem?_map] at h2
      cases e : vs[i]? with
      | none => rw [e] at h2; cases h2
      | some a => rw [e] at h2; cases h2; rfl
    obtain ⟨u, hu, rv⟩ := r.get ha
    have hp : ps[i]? = some y := by
      rw [← S.pre, List.getElem?_take_of_lt (by omega)]; exact h1
    have ndP : ps.Nodup := by rw [← S.pre]; exact S.nd.sublist (List.take_sublist _ _)
    refine ⟨u, rv, ?_⟩
    rcases S.par y (List.mem_of_getElem? hp) with k | k
    · exact .inl ⟨k, bindL_get ndP hp hu k⟩
    · obtain ⟨c, e⟩ := cell_has (n := s.heap.objs.size + 1) k
      refine .inr ⟨.inl k, c, e, ?_⟩
      have q := x.cell y c e
      rw [bindC_get ndP hp hu (by show scope.names.lookup y ≠ _; rw [k]; decide)] at q
      exact q
  · exact e0.hok.fresh (Nat.le_of_lt (x.above y c (PySem.mem_of_lookup h)))
  · unfold start
    show _ = N.length
    rw [List.length_append, List.length_map, List.length_replicate]
    omega

theorem fn_of {CX : CXT} {P : Program} {w : World} {K : PySem.W.Frag} {mg : Str → Option Value} {base : Heap} {k : Nat} {f : Addr} {name qual : Str} {params : Arguments} {body : List Stmt} {scope : Scope} {dV kV doc pm cdv ct oc : Value} {an od : Option Addr}
    {osl : Array (Option Value)} {N ps : List Str} {sp : Sp} (lk : K.lookup f = some ⟨oc, od, .func (PySem.W.fnOf name qual params body scope dV kV doc pm an cdv ct), osl⟩) (hcd : PySem.W.codeIn K cdv qual = true) (S : FnScope N ps scope)
    (len : ∀ vs H Q E, sp vs H Q E → vs.length = ps.length)
    (hbody : ∀ (A : Around) (outer : List Env) (s : Shared) (H : Hp) (vs : List V) (Q : VK) (E : XK), Room k (A.deeper (envOfC qual scope s.heap.objs.size f cdv)) → sp vs H Q E →
      ∃ t, PSs (cxOf CX P w K mg base N qual scope f cdv A outer s H E) body t ∧ t { nx := fun _ H' => Q .non H', rt := Q } (start N vs) H) :
    FnOk P w K mg base CX (k + 1) f (PySem.W.fnOf name qual params body scope dV kV doc pm an cdv ct) ps sp := by
  refine ⟨len, fun A outer s H args us vs Q E hr e0 hb r hsp => ?_⟩
  have hl := len _ _ _ _ hsp
  have KX : K.In s.heap := e0.mod.kin.keeps fun b o e => (e0.bs b o e).1
  have lim : s.heap.NoLimit := e0.mod.nolimit.keeps fun b o e => (e0.bs b o e).1
  have hkind : ∀ y ∈ ps.zip us, scope.names.lookup y.1 = some .local ∨ (scope.names.lookup y.1 = some .cell ∧ ((cellsFrom (s.heap.objs.size + 1) scope.names []).lookup y.1).isSome = true) := fun ⟨n, v⟩ hy => by
    rcases S.par n (List.of_mem_zip hy).1 with q | q
    · exact .inl q
    · exact .inr ⟨q, PySem.W.cellsFrom_some _ _ _ (.inl q)⟩
  refine codeAny_call_function hr.depth (KX _ _ lk) rfl S.co S.gen rfl (PySem.W.codeRec_of KX hcd) (hb _ _ _ _ ?_)
  refine wpAny_newFunctionEnv_cells S.kind hkind fun env he s1 x => ?_
  subst he
  refine ⟨lim.keeps x.toInCall.keep, codeAny_func ?_⟩
  obtain ⟨t, ht, hq⟩ := hbody A outer s H vs Q E (hr.deeper _) hsp
  have I : Inv (cxOf CX P w K mg base N qual scope f cdv A outer s H E) [] (start N vs) H s1 := inv_start S hr.hd e0 hl r x
  refine wpAny_mono (ht [] s1 (start N vs) H _ I hq) (fun fl s' hs => ?_) fun e s' hs => hs
  have fin : ∀ {σ' : St} {H' : Hp} {v : V} {u : Value}, Inv (cxOf CX P w K mg base N qual scope f cdv A outer s H E) [] σ' H' s' → RelV v u → Q v H' → CE outer P w H s Q u s' :=
    fun {σ' H' v u} J rv q => ⟨v, H', J.os, J.bare, J.base, J.hok, rv, q⟩
  cases fl with
  | ret u =>
    obtain ⟨v, σ', H', J, rv, q⟩ := hs
    exact fin J rv q
  | next =>
    obtain ⟨σ', H', J, q⟩ := hs
    exact fin (v := V.non) (u := Value.none) J rfl q
  | brk =>
    obtain ⟨_, _, _, q⟩ := hs
    exact False.elim q
  | cont =>
    obtain ⟨_, _, _, q⟩ := hs
    exact False.elim q
end L2

namespace L2
open PySem PySem.Spec PyProof.Rows
section
variable {X : Cx} {x : Str} {p pos : Pos} {e : Expr} {es : List Expr} {t : TA} {id T : String} {r : List V → Hp → VK → Prop}

noncomputable def tCB (r : List V → Hp → VK → Prop) (t : TA) : TE := fun σ H Q => t σ H fun vs H1 => r vs H1 Q
theorem pe_callB (hc : CallR X (.builtin id) r) (hg : Gl X x) (hm : X.mg x = none) (hv : bootBuiltins x = some (.builtin id)) (ha : PA X (e :: es) t) (hn : x ≠ "__name__" := by decide) (hdb : (x == ("__debug__" : Str)) = false := by decide)
    (he : starEach (e :: es) X.env = (false, eval e X.env) :: starEach es X.env := by rfl) (hpl : (backTo pos (starEach es X.env)).any (·.1) = false := by rfl) : PE X (.Call (.Name x p) (e :: es) [] pos) (tCB r t) := by
  intro pins s σ H Q I h
  refine wpAny_Call_Name_kw (ld_blt I hg hm hv ?_ hn hdb)
  exact PyProof.Rows.callWith_builtin1 (thn (ha pos pins s σ H _ I h) fun us s1 ⟨vs, H1, I1, r1, q1⟩ => hc pins s1 σ H1 vs us Q I1 r1 q1) he hpl
theorem pe_callTy (hc : CallR X (.type T) r) (hg : Gl X x) (hm : X.mg x = none) (hv : bootBuiltins x = some (.type T)) (ha : PA X (e :: es) t) (hn : x ≠ "__name__" := by decide) (hdb : (x == ("__debug__" : Str)) = false := by decide)
    (he : starEach (e :: es) X.env = (false, eval e X.env) :: starEach es X.env := by rfl) (hpl : (backTo pos (starEach es X.env)).any (·.1) = false := by rfl) : PE X (.Call (.Name x p) (e :: es) [] pos) (tCB r t) := by
  intro pins s σ H Q I h
  refine wpAny_Call_Name_kw (ld_blt I hg hm hv ?_ hn hdb)
  exact PyProof.Rows.callWith_type1 (thn (ha pos pins s σ H _ I h) fun us s1 ⟨vs, H1, I1, r1, q1⟩ => hc pins s1 σ H1 vs us Q I1 r1 q1) he hpl
end
end L2

namespace HT
open PySem PyProof.Rows

section
open PySem.SeqAt
open PySem.AutoSeq1 (wpAny_loadPart')
open PySem.MeetsSeq PySem.MeetsSeq2 PySem.MeetsSeq3

end

section
variable {prog : Program} {w : World} {A : Around} {E : Value → Shared → Prop} {s : Shared}

noncomputable def sIx (n d : Nat) : Option Int → Nat
  | none => d
  | some v => if v < 0 then (v + (n : Int)).toNat else min v.toNat n
theorem sIx_nat (n d k : Nat) : sIx n d (some (k : Int)) = min k n := by
  show (if (k : Int) < 0 then ((k : Int) + (n : Int)).toNat else min (k : Int).toNat n) = min k n
  rw [if_neg (by omega), Int.toNat_natCast]
end
end HT

namespace L2
open PySem PySem.Spec PyProof.Rows

noncomputable abbrev TO := St → Hp → (Option Int → Hp → Prop) → Prop
noncomputable def PO (X : Cx) (e : Option Expr) (t : TO) : Prop :=
  ∀ (pins : List (Addr × Obj)) (s : Shared) (σ : St) (H : Hp) (Q : Option Int → Hp → Prop), Inv X pins σ H s → t σ H Q →
    wpAny (model X.prog X.w) X.A (evalPart e X.env) (fun u s' => ∃ o H', Inv X pins σ H' s' ∧ IsPart u o ∧ Q o H') X.xe s
noncomputable def tNoPart : TO := fun _ H Q => Q none H
noncomputable def tPart (t : TE) : TO := fun σ H Q => t σ H fun x H1 => ∃ i, x = .int i ∧ Q (some i) H1

section
variable {X : Cx} {e : Expr} {te : TE} {lo hi : Option Expr} {tl th : TO} {pos p2 : Pos}

theorem po_none : PO X none tNoPart := by
  intro pins s σ H Q I h
  rw [evalPart_none]
  exact wpAny_pure ⟨none, H, I, .none, h⟩
theorem po_some (h : PE X e te) : PO X (some e) (tPart te) := by
  intro pins s σ H Q I hw
  rw [evalPart_some]
  refine thn (h pins s σ H _ I hw) fun u s1 ⟨x, H1, I1, r1, q1⟩ => ?_
  obtain ⟨i, rfl, q⟩ := q1
  obtain ⟨t, rfl⟩ := r1
  exact ⟨some i, H1, I1, .int i t, q⟩

noncomputable def SlR (X : Cx) (r : V → Option Int → Option Int → Hp → VK → Prop) : Prop :=
  ∀ (pins : List (Addr × Obj)) (s : Shared) (σ : St) (H : Hp) (x : V) (v vl vu : Value) (lo hi : Option Int) (sl : Addr) (Q : VK), Inv X pins σ H s → RelV x v → s.heap.IsSliceOf sl vl vu .none → IsPart vl lo → IsPart vu hi → r x lo hi H Q →
    ∃ T id, typeLookup (.type T) "__getitem__" = pure (some (.builtin id)) ∧ s.TypeIs v T ∧ wpAny (model X.prog X.w) X.A (getItem v (.ref sl)) (EP X pins σ Q) X.xe s
noncomputable def tSl (r : V → Option Int → Option Int → Hp → VK → Prop) (te : TE) (tl th : TO) : TE := fun σ H Q => te σ H fun x H1 => tl σ H1 fun l H2 => th σ H2 fun u H3 => r x l u H3 Q
theorem pe_slice {r : V → Option Int → Option Int → Hp → VK → Prop} (hr : SlR X r) (he : PE X e te) (hl : PO X lo tl) (hu : PO X hi th) : PE X (.Subscript e (.Slice lo hi none p2) pos) (tSl r te tl th) := by
  intro pins s σ H Q I h
  refine Subscript_ (thn (he pins s σ H _ I h) fun v s1 ⟨x, H1, I1, r1, q1⟩ => ?_)
  refine wpAny_Slice (thn (hl pins s1 σ H1 _ I1 q1) fun vl s2 ⟨l, H2, I2, pl, q2⟩ => thn (hu pins s2 σ H2 _ I2 q2) fun vu s3 ⟨u, H3, I3, pu, q3⟩ => ?_)
  rw [evalPart_none]
  refine wpAny_pure ?_
  have I4 : Inv X pins σ H3 { s3 with heap := s3.heap.push { cls := .type "slice", data := .fields #[vl, vu, .none] } } := I3.kept (t' := s3.toks) fun b ob q => Heap.get?_push_of_some _ q
  obtain ⟨T, id, hT, ht, hg⟩ := hr pins { s3 with heap := s3.heap.push { cls := .type "slice", data := .fields #[vl, vu, .none] } } σ H3 x v vl vu l u s3.heap.objs.size Q I4 r1 (Heap.IsSliceOf.new ..) pl pu q3
  show wpAny (model X.prog X.w) X.A (subscriptTail e (.Slice lo hi none p2) v (.ref s3.heap.objs.size)) (EP X pins σ Q) X.xe { s3 with heap := s3.heap.push { cls := .type "slice", data := .fields #[vl, vu, .none] } }
  exact tail_any (ops := [.ref s3.heap.objs.size, v]) ht hT hg (by with_unfolding_all rfl)

noncomputable def cutV (xs : List V) (lo hi : Option Int) : List V := (xs.drop (HT.sIx xs.length 0 lo)).take (HT.sIx xs.length xs.length hi - HT.sIx xs.length 0 lo)
theorem cutV_length (xs : List V) (lo hi : Option Int) : (cutV xs lo hi).length ≤ xs.length := by
  unfold cutV
  rw [List.length_take, List.length_drop]
  omega
end
end L2

namespace L2
open PySem PySem.Spec PyProof.Rows

noncomputable def ixN (n : Nat) (i : Int) : Option Nat := if 0 ≤ i then (if i < n then some i.toNat else none) else if -(n : Int) ≤ i then some (i + n).toNat else none
noncomputable def atI {α : Type} (xs : List α) (i : Int) : Option α := (ixN xs.length i).bind fun j => xs[j]?
theorem ixN_seq {n : Nat} {i : Int} {j : Nat} (h : ixN n i = some j) : seqIndex? i n = some j ∧ j < n ∧ -(n : Int) ≤ i ∧ i < n := by
  unfold ixN at h
  by_cases h0 : 0 ≤ i
  · rw [if_pos h0] at h
    by_cases h1 : i < n
    · rw [if_pos h1] at h
      have e : i.toNat = j := Option.some.inj h
      exact ⟨by rw [seqIndex_of h0 h1, e], by omega, by omega, h1⟩
    · rw [if_neg h1] at h; cases h
  · rw [if_neg h0] at h
    by_cases h1 : -(n : Int) ≤ i
    · rw [if_pos h1] at h
      have e : (i + n).toNat = j := Option.some.inj h
      exact ⟨by rw [seqIndex_neg (by omega) h1, e], by omega, h1, by omega⟩
    · rw [if_neg h1] at h; cases h
theorem atI_get {α : Type} {xs : List α} {i : Int} {v : α} (h : atI xs i = some v) : ∃ j, seqIndex? i xs.length = some j ∧ xs[j]? = some v ∧ j < xs.length ∧ -(xs.length : Int) ≤ i ∧ i < xs.length := by
  unfold atI at h
  cases e : ixN xs.length i with
  | none => rw [e] at h; cases h
  | some j =>
    rw [e] at h
    obtain ⟨h1, h2, h3, h4⟩ := ixN_seq e
    exact ⟨j, h1, h, h2, h3, h4⟩
theorem atI_nat {α : Type} {xs : List α} {j : Nat} {v : α} (h : xs[j]? = some v) : atI xs (j : Int) = some v := by
  have hj : j < xs.length := (List.getElem?_eq_some_iff.mp h).1
  have e : ixN xs.length (j : Int) = some j := by
    unfold ixN
    rw [if_pos (by omega), if_pos (by omega)]; simp
  unfold atI; rw [e]; exact h
noncomputable def PlainIx (b : Expr) : Prop := ∀ o i, subscripted b false o i = operate [o, i] (getItem o i)
noncomputable def IxR (X : Cx) (r : R2) : Prop :=
  ∀ (value slice : Expr) (pins : List (Addr × Obj)) (s : Shared) (σ : St) (H : Hp) (x y : V) (v u : Value) (Q : VK), Inv X pins σ H s → RelV x v → RelV y u → r x y H Q →
    subscripted slice false v u = operate [v, u] (getItem v u) → wpAny (model X.prog X.w) X.A (subscriptTail value slice v u) (EP X pins σ Q) X.xe s
noncomputable def MtR (X : Cx) (id : String) (r : V → List V → Hp → VK → Prop) : Prop :=
  ∀ (pins : List (Addr × Obj)) (s : Shared) (σ : St) (H : Hp) (x : V) (xs : List V) (v : Value) (us : List Value) (Q : VK), Inv X pins σ H s → RelV x v → Vals xs us → r x xs H Q →
    wpAny (model X.prog X.w) X.A (call (.builtin id) (v :: us)) (EP X pins σ Q) X.xe s
section
variable {X : Cx} {a b : Expr} {ta tb : TE} {pos : Pos}
theorem pe_ix {r : R2} (hr : IxR X r) (ha : PE X a ta) (hb : PE X b tb) (hs : PlainIx b) : PE X (.Subscript a b pos) (tOp r ta tb) := by
  intro pins s σ H Q I h
  exact Subscript_ (binT ha hb I h fun v u s2 x y H2 I2 rx ry q => hr a b pins s2 σ H2 x y v u Q I2 rx ry q (hs _ _))

noncomputable def rIxL (K : PySem.W.Frag) : R2 := fun x y H Q => ∃ p xs i v, x = .ref p ∧ y = .int i ∧ SqL K H p xs ∧ atI xs i = some v ∧ Q v H
noncomputable def rIxT (K : PySem.W.Frag) : R2 := fun x y H Q => ∃ p xs i v, x = .ref p ∧ y = .int i ∧ SqT K H p xs ∧ atI xs i = some v ∧ Q v H
theorem ix_list : IxR X (rIxL X.K) := by
  intro value slice pins s σ H x y v u Q I rx ry h hs
  obtain ⟨p, xs, i, z, rfl, rfl, hq, he, q⟩ := h
  cases rx
  obtain ⟨t, rfl⟩ := ry
  obtain ⟨its, r, pl, hz⟩ := I.list hq
  obtain ⟨j, h1, h2, h3, h4, h5⟩ := atI_get he
  obtain ⟨w, ew, rw'⟩ := r.get h2
  have hl := r.length
  have hn := line63
  have fin : EP X pins σ Q w s := ⟨z, H, I, rw', q⟩
  by_cases h0 : 0 ≤ i
  · have hj : i.toNat = j := by
      rw [seqIndex_of h0 h5] at h1
      exact Option.some.inj h1
    exact item_listR pl.isList h0 (by omega) (by rw [hj]; simpa using ew) fin hs
  · have hj : (i + (its.toArray.size : Int)).toNat = j := by
      rw [seqIndex_neg (by omega) h4] at h1
      rw [List.size_toArray, ← hl]
      exact Option.some.inj h1
    exact subscriptTail_builtinR (x := w) pl.isList.typeIs slot_list_getitem.lookup
      (wpAny_getItem_list_neg (Q := fun r s' => r = w ∧ EP X pins σ Q r s') pl.isList (by omega) (by rw [List.size_toArray] <;> omega) (by omega) (by rw [hj]; simpa using ew) ⟨rfl, fin⟩) hs
theorem ix_tup : IxR X (rIxT X.K) := by
  intro value slice pins s σ H x y v u Q I rx ry h hs
  obtain ⟨p, xs, i, z, rfl, rfl, hq, he, q⟩ := h
  cases rx
  obtain ⟨t, rfl⟩ := ry
  obtain ⟨its, r, pl, hz⟩ := I.tuple hq
  obtain ⟨j, h1, h2, h3, h4, h5⟩ := atI_get he
  obtain ⟨w, ew, rw'⟩ := r.get h2
  have hl := r.length
  have hn := line63
  have fin : EP X pins σ Q w s := ⟨z, H, I, rw', q⟩
  exact subscriptTail_builtinR (x := w) pl.typeIs slot_tuple_getitem.lookup
    (getItem_tuple (j := j) (Q := fun r s' => r = w ∧ EP X pins σ Q r s') pl (by omega) (by omega) (by rw [List.size_toArray, ← hl]; exact h1) (by simpa using ew) ⟨rfl, fin⟩) hs
theorem mapSeq_set (its : List Value) (n j : Nat) (u : Value) : Obj.mapSeq (·.setIfInBounds j u) { cls := .type "list", data := .seq its.toArray n } = { cls := .type "list", data := .seq (its.set j u).toArray n } := by
  simp [Obj.mapSeq]
theorem Inv.lst {pins : List (Addr × Obj)} {σ : St} {H : Hp} {s : Shared} {p : Addr} {xs : List V} (I : Inv X pins σ H s) (h : H p = some (.lst xs)) :
    ∃ (its : List Value) (n : Nat), Vals xs its ∧ s.heap.get? p = some { cls := .type "list", data := .seq its.toArray n } ∧ xs.length ≤ sizeLine := by
  obtain ⟨z, its, n, r, e⟩ := I.hok p _ h
  exact ⟨its, n, r, e, z⟩
theorem Inv.lstUpd {pins : List (Addr × Obj)} {σ : St} {H : Hp} {s : Shared} {p : Addr} {xs ys : List V} {its its' : List Value} {n n' : Nat} {f : Obj → Obj} (I : Inv X pins σ H s) (h : H p = some (.lst xs))
    (ho : s.heap.get? p = some { cls := .type "list", data := .seq its.toArray n }) (hf : f { cls := .type "list", data := .seq its.toArray n } = { cls := .type "list", data := .seq its'.toArray n' }) (r : Vals ys its') (hz : ys.length ≤ sizeLine) (t : Nat) :
    Inv X pins σ (upd H p (.lst ys)) { s with heap := s.heap.update p f, toks := t } := by
  have e : (s.heap.update p f).get? p = some { cls := .type "list", data := .seq its'.toArray n' } := by
    rw [Heap.get?_update_self f ho (by rw [hf] <;> rfl), hf]
  refine I.write (x := p) (e := p) (by rw [h]; trivial) (.inl rfl) (fun b u hb q => (Heap.get?_update_other _ _ (Ne.symm hb)).trans q) ⟨_, e⟩ ?_
  exact ⟨hz, its', n', r, e⟩
noncomputable def rSetL : V → V → V → Hp → (Hp → Prop) → Prop := fun o i v H Q => ∃ p xs k j, o = .ref p ∧ i = .int k ∧ H p = some (.lst xs) ∧ ixN xs.length k = some j ∧ Q (upd H p (.lst (xs.set j v)))
theorem set_list : PSet X rSetL := by
  intro pins s σ H o i v ov iv u Q I ro ri rv h
  obtain ⟨p, xs, k, j, rfl, rfl, hp, hj, q⟩ := h
  cases ro
  obtain ⟨t, rfl⟩ := ri
  obtain ⟨its, n, r, ho, hz⟩ := I.lst hp
  obtain ⟨h1, h2, h3, h4⟩ := ixN_seq hj
  have hl := r.length
  have hn := line63
  have I' : Inv X pins σ (upd H p (.lst (xs.set j v))) { s with heap := s.heap.update p (Obj.mapSeq (·.setIfInBounds j u)) } :=
    I.lstUpd hp ho (mapSeq_set its n j u) (r.set rv j) (by rw [List.length_set]; exact hz) s.toks
  by_cases h0 : 0 ≤ k
  · have hk : k.toNat = j := by
      rw [seqIndex_of h0 h4] at h1
      exact Option.some.inj h1
    exact PySem.W.ki_setAt ho h0 (by omega) (by rw [List.size_toArray, ← hl]; exact h4) (by rw [hk]; exact ⟨_, I', q⟩)
  · have hk : (k + (its.toArray.size : Int)).toNat = j := by
      rw [seqIndex_neg (by omega) h3] at h1
      rw [List.size_toArray, ← hl]
      exact Option.some.inj h1
    exact PySem.W.ki_setBack ho (by omega) (by rw [List.size_toArray, ← hl]; exact h3) (by omega) (by rw [hk]; exact ⟨_, I', q⟩)

theorem slice_bounds (lo hi : Option Int) (n : Nat) : (sliceBounds lo hi none n).1 = ((HT.sIx n 0 lo : Nat) : Int) ∧ (sliceBounds lo hi none n).2.1 = ((HT.sIx n n hi : Nat) : Int) ∧ (sliceBounds lo hi none n).2.2 = 1 := by
  refine ⟨?_, ?_, rfl⟩
  · cases lo with
    | none => simp [sliceBounds, HT.sIx]
    | some i =>
      simp only [sliceBounds, HT.sIx, Option.getD_none, show (1 : Int) > 0 by decide, if_true]
      by_cases h : i < 0
      · simp only [h, if_true] <;> omega
      · simp only [h, if_false] <;> omega
  · cases hi with
    | none => simp [sliceBounds, HT.sIx]
    | some i =>
      simp only [sliceBounds, HT.sIx, Option.getD_none, show (1 : Int) > 0 by decide, if_true]
      by_cases h : i < 0
      · simp only [h, if_true] <;> omega
      · simp only [h, if_false] <;> omega
theorem slicePick_cut (its : List Value) (lo hi : Option Int) : slicePick its.toArray lo hi none = ((its.drop (HT.sIx its.length 0 lo)).take (HT.sIx its.length its.length hi - HT.sIx its.length 0 lo)).toArray := by
  obtain ⟨h1, h2, h3⟩ := slice_bounds lo hi its.toArray.size
  unfold slicePick
  rw [h1, h2, h3]
  simp only [sliceRange_one, pick_run, List.size_toArray] <;> rfl
noncomputable def rSlL (K : PySem.W.Frag) : V → Option Int → Option Int → Hp → VK → Prop := fun x lo hi H Q => ∃ a xs, x = .ref a ∧ SqL K H a xs ∧ ∀ p, H p = none → Q (.ref p) (upd H p (.lst (cutV xs lo hi)))
theorem sl_list : SlR X (rSlL X.K) := by
  intro pins s σ H x v vl vu lo hi sl Q I rx hs pl pu h
  obtain ⟨a, xs, rfl, hx, q⟩ := h
  cases rx
  obtain ⟨its, r, ht, hz⟩ := I.list hx
  have hlen := r.length
  refine ⟨"list", _, slot_list_getitem.lookup, ht.isList.typeIs, ?_⟩
  refine wpAny_getItem_list_slice ht.isList hs pl pu .none (by simp) ?_ (by rw [List.size_toArray] <;> omega)
  rw [slicePick_cut, ← hlen]
  refine ⟨.ref s.heap.objs.size, _, I.laid (t' := s.toks) (o := .lst (cutV xs lo hi)) (fun b ob q => Heap.get?_push_of_some _ q) (Nat.le_refl _) ?_, rfl, q _ (I.hok.fresh (Nat.le_refl _))⟩
  exact ⟨Nat.le_trans (cutV_length xs lo hi) hz, _, 0, (r.drop (HT.sIx xs.length 0 lo)).take (HT.sIx xs.length xs.length hi - HT.sIx xs.length 0 lo), Heap.get?_push_size _ rfl⟩

noncomputable def flatV : V → Bool
  | .non => true
  | .bl _ => true
  | .int _ => true
  | .str _ => true
  | _ => false
noncomputable def eqV : V → V → Bool
  | .non, .non => true
  | .bl a, .bl b => a == b
  | .bl a, .int b => (if a then 1 else 0) == b
  | .int a, .bl b => a == (if b then 1 else 0)
  | .int a, .int b => a == b
  | .str a, .str b => a == b
  | _, _ => false
theorem eqAt_V {A : Around} {s : Shared} {y x : V} {u v : Value} (ry : RelV y u) (rx : RelV x v) (fy : flatV y = true) (fx : flatV x = true) : SeqAt.EqAt A s u v (eqV y x) := by
  cases y with
  | non =>
    cases ry
    cases x with
    | non => cases rx; exact SeqAt.EqAt.same _
    | bl b => cases rx; exact SeqAt.EqAt.none_bool b
    | int b => obtain ⟨t, rfl⟩ := rx; exact SeqAt.EqAt.none_int b t
    | str b => obtain ⟨t, rfl⟩ := rx; exact SeqAt.EqAt.none_str b t
    | _ => exact absurd (show false = true from fx) Bool.false_ne_true
  | bl a =>
    cases ry
    cases x with
    | non => cases rx; exact SeqAt.EqAt.bool_none a
    | bl b => cases rx; exact SeqAt.EqAt.bool_bool a b
    | int b => obtain ⟨t, rfl⟩ := rx; exact SeqAt.EqAt.bool_int a b t
    | str b => obtain ⟨t, rfl⟩ := rx; exact SeqAt.EqAt.bool_str a b t
    | _ => exact absurd (show false = true from fx) Bool.false_ne_true
  | int a =>
    obtain ⟨t', rfl⟩ := ry
    cases x with
    | non => cases rx; exact SeqAt.EqAt.int_none a t'
    | bl b => cases rx; exact SeqAt.EqAt.int_bool a t' b
    | int b => obtain ⟨t, rfl⟩ := rx; exact SeqAt.EqAt.int_int a t' b t
    | str b => obtain ⟨t, rfl⟩ := rx; exact SeqAt.EqAt.int_str a t' b t
    | _ => exact absurd (show false = true from fx) Bool.false_ne_true
  | str a =>
    obtain ⟨t', rfl⟩ := ry
    cases x with
    | non => cases rx; exact SeqAt.EqAt.str_none a t'
    | bl b => cases rx; exact SeqAt.EqAt.str_bool a t' b
    | int b => obtain ⟨t, rfl⟩ := rx; exact SeqAt.EqAt.str_int a t' b t
    | str b => obtain ⟨t, rfl⟩ := rx; exact SeqAt.EqAt.str_str a t' b t
    | _ => exact absurd (show false = true from fx) Bool.false_ne_true
  | _ => exact absurd (show false = true from fy) Bool.false_ne_true
noncomputable def eqU (x : V) (u : Value) : Bool := match u with
  | .none => eqV .non x
  | .bool b => eqV (.bl b) x
  | .int i _ => eqV (.int i) x
  | .str z _ => eqV (.str z) x
  | _ => false
theorem eqU_of {x y : V} {u : Value} (r : RelV y u) (f : flatV y = true) : eqU x u = eqV y x := by
  cases y with
  | non => cases r; rfl
  | bl b => cases r; rfl
  | int i => obtain ⟨t, rfl⟩ := r; rfl
  | str z => obtain ⟨t, rfl⟩ := r; rfl
  | _ => exact absurd (show false = true from f) Bool.false_ne_true
theorem mem_eqAt {A : Around} {s : Shared} {x : V} {v : Value} (rx : RelV x v) (fx : flatV x = true) : ∀ {xs : List V} {us : List Value}, Vals xs us → xs.all flatV = true → ∀ u ∈ us, SeqAt.EqAt A s u v (eqU x u)
  | _, _, .nil, _ => fun u hu => by cases hu
  | y :: xs, u :: us, .cons r t, f => fun u' hu => by
    rw [List.all_cons, Bool.and_eq_true] at f
    rcases List.mem_cons.mp hu with rfl | hu
    · rw [eqU_of r f.1]; exact eqAt_V r rx f.1 fx
    · exact mem_eqAt rx fx t f.2 u' hu
theorem call_len_seq : CallR X (.builtin "len") (fun xs H Q => ∃ p ys, xs = [.ref p] ∧ (SqL X.K H p ys ∨ SqT X.K H p ys) ∧ Q (.int ys.length) H) := by
  intro pins s σ H xs us Q I r h
  obtain ⟨p, ys, rfl, hq, q⟩ := h
  obtain ⟨u, rfl, rx⟩ := vals1 r
  cases rx
  have hn := line63
  rcases hq with hq | hq
  · obtain ⟨its, r', pl, hz⟩ := I.list hq
    have hlen := r'.length
    exact Calls.call_len_list pl.isList (by simp only [List.size_toArray] <;> omega) ⟨.int ys.length, H, I.tok _, ⟨s.toks + 1, by rw [List.size_toArray, hlen]⟩, q⟩
  · obtain ⟨its, r', pl, hz⟩ := I.tuple hq
    have hlen := r'.length
    exact len_tuple pl (by simp only [List.size_toArray] <;> omega) ⟨.int ys.length, H, I.tok _, ⟨s.toks + 1, by rw [List.size_toArray, hlen]⟩, q⟩
theorem call_list_of : CallR X (.type "list") (fun xs H Q => ∃ p ys, xs = [.ref p] ∧ (SqL X.K H p ys ∨ SqT X.K H p ys) ∧ ∀ l, H l = none → Q (.ref l) (upd H l (.lst ys))) := by
  intro pins s σ H xs us Q I r h
  obtain ⟨p, ys, rfl, hq, q⟩ := h
  obtain ⟨u, rfl, rx⟩ := vals1 r
  cases rx
  have fin : ∀ (its : List Value), Vals ys its → ys.length ≤ sizeLine → ∀ (h' : Heap) (c' : Nat), (∀ b o', s.heap.get? b = some o' → h'.get? b = some o') →
      h'.get? s.heap.objs.size = some { cls := .type "list", dict := none, data := .seq its.toArray c', slots := #[] } → EP X pins σ Q (.ref s.heap.objs.size) { s with heap := h' } := fun its r' hz h' c' kp e =>
    ⟨.ref s.heap.objs.size, _, I.laid (t' := s.toks) kp (Nat.le_refl _) (show ObjOk X.prog X.w _ h' _ (.lst ys) from ⟨hz, its, c', r', e⟩), rfl, q _ (I.hok.fresh (Nat.le_refl _))⟩
  rcases hq with hq | hq
  · obtain ⟨its, r', pl, hz⟩ := I.list hq
    have hlen := r'.length
    obtain ⟨o, ho, hc, n, hd⟩ := pl.isList
    exact call_list_seq p (.inl rfl) ho hc hd (fun h' c' kp e => fin its r' hz h' c' kp e) (by simp only [List.size_toArray] <;> omega)
  · obtain ⟨its, r', pl, hz⟩ := I.tuple hq
    have hlen := r'.length
    obtain ⟨o, ho, hc, n, hd⟩ := pl
    exact call_list_seq p (.inr rfl) ho hc hd (fun h' c' kp e => fin its r' hz h' c' kp e) (by simp only [List.size_toArray] <;> omega)
noncomputable def tyV (K : PySem.W.Frag) (T : String) (x : V) (H : Hp) : Prop := match x with
  | .str _ => T = "str"
  | .int _ => T = "int"
  | .ref p => (T = "list" ∧ ∃ xs, SqL K H p xs) ∨ (T = "tuple" ∧ ∃ o, K.lookup p = some o ∧ o.cls = .type "tuple" ∧ o.dict = none) ∨
      (T = "dict" ∧ ((∃ kvs, H p = some (.dK kvs)) ∨ ∃ kvs, H p = some (.dT kvs))) ∨ (T = "set" ∧ ∃ S n, H p = some (.set S n))
  | _ => False
theorem tyV_is {pins : List (Addr × Obj)} {σ : St} {H : Hp} {s : Shared} {T : String} {x : V} {v : Value} (I : Inv X pins σ H s) (r : RelV x v) (ty : tyV X.K T x H) :
    s.TypeIs v T ∧ ∀ a, v = .ref a → ∃ ob, s.heap.get? a = some ob ∧ ob.dict = none := by
  cases x with
  | str z =>
    obtain ⟨t, rfl⟩ := r
    cases (show T = "str" from ty)
    exact ⟨typeIs_str s z t, fun _ e => nomatch e⟩
  | int i =>
    obtain ⟨t, rfl⟩ := r
    cases (show T = "int" from ty)
    exact ⟨typeIs_int s i t, fun _ e => nomatch e⟩
  | ref p =>
    cases r
    rcases ty with ⟨rfl, xs, hq⟩ | ⟨rfl, o, hk, hc, hd⟩ | ⟨rfl, hk⟩ | ⟨rfl, S, n, hk⟩
    · obtain ⟨its, _, pl, _⟩ := I.list hq
      refine ⟨pl.isList.typeIs, fun a e => ?_⟩
      cases e
      obtain ⟨o, n, e, c, hd, _⟩ := pl
      exact ⟨o, e, hd⟩
    · refine ⟨⟨o, I.kIn p o hk, hc⟩, fun a e => ?_⟩
      cases e
      exact ⟨o, I.kIn _ o hk, hd⟩
    · have z : ∃ o, s.heap.get? p = some o ∧ o.ExactDict := by
        rcases hk with ⟨kvs, hk⟩ | ⟨kvs, hk⟩
        · obtain ⟨_, _, _, _, o, _, _, e, ex, _⟩ := I.hok p _ hk
          exact ⟨o, e, ex⟩
        · obtain ⟨_, _, _, _, o, _, _, e, ex, _⟩ := I.hok p _ hk
          exact ⟨o, e, ex⟩
      obtain ⟨o, e, ex⟩ := z
      refine ⟨⟨o, e, ex.1⟩, fun a e2 => ?_⟩
      cases e2
      exact ⟨o, e, ex.2.1⟩
    · obtain ⟨o, _, _, _, e, ex, _⟩ := I.hok p _ hk
      refine ⟨⟨o, e, ex.1⟩, fun a e2 => ?_⟩
      cases e2
      exact ⟨o, e, ex.2.1⟩
  | _ => exact False.elim ty
noncomputable def tBM (K : PySem.W.Frag) (T : String) (r : V → List V → Hp → VK → Prop) (to : TE) (t : TA) : TE := fun σ H Q => to σ H fun x H1 => tyV K T x H1 ∧ t σ H1 fun xs H2 => r x xs H2 Q
variable {o e : Expr} {es : List Expr} {to : TE} {t : TA} {name : Str} {apos cpos : Pos} {T id : String} {r : V → List V → Hp → VK → Prop}
theorem pe_bm (pa : PlainAttrs T) (slot : Slot T name id) (hty : typeOf (.builtin id) = pure (.type "method_descriptor")) (hm : MtR X id r) (ho : PE X o to) (ha : PA X (e :: es) t)
    (hbase : attributeBase o name X.env (eval o X.env) = eval o X.env := by rfl)
    (hfew : ((backTo cpos (starEach (e :: es) X.env)).all (fun x => !x.1) && (backToKw cpos (keywordEach [] X.env)).all (fun x => x.1.isSome)
      && decide ((e :: es).length + ([] : List Keyword).length + (if ([] : List Keyword).isEmpty then 0 else 1) < 30)) = true := by rfl)
    (hline : (apos.endLine == cpos.line) = true := by rfl) (hs : starEach (e :: es) X.env = (false, eval e X.env) :: starEach es X.env := by rfl) (hplain : (backTo cpos (starEach es X.env)).any (·.1) = false := by rfl) :
    PE X (.Call (.Attribute o name apos) (e :: es) [] cpos) (tBM X.K T r to t) := by
  intro pins s σ H Q I h
  refine wpAny_Call_method_late hbase hfew hline rfl (thn (ho pins s σ H _ I h) fun v s1 ⟨x, H1, I1, r1, ty, q1⟩ => ?_)
  obtain ⟨h1, h2⟩ := tyV_is I1 r1 ty
  refine ⟨T, id, pa, slot, hty, h1, h2, ?_⟩
  have hA := ha cpos pins s1 σ H1 _ I1 q1
  rw [hs] at hA ⊢
  refine Calls.callWith_builtin (by show (false || (backTo cpos (starEach es X.env)).any (·.1)) = false; rw [hplain] <;> rfl) (Calls.evalArgs_plain ?_)
  exact thn hA fun us s2 ⟨vs, H2, I2, r2, q2⟩ => hm pins s2 σ H2 x vs v us Q I2 r1 r2 q2
end
end L2

namespace L2
open PySem PySem.Spec PyProof.Rows

noncomputable def MtM (X : Cx) (id : String) (r : V → List V → Hp → VK → Prop) : Prop :=
  ∀ (pins : List (Addr × Obj)) (s : Shared) (σ : St) (H : Hp) (x : V) (xs : List V) (v : Value) (us : List Value) (Q : VK), Inv X pins σ H s → RelV x v → Vals xs us → r x xs H Q →
    wpAny (model X.prog X.w) X.A (call (.builtin id) (v :: us)) (EP X pins σ Q) X.xe s

theorem Vals.one : ∀ {x : V} {us : List Value}, Vals [x] us → ∃ u, us = [u] ∧ RelV x u
  | _, _, .cons r .nil => ⟨_, rfl, r⟩
section
variable {X : Cx} {pins : List (Addr × Obj)} {σ : St} {H : Hp} {s : Shared} {l b : Addr} {xs ys zs : List V}

theorem Inv.lset {its its' : List Value} {n : Nat} {f : Array Value → Array Value} {t' : Nat} (I : Inv X pins σ H s) (hH : H l = some (.lst xs))
    (e : s.heap.get? l = some { cls := .type "list", data := .seq its.toArray n }) (hf : f its.toArray = its'.toArray) (hv : Vals ys its') (hz : ys.length ≤ sizeLine) :
    Inv X pins σ (upd H l (.lst ys)) { s with heap := s.heap.update l (Obj.mapSeq f), toks := t' } := by
  have q := PySem.IsL.update e f
  rw [hf] at q
  refine I.write (x := l) (e := l) (by rw [hH]; exact trivial) (.inl rfl) (fun b' u hb hu => (Heap.get?_update_other s.heap (Obj.mapSeq f) (Ne.symm hb)).trans hu) ⟨_, q⟩ ?_
  exact ⟨hz, its', _, hv, q⟩
theorem Inv.lnew {its : List Value} {t' : Nat} (I : Inv X pins σ H s) (hv : Vals ys its) (hz : ys.length ≤ sizeLine) :
    Inv X pins σ (upd H s.heap.objs.size (.lst ys)) { s with heap := s.heap.push { cls := .type "list", data := .seq its.toArray }, toks := t' } :=
  I.laid (fun _ _ q => Heap.get?_push_of_some _ q) (Nat.le_refl _) ⟨hz, its, 0, hv, Heap.get?_push_size _ rfl⟩
theorem Inv.fresh (I : Inv X pins σ H s) : H s.heap.objs.size = none := I.hok.fresh (Nat.le_refl _)
theorem Inv.lstM (I : Inv X pins σ H s) (hH : H l = some (.lst xs)) : xs.length ≤ sizeLine ∧ ∃ (its : List Value) (n : Nat), Vals xs its ∧ xs.length = its.length ∧ s.heap.get? l = some { cls := .type "list", data := .seq its.toArray n } := by
  obtain ⟨z, its, n, r, e⟩ := I.hok l _ hH
  exact ⟨z, its, n, r, r.length, e⟩

theorem notLongL {n : Nat} (h : n ≤ sizeLine) : Builtin.List.listTooLong n = false := by
  unfold Builtin.List.listTooLong
  exact decide_eq_false (by omega)
end

section
variable {X : Cx}

noncomputable def rAppend : V → List V → Hp → VK → Prop := fun x vs H Q => ∃ l xs y, x = .ref l ∧ vs = [y] ∧ H l = some (.lst xs) ∧ xs.length < sizeLine ∧ Q .non (upd H l (.lst (xs ++ [y])))
theorem mt_append : MtM X "list.append" rAppend := by
  intro pins s σ H x vs v us Q I rx rv h
  obtain ⟨l, xs, y, rfl, rfl, hH, hz, q⟩ := h
  cases rx
  obtain ⟨u, rfl, ru⟩ := rv.one
  obtain ⟨z, its, n, r, hl, e⟩ := I.lstM hH
  refine call_meets F.slot_list_append ⟨_, e, rfl⟩ F.entry_list_append (F.args_list_append_2 _ _) (PySem.list_append l its.toArray n u (by rw [List.size_toArray]; omega)) ⟨e, ?_⟩
  refine ⟨.non, _, I.lset (its' := its ++ [u]) hH e (by simp) (r.append (.cons ru .nil)) ?_, rfl, q⟩
  rw [List.length_append, List.length_singleton]
  omega

noncomputable def rExtend : V → List V → Hp → VK → Prop := fun x vs H Q => ∃ l b xs zs, x = .ref l ∧ vs = [.ref b] ∧ H l = some (.lst xs) ∧ H b = some (.lst zs) ∧ xs.length + zs.length ≤ sizeLine ∧ Q .non (upd H l (.lst (xs ++ zs)))
theorem mt_extend : MtM X "list.extend" rExtend := by
  intro pins s σ H x vs v us Q I rx rv h
  obtain ⟨l, b, xs, zs, rfl, rfl, hH, hB, hz, q⟩ := h
  cases rx
  obtain ⟨u, rfl, ru⟩ := rv.one
  cases ru
  obtain ⟨z, its, n, r, hl, e⟩ := I.lstM hH
  obtain ⟨z2, its2, n2, r2, hl2, e2⟩ := I.lstM hB
  have hsz : its.toArray.size + its2.toArray.size ≤ sizeLine := by rw [List.size_toArray, List.size_toArray]; omega
  have hlong : ¬ (!its.toArray.isEmpty && Builtin.List.listTooLong (its.toArray.size + its2.toArray.size)) = true := by
    rw [notLongL hsz, Bool.and_false]
    exact Bool.false_ne_true
  refine call_meets F.slot_list_extend ⟨_, e, rfl⟩ F.entry_list_extend (F.args_list_extend_2 _ _)
    (AutoSeq1.list_extend_list_list_0 l its.toArray n b its2.toArray n2 hlong (by rw [List.size_toArray]; omega) (by omega)) ⟨e, e2, ?_⟩
  refine ⟨.non, _, I.lset (its' := its ++ its2) hH e (by simp) (r.append r2) ?_, rfl, q⟩
  rw [List.length_append]
  omega

noncomputable def rCat : R2 := fun x y H Q => ∃ l b xs zs, x = .ref l ∧ y = .ref b ∧ H l = some (.lst xs) ∧ H b = some (.lst zs) ∧ xs.length + zs.length ≤ sizeLine ∧ ∀ p, H p = none → Q (.ref p) (upd H p (.lst (xs ++ zs)))
theorem op_cat : OpR X (binaryOp .Add) rCat := by
  intro pins s σ H x y v u Q I rx ry h
  obtain ⟨l, b, xs, zs, rfl, rfl, hH, hB, hz, q⟩ := h
  cases rx
  cases ry
  obtain ⟨z, its, n, r, hl, e⟩ := I.lstM hH
  obtain ⟨z2, its2, n2, r2, hl2, e2⟩ := I.lstM hB
  refine PySem.P.add_list e e2 ?_ (by rw [List.size_toArray, List.size_toArray]; omega)
  have ea : its.toArray ++ its2.toArray = (its ++ its2).toArray := by simp
  rw [ea]
  exact ⟨.ref _, _, I.lnew (t' := s.toks) (r.append r2) (by rw [List.length_append]; omega), rfl, q _ I.fresh⟩
end

section
variable {prog : Program} {w : World} {A : Around} {E : Value → Shared → Prop} {s : Shared}
set_option maxRecDepth 100000 in
end

section
variable {X : Cx}
end
end L2

namespace L2
open PySem PySem.Spec PyProof.Rows

theorem Vals.ints : ∀ {ns : List Int} {us : List Value}, Vals (ns.map V.int) us → IntsAre us ns
  | [], us, h => by
    rw [List.map_nil] at h
    cases h
    exact IntsAre.nil
  | n :: ns, us, h => by
    rw [List.map_cons] at h
    cases h with
    | cons r t =>
      obtain ⟨k, rfl⟩ := r
      exact IntsAre.cons n k (Vals.ints t)
theorem Vals.bls : ∀ {bs : List Bool} {us : List Value}, Vals (bs.map V.bl) us → us = bs.map Value.bool
  | [], us, h => by
    rw [List.map_nil] at h
    cases h
    rfl
  | b :: bs, us, h => by
    rw [List.map_cons] at h
    cases h with
    | cons r t =>
      cases r
      rw [Vals.bls t, List.map_cons]
theorem Vals.ref1 {a : Addr} {us : List Value} (r : Vals [V.ref a] us) : us = [Value.ref a] := by
  cases r with
  | cons r t =>
    cases t
    cases r
    rfl
section
variable {prog : Program} {w : World} {A : Around} {E : Value → Shared → Prop} {s : Shared} {l : Addr} {its : List Value} {ns : List Int} {Q : Value → Shared → Prop}
theorem sum_raw (hh : A.handled = none) (hl : s.heap.IsList l its.toArray) (hi : IntsAre its ns)
    (h : ∀ h' tk t', (∀ b o, s.heap.get? b = some o → h'.get? b = some o) → Q (.int ns.sum t') { s with heap := h', toks := tk }) : wpAny (model prog w) A (call (.builtin "sum") [.ref l]) Q E s := by
  obtain ⟨xs, e⟩ := hi.allInts.items
  have hn : numsOf (intItems xs).toList = ns := by rw [← e]; exact hi.numsOf
  rw [nums_intItems] at hn
  rw [e] at hl
  refine PySem.sum_intListG hh hl fun h' tk t' hk => ?_
  have := h h' tk t' hk
  rw [preSum_eq, List.take_of_length_le (by simp), hn]; exact this
theorem max_raw (hh : A.handled = none) (hl : s.heap.IsList l its.toArray) (hi : IntsAre its ns) (hne : 0 < ns.length)
    (h : ∀ h' tk M t', (∀ b o, s.heap.get? b = some o → h'.get? b = some o) → M ∈ ns → (∀ a, a ∈ ns → a ≤ M) → Q (.int M t') { s with heap := h', toks := tk }) : wpAny (model prog w) A (call (.builtin "max") [.ref l]) Q E s := by
  obtain ⟨xs, e⟩ := hi.allInts.items
  have hn : numsOf (intItems xs).toList = ns := by rw [← e]; exact hi.numsOf
  rw [nums_intItems] at hn
  subst hn
  rw [e] at hl
  have hsz : 0 < xs.size := by simpa using hne
  refine PySem.max_intList hh hl hsz fun v h' tk hv hk => ?_
  obtain ⟨t, rfl⟩ := intItems_at hv
  obtain ⟨h1, h2⟩ := argBest_gt (numAt xs) (xs.size - 1)
  refine h h' tk _ t hk ?_ fun a ha => ?_
  · rw [numAt_eq]; exact PySem.getD_mem (by rw [List.length_map, Array.length_toList]; omega)
  · obtain ⟨j, hj, rfl⟩ := mem_getD ha
    rw [List.length_map, Array.length_toList] at hj
    rw [← numAt_eq]; exact h2 j (by omega)
theorem min_raw (hh : A.handled = none) (hl : s.heap.IsList l its.toArray) (hi : IntsAre its ns) (hne : 0 < ns.length)
    (h : ∀ h' tk M t', (∀ b o, s.heap.get? b = some o → h'.get? b = some o) → M ∈ ns → (∀ a, a ∈ ns → M ≤ a) → Q (.int M t') { s with heap := h', toks := tk }) : wpAny (model prog w) A (call (.builtin "min") [.ref l]) Q E s := by
  obtain ⟨xs, e⟩ := hi.allInts.items
  have hn : numsOf (intItems xs).toList = ns := by rw [← e]; exact hi.numsOf
  rw [nums_intItems] at hn
  subst hn
  rw [e] at hl
  have hsz : 0 < xs.size := by simpa using hne
  refine PySem.min_intList hh hl hsz fun v h' tk hv hk => ?_
  obtain ⟨t, rfl⟩ := intItems_at hv
  obtain ⟨h1, h2⟩ := argBest_lt (numAt xs) (xs.size - 1)
  refine h h' tk _ t hk ?_ fun a ha => ?_
  · rw [numAt_eq]; exact PySem.getD_mem (by rw [List.length_map, Array.length_toList]; omega)
  · obtain ⟨j, hj, rfl⟩ := mem_getD ha
    rw [List.length_map, Array.length_toList] at hj
    rw [← numAt_eq]; exact h2 j (by omega)
end

section
variable {X : Cx}
noncomputable def rSum (K : PySem.W.Frag) : List V → Hp → VK → Prop := fun vs H Q => ∃ (a : Addr) (ns : List Int), vs = [V.ref a] ∧ SqL K H a (ns.map V.int) ∧ Q (.int ns.sum) H
noncomputable def rMax (K : PySem.W.Frag) : List V → Hp → VK → Prop := fun vs H Q => ∃ (a : Addr) (ns : List Int), vs = [V.ref a] ∧ SqL K H a (ns.map V.int) ∧ 0 < ns.length ∧ ∀ m, m ∈ ns → (∀ y, y ∈ ns → y ≤ m) → Q (.int m) H
noncomputable def rMin (K : PySem.W.Frag) : List V → Hp → VK → Prop := fun vs H Q => ∃ (a : Addr) (ns : List Int), vs = [V.ref a] ∧ SqL K H a (ns.map V.int) ∧ 0 < ns.length ∧ ∀ m, m ∈ ns → (∀ y, y ∈ ns → m ≤ y) → Q (.int m) H
theorem cr_sum (hc : X.calm = true) : CallR X (.builtin "sum") (rSum X.K) := by
  intro pins s σ H vs us Q I r h
  obtain ⟨a, ns, rfl, hs, q⟩ := h
  obtain ⟨its, rv, hl, _⟩ := I.list hs
  rw [Vals.ref1 r]
  exact sum_raw (I.ok.hd hc) hl.isList rv.ints fun h' tk t' hk => ⟨.int _, H, I.kept hk, ⟨_, rfl⟩, q⟩
theorem cr_max (hc : X.calm = true) : CallR X (.builtin "max") (rMax X.K) := by
  intro pins s σ H vs us Q I r h
  obtain ⟨a, ns, rfl, hs, hne, q⟩ := h
  obtain ⟨its, rv, hl, _⟩ := I.list hs
  rw [Vals.ref1 r]
  exact max_raw (I.ok.hd hc) hl.isList rv.ints hne fun h' tk m t' hk h1 h2 => ⟨.int _, H, I.kept hk, ⟨_, rfl⟩, q m h1 h2⟩
theorem cr_min (hc : X.calm = true) : CallR X (.builtin "min") (rMin X.K) := by
  intro pins s σ H vs us Q I r h
  obtain ⟨a, ns, rfl, hs, hne, q⟩ := h
  obtain ⟨its, rv, hl, _⟩ := I.list hs
  rw [Vals.ref1 r]
  exact min_raw (I.ok.hd hc) hl.isList rv.ints hne fun h' tk m t' hk h1 h2 => ⟨.int _, H, I.kept hk, ⟨_, rfl⟩, q m h1 h2⟩

end

section
variable {X : Cx}
noncomputable def rIndex (K : PySem.W.Frag) : V → List V → Hp → VK → Prop := fun x xs H Q => ∃ (a : Addr) (ys : List V) (y : V) (j : Nat) (z : V), x = V.ref a ∧ xs = [y] ∧ SqL K H a ys ∧ flatV y = true ∧ ys.all flatV = true ∧ ys[j]? = some z ∧ eqV z y = true ∧
  (∀ (m : Nat) (z' : V), m < j → ys[m]? = some z' → eqV z' y = false) ∧ Q (.int (j : Nat)) H
theorem flat_at {ys : List V} (f : ys.all flatV = true) {j : Nat} {z : V} (h : ys[j]? = some z) : flatV z = true := List.all_eq_true.mp f z (List.mem_of_getElem? h)
theorem mt_index : MtR X "list.index" (rIndex X.K) := by
  intro pins s σ H x xs v us Q I rx rxs h
  obtain ⟨a, ys, y, j, z, rfl, rfl, hs, fy, fys, hz, hzj, hno, q⟩ := h
  cases rx
  cases rxs with
  | cons ry rt =>
    rename_i uy ut
    cases rt
    obtain ⟨its, rv, ⟨⟨cls, dd, data, sl⟩, n, ho, hc, hdn, hd⟩, hlen⟩ := I.list hs
    simp only at hc hd
    subst hc hd
    obtain ⟨u, hu, ru⟩ := rv.get hz
    obtain ⟨hjl, hje⟩ := List.getElem?_eq_some_iff.mp hu
    have hvl := rv.length
    have hj : j < its.toArray.size := by simpa using hjl
    have hsl := sizeLine_eq
    refine call_meets PySem.F.slot_list_index ⟨_, ho, rfl⟩ PySem.F.entry_list_index (PySem.F.args_list_index_2 _ _)
      (SeqAt.list_indexAt a its.toArray n dd sl uy (eqU y) j hj (by omega) ?_ ?_) ⟨ho, fun u' hu' => mem_eqAt ry fy rv fys u' (by simpa using hu'), ?_⟩
    · have e1 : its.toArray[j] = u := by simpa using hje
      rw [e1, eqU_of ru (flat_at fys hz)]
      exact hzj
    · intro m hm hmj
      have hml : m < its.length := by simpa using hm
      have hmy : m < ys.length := by omega
      have hy' : ys[m]? = some ys[m] := List.getElem?_eq_getElem hmy
      obtain ⟨u2, hu2, ru2⟩ := rv.get hy'
      obtain ⟨_, hme⟩ := List.getElem?_eq_some_iff.mp hu2
      have e1 : its.toArray[m] = u2 := by simpa using hme
      rw [e1, eqU_of ru2 (flat_at fys hy')]
      exact hno m _ hmj hy'
    · exact ⟨.int (j : Nat), H, I.tok _, ⟨_, rfl⟩, q⟩
end

section
variable {X : Cx}
end

theorem iter_any {prog : Program} {w : World} {A : Around} {E : Value → Shared → Prop} {s : Shared} {l : Addr} {items : Array Value} {Q : Value → Shared → Prop} (hl : s.heap.IsList l items)
    (h : ∀ s₂ : Shared, s₂ = { s with heap := s.heap.push { cls := .type "list_iterator", data := .fields #[.ref l, .int 0 0] } } →
      (s₂.heap.IsListIter s.heap.objs.size l 0 ∧ s₂.heap.IsList l items) → l ≠ s.heap.objs.size → Q (.ref s.heap.objs.size) s₂) : wpAny (model prog w) A (pyIter (.ref l)) Q E s := by
  have hlt : l < s.heap.objs.size := by obtain ⟨_, e, _⟩ := hl; exact Heap.lt_size e
  exact wpAny_pyIter_list hl (h _ rfl ⟨⟨_, Heap.get?_push_size _ rfl, rfl, rfl⟩, hl.push _⟩ (Nat.ne_of_lt hlt))
theorem truth_bools {prog : Program} {w : World} {A : Around} {bs : List Bool} {its : List Value} (e : its = bs.map Value.bool) :
    TruthOf prog w A (fun i v => its.toArray[i]? = some v) (fun i => bs.getD i false) := fun i v s Q E hv hq => by
  have hv' : its[i]? = some v := by simpa using hv
  rw [e, List.getElem?_map] at hv'
  obtain ⟨b, hb, rfl⟩ := Option.map_eq_some_iff.mp hv'
  have hg : bs.getD i false = b := by rw [List.getD_eq_getElem?_getD, hb] <;> rfl
  have hq' : Q (bs.getD i false) s := hq
  rw [hg] at hq'
  exact wpAny_truthy_bool hq'
theorem any_range : ∀ bs : List Bool, (List.range bs.length).any (fun i => bs.getD i false) = bs.any id
  | [] => rfl
  | b :: bs => by
    rw [List.length_cons, List.range_succ_eq_map, List.any_cons, List.any_map, List.any_cons, ← any_range bs]
    all_goals rfl
theorem all_range : ∀ bs : List Bool, (List.range bs.length).all (fun i => bs.getD i false) = bs.all id
  | [] => rfl
  | b :: bs => by
    rw [List.length_cons, List.range_succ_eq_map, List.all_cons, List.all_map, List.all_cons, ← all_range bs]
    all_goals rfl
section
variable {X : Cx}
noncomputable def rAny (K : PySem.W.Frag) : List V → Hp → VK → Prop := fun vs H Q => ∃ (a : Addr) (bs : List Bool), vs = [V.ref a] ∧ SqL K H a (bs.map V.bl) ∧ Q (.bl (bs.any id)) H
noncomputable def rAll (K : PySem.W.Frag) : List V → Hp → VK → Prop := fun vs H Q => ∃ (a : Addr) (bs : List Bool), vs = [V.ref a] ∧ SqL K H a (bs.map V.bl) ∧ Q (.bl (bs.all id)) H
theorem cr_any (hc : X.calm = true) : CallR X (.builtin "any") (rAny X.K) := by
  intro pins s σ H vs us Q I r h
  obtain ⟨a, bs, rfl, hs, q⟩ := h
  obtain ⟨its, rv, hl, _⟩ := I.list hs
  rw [Vals.ref1 r]
  have hb := rv.bls
  refine call_any_walk (iter_any hl.isList fun s₂ e2 st hne => ?_)
  subst e2
  refine ⟨_, _, _, _, _, _, _, rfl, Walks.list (A := X.A.in1) (I.ok.hd hc) _ a hne its.toArray, st, truth_bools hb, fun h' tk hk => ?_⟩
  refine ⟨.bl _, H, I.kept fun b o eo => hk b o (fun hmem => ?_) (Heap.get?_push_of_some _ eo), ?_, q⟩
  · rcases List.mem_cons.mp hmem with e1 | hmem
    · exact absurd (e1 ▸ Heap.lt_size eo) (Nat.lt_irrefl _)
    · cases hmem
  · show Value.bool _ = Value.bool _
    rw [← any_range, hb, List.size_toArray, List.length_map]
theorem cr_all (hc : X.calm = true) : CallR X (.builtin "all") (rAll X.K) := by
  intro pins s σ H vs us Q I r h
  obtain ⟨a, bs, rfl, hs, q⟩ := h
  obtain ⟨its, rv, hl, _⟩ := I.list hs
  rw [Vals.ref1 r]
  have hb := rv.bls
  refine call_all_walk (iter_any hl.isList fun s₂ e2 st hne => ?_)
  subst e2
  refine ⟨_, _, _, _, _, _, _, rfl, Walks.list (A := X.A.in1) (I.ok.hd hc) _ a hne its.toArray, st, truth_bools hb, fun h' tk hk => ?_⟩
  refine ⟨.bl _, H, I.kept fun b o eo => hk b o (fun hmem => ?_) (Heap.get?_push_of_some _ eo), ?_, q⟩
  · rcases List.mem_cons.mp hmem with e1 | hmem
    · exact absurd (e1 ▸ Heap.lt_size eo) (Nat.lt_irrefl _)
    · cases hmem
  · show Value.bool _ = Value.bool _
    rw [← all_range, hb, List.size_toArray, List.length_map]
end

section
variable {X : Cx} {pins : List (Addr × Obj)} {σ : St} {H : Hp} {s : Shared}
end
section
variable {X : Cx}
end
end L2

namespace L2
open PySem PySem.Spec PyProof.Rows
noncomputable abbrev CellAt (h : Heap) (c : Addr) (v : Option Value) : Prop := h.IsCell c v
noncomputable def relS (scope sc : Scope) : Scope :=
  { scope with names := scope.names.map fun (n, k) => if (k == .free && sc.kind == .function && sc.names.lookup n == some .cell) then (n, .cell) else (n, k) }

noncomputable def cloFrom (cells : List (Str × Addr)) : List (Str × NameKind) → List (Str × Addr) → List (Str × Addr)
  | [], acc => acc
  | (n, k) :: r, acc => if k == .free then cloFrom cells r ((n, (cells.lookup n).getD 0) :: acc) else cloFrom cells r acc

theorem closure_loop (env : Env) (f : Str × NameKind → List (Str × Addr) → Sem (ForInStep (List (Str × Addr))))
    (hf : ∀ n k c, f (n, k) c = if k == .free then (do let a ← cellOf env n; pure (.yield ((n, a) :: c))) else pure (.yield c)) :
    ∀ (names : List (Str × NameKind)) (acc : List (Str × Addr)), (∀ y ∈ names, y.2 = .free → ∃ c, env.cells.lookup y.1 = some c) → forIn names acc f = pure (cloFrom env.cells names acc)
  | [], acc, _ => by rw [List.forIn_nil]; rfl
  | (n, k) :: r, acc, h => by
    rw [List.forIn_cons, hf]
    have ih := fun acc => closure_loop env f hf r acc fun y hy => h y (List.mem_cons_of_mem _ hy)
    unfold cloFrom
    by_cases hk : (k == NameKind.free) = true
    · rw [if_pos hk, if_pos hk]
      obtain ⟨c, hc⟩ := h (n, k) List.mem_cons_self (by simpa using hk)
      have e : cellOf env n = pure c := by unfold cellOf; rw [hc]
      rw [e]
      have e2 : (env.cells.lookup n).getD 0 = c := by rw [hc]; rfl
      rw [e2]
      exact ih _
    · rw [if_neg hk, if_neg hk]
      exact ih _
theorem closure_ok {scope : Scope} {env : Env} (h : ∀ y ∈ scope.names, y.2 = .free → ∃ c, env.cells.lookup y.1 = some c) : closureFor scope env = pure (cloFrom env.cells scope.names []) := by
  simp only [closureFor]
  rw [closure_loop env _ (fun n k c => rfl) scope.names [] h]
  rfl

theorem mem_lookup {α : Type} : ∀ {l : List (Str × α)} {n : Str} {c : α}, (n, c) ∈ l → ∃ c', l.lookup n = some c'
  | (k, v) :: r, n, c, h => by
    rw [List.lookup_cons]
    cases hb : n == k with
    | true => exact ⟨_, rfl⟩
    | false =>
      rcases List.mem_cons.mp h with e | h
      · cases e; simp at hb
      · exact mem_lookup h

theorem cloFrom_mem {cells : List (Str × Addr)} : ∀ {names : List (Str × NameKind)} {acc : List (Str × Addr)} {n : Str} {c : Addr}, (n, c) ∈ cloFrom cells names acc → (n, c) ∈ acc ∨ ((n, .free) ∈ names ∧ c = (cells.lookup n).getD 0)
  | [], _, _, _, h => .inl h
  | (m, k) :: r, acc, n, c, h => by
    unfold cloFrom at h
    split at h
    · rename_i hk
      have hk : k = .free := by simpa using hk
      rcases cloFrom_mem h with h | ⟨h1, h2⟩
      · rcases List.mem_cons.mp h with e | h
        · cases e; exact .inr ⟨hk ▸ List.mem_cons_self, rfl⟩
        · exact .inl h
      · exact .inr ⟨List.mem_cons_of_mem _ h1, h2⟩
    · rcases cloFrom_mem h with h | ⟨h1, h2⟩
      · exact .inl h
      · exact .inr ⟨List.mem_cons_of_mem _ h1, h2⟩
theorem cloFrom_acc {cells : List (Str × Addr)} : ∀ {names : List (Str × NameKind)} {acc : List (Str × Addr)} {p : Str × Addr}, p ∈ acc → p ∈ cloFrom cells names acc
  | [], _, _, h => h
  | (m, k) :: r, acc, p, h => by
    unfold cloFrom
    split
    · exact cloFrom_acc (List.mem_cons_of_mem _ h)
    · exact cloFrom_acc h
theorem cloFrom_has {cells : List (Str × Addr)} : ∀ {names : List (Str × NameKind)} {acc : List (Str × Addr)} {n : Str}, (n, .free) ∈ names → (n, (cells.lookup n).getD 0) ∈ cloFrom cells names acc
  | (m, k) :: r, acc, n, h => by
    unfold cloFrom
    rcases List.mem_cons.mp h with e | h
    · cases e
      exact cloFrom_acc List.mem_cons_self
    · split
      · exact cloFrom_has h
      · exact cloFrom_has h

theorem cells_mem : ∀ {names : List (Str × NameKind)} {h : Heap} {acc : List (Str × Addr)} {x : Str} {c : Addr}, (x, c) ∈ cellsFrom h.objs.size names acc →
    (x, c) ∈ acc ∨ ((x, .cell) ∈ names ∧ h.objs.size ≤ c ∧ CellAt (pushCells h names) c none)
  | [], _, _, _, _, h => .inl h
  | (n, k) :: r, h, acc, x, c, hm => by
    unfold cellsFrom at hm
    unfold pushCells
    split at hm
    · rename_i hk
      rw [if_pos hk]
      have hk : k = .cell := by simpa using hk
      rw [← Heap.size_push h { cls := .type "cell", data := .cell none }] at hm
      rcases cells_mem hm with hm | ⟨h1, h2, h3⟩
      · rcases List.mem_cons.mp hm with e | hm
        · cases e
          exact .inr ⟨hk ▸ List.mem_cons_self, Nat.le_refl _, _, pushCells_keeps r _ _ _ (Heap.get?_push_size _ rfl), rfl⟩
        · exact .inl hm
      · rw [Heap.size_push] at h2
        exact .inr ⟨List.mem_cons_of_mem _ h1, Nat.le_of_succ_le h2, h3⟩
    · rename_i hk
      rw [if_neg hk]
      rcases cells_mem hm with hm | ⟨h1, h2, h3⟩
      · exact .inl hm
      · exact .inr ⟨List.mem_cons_of_mem _ h1, h2, h3⟩
theorem cells_acc : ∀ {names : List (Str × NameKind)} {n : Nat} {acc : List (Str × Addr)} {p : Str × Addr}, p ∈ acc → p ∈ cellsFrom n names acc
  | [], _, _, _, h => h
  | (m, k) :: r, n, acc, p, h => by
    unfold cellsFrom
    split
    · exact cells_acc (List.mem_cons_of_mem _ h)
    · exact cells_acc h
theorem cells_has : ∀ {names : List (Str × NameKind)} {n : Nat} {acc : List (Str × Addr)} {x : Str}, (x, .cell) ∈ names → ∃ c, (x, c) ∈ cellsFrom n names acc
  | (m, k) :: r, n, acc, x, h => by
    unfold cellsFrom
    rcases List.mem_cons.mp h with e | h
    · cases e
      exact ⟨n, cells_acc List.mem_cons_self⟩
    · split
      · exact cells_has h
      · exact cells_has h
theorem cells_inj : ∀ {names : List (Str × NameKind)} {h : Heap} {acc : List (Str × Addr)} {x y : Str} {c : Addr}, (∀ p ∈ acc, p.2 < h.objs.size) → (∀ x y c, (x, c) ∈ acc → (y, c) ∈ acc → x = y) →
    (x, c) ∈ cellsFrom h.objs.size names acc → (y, c) ∈ cellsFrom h.objs.size names acc → x = y
  | [], _, _, _, _, _, _, hi, h1, h2 => hi _ _ _ h1 h2
  | (n, k) :: r, h, acc, x, y, c, hl, hi, h1, h2 => by
    unfold cellsFrom at h1 h2
    split at h1
    · rename_i hk
      rw [if_pos hk] at h2
      rw [← Heap.size_push h { cls := .type "cell", data := .cell none }] at h1 h2
      refine cells_inj (h := h.push _) (fun p hp => ?_) (fun x y c a b => ?_) h1 h2
      · rw [Heap.size_push]
        rcases List.mem_cons.mp hp with rfl | hp
        · exact Nat.lt_succ_self _
        · exact Nat.lt_succ_of_lt (hl p hp)
      · rcases List.mem_cons.mp a with e | a <;> rcases List.mem_cons.mp b with e' | b
        · cases e; cases e'; rfl
        · cases e; exact absurd (hl _ b) (Nat.lt_irrefl _)
        · cases e'; exact absurd (hl _ a) (Nat.lt_irrefl _)
        · exact hi _ _ _ a b
    · rename_i hk
      rw [if_neg hk] at h2
      exact cells_inj hl hi h1 h2

theorem newEnv_comp {M : Model} {A : Around} {E : Value → Shared → Prop} {s : Shared} {scope : Scope} {globals : Addr} {closure : List (Str × Addr)} {qual : Str} {func : Option Addr} {code : Value} {around : Env} {builtins : Addr} {Q : Env → Shared → Prop}
    (h : Q (newEnv scope s.heap.objs.size globals (cellsFrom (s.heap.objs.size + 1) scope.names closure) qual func code (some around) builtins)
      { s with heap := pushCells (s.heap.push { cls := .type "dict", data := .dict #[] }) scope.names }) :
    wpAny M A (newFunctionEnv scope globals closure [] qual func code (some around) builtins) Q E s := by
  simp only [newFunctionEnv, Option.isSome_some, if_true]
  refine wpAny_bind (wpAny_alloc ?_)
  refine wpAny_bind (wpAny_layCells _ (fun n k c => rfl) scope.names closure _ _ ?_)
  rw [show ({ s with heap := s.heap.push { cls := .type "dict", data := .dict #[] } } : Shared).heap.objs.size = s.heap.objs.size + 1 from Heap.size_push ..]
  rw [List.forIn_nil]
  exact wpAny_bind (wpAny_pure (wpAny_pure h))

theorem lookup_relS {sc : Scope} : ∀ {names : List (Str × NameKind)} {x : Str} {k : NameKind},
    (names.map fun (n, k) => if (k == NameKind.free && sc.kind == .function && sc.names.lookup n == some .cell) then (n, NameKind.cell) else (n, k)).lookup x = some k →
    ∃ k', names.lookup x = some k' ∧ (k = k' ∨ (k' = .free ∧ k = .cell))
  | [], _, _, h => by simp at h
  | (n, k₀) :: r, x, k, h => by
    have ih := @lookup_relS sc r x k
    have h' : List.lookup x ((if (k₀ == NameKind.free && sc.kind == .function && sc.names.lookup n == some .cell) = true then (n, NameKind.cell) else (n, k₀)) :: (r.map _)) = some k := h
    cases hx : x == n with
    | true =>
      simp only [List.lookup_cons, hx]
      by_cases hc : (k₀ == NameKind.free && sc.kind == .function && sc.names.lookup n == some .cell) = true
      · rw [if_pos hc] at h'
        simp only [List.lookup_cons, hx] at h'
        cases h'
        simp only [Bool.and_eq_true, beq_iff_eq] at hc
        exact ⟨k₀, rfl, .inr ⟨hc.1.1, rfl⟩⟩
      · rw [if_neg hc] at h'
        simp only [List.lookup_cons, hx] at h'
        cases h'
        exact ⟨_, rfl, .inl rfl⟩
    | false =>
      simp only [List.lookup_cons, hx]
      by_cases hc : (k₀ == NameKind.free && sc.kind == .function && sc.names.lookup n == some .cell) = true
      · rw [if_pos hc] at h'
        simp only [List.lookup_cons, hx] at h'
        exact ih h'
      · rw [if_neg hc] at h'
        simp only [List.lookup_cons, hx] at h'
        exact ih h'
structure BlkOk (N : List Str) (sc scope : Scope) (own : List (Str × Nat)) : Prop where
  kind : scope.kind = .function
  uniq : ∀ y ∈ scope.names, scope.names.lookup y.1 = some y.2
  ix : ∀ p ∈ own, N[p.2]? = some p.1
  free : ∀ y ∈ scope.names, y.2 = .free → sc.names.lookup y.1 = some .cell ∨ sc.names.lookup y.1 = some .free
  own : ∀ y ∈ scope.names, y.2 = .local ∨ y.2 = .cell → y.1 ∈ own.map (·.1) ∨ y.1 ∉ N
noncomputable def wipe (σ : St) : List Nat → St
  | [] => σ
  | v :: vs => (wipe σ vs).set v none
theorem wipe_length (σ : St) : ∀ vs : List Nat, (wipe σ vs).length = σ.length
  | [] => rfl
  | v :: vs => by unfold wipe; rw [List.length_set, wipe_length σ vs]
theorem wipe_some {σ : St} {i : Nat} {x : V} : ∀ {vs : List Nat}, (wipe σ vs)[i]? = some (some x) → σ[i]? = some (some x) ∧ i ∉ vs
  | [], h => ⟨h, by simp⟩
  | v :: vs, h => by
    unfold wipe at h
    by_cases hi : v = i
    · subst hi
      by_cases hv : v < (wipe σ vs).length
      · rw [List.getElem?_set_self hv] at h; cases h
      · rw [List.getElem?_eq_none (by simpa using hv)] at h; cases h
    · rw [List.getElem?_set_ne hi] at h
      obtain ⟨h1, h2⟩ := wipe_some h
      exact ⟨h1, by simp only [List.mem_cons, not_or]; exact ⟨fun e => hi e.symm, h2⟩⟩

noncomputable abbrev Cx.blk (X : Cx) (s : Shared) (H : Hp) (scope : Scope) (cenv : Env) (fp : List Addr) : Cx := { X with s_0 := s, H_0 := H, env := cenv, outer := X.stack, ex := fp, fn := fun x => scope.names.lookup x == some .cell, pn := [], xe := fun _ _ => False }
section
variable {X : Cx} {pins : List (Addr × Obj)} {σ : St} {H : Hp} {s : Shared}
theorem block_start {scope : Scope} {own : List (Str × Nat)} {fp : List Addr} (I : Inv X pins σ H s) (ok : BlkOk X.N X.env.scope scope own) (hN : X.N.Nodup) (hfp : ∀ b ∈ fp, FpOk X pins H b ∧ b < s.heap.objs.size) :
    Inv (X.blk s H scope (compEnvC scope (cellsFrom (s.heap.objs.size + 1) scope.names (cloFrom X.env.cells scope.names [])) s.heap.objs.size X.env) fp) [] (wipe σ (own.map (·.2))) H { s with heap := pushCells (s.heap.push { cls := .type "dict", data := .dict #[] }) scope.names } := by
  have hfree : ∀ y ∈ scope.names, y.2 = .free → ∃ c, X.env.cells.lookup y.1 = some c := fun y hy e => by
    rcases ok.free y hy e with k | k
    · exact I.ok.has _ (.inl k)
    · exact I.ok.has _ (.inr k)
  generalize hcenv : compEnvC scope (cellsFrom (s.heap.objs.size + 1) scope.names (cloFrom X.env.cells scope.names [])) s.heap.objs.size X.env = cenv
  have kp : ∀ b o, s.heap.get? b = some o → (pushCells (s.heap.push { cls := .type "dict", data := .dict #[] }) scope.names).get? b = some o := fun b o e => pushCells_keeps _ _ _ _ (Heap.get?_push_of_some _ e)
  have hL : cenv.locals = s.heap.objs.size := by rw [← hcenv]; rfl
  have hcl : cenv.cells = cellsFrom (s.heap.objs.size + 1) scope.names (cloFrom X.env.cells scope.names []) := by rw [← hcenv]; rfl
  have hsc : cenv.scope = relS scope X.env.scope := by rw [← hcenv]; rfl
  rw [← Heap.size_push s.heap { cls := .type "dict", data := .dict #[] }] at hcl
  have cm : ∀ {y c}, (y, c) ∈ cloFrom X.env.cells scope.names [] → X.env.cells.lookup y = some c ∧ c < s.heap.objs.size := fun {y c} hm => by
    rcases cloFrom_mem hm with hm | ⟨h1, rfl⟩
    · cases hm
    · obtain ⟨c, hc⟩ := hfree _ h1 rfl
      rw [hc]
      obtain ⟨w, z⟩ := I.cell _ _ hc
      exact ⟨rfl, z.lt⟩
  have mem : ∀ {y c}, cenv.cells.lookup y = some c → (X.env.cells.lookup y = some c ∧ c < s.heap.objs.size) ∨ (s.heap.objs.size + 1 ≤ c ∧ CellAt (pushCells (s.heap.push { cls := .type "dict", data := .dict #[] }) scope.names) c none) := fun {y c} e => by
    rw [hcl] at e
    rcases cells_mem (PySem.mem_of_lookup e) with hm | ⟨_, h2, h3⟩
    · exact .inl (cm hm)
    · rw [Heap.size_push] at h2; exact .inr ⟨h2, h3⟩
  have look : ∀ {y}, scope.names.lookup y = some .free → ∃ c, cenv.cells.lookup y = some c ∧ X.env.cells.lookup y = some c := fun {y} hl => by
    have hy : (y, NameKind.free) ∈ scope.names := PySem.mem_of_lookup hl
    obtain ⟨c', e'⟩ := mem_lookup (cells_acc (names := scope.names) (n := (s.heap.push { cls := .type "dict", data := .dict #[] }).objs.size) (cloFrom_has (cells := X.env.cells) (acc := []) hy))
    rw [← hcl] at e'
    refine ⟨c', e', ?_⟩
    rw [hcl] at e'
    rcases cells_mem (PySem.mem_of_lookup e') with hm | ⟨h1, _, _⟩
    · exact (cm hm).1
    · have := ok.uniq _ h1
      rw [hl] at this; cases this
  have okB : (X.blk s H scope cenv fp).Ok := by
    refine ⟨I.ok.mod, by show cenv.scope.kind = _; rw [hsc]; exact ok.kind, by show cenv.globals = _; rw [← hcenv]; exact I.ok.glob, by show cenv.builtins = _; rw [← hcenv]; exact I.ok.blt, by show s.heap.objs.size ≤ cenv.locals; rw [hL]; exact Nat.le_refl _,
      fun y z c e1 e2 => ?_, fun y hy => ?_, fun y c z e => ?_, I.ok.hd, I.ok.frames, .inl rfl, fun b hb => ⟨?_, fun y c e z => ?_⟩, I.bs, Nat.le_trans I.ok.bsz I.sz, fun b o e hb => ?_, fun b hb z => ?_, I.stack, I.stkFree⟩
    · have e1 : cenv.cells.lookup y = some c := e1
      have e2 : cenv.cells.lookup z = some c := e2
      rw [hcl] at e1 e2
      refine cells_inj (fun p hp => ?_) (fun y z c a b => I.ok.inj y z c (cm a).1 (cm b).1) (PySem.mem_of_lookup e1) (PySem.mem_of_lookup e2)
      rw [Heap.size_push]
      exact Nat.lt_succ_of_lt (cm (y := p.1) (c := p.2) hp).2
    · show ∃ c, cenv.cells.lookup y = some c
      have key : ∀ k, cenv.kindOf y = some k → (k = .cell ∨ k = .free) → ∃ c, cenv.cells.lookup y = some c := fun k hk hk' => by
        unfold Env.kindOf at hk
        rw [hsc] at hk
        obtain ⟨k', e, r⟩ := lookup_relS hk
        have : k' = .cell ∨ k' = .free := by
          rcases r with rfl | ⟨rfl, _⟩
          · exact hk'
          · exact .inr rfl
        rcases this with rfl | rfl
        · obtain ⟨c, hm⟩ := cells_has (n := (s.heap.push { cls := .type "dict", data := .dict #[] }).objs.size) (acc := cloFrom X.env.cells scope.names []) (PySem.mem_of_lookup e)
          obtain ⟨c', e'⟩ := mem_lookup hm
          exact ⟨c', by rw [hcl]; exact e'⟩
        · obtain ⟨c, h1, _⟩ := look e
          exact ⟨c, h1⟩
      rcases hy with hy | hy
      · exact key _ hy (.inl rfl)
      · exact key _ hy (.inr rfl)
    · have z : (scope.names.lookup y == some NameKind.cell) = true := z
      have z : scope.names.lookup y = some .cell := by simpa using z
      have e : cenv.cells.lookup y = some c := e
      rw [hcl] at e
      rcases cells_mem (PySem.mem_of_lookup e) with hm | ⟨_, h2, _⟩
      · rcases cloFrom_mem hm with hm | ⟨h1, _⟩
        · cases hm
        · have q := ok.uniq _ h1
          rw [z] at q; cases q
      · rw [Heap.size_push] at h2
        exact Nat.le_of_succ_le h2
    · show b ≠ cenv.locals
      rw [hL]; exact Nat.ne_of_lt (hfp b hb).2
    · have e : cenv.cells.lookup y = some c := e
      rcases mem e with ⟨h1, _⟩ | ⟨h1, _⟩
      · exact (hfp b hb).1.2.2.2.2.1 y c h1 z
      · have h2 : s.heap.objs.size + 1 ≤ b := by rw [← z]; exact h1
        exact absurd (Nat.lt_of_lt_of_le (hfp b hb).2 (Nat.le_of_succ_le h2)) (Nat.lt_irrefl _)
    · rcases (hfp b hb).1.2.2.2.1 with z | z
      · exact I.ok.noex b o e z
      · exact absurd (Nat.lt_of_lt_of_le (Heap.lt_size e) (Nat.le_trans I.ok.bsz z)) (Nat.lt_irrefl _)
    · rcases List.mem_cons.mp (I.stkSub b z) with z | z
      · exact (hfp b hb).1.2.1 z
      · exact (hfp b hb).1.2.2.1 z
  refine ⟨okB, rfl, I.bare, Un.kept kp, ⟨fun _ => none, ?_, fun i y av e1 e2 e3 => ?_⟩, fun y c e => ?_, ?_, fun y c e => ?_, fun p hp => ?_, I.hok.kept kp, by rw [wipe_length]; exact I.len⟩
  · show Heap.Ns _ cenv.locals _
    rw [hL]
    exact Heap.Ns.keeps (Heap.Ns.new ..) fun b o e => pushCells_keeps _ _ _ _ e
  · obtain ⟨e2, hne⟩ := wipe_some e2
    have hfr : scope.names.lookup y = some .free ∧ (cenv.kindOf y = some .cell ∨ cenv.kindOf y = some .free) := by
      have key : ∀ k, cenv.scope.names.lookup y = some k → k = .local ∨ k = .cell ∨ k = .free → scope.names.lookup y = some .free ∧ (cenv.kindOf y = some .cell ∨ cenv.kindOf y = some .free) := fun k hk hk' => by
        have hk0 := hk
        rw [hsc] at hk
        obtain ⟨k', e, r⟩ := lookup_relS hk
        have no : ¬ (k' = .local ∨ k' = .cell) := fun hh => by
          rcases ok.own _ (PySem.mem_of_lookup e) hh with e' | e'
          · obtain ⟨p, hp, hpy⟩ := List.mem_map.mp e'
            have e3 := ok.ix p hp
            have : p.1 = y := hpy
            rw [this] at e3
            exact hne (List.mem_map.mpr ⟨p, hp, nodup_ix hN e3 e1⟩)
          · exact e' (List.mem_of_getElem? e1)
        rcases r with rfl | ⟨rfl, rfl⟩
        · rcases hk' with rfl | rfl | rfl
          · exact absurd (.inl rfl) no
          · exact absurd (.inr rfl) no
          · exact ⟨e, .inr hk0⟩
        · exact ⟨e, .inl hk0⟩
      have e3 : Vis cenv.scope y := e3
      rcases e3 with e3 | e3 | e3
      · exact key _ e3 (.inl rfl)
      · exact key _ e3 (.inr (.inl rfl))
      · exact key _ e3 (.inr (.inr rfl))
    obtain ⟨m, hn, hl⟩ := I.loc
    have hvis : Vis X.env.scope y := (ok.free _ (PySem.mem_of_lookup hfr.1) rfl).elim (fun k => .inr (.inl k)) (fun k => .inr (.inr k))
    obtain ⟨w, r, q⟩ := hl i y av e1 e2 hvis
    refine ⟨w, r, .inr ⟨hfr.2, ?_⟩⟩
    obtain ⟨c, h1, h2⟩ := look hfr.1
    rcases q with ⟨k, _⟩ | ⟨_, c', e', z⟩
    · have k : X.env.scope.names.lookup y = some .local := k
      rcases ok.free _ (PySem.mem_of_lookup hfr.1) rfl with k' | k' <;> rw [show X.env.scope.names.lookup y = _ from k'] at k <;> cases k
    · rw [h2] at e'; cases e'
      exact ⟨c, h1, z.keeps kp⟩
  · have e : cenv.cells.lookup y = some c := e
    rcases mem e with ⟨h1, _⟩ | ⟨_, z⟩
    · obtain ⟨w, z⟩ := I.cell y c h1
      exact ⟨w, z.keeps kp⟩
    · exact ⟨_, z⟩
  · show H cenv.locals = none
    rw [hL]; exact I.hok.fresh (Nat.le_refl _)
  · have e : cenv.cells.lookup y = some c := e
    rcases mem e with ⟨h1, _⟩ | ⟨h1, _⟩
    · exact I.freeC y c h1
    · exact I.hok.fresh (Nat.le_of_succ_le h1)
  · exact absurd (show p ∈ ([] : List (Addr × Obj)) ++ [] from hp) (by simp)

theorem app_ok {E : Value → Shared → Prop} {D : Addr} {xs : List V} {y : V} {v : Value} {Q : Value → Shared → Prop} (I : Inv X pins σ H s) (hD : H D = some (.lst xs)) (hz : xs.length < sizeLine) (r : RelV y v)
    (h : ∀ s', Inv X pins σ (upd H D (.lst (xs ++ [y]))) s' → Q .none s') : wpAny (model X.prog X.w) X.A (call (.builtin "list.append") [.ref D, v]) Q E s := by
  obtain ⟨hz', its, n, ri, e⟩ := I.hok D _ hD
  have hl := ri.length
  refine append_at (hsz := by rw [List.size_toArray]; omega) e fun h' sb ho' => ?_
  refine h { s with heap := h' } (I.write (t' := s.toks) (by rw [hD]; trivial) (.inl rfl) (fun b u hb q => (sb.2 b hb).trans q) ⟨_, ho'⟩ ⟨by rw [List.length_append]; exact hz, its ++ [v], n + 1, ri.append (.cons r .nil), ?_⟩)
  rw [ho']
  simp

noncomputable def PTs (X : Cx) (ifs : List Expr) (t : TT) : Prop :=
  ∀ (pins : List (Addr × Obj)) (s : Shared) (σ : St) (H : Hp) (Q : Bool → Hp → Prop), Inv X pins σ H s → t σ H Q →
    wpAny (model X.prog X.w) X.A (forIn ifs true fun c r => if r = true then do let ok ← isTrue c X.env (eval c X.env); pure (ForInStep.yield ok) else pure (ForInStep.yield r)) (TP X pins σ Q) X.xe s
noncomputable def tYes : TT := fun _ H Q => Q true H
theorem pts_nil : PTs X [] tYes := fun _ _ _ H _ I h => wpAny_tests_nil ⟨H, I, h⟩
end

theorem thnF {α : Type} {t : Sem α} {Q Q' : α → Shared → Prop} {M : Model} {A : Around} {E : Value → Shared → Prop} {s : Shared} (h : wpAny M A t Q (fun _ _ => False) s) (hQ : ∀ a s, Q a s → Q' a s) : wpAny M A t Q' E s := wpAny_mono h hQ fun _ _ z => False.elim z

theorem compLoop_any {prog : Program} {w : World} {A : Around} {R : Result → Shared → Prop} {s : Shared} {elt target iter : Expr} {ifs : List Expr} {scope : Scope} {pos : Pos} {it acc : Value} {env : Env} (I : Nat → Shared → Prop)
    (turn : ∀ n s, I n s → wpAny (model prog w) A (pyNext it) (fun r s₁ => match r with
      | none => R (.ok .next) s₁
      | some v => wpAny (model prog w) A (letOwnedTupleGo target it v) (fun _ s₁' => wpAny (model prog w) A (assign target env v) (fun _ s₂ =>
          wpAny (model prog w) A (forIn ifs true fun c r => if r = true then do let ok ← isTrue c env (eval c env); pure (ForInStep.yield ok) else pure (ForInStep.yield r)) (fun ok s₃ =>
            if ok = true then wpAny (model prog w) A (eval elt env) (fun x s₄ =>
              wpAny (model prog w) A (call (.builtin "list.append") [acc, x]) (fun _ s₅ => ∃ m, m < n ∧ I m s₅) (notedBy (model prog w) A env fun e s' => R (.error e) s') s₄) (notedBy (model prog w) A env fun e s' => R (.error e) s') s₃
            else ∃ m, m < n ∧ I m s₃) (notedBy (model prog w) A env fun e s' => R (.error e) s') s₂) (notedBy (model prog w) A env fun e s' => R (.error e) s') s₁') (notedBy (model prog w) A env fun e s' => R (.error e) s') s₁) (notedBy (model prog w) A env fun e s' => R (.error e) s') s)
    (n : Nat) (h : I n s) :
    codeAny (model prog w) A (.compLoop (.ListComp elt [⟨target, iter, ifs, 0⟩] scope pos) 0 it acc env) R s := by
  refine codeAny_loop rfl I (fun n s hI => ?_) n h
  show wpAny _ A ((compTurn (.ListComp elt [⟨target, iter, ifs, 0⟩] scope pos) 0 it acc env).onRaise (fun x => do noteFrame x env; theTreesLotGoes x)) _ _ s
  refine wpAny_noted ?_
  rw [compTurn_list]
  refine wpAny_bind (wpAny_standAt (wpAny_bind (wpAny_mono (turn n s hI) (fun r s₁ h₁ => ?_) fun _ _ h' => h')))
  cases r with
  | none => exact wpAny_pure h₁
  | some v =>
    refine wpAny_bind (wpAny_mono h₁ (fun _ s₁' h₁' => ?_) fun _ _ h' => h')
    refine wpAny_bind (wpAny_mono h₁' (fun _ s₂ h₂ => wpAny_bind (wpAny_mono h₂ (fun ok s₃ h₃ => ?_) fun _ _ h' => h')) fun _ _ h' => h')
    cases ok with
    | false => exact wpAny_pure ⟨rfl, h₃⟩
    | true =>
      exact wpAny_bind (wpAny_bind (wpAny_mono h₃ (fun x s₄ h₄ => wpAny_bind (wpAny_mono h₄ (fun _ s₅ h₅ => wpAny_pure (wpAny_pure ⟨rfl, h₅⟩)) fun _ _ h' => h')) fun _ _ h' => h'))

section
variable {X : Cx}
noncomputable def tLc (wi : TI) (g : TG) (tt : TT) (te : TE) (vs : List Nat) : TE := fun σ H Q => wi σ H fun J H1 => ∀ D, H1 D = none → ∃ W : Nat → Nat → Hp → Prop, (∃ m, W 0 m (upd H1 D (.lst []))) ∧ ∀ i m H, W i m H →
  (J.stop i H ∧ Q (.ref D) H) ∨ (J.go i H ∧ ∃ Nx : Hp → Prop, (∀ H', Nx H' → ∃ m', m' < m ∧ W (i + 1) m' H') ∧ ∀ x H', J.yld i H x H' → g x (wipe σ vs) H' fun σ2 H2 => wipe σ2 vs = wipe σ vs ∧ tt σ2 H2 fun b H3 =>
    if b = true then te σ2 H3 fun y H4 => ∃ acc, H4 D = some (.lst acc) ∧ acc.length < sizeLine ∧ Nx (upd H4 D (.lst (acc ++ [y]))) else Nx H3)
theorem lc_core {pins : List (Addr × Obj)} {s : Shared} {σ : St} {H : Hp} {Q : VK} {elt tg iter : Expr} {ifs : List Expr} {scope : Scope} {own : List (Str × Nat)} {pos pos' : Pos} {wi : TI} {g : TG} {tt : TT} {te : TE} {use : Option (Value → Sem Unit)} {Qf : Value → Shared → Prop}
    (hc : X.calm = true) (hN : X.N.Nodup) (I : Inv X pins σ H s) (hi : PI X tg iter wi) (ok : BlkOk X.N X.env.scope scope own)
    (hg : ∀ (s : Shared) (H : Hp) (C : Addr) (cl : List (Str × Addr)) (fp : List Addr), PG (X.blk s H scope (compEnvC scope cl C X.env) fp) tg g) (ht : ∀ (s : Shared) (H : Hp) (C : Addr) (cl : List (Str × Addr)) (fp : List Addr), PTs (X.blk s H scope (compEnvC scope cl C X.env) fp) ifs tt)
    (he : ∀ (s : Shared) (H : Hp) (C : Addr) (cl : List (Str × Addr)) (fp : List Addr), PE (X.blk s H scope (compEnvC scope cl C X.env) fp) elt te) (hs : ∀ x, foldedSetIterable iter X.env x = pure x)
    (h : tLc wi g tt te (own.map (·.2)) σ H Q)
    (hRR : ∀ D C s' m H', Inv X pins σ H' s' → Q (.ref D) H' → s'.heap.Ns C m → FpOk X pins H' C → compPost (model X.prog X.w) X.A X.xe use Qf (.ref D) C (.ok .next) s') :
    wpAny (model X.prog X.w) X.A (comprehension (.ListComp elt [⟨tg, iter, ifs, 0⟩] scope pos) scope X.env pos' (newList []) false (eval iter X.env) use) Qf X.xe s := by
  have hfree : ∀ y ∈ scope.names, y.2 = .free → ∃ c, X.env.cells.lookup y.1 = some c := fun y hy e => by
    rcases ok.free y hy e with k | k
    · exact I.ok.has _ (.inl k)
    · exact I.ok.has _ (.inr k)
  refine wpAny_comprehension_free (use := use) rfl hs (closure_ok hfree) ok.kind (fun y hy e => by rw [ok.uniq y hy, e])
    (thn (hi pins s σ H _ I h) fun xv s1 hx => thn hx fun itv s2 h2 => ?_)
  obtain ⟨it, fp, tn, J, H2, e, I2, T, st2, f2, q⟩ := h2
  subst e
  refine wpAny_newObj_type (newEnv_comp ?_) (by show 0 ≤ sizeLine; decide)
  generalize hD : s2.heap.objs.size = D
  have hDn : H2 D = none := I2.hok.fresh (Nat.le_of_eq hD)
  obtain ⟨W, ⟨m0, w0⟩, turn⟩ := q D hDn
  -- the new list
  generalize hs3 : ({ s2 with heap := s2.heap.push { cls := .type "list", data := .seq ([] : List Value).toArray } } : Shared) = s3
  have I3 : Inv X pins σ (upd H2 D (.lst [])) s3 := by
    rw [← hs3]
    refine I2.laid (t' := s2.toks) (fun b o e => Heap.get?_push_of_some _ e) (Nat.le_of_eq hD) ⟨Nat.zero_le _, [], 0, .nil, ?_⟩
    rw [← hD]
    exact Heap.get?_push_size _ rfl
  have h3 : s3.heap = s2.heap.push { cls := .type "list", data := .seq ([] : List Value).toArray } := by rw [← hs3]
  have sz : ∀ b ∈ fp, b < s2.heap.objs.size := fun b hb => by
    obtain ⟨o, e, _⟩ := T.obj _ _ st2 b hb
    exact Heap.lt_size e
  have f3 : ∀ b ∈ fp, FpOk X pins (upd H2 D (.lst [])) b ∧ b < s3.heap.objs.size := fun b hb => by
    have hlt := sz b hb
    refine ⟨⟨?_, (f2 b hb).2⟩, by rw [h3, Heap.size_push]; exact Nat.lt_succ_of_lt hlt⟩
    rw [upd_ne (by rw [← hD]; exact Nat.ne_of_lt hlt)]
    exact (f2 b hb).1
  have st3 : tn 0 s3.heap := T.keep _ _ _ st2 fun b _ o e => by rw [h3]; exact Heap.get?_push_of_some _ e
  have I4 := block_start I3 ok hN f3
  have pg := hg s3 (upd H2 D (.lst [])) s3.heap.objs.size (cellsFrom (s3.heap.objs.size + 1) scope.names (cloFrom X.env.cells scope.names [])) fp
  have pt := ht s3 (upd H2 D (.lst [])) s3.heap.objs.size (cellsFrom (s3.heap.objs.size + 1) scope.names (cloFrom X.env.cells scope.names [])) fp
  have pe := he s3 (upd H2 D (.lst [])) s3.heap.objs.size (cellsFrom (s3.heap.objs.size + 1) scope.names (cloFrom X.env.cells scope.names [])) fp
  show codeAny _ _ (.compStart (.ListComp elt [⟨tg, iter, ifs, 0⟩] scope pos) 0 (.ref it) (.ref D) (compEnvC scope (cellsFrom (s3.heap.objs.size + 1) scope.names (cloFrom X.env.cells scope.names [])) s3.heap.objs.size X.env)) (compPost (model X.prog X.w) X.A X.xe use Qf (.ref D) s3.heap.objs.size) { s3 with heap := pushCells (s3.heap.push { cls := .type "dict", data := .dict #[] }) scope.names }
  have nfp : ∀ b ∈ fp, (upd H2 D (.lst [])) b = none := fun b hb => (f3 b hb).1.1
  generalize hce : compEnvC scope (cellsFrom (s3.heap.objs.size + 1) scope.names (cloFrom X.env.cells scope.names [])) s3.heap.objs.size X.env = ce at I4 pg pt pe ⊢
  have cL : ce.locals = s3.heap.objs.size := by subst hce; rfl
  generalize hH3 : upd H2 D (.lst []) = H3 at I3 I4 pg pt pe w0 nfp f3
  generalize hs4 : ({ s3 with heap := pushCells (s3.heap.push { cls := .type "dict", data := .dict #[] }) scope.names } : Shared) = s4 at I4 ⊢
  have st4 : tn 0 s4.heap := T.keep _ _ _ st3 fun b _ o e => by rw [← hs4]; exact pushCells_keeps _ _ _ _ (Heap.get?_push_of_some _ e)
  have stat : ∀ {σ' : St} {H' : Hp} {s' : Shared}, Inv (X.blk s3 H3 scope ce fp) [] σ' H' s' → (∀ b ∈ fp, H' b = none) → ∀ b ∈ fp, FpOk (X.blk s3 H3 scope ce fp) [] H' b := fun {σ' H' s'} I' hn b hb =>
    ⟨hn b hb, (I'.ok.exf b hb).1, I'.ok.exfs b hb, .inl hb, fun x c e => (I'.ok.exf b hb).2 x c e, fun p hp => absurd (show p ∈ ([] : List (Addr × Obj)) ++ [] from hp) (by simp)⟩
  have loop : codeAny (model X.prog X.w) X.A (.compLoop (.ListComp elt [⟨tg, iter, ifs, 0⟩] scope pos) 0 (.ref it) (.ref D) ce) (compPost (model X.prog X.w) X.A X.xe use Qf (.ref D) s3.heap.objs.size) s4 := by
    refine compLoop_any (fun n s' => ∃ i H', Inv (X.blk s3 H3 scope ce fp) [] (wipe σ (own.map (·.2))) H' s' ∧ tn i s'.heap ∧ (∀ b ∈ fp, H' b = none) ∧ W i n H') ?_ m0 ⟨0, H3, I4, st4, nfp, w0⟩
    rintro n s5 ⟨i, H5, I5, st5, n5, w5⟩
    rcases turn i n H5 w5 with ⟨stop, qq⟩ | ⟨go, Nx, hNx, step⟩
    · have td := T.done (X.blk s3 H3 scope ce fp) rfl rfl rfl hc i [] s5 _ H5 (fun _ _ => False) I5 (stat I5 n5) st5 stop
      refine thnF td fun r s6 ⟨hr, I6⟩ => ?_
      subst hr
      -- back in the def's context
      have I7 : Inv X pins σ H5 s6 := I3.call' (ch := fp) I6.os I6.base I6.hok I6.bare fun b hb => ⟨(f3 b hb).1.2.2.2.1, (f3 b hb).1.2.1, (f3 b hb).1.2.2.2.2.1, (f3 b hb).1.2.2.2.2.2⟩
      have nC : H5 s3.heap.objs.size = none := by
        have z : H5 ce.locals = none := I6.free
        rw [cL] at z
        exact z
      obtain ⟨m, hn, _⟩ := I6.loc
      have hn : s6.heap.Ns ce.locals m := hn
      rw [cL] at hn
      exact hRR D s3.heap.objs.size s6 m H5 I7 qq hn (I3.fpOk (Nat.le_refl _) nC)
    · have ti := T.item (X.blk s3 H3 scope ce fp) rfl rfl rfl hc i [] s5 _ H5 (fun _ _ => False) I5 (stat I5 n5) st5 go
      refine thnF ti fun r s6 ⟨u, hr, h6⟩ => ?_
      subst hr
      refine thnF h6 fun _ s7 ⟨x, H7, I7, r7, y7, st7, n7⟩ => ?_
      have I7' := I7.pinned (stat I7 n7) (T.obj _ _ st7)
      refine thnF (pg _ s7 _ H7 x u _ I7' r7 (step x H7 y7)) fun _ s8 ⟨σ8, H8, I8, hw8, q8⟩ => ?_
      refine thnF (pt _ s8 σ8 H8 _ I8 q8) fun b s9 ⟨H9, I9, q9⟩ => ?_
      -- the turn's end
      have fin : ∀ {s' : Shared} {H' : Hp}, Inv (X.blk s3 H3 scope ce fp) ([] ++ pinsAt fp s7.heap) σ8 H' s' → Nx H' → ∃ m, m < n ∧ ∃ i H', Inv (X.blk s3 H3 scope ce fp) [] (wipe σ (own.map (·.2))) H' s' ∧ tn i s'.heap ∧ (∀ b ∈ fp, H' b = none) ∧ W i m H' := fun {s' H'} I' nx => by
        obtain ⟨m', hm, w'⟩ := hNx H' nx
        have pin' : ∀ b ∈ fp, ∀ o, s7.heap.get? b = some o → s'.heap.get? b = some o ∧ H' b = none := fun b hb o e =>
          let z := I'.pin (b, o) (List.mem_append_right _ (List.mem_append_right _ (mem_pinsAt hb e)))
          ⟨z.1, z.2.1⟩
        have hl : (wipe σ (own.map (·.2))).length = σ8.length := by rw [← hw8, wipe_length]
        refine ⟨m', hm, i + 1, H', (I'.unpinned (pins := [])).weak hl (fun j v e => ?_), T.keep _ _ _ st7 fun b hb o e => (pin' b hb o e).1, fun b hb => ?_, w'⟩
        · rw [← hw8] at e
          exact (wipe_some e).1
        · obtain ⟨o, e, _⟩ := T.obj _ _ st7 b hb
          exact (pin' b hb o e).2
      cases b with
      | false =>
        simp only [Bool.false_eq_true, if_false] at q9 ⊢
        exact fin I9 q9
      | true =>
        simp only [if_true] at q9 ⊢
        refine thnF (pe _ s9 σ8 H9 _ I9 q9) fun z s10 ⟨yv, H10, I10, r10, acc, hD10, hz10, nx⟩ => ?_
        exact app_ok (X := X.blk s3 H3 scope ce fp) I10 hD10 hz10 r10 fun s11 I11 => fin I11 nx
  exact codeAny_compStart_list loop (T.self X.A 0 _ _ _ st4 loop)
theorem pe_lc {elt tg iter : Expr} {ifs : List Expr} {scope : Scope} {own : List (Str × Nat)} {pos : Pos} {wi : TI} {g : TG} {tt : TT} {te : TE} (hc : X.calm = true) (hN : X.N.Nodup) (hi : PI X tg iter wi) (ok : BlkOk X.N X.env.scope scope own)
    (hg : ∀ (s : Shared) (H : Hp) (C : Addr) (cl : List (Str × Addr)) (fp : List Addr), PG (X.blk s H scope (compEnvC scope cl C X.env) fp) tg g) (ht : ∀ (s : Shared) (H : Hp) (C : Addr) (cl : List (Str × Addr)) (fp : List Addr), PTs (X.blk s H scope (compEnvC scope cl C X.env) fp) ifs tt)
    (he : ∀ (s : Shared) (H : Hp) (C : Addr) (cl : List (Str × Addr)) (fp : List Addr), PE (X.blk s H scope (compEnvC scope cl C X.env) fp) elt te) (hs : ∀ x, foldedSetIterable iter X.env x = pure x := by intro _; rfl) :
    PE X (.ListComp elt [⟨tg, iter, ifs, 0⟩] scope pos) (tLc wi g tt te (own.map (·.2))) := by
  intro pins s σ H Q I h
  rw [eval_ListComp]
  refine lc_core hc hN I hi ok hg ht he hs h fun D C s' m H' I' q hn f => ⟨m, hn, fun h'' sb => ?_⟩
  obtain ⟨f0, f1, f2, f3, f4, f5⟩ := f
  exact ⟨.ref D, H', I'.turned (t' := s'.toks) (fun b o hb e => (sb.2 b hb).trans e) f0 f1 f3 f4 f5, rfl, q⟩
end

theorem lc_range {lo : Int} {n : Nat} {g : TG} {tt : TT} {te : TE} {vs : List Nat} {σ : St} {H1 : Hp} {D : Addr} {Qd : Hp → Prop} (Pv : Nat → Hp → Prop) (h0 : Pv 0 (upd H1 D (.lst [])))
    (hs : ∀ i H, i < n → Pv i H → g (.int (lo + i)) (wipe σ vs) H fun σ2 H2 => wipe σ2 vs = wipe σ vs ∧ tt σ2 H2 fun b H3 =>
      if b = true then te σ2 H3 fun y H4 => ∃ acc, H4 D = some (.lst acc) ∧ acc.length < sizeLine ∧ Pv (i + 1) (upd H4 D (.lst (acc ++ [y]))) else Pv (i + 1) H3) (hd : ∀ H, Pv n H → Qd H) :
    ∃ W : Nat → Nat → Hp → Prop, (∃ m, W 0 m (upd H1 D (.lst []))) ∧ ∀ i m H, W i m H →
      ((Itr lo n).stop i H ∧ Qd H) ∨ ((Itr lo n).go i H ∧ ∃ Nx : Hp → Prop, (∀ H', Nx H' → ∃ m', m' < m ∧ W (i + 1) m' H') ∧ ∀ x H', (Itr lo n).yld i H x H' → g x (wipe σ vs) H' fun σ2 H2 => wipe σ2 vs = wipe σ vs ∧ tt σ2 H2 fun b H3 =>
        if b = true then te σ2 H3 fun y H4 => ∃ acc, H4 D = some (.lst acc) ∧ acc.length < sizeLine ∧ Nx (upd H4 D (.lst (acc ++ [y]))) else Nx H3) := by
  refine ⟨fun i m H => m = n - i ∧ i ≤ n ∧ Pv i H, ⟨n, by simp, Nat.zero_le _, h0⟩, ?_⟩
  rintro i m H ⟨rfl, hi, p⟩
  by_cases hlt : i < n
  · refine .inr ⟨hlt, Pv (i + 1), fun H' p' => ⟨n - (i + 1), by omega, rfl, hlt, p'⟩, fun x H' y => ?_⟩
    obtain ⟨e, y⟩ := y
    subst e y
    exact hs i _ hlt p
  · have e : i = n := by omega
    subst e
    exact .inl ⟨Nat.le_refl _, hd H p⟩
theorem lc_list {K : PySem.W.Frag} {a : Addr} {xs : List V} {g : TG} {tt : TT} {te : TE} {vs : List Nat} {σ : St} {H1 : Hp} {D : Addr} {Qd : Hp → Prop} (Pv : Nat → Hp → Prop) (h0 : Pv 0 (upd H1 D (.lst []))) (hl : ∀ i H, i ≤ xs.length → Pv i H → SqL K H a xs)
    (hs : ∀ i x H, xs[i]? = some x → Pv i H → g x (wipe σ vs) H fun σ2 H2 => wipe σ2 vs = wipe σ vs ∧ tt σ2 H2 fun b H3 =>
      if b = true then te σ2 H3 fun y H4 => ∃ acc, H4 D = some (.lst acc) ∧ acc.length < sizeLine ∧ Pv (i + 1) (upd H4 D (.lst (acc ++ [y]))) else Pv (i + 1) H3) (hd : ∀ H, Pv xs.length H → Qd H) :
    ∃ W : Nat → Nat → Hp → Prop, (∃ m, W 0 m (upd H1 D (.lst []))) ∧ ∀ i m H, W i m H →
      ((Itl K a).stop i H ∧ Qd H) ∨ ((Itl K a).go i H ∧ ∃ Nx : Hp → Prop, (∀ H', Nx H' → ∃ m', m' < m ∧ W (i + 1) m' H') ∧ ∀ x H', (Itl K a).yld i H x H' → g x (wipe σ vs) H' fun σ2 H2 => wipe σ2 vs = wipe σ vs ∧ tt σ2 H2 fun b H3 =>
        if b = true then te σ2 H3 fun y H4 => ∃ acc, H4 D = some (.lst acc) ∧ acc.length < sizeLine ∧ Nx (upd H4 D (.lst (acc ++ [y]))) else Nx H3) := by
  refine ⟨fun i m H => m = xs.length - i ∧ i ≤ xs.length ∧ Pv i H, ⟨xs.length, by simp, Nat.zero_le _, h0⟩, ?_⟩
  rintro i m H ⟨rfl, hi, p⟩
  have q := hl i H hi p
  by_cases hlt : i < xs.length
  · refine .inr ⟨⟨xs, xs[i], q, by simp [hlt]⟩, Pv (i + 1), fun H' p' => ⟨xs.length - (i + 1), by omega, rfl, hlt, p'⟩, fun x H' y => ?_⟩
    obtain ⟨e, y⟩ := y
    subst e
    exact hs i x _ (y xs q) p
  · have e : i = xs.length := by omega
    subst e
    exact .inl ⟨⟨xs, q, Nat.le_refl _⟩, hd H p⟩
noncomputable def blkC (N : List Str) (sc scope : Scope) (own : List (Str × Nat)) : Bool :=
  (match scope.kind with | .function => true | _ => false) && (scope.names.all fun y => decide (scope.names.lookup y.1 = some y.2)) && (own.all fun p => decide (N[p.2]? = some p.1)) &&
    (scope.names.all fun y => match y.2 with
      | .free => (match sc.names.lookup y.1 with | some .cell => true | some .free => true | _ => false)
      | .local => decide (y.1 ∈ own.map (·.1)) || decide (y.1 ∉ N)
      | .cell => decide (y.1 ∈ own.map (·.1)) || decide (y.1 ∉ N)
      | _ => true)
theorem blkOk_by {N : List Str} {sc scope : Scope} {own : List (Str × Nat)} (h : blkC N sc scope own = true) : BlkOk N sc scope own := by
  unfold blkC at h
  simp only [Bool.and_eq_true, List.all_eq_true, decide_eq_true_eq] at h
  obtain ⟨⟨⟨h1, h2⟩, h3⟩, h4⟩ := h
  refine ⟨?_, h2, h3, fun y hy e => ?_, fun y hy e => ?_⟩
  · split at h1
    · assumption
    · cases h1
  · have q := h4 y hy
    simp only [e] at q
    split at q <;> first | exact .inl (by assumption) | exact .inr (by assumption) | cases q
  · have q := h4 y hy
    rcases e with e | e <;> (simp only [e, Bool.or_eq_true, decide_eq_true_eq] at q; exact q)
end L2

namespace L2
open PySem PySem.Spec PyProof.Rows

section
variable {prog : Program} {w : World} {A : Around} {R : Result → Shared → Prop} {s : Shared} {elt t0 i0 t1 i1 : Expr} {ifs0 ifs1 : List Expr} {scope : Scope} {pos : Pos} {it acc : Value} {env : Env}
end

section
variable {X : Cx}
end
end L2

namespace L2
open PySem PySem.Spec PyProof.Rows

section
variable {κ : Type} [DecidableEq κ]
end


section
variable {P : Program} {w : World} {H : Hp} {h : Heap} {a : Addr}
end

section
variable {X : Cx} {pins : List (Addr × Obj)} {σ : St} {H : Hp} {s : Shared} {a : Addr} {y v : V} {u r : Value} {o : Option V} {A : Around} {E : Value → Shared → Prop}

end

section
variable {X : Cx} {pins : List (Addr × Obj)} {σ : St} {H : Hp} {s : Shared} {a : Addr} {kvs : List (Key × V)} {k : Key} {u : Value} {A : Around} {E : Value → Shared → Prop}
end


section
variable {X : Cx} {o i e value : Expr} {pos pos' tpos : Pos} {td ty tv : TE}
end


section
variable {X : Cx} {pos : Pos}
end

section
variable {X : Cx} {pins : List (Addr × Obj)} {σ : St} {H : Hp} {s : Shared} {a : Addr} {y d : V} {u r : Value} {o : Option V} {A : Around} {E : Value → Shared → Prop}
end

section
variable {X : Cx} {o e f : Expr} {apos cpos : Pos} {td ty tx : TE}
end

section
variable {X : Cx} {pins : List (Addr × Obj)} {σ : St} {H : Hp} {s : Shared} {a : Addr} {kvs : List (Key × V)} {A : Around} {E : Value → Shared → Prop}
end


section
variable {X : Cx} {pins : List (Addr × Obj)} {σ : St} {H : Hp} {s : Shared} {a : Addr} {y : V} {u : Value} {A : Around} {E : Value → Shared → Prop}
end
end L2

namespace L2
open PySem PySem.Spec PyProof.Rows

section
variable {prog : Program} {w : World} {A : Around} {E : Value → Shared → Prop}
end

section
variable {X : Cx}
end
end L2

namespace L2
open PySem PySem.Spec PyProof.Rows

section
variable {X : Cx} {pins : List (Addr × Obj)} {σ : St} {H : Hp} {s : Shared} {h' : Heap}
theorem Inv.turnedL {t' : Nat} {ch : List Addr} (I : Inv X pins σ H s) (k : ∀ b o, b ∉ ch → s.heap.get? b = some o → h'.get? b = some o) (hf : ∀ b ∈ ch, FpOk X pins H b) : Inv X pins σ H { s with heap := h', toks := t' } := by
  have nit : ∀ b u, H b = some u → b ∉ ch := fun b u e z => by
    have q := (hf b z).1
    rw [q] at e; cases e
  refine I.step (g' := s.gens) (d' := s.drawn) (ch := ch) (fun b hb => ⟨(hf b hb).2.2.2.1, (hf b hb).2.1, (hf b hb).2.2.2.2.1, (hf b hb).2.2.2.2.2⟩) (fun b o _ _ hc e _ => k b o hc e) (fun b o _ _ hc e _ => ⟨o.slots, k b o hc e⟩)
    (fun _ _ _ _ n => n) (fun b o hc e => ⟨o, k b o hc e⟩) (fun _ _ e => e) (fun _ _ _ e => e) (fun b ps e => ⟨#[], by rw [e]; simp⟩) (fun m hm => ?_) (fun b u e => ?_) I.bare
  · obtain ⟨o, es, ep, ho, r⟩ := hm
    exact ⟨o, es, ep, k _ o (fun z => (hf _ z).2.1 rfl) ho, r⟩
  · refine (I.hok b u e).stay (fun c v hc q => k c v ?_ q) (fun _ q => q) fun _ _ q => q
    rcases hc with z | z
    · rw [z]; exact nit b u e
    · exact nit c _ z
theorem Inv.turnedNew {t' : Nat} {ch : List Addr} {T : Addr} {ob : HO} (I : Inv X pins σ H s) (k : ∀ b o, b ∉ ch → s.heap.get? b = some o → h'.get? b = some o) (hf : ∀ b ∈ ch, FpOk X pins H b) (hT : s.heap.objs.size ≤ T)
    (new : ObjOk X.prog X.w (upd H T ob) h' T ob) : Inv X pins σ (upd H T ob) { s with heap := h', toks := t' } := by
  have hn : H T = none := I.hok.fresh hT
  have nit : ∀ b u, H b = some u → b ∉ ch := fun b u e z => by
    have q := (hf b z).1
    rw [q] at e; cases e
  refine I.step (g' := s.gens) (d' := s.drawn) (ch := ch) (fun b hb => ⟨(hf b hb).2.2.2.1, (hf b hb).2.1, (hf b hb).2.2.2.2.1, (hf b hb).2.2.2.2.2⟩) (fun b o _ _ hc e _ => k b o hc e) (fun b o _ _ hc e _ => ⟨o.slots, k b o hc e⟩)
    (fun b o _ e n => ?_) (fun b o hc e => ⟨o, k b o hc e⟩) (fun b xs e => ?_) (fun b o u e => ?_) (fun b ps e => ⟨#[], ?_⟩) (fun m hm => ?_) (fun b u e => ?_) I.bare
  · rw [upd_ne (Nat.ne_of_lt (Nat.lt_of_lt_of_le (Heap.lt_size e) hT))]; exact n
  · rw [upd_ne (ne_of_none e hn)]; exact e
  · rw [upd_ne (ne_of_none e hn)]; exact e
  · rw [upd_ne (ne_of_none e hn), e]; simp
  · obtain ⟨o, es, ep, ho, r⟩ := hm
    exact ⟨o, es, ep, k _ o (fun z => (hf _ z).2.1 rfl) ho, r⟩
  · by_cases hb : b = T
    · subst hb
      rw [upd_same] at e
      cases e
      exact new
    · rw [upd_ne hb] at e
      refine (I.hok b u e).stay (fun c v hc q => k c v ?_ q) (fun c q => by rw [upd_ne (ne_of_none q hn)]; exact q) fun c xs q => by rw [upd_ne (ne_of_none q hn)]; exact q
      rcases hc with z | z
      · rw [z]; exact nit b u e
      · exact nit c _ z

end
section
variable {X : Cx}
end

section
variable {X : Cx} {tg : Expr}
end
section
variable {X : Cx} {tg : Expr}
end

section
variable {prog : Program} {w : World} {A : Around} {E : Value → Shared → Prop} {s : Shared}
end

section
variable {X : Cx} {pins : List (Addr × Obj)} {σ : St} {H : Hp} {s : Shared} {d : Addr} {o : Obj}
end

section
variable {P : Program} {w : World} {K : PySem.W.Frag} {tg : Expr} {d : Addr} {o : Obj} {es : Array DictEntry} {ep : Nat}
end

section
variable {X : Cx} {tg e : Expr} {td : TE} {apos cpos : Pos}
end

theorem boot_zip5 : bootBuiltins "zip" = some (.type "zip") := by decide +kernel
noncomputable def Itz (K : PySem.W.Frag) (a b : Addr) : It :=
  ⟨fun i H => ∃ (xs ys : List V) (x y : V), SqL K H a xs ∧ SqL K H b ys ∧ xs[i]? = some x ∧ ys[i]? = some y,
    fun i H v H' => ∃ T x y, v = .ref T ∧ H T = none ∧ H' = upd H T (.tup [x, y]) ∧ (∀ xs, SqL K H a xs → xs[i]? = some x) ∧ ∀ ys, SqL K H b ys → ys[i]? = some y,
    fun i H => ∃ xs ys : List V, SqL K H a xs ∧ SqL K H b ys ∧ (xs.length ≤ i ∨ ys.length ≤ i)⟩
theorem turn_zip {P : Program} {w : World} {K : PySem.W.Frag} {elts : List Expr} {kk : Nat} {tpos : Pos} {a b z TI TO i1 i2 : Addr} (D : ZipApart z TI TO i1 i2 a b) :
    Turn P w K (.Tuple elts kk tpos) (Itz K a b) [z, TI, TO, i1, i2] z (fun i h => IsZip h z TI TO .none ∧ IsPair h TI (.ref i1) (.ref i2) ∧ (∃ x y, IsPair h TO x y) ∧ h.IsListIter i1 a i ∧ h.IsListIter i2 b i) where
  mem := by simp
  obj := fun i h st c hc => by
    obtain ⟨hz, hTI, ⟨x, y, hTO⟩, ⟨o1, e1, _, d1⟩, ⟨o2, e2, _, d2⟩⟩ := st
    have e' : c = z ∨ c = TI ∨ c = TO ∨ c = i1 ∨ c = i2 := by simpa using hc
    rcases e' with q | q | q | q | q
    · rw [q]; exact ⟨_, hz, fun v q => nomatch q⟩
    · rw [q]; exact ⟨_, hTI, fun v q => nomatch q⟩
    · rw [q]; exact ⟨_, hTO, fun v q => nomatch q⟩
    · rw [q]; exact ⟨o1, e1, fun v q => by rw [d1] at q; cases q⟩
    · rw [q]; exact ⟨o2, e2, fun v q => by rw [d2] at q; cases q⟩
  keep := fun i h h' st k => by
    obtain ⟨hz, hTI, ⟨x, y, hTO⟩, h1, h2⟩ := st
    exact ⟨k z (by simp) _ hz, k TI (by simp) _ hTI, ⟨x, y, k TO (by simp) _ hTO⟩, h1.at fun o q => k i1 (by simp) o q, h2.at fun o q => k i2 (by simp) o q⟩
  item := by
    intro X hP hw hK hc i pins s σ H E I hf st hg
    subst hP hw hK
    obtain ⟨hz, hTI, ⟨x0, y0, hTO⟩, h1, h2⟩ := st
    obtain ⟨xs, ys, x, y, hqx, hqy, hx, hy⟩ := hg
    obtain ⟨its, rv, p, _⟩ := I.list hqx
    obtain ⟨its2, rv2, p2, _⟩ := I.list hqy
    obtain ⟨u, hu, ru⟩ := rv.get hx
    obtain ⟨u2, hu2, ru2⟩ := rv2.get hy
    have hzl : z < s.heap.objs.size := Heap.lt_size hz
    refine wpAny_pyNext_zip_item D hz hTI hTO h1 h2 p.isList p2.isList (x := u) (y := u2) (by simpa using hu) (by simpa using hu2) fun h' z' TO' h1' h2' hT hsz hk => ?_
    refine ⟨_, rfl, wpAny_letOwnedTupleGo_zip (s := { s with heap := h' }) z' fun h'' z'' sb => ?_⟩
    have hT2 : h''.get? s.heap.objs.size = some { cls := .type "tuple", data := .seq #[u, u2] } := (sb.2 _ (Nat.ne_of_gt hzl)).trans hT
    have new : ObjOk X.prog X.w (upd H s.heap.objs.size (.tup [x, y])) h'' s.heap.objs.size (.tup [x, y]) :=
      ⟨by show 2 ≤ sizeLine; decide, [u, u2], .cons ru (.cons ru2 .nil), ⟨_, hT2, rfl, _, rfl⟩⟩
    have I1 : Inv X pins σ (upd H s.heap.objs.size (.tup [x, y])) { s with heap := h'' } :=
      I.turnedNew (t' := s.toks) (ch := [z, TI, TO, i1, i2]) (fun c o hb q => (sb.2 c (fun q' => hb (by simp [q']))).trans (hk c o (fun q' => hb (by simp [q'])) (fun q' => hb (by simp [q'])) (fun q' => hb (by simp [q'])) (fun q' => hb (by simp [q'])) q)) hf (Nat.le_refl _) new
    refine ⟨.ref s.heap.objs.size, _, I1, rfl, ⟨_, x, y, rfl, I.hok.fresh (Nat.le_refl _), rfl, fun l hl => by rw [I.list_inj hl hqx]; exact hx, fun l hl => by rw [I.list_inj hl hqy]; exact hy⟩, ⟨z'', ?_, ⟨u, u2, ?_⟩, ?_, ?_⟩, fun c hcm => ?_⟩
    · exact (sb.2 _ D.TIz).trans (hk _ _ D.TIz D.TITO D.TIi1 D.TIi2 hTI)
    · exact (sb.2 _ D.TOz).trans TO'
    · exact h1'.at fun o q => (sb.2 _ D.i1z).trans q
    · exact h2'.at fun o q => (sb.2 _ D.i2z).trans q
    · have hlt : c < s.heap.objs.size := by
        have e' : c = z ∨ c = TI ∨ c = TO ∨ c = i1 ∨ c = i2 := by simpa using hcm
        rcases e' with q | q | q | q | q
        · rw [q]; exact hzl
        · rw [q]; exact Heap.lt_size hTI
        · rw [q]; exact Heap.lt_size hTO
        · rw [q]; obtain ⟨_, e1, _⟩ := h1; exact Heap.lt_size e1
        · rw [q]; obtain ⟨_, e2, _⟩ := h2; exact Heap.lt_size e2
      rw [upd_ne (Nat.ne_of_lt hlt)]
      exact (hf c hcm).1
  done := by
    intro X hP hw hK hc i pins s σ H E I hf st hg
    subst hP hw hK
    obtain ⟨hz, hTI, ⟨x0, y0, hTO⟩, h1, h2⟩ := st
    obtain ⟨xs, ys, hqx, hqy, hend⟩ := hg
    obtain ⟨its, rv, p, _⟩ := I.list hqx
    obtain ⟨its2, rv2, p2, _⟩ := I.list hqy
    have l1 := rv.length
    have l2 := rv2.length
    have he : its.toArray[i]? = none ∨ its2.toArray[i]? = none := by
      rcases hend with q | q
      · exact .inl (by simp; omega)
      · exact .inr (by simp; omega)
    exact wpAny_pyNext_zip_end (I.ok.hd hc) D hz hTI hTO h1 h2 p.isList p2.isList he fun h' hk => ⟨rfl, I.turnedL (t' := s.toks) (ch := [z, TI, TO, i1, i2]) (fun c o hb q =>
      hk c o (fun q' => hb (by simp [q'])) (fun q' => hb (by simp [q'])) (fun q' => hb (by simp [q'])) (fun q' => hb (by simp [q'])) q) hf⟩
  self := fun A i s Q E st h => wpAny_pyIter_zip st.1 h
noncomputable def iZip (K : PySem.W.Frag) (ta : TA) : TI := fun σ H R => ta σ H fun vs H1 => ∃ a b xs ys, vs = [.ref a, .ref b] ∧ SqL K H1 a xs ∧ SqL K H1 b ys ∧ R (Itz K a b) H1
theorem pi_zip {X : Cx} {e e2 : Expr} {ta : TA} {p pos tpos : Pos} {elts : List Expr} {kk : Nat} (hg : Gl X "zip") (hm : X.mg "zip" = none) (ha : PA X [e, e2] ta)
    (hs : starEach [e, e2] X.env = (false, eval e X.env) :: starEach [e2] X.env := by rfl) (hpl : (backTo pos (starEach [e2] X.env)).any (·.1) = false := by rfl) :
    PI X (.Tuple elts kk tpos) (.Call (.Name "zip" p) [e, e2] [] pos) (iZip X.K ta) := by
  intro pins s σ H R I h
  refine Call_ (ld_blt I hg hm boot_zip5 (PyProof.Rows.callWith_type1 (thn (ha pos pins s σ H _ I h) fun us s1 ⟨vs, H1, I1, r1, q1⟩ => ?_) hs hpl))
  obtain ⟨a, b, xs, ys, ex, hqx, hqy, q⟩ := q1
  subst ex
  cases r1 with
  | cons r rr =>
    cases rr with
    | cons r' rr =>
      cases rr
      cases r
      cases r'
      obtain ⟨its, rv, p1, _⟩ := I1.list hqx
      obtain ⟨its2, rv2, p2, _⟩ := I1.list hqy
      have la : a < s1.heap.objs.size := p1.lt
      have lb : b < s1.heap.objs.size := p2.lt
      refine call_zip_2 p1.isList p2.isList fun h' hz hTI hTO h1 h2 hsz hk => wpAny_pyIter_zip hz ?_
      have I2 : Inv X pins σ H1 { s1 with heap := h' } := I1.kept (t' := s1.toks) hk
      refine ⟨s1.heap.objs.size + 4, [s1.heap.objs.size + 4, s1.heap.objs.size + 2, s1.heap.objs.size + 3, s1.heap.objs.size, s1.heap.objs.size + 1], _, _, H1, rfl, I2, turn_zip (PySem.W.ktu_apart s1.heap.objs.size a b la lb), ⟨hz, hTI, ⟨_, _, hTO⟩, h1, h2⟩, fun c hcm => ?_, q⟩
      have e' : c = s1.heap.objs.size + 4 ∨ c = s1.heap.objs.size + 2 ∨ c = s1.heap.objs.size + 3 ∨ c = s1.heap.objs.size ∨ c = s1.heap.objs.size + 1 := by simpa using hcm
      have hle : s1.heap.objs.size ≤ c := by
        rcases e' with z | z | z | z | z
        · rw [z]; exact Nat.le_add_right _ _
        · rw [z]; exact Nat.le_add_right _ _
        · rw [z]; exact Nat.le_add_right _ _
        · rw [z]; exact Nat.le_refl _
        · rw [z]; exact Nat.le_add_right _ _
      exact I1.fpOk hle (I1.hok.fresh hle)
end L2

section 
namespace Bits
open PySem PyProof.Rows

end Bits
end 

section 
namespace TL
open PySem PySem.Builtin PySem.Builtin.Str PySem.StrLaws

end TL
end 

namespace L2
open PySem PySem.Spec PyProof.Rows

section
variable {X : Cx} {pins : List (Addr × Obj)} {σ : St} {H : Hp} {s : Shared} {Q : VK}
end

section
variable {X : Cx}

end

section
variable {X : Cx} {o e : Expr} {to te : TE}
end
end L2

namespace L2
open PySem PySem.Spec PyProof.Rows

section
variable {X : Cx}
end

end L2

namespace Att
open PySem PySem.W PySem.Calls PyProof.Rows

section
variable {prog : Program} {w : World} {A : Around} {E : Value → Shared → Prop} {s : Shared} {K : Frag}

end
end Att

namespace L2
open PySem PySem.Spec PyProof.Rows

end L2

namespace L2
open PySem PySem.Spec PyProof.Rows

noncomputable abbrev KOf {K : PySem.W.Frag} {h : Heap} (_ : K.In h) : PySem.W.Frag := K

end L2


namespace L2
open PySem PySem.Spec PyProof.Rows

noncomputable def inClass (s : Stmt) (j : Nat) : Stmt := match s with
  | .ClassDef _ _ _ body _ _ _ _ _ _ _ => body.getD j (.Pass ⟨0, 0, 0, 0⟩)
  | _ => .Pass ⟨0, 0, 0, 0⟩
noncomputable def defArgs (s : Stmt) : Arguments := match s with
  | .FunctionDef _ a _ _ _ _ _ _ _ _ => a
  | _ => { posonlyargs := [], args := [], vararg := none, kwonlyargs := [], kw_defaults := [], kwarg := none, defaults := [] }
noncomputable def defBody (s : Stmt) : List Stmt := match s with
  | .FunctionDef _ _ b _ _ _ _ _ _ _ => b
  | _ => []
noncomputable def defScope (s : Stmt) : Scope := match s with
  | .FunctionDef _ _ _ _ _ _ sc _ _ _ => sc
  | _ => { kind := .function, names := [], isGenerator := false, isCoroutine := false }

noncomputable abbrev CX0 : CXT := fun _ _ _ _ _ _ => False
noncomputable abbrev E0 : XK := fun _ _ _ => False
theorem pass0 {X : Cx} : Passes CX0 X E0 := fun _ _ _ _ _ _ _ h => h.elim

structure Fun (K : PySem.W.Frag) (x qual : Str) (st : Stmt) (f : Addr) (fd : FuncData) : Prop where
  ex : ∃ (oc : Value) (od : Option Addr) (kV doc pm : Value) (an : Option Addr) (cdv ct : Value) (osl : Array (Option Value)),
    fd = PySem.W.fnOf x qual (defArgs st) (defBody st) (defScope st) .none kV doc pm an cdv ct ∧ K.lookup f = some ⟨oc, od, .func fd, osl⟩ ∧ PySem.W.codeIn K cdv qual = true
  kp : PySem.W.keepIn K (.ref f) = true
section
variable {P : Program} {w : World} {K : PySem.W.Frag} {mg : Str → Option Value} {base : Heap}
theorem Fun.ok {x qual : Str} {st : Stmt} {f : Addr} {fd : FuncData} {N ps : List Str} {k : Nat} {sp : Sp} (F : Fun K x qual st f fd) (S : FnScope N ps (defScope st)) (len : ∀ vs H Q E, sp vs H Q E → vs.length = ps.length)
    (hbody : ∀ (cdv : Value) (A : Around) (outer : List Env) (s : Shared) (H : Hp) (vs : List V) (Q : VK) (E : XK), Room k (A.deeper (envOfC qual (defScope st) s.heap.objs.size f cdv)) → sp vs H Q E →
      ∃ t, PSs (cxOf CX0 P w K mg base N qual (defScope st) f cdv A outer s H E).nox (defBody st) t ∧ t { nx := fun _ H' => Q .non H', rt := Q } (start N vs) H) : FnOk P w K mg base CX0 (k + 1) f fd ps sp := by
  obtain ⟨oc, od, kV, doc, pm, an, cdv, ct, osl, rfl, lk, hcd⟩ := F.ex
  refine fn_of lk hcd S len fun A outer s H vs Q E hr hsp => ?_
  obtain ⟨t, h, q⟩ := hbody cdv A outer s H vs Q E hr hsp
  exact ⟨t, h.nox, q⟩
theorem Fun.binds {x qual : Str} {st : Stmt} {f : Addr} {fd : FuncData} {ps : List Str} (F : Fun K x qual st f fd)
    (h : ∀ (kV doc pm : Value) (an : Option Addr) (cdv ct : Value) (us : List Value), us.length = ps.length → bindArgs (PySem.W.fnOf x qual (defArgs st) (defBody st) (defScope st) .none kV doc pm an cdv ct) ⟨us, []⟩ = pure (ps.zip us)) : Binds K fd ps [] := by
  obtain ⟨oc, od, kV, doc, pm, an, cdv, ct, osl, rfl, lk, hcd⟩ := F.ex
  exact .all (h kV doc pm an cdv ct)
theorem fun_mk {x qual : Str} {st : Stmt} {f : Addr} {oc : Value} {od an : Option Addr} {osl : Array (Option Value)} {kV doc pm cdv ct : Value} (l : K.lookup f = some ⟨oc, od, .func (PySem.W.fnOf x qual (defArgs st) (defBody st) (defScope st) .none kV doc pm an cdv ct), osl⟩)
    (c : PySem.W.codeIn K cdv qual = true) (k : PySem.W.keepIn K (.ref f) = true) : Fun K x qual st f (PySem.W.fnOf x qual (defArgs st) (defBody st) (defScope st) .none kV doc pm an cdv ct) := ⟨⟨oc, od, kV, doc, pm, an, cdv, ct, osl, rfl, l, c⟩, k⟩
end
theorem small1000 {n : Nat} (h : n ≤ 1000) : n < sizeLine := Nat.lt_of_le_of_lt h (by decide)

section
variable {X : Cx}
theorem pv (i : Nat) {x : Str} {pos : Pos} (hN : X.N[i]? = some x := by rfl) (hv : Vis X.env.scope x := by first | exact Or.inl rfl | exact Or.inr (Or.inl rfl) | exact Or.inr (Or.inr rfl)) (hd : (x == ("__debug__" : Str)) = false := by decide)
    (hcd : (x == ("__classdict__" : Str)) = false := by decide) : PE X (.Name x pos) (tVar i) := pe_var hN hv hd hcd
end

theorem ite2 {c A B : Prop} [Decidable c] (h1 : c → A) (h2 : ¬ c → B) : if c then A else B := by
  by_cases h : c
  · rw [if_pos h]
    exact h1 h
  · rw [if_neg h]
    exact h2 h
noncomputable def Same (H H' : Hp) : Prop := ∀ b o, H b = some o → H' b = some o
theorem Same.refl (H : Hp) : Same H H := fun _ _ h => h
theorem Same.trans {H H1 H2 : Hp} (a : Same H H1) (b : Same H1 H2) : Same H H2 := fun c o h => b c o (a c o h)
theorem Same.free {H H' : Hp} (e : Same H H') {l : Addr} (h : H' l = Option.none) : H l = Option.none := by
  cases q : H l with
  | none => rfl
  | some o =>
    rw [e l o q] at h
    cases h
theorem Same.seq {K : PySem.W.Frag} {H H' : Hp} {a : Addr} {xs : List V} (e : Same H H') (h : SqL K H a xs) : SqL K H' a xs := by
  rcases h with (h | ⟨o, h⟩) | h
  · exact .inl (.inl (e _ _ h))
  · exact .inl (.inr ⟨o, e _ _ h⟩)
  · exact .inr h

section
variable {κ : Type} [DecidableEq κ]
theorem nd_snoc : ∀ {l : List κ} {k : κ}, l.Nodup → ¬ k ∈ l → (l ++ [k]).Nodup
  | [], k, _, _ => by simp
  | a :: r, k, h, hk => by
    obtain ⟨h1, h2⟩ := List.nodup_cons.mp h
    show (a :: (r ++ [k])).Nodup
    refine List.nodup_cons.mpr ⟨fun m => ?_, nd_snoc h2 fun m => hk (List.mem_cons.mpr (Or.inr m))⟩
    rcases List.mem_append.mp m with q | q
    · exact h1 q
    · exact hk (List.mem_cons.mpr (Or.inl (List.mem_singleton.mp q).symm))
end
theorem nd_ix {α : Type} {l : List α} (hN : l.Nodup) {i j : Nat} {x : α} (a : l[i]? = some x) (b : l[j]? = some x) : i = j := by
  obtain ⟨h1, e1⟩ := List.getElem?_eq_some_iff.mp a
  obtain ⟨h2, e2⟩ := List.getElem?_eq_some_iff.mp b
  exact (List.getElem_inj hN).mp (e1.trans e2.symm)
theorem Same.made {H H1 : Hp} {x dx C : Addr} (nx : H x = Option.none) (nd : H dx = Option.none) (k : ∀ b o, (upd (upd H dx (.own x)) x (.ins C dx [])) b = some o → b ≠ x → H1 b = some o) : Same H H1 := fun b o e =>
  k b o (by rw [upd_ne (ne_of_none e nx), upd_ne (ne_of_none e nd)]; exact e) (ne_of_none e nx)
end L2

end
section
section
set_option Elab.async false
set_option linter.all false
set_option maxRecDepth 100000
set_option maxHeartbeats 2000000
namespace L2
open PySem PySem.Spec PyProof.Rows
open PySem.W (WData Codec OpenSpec Well WellAll ReadsW ReadsAllW)
mutual
inductive Dw (K : PySem.W.Frag) (H : Hp) : V → WData → Prop
  | non : Dw K H .non .none
  | bl (b : Bool) : Dw K H (.bl b) (.bool b)
  | int (i : Int) : Dw K H (.int i) (.int i)
  | str (x : Str) : Dw K H (.str x) (.str x)
  | byt (b : Array UInt8) : Dw K H (.byt b) (.bytes b.toList)
  | lst {a : Addr} {xs : List V} {ds : List WData} : SqL K H a xs → DwAll K H xs ds → Dw K H (.ref a) (.list ds)
  | tup {a : Addr} {xs : List V} {ds : List WData} : SqT K H a xs → DwAll K H xs ds → Dw K H (.ref a) (.tuple ds)
inductive DwAll (K : PySem.W.Frag) (H : Hp) : List V → List WData → Prop
  | nil : DwAll K H [] []
  | cons {v : V} {vs : List V} {d : WData} {ds : List WData} : Dw K H v d → DwAll K H vs ds → DwAll K H (v :: vs) (d :: ds)
end
theorem dw_ints {K : PySem.W.Frag} {H : Hp} : ∀ ns : List Int, DwAll K H (ns.map V.int) (ns.map WData.int)
  | [] => .nil
  | n :: r => .cons (.int n) (dw_ints r)
theorem ints_dw {K : PySem.W.Frag} {H : Hp} : ∀ (ns : List Int) (xs : List V), DwAll K H xs (ns.map WData.int) → xs = ns.map V.int
  | [], xs, h => by
    cases h
    rfl
  | n :: r, xs, h => by
    cases h with
    | cons h1 h2 =>
      cases h1
      rw [ints_dw r _ h2] <;> rfl
section
variable {P : Program} {w : World} {K : PySem.W.Frag} {H : Hp} {h : Heap} {R : PySem.W.WRecords} {cl : Str → Option Addr}
theorem sqL_at {a : Addr} {xs : List V} (hok : HOk P w H h) (KX : K.In h) (q : SqL K H a xs) : ∃ (its : List Value) (o : Obj) (n : Nat), Vals xs its ∧ h.get? a = some o ∧ o.cls = .type "list" ∧ o.data = .seq its.toArray n := by
  rcases q with q | ⟨o, its, n, e, hc, _, hd, _, hv⟩
  · obtain ⟨_, its, n, hv, e⟩ := (show ObjOk P w H h a (.lst xs) from q.ok hok)
    exact ⟨its, _, n, hv, e, rfl, rfl⟩
  · exact ⟨its.toList, o, n, hv, KX _ _ e, hc, by simp [hd]⟩
theorem sqT_at {a : Addr} {xs : List V} (hok : HOk P w H h) (KX : K.In h) (q : SqT K H a xs) : ∃ (its : List Value) (o : Obj) (n : Nat), Vals xs its ∧ h.get? a = some o ∧ o.cls = .type "tuple" ∧ o.data = .seq its.toArray n := by
  rcases q with q | ⟨o, its, n, e, hc, hd, _, hv⟩
  · obtain ⟨_, its, hv, o, e, hc, n, hd⟩ := (show ObjOk P w H h a (.tup xs) from q.ok hok)
    exact ⟨its, o, n, hv, e, hc, hd⟩
  · exact ⟨its.toList, o, n, hv, KX _ _ e, hc, by simp [hd]⟩
mutual
theorem Dw.reads (hok : HOk P w H h) (KX : K.In h) : ∀ (d : WData) (v : V) (u : Value), Dw K H v d → RelV v u → ∃ as, ReadsW R cl h u d as
  | .none, _, _, x, r => by
    cases x
    cases r
    exact ⟨_, ReadsW.none⟩
  | .bool b, _, _, x, r => by
    cases x
    cases r
    exact ⟨_, ReadsW.bool b⟩
  | .int i, _, _, x, r => by
    cases x
    obtain ⟨t, rfl⟩ := r
    exact ⟨_, ReadsW.int i t⟩
  | .str s, _, _, x, r => by
    cases x
    obtain ⟨t, rfl⟩ := r
    exact ⟨_, ReadsW.str s t⟩
  | .bytes b, _, _, x, r => by
    cases x
    obtain ⟨t, rfl⟩ := r
    exact ⟨_, ReadsW.bytes _ t⟩
  | .list ds, _, _, x, r => by
    cases x with
    | lst hs ha =>
      cases r
      obtain ⟨its, o, n, rv, ho, hc, hd⟩ := sqL_at hok KX hs
      obtain ⟨as, hr⟩ := Dw.readsAll hok KX ds _ its ha rv
      exact ⟨_, ReadsW.list ho hc hd hr⟩
  | .tuple ds, _, _, x, r => by
    cases x with
    | tup hs ha =>
      cases r
      obtain ⟨its, o, n, rv, ho, hc, hd⟩ := sqT_at hok KX hs
      obtain ⟨as, hr⟩ := Dw.readsAll hok KX ds _ its ha rv
      exact ⟨_, ReadsW.tuple ho hc hd hr⟩
  | .float _, _, _, x, _ => by cases x
  | .dict _, _, _, x, _ => by cases x
  | .bytearray _, _, _, x, _ => by cases x
  | .set _, _, _, x, _ => by cases x
  | .frozenset _, _, _, x, _ => by cases x
  | .obj _ _, _, _, x, _ => by cases x
theorem Dw.readsAll (hok : HOk P w H h) (KX : K.In h) : ∀ (ds : List WData) (vs : List V) (us : List Value), DwAll K H vs ds → Vals vs us → ∃ as, ReadsAllW R cl h us ds as
  | [], _, _, x, r => by
    cases x
    cases r
    exact ⟨_, ReadsAllW.nil⟩
  | d :: ds, _, _, x, r => by
    cases x with
    | cons h1 h2 =>
      cases r with
      | cons r1 r2 =>
        obtain ⟨as, q1⟩ := Dw.reads hok KX d _ _ h1 r1
        obtain ⟨bs, q2⟩ := Dw.readsAll hok KX ds _ _ h2 r2
        exact ⟨_, ReadsAllW.cons q1 q2⟩
end
end
mutual
noncomputable def plW : WData → Bool
  | .none => true
  | .bool _ => true
  | .int _ => true
  | .str _ => true
  | .bytes _ => true
  | .list xs => plWs xs
  | .tuple xs => plWs xs
  | _ => false
noncomputable def plWs : List WData → Bool
  | [] => true
  | x :: r => plW x && plWs r
end
theorem plWs_map {α : Type} {f : α → WData} (h : ∀ a, plW (f a) = true) : ∀ l : List α, plWs (l.map f) = true
  | [] => rfl
  | x :: r => by
    show (plW (f x) && plWs (r.map f)) = true
    rw [h x, plWs_map h r] <;> rfl
theorem pl_enc : ∀ (c : Codec) (a : c.denote), plW (c.enc a) = true
  | .unit, _ => rfl
  | .bool, _ => rfl
  | .int _ _, _ => rfl
  | .nat _ _, _ => rfl
  | .u8, _ => rfl
  | .bytes _ _, _ => rfl
  | .text _ _ _ _, _ => rfl
  | .list _ _ c, a => plWs_map (fun x => pl_enc c x) a
  | .pair c d, a => by
    show (plW (c.enc a.1) && (plW (d.enc a.2) && true)) = true
    rw [pl_enc c a.1, pl_enc d a.2] <;> rfl
  | .triple c d e, a => by
    show (plW (c.enc a.1) && (plW (d.enc a.2.1) && (plW (e.enc a.2.2) && true))) = true
    rw [pl_enc c a.1, pl_enc d a.2.1, pl_enc e a.2.2] <;> rfl
  | .option c, none => rfl
  | .option c, some x => pl_enc c x
theorem pl_encAll : ∀ (cs : List Codec) (a : Codec.denoteAll cs), plWs (Codec.encAll cs a) = true
  | [], _ => rfl
  | c :: cs, a => by
    show (plW (c.enc a.1) && plWs (Codec.encAll cs a.2)) = true
    rw [pl_enc c a.1, pl_encAll cs a.2] <;> rfl
theorem weight_mem : ∀ {xs : List WData} {d : WData}, d ∈ xs → d.weight ≤ WData.weightAll xs
  | [], d, h => absurd h (by simp)
  | x :: r, d, h => by
    show d.weight ≤ x.weight + 1 + WData.weightAll r
    rcases List.mem_cons.mp h with e | m
    · rw [e]
      omega
    · have z := weight_mem m
      omega
noncomputable def toV : Value → V
  | .none => .non
  | .bool b => .bl b
  | .int i _ => .int i
  | .str x _ => .str x
  | .bytes b _ => .byt b
  | .ref a => .ref a
  | _ => .non
noncomputable def OkU (A : List Addr) : Value → Prop
  | .none => True
  | .bool _ => True
  | .int _ _ => True
  | .str _ _ => True
  | .bytes _ _ => True
  | .ref a => a ∈ A
  | _ => False
theorem OkU.mono {A B : List Addr} (h : ∀ a ∈ A, a ∈ B) : ∀ {u : Value}, OkU A u → OkU B u := fun {u} x => by
  cases u with
  | ref a => exact h a x
  | none => trivial
  | bool b => trivial
  | int i t => trivial
  | str s t => trivial
  | bytes b t => trivial
  | _ => exact False.elim x
theorem relV_toV {A : List Addr} {u : Value} (x : OkU A u) : RelV (toV u) u := by
  cases u with
  | ref a => rfl
  | none => rfl
  | bool b => rfl
  | int i t => exact ⟨t, rfl⟩
  | str s t => exact ⟨t, rfl⟩
  | bytes b t => exact ⟨t, rfl⟩
  | _ => exact False.elim x
theorem vals_toV {A : List Addr} : ∀ {vs : List Value}, (∀ u ∈ vs, OkU A u) → Vals (vs.map toV) vs
  | [], _ => .nil
  | u :: r, h => .cons (relV_toV (h u (List.mem_cons_self ..))) (vals_toV fun x hx => h x (List.mem_cons_of_mem _ hx))
noncomputable def ArgOb (h : Heap) (A : List Addr) (a : Addr) : Prop := ∃ vs : List Value, vs.length ≤ sizeLine ∧ (∀ u ∈ vs, OkU A u) ∧
  (h.get? a = some { cls := .type "list", data := .seq vs.toArray } ∨ h.get? a = some { cls := .type "tuple", data := .seq vs.toArray })
theorem ArgOb.mono {h : Heap} {A B : List Addr} {a : Addr} (k : ∀ a ∈ A, a ∈ B) (x : ArgOb h A a) : ArgOb h B a := by
  obtain ⟨vs, h1, h2, h3⟩ := x
  exact ⟨vs, h1, fun u hu => (h2 u hu).mono k, h3⟩
theorem wellAll_len {P : Params} {h : Heap} : ∀ {vs : List Value} {ds : List WData}, WellAll P h vs ds → vs.length = ds.length
  | _, _, .nil => rfl
  | _, _, .cons _ b => by
    show _ + 1 = _ + 1
    rw [wellAll_len b]
theorem well_list {P : Params} {h : Heap} {v : Value} {ds : List WData} (x : Well P h v (.list ds)) : ∃ (a : Addr) (vs : List Value), v = .ref a ∧ h.get? a = some { cls := .type "list", data := .seq vs.toArray } ∧ WellAll P h vs ds := by
  cases x with
  | list ho hall => exact ⟨_, _, rfl, ho, hall⟩
theorem well_tuple {P : Params} {h : Heap} {v : Value} {ds : List WData} (x : Well P h v (.tuple ds)) : ∃ (a : Addr) (vs : List Value), v = .ref a ∧ h.get? a = some { cls := .type "tuple", data := .seq vs.toArray } ∧ WellAll P h vs ds := by
  cases x with
  | tuple ho hall => exact ⟨_, _, rfl, ho, hall⟩
theorem well_cons {P : Params} {h : Heap} {us : List Value} {d : WData} {ds : List WData} (x : WellAll P h us (d :: ds)) : ∃ (v : Value) (vs : List Value), us = v :: vs ∧ Well P h v d ∧ WellAll P h vs ds := by
  cases x with
  | cons a b => exact ⟨_, _, rfl, a, b⟩
theorem line_of {n : Nat} (h : n ≤ 1048576) : n ≤ sizeLine := Nat.le_trans h (by decide)
section
variable {P : Params} {h : Heap}
mutual
theorem area_one : ∀ (d : WData) (v : Value), Well P h v d → plW d = true → d.weight ≤ 1048576 → ∃ A : List Addr, OkU A v ∧ ∀ a ∈ A, ArgOb h A a
  | .none, _, x, _, _ => by
    cases x
    exact ⟨[], trivial, fun a m => absurd m (by simp)⟩
  | .bool b, _, x, _, _ => by
    cases x
    exact ⟨[], trivial, fun a m => absurd m (by simp)⟩
  | .int i, _, x, _, _ => by
    cases x
    exact ⟨[], trivial, fun a m => absurd m (by simp)⟩
  | .str s, _, x, _, _ => by
    cases x
    exact ⟨[], trivial, fun a m => absurd m (by simp)⟩
  | .bytes b, _, x, _, _ => by
    cases x
    exact ⟨[], trivial, fun a m => absurd m (by simp)⟩
  | .list ds, _, x, p, z => by
    obtain ⟨a, vs, rfl, ho, hall⟩ := well_list x
    have z2 : WData.weightAll ds ≤ 1048576 := z
    obtain ⟨A, h1, h2⟩ := area_all ds _ hall p fun d hd => Nat.le_trans (weight_mem hd) z2
    have k : ∀ b ∈ A, b ∈ a :: A := fun b hb => List.mem_cons_of_mem _ hb
    refine ⟨a :: A, List.mem_cons_self .., fun b hb => ?_⟩
    rcases List.mem_cons.mp hb with e | m
    · rw [e]
      exact ⟨vs, line_of (by rw [wellAll_len hall]; exact Nat.le_trans (PySem.W.length_le_weightAllW ds) z2), fun u hu => (h1 u hu).mono k, .inl ho⟩
    · exact (h2 b m).mono k
  | .tuple ds, _, x, p, z => by
    obtain ⟨a, vs, rfl, ho, hall⟩ := well_tuple x
    have z2 : WData.weightAll ds ≤ 1048576 := z
    obtain ⟨A, h1, h2⟩ := area_all ds _ hall p fun d hd => Nat.le_trans (weight_mem hd) z2
    have k : ∀ b ∈ A, b ∈ a :: A := fun b hb => List.mem_cons_of_mem _ hb
    refine ⟨a :: A, List.mem_cons_self .., fun b hb => ?_⟩
    rcases List.mem_cons.mp hb with e | m
    · rw [e]
      exact ⟨vs, line_of (by rw [wellAll_len hall]; exact Nat.le_trans (PySem.W.length_le_weightAllW ds) z2), fun u hu => (h1 u hu).mono k, .inr ho⟩
    · exact (h2 b m).mono k
  | .float _, _, _, p, _ => Bool.noConfusion (show false = true from p)
  | .dict _, _, _, p, _ => Bool.noConfusion (show false = true from p)
  | .bytearray _, _, _, p, _ => Bool.noConfusion (show false = true from p)
  | .set _, _, _, p, _ => Bool.noConfusion (show false = true from p)
  | .frozenset _, _, _, p, _ => Bool.noConfusion (show false = true from p)
  | .obj _ _, _, _, p, _ => Bool.noConfusion (show false = true from p)
theorem area_all : ∀ (ds : List WData) (vs : List Value), WellAll P h vs ds → plWs ds = true → (∀ d ∈ ds, d.weight ≤ 1048576) → ∃ A : List Addr, (∀ u ∈ vs, OkU A u) ∧ ∀ a ∈ A, ArgOb h A a
  | [], _, x, _, _ => by
    cases x
    exact ⟨[], fun u m => absurd m (by simp), fun a m => absurd m (by simp)⟩
  | d :: ds, _, x, p, z => by
    obtain ⟨v, vs, rfl, x1, x2⟩ := well_cons x
    have q : plW d = true ∧ plWs ds = true := Bool.and_eq_true_iff.mp p
    obtain ⟨A, a1, a2⟩ := area_one d v x1 q.1 (z d (List.mem_cons_self ..))
    obtain ⟨B, b1, b2⟩ := area_all ds vs x2 q.2 fun e he => z e (List.mem_cons_of_mem _ he)
    have kA : ∀ b ∈ A, b ∈ A ++ B := fun b hb => List.mem_append.mpr (.inl hb)
    have kB : ∀ b ∈ B, b ∈ A ++ B := fun b hb => List.mem_append.mpr (.inr hb)
    refine ⟨A ++ B, fun u hu => ?_, fun b hb => ?_⟩
    · rcases List.mem_cons.mp hu with e | m
      · rw [e]
        exact a1.mono kA
      · exact (b1 u m).mono kB
    · rcases List.mem_append.mp hb with m | m
      · exact (a2 b m).mono kA
      · exact (b2 b m).mono kB
end
end
noncomputable def hoOf (o : Obj) : Option HO := match o.data with
  | .seq vs _ => if (o.cls == Value.type "list") = true then some (.frz o (.lst (vs.toList.map toV))) else some (.frz o (.tup (vs.toList.map toV)))
  | _ => none
noncomputable def argH (K : PySem.W.Frag) (h : Heap) (A : List Addr) : Hp := fun b => if b ∈ A then (if (K.lookup b).isNone = true then (h.get? b).bind hoOf else none) else none
noncomputable def OnlyF (H : Hp) : Prop := ∀ b, H b = none ∨ ∃ o u, H b = some (.frz o u)
theorem hoOf_lst (vs : List Value) : hoOf { cls := .type "list", data := .seq vs.toArray } = some (.frz { cls := .type "list", data := .seq vs.toArray } (.lst (vs.map toV))) := by
  show (if (Value.type "list" == Value.type "list") = true then some (HO.frz { cls := .type "list", data := .seq vs.toArray } (.lst (vs.toArray.toList.map toV))) else some (HO.frz { cls := .type "list", data := .seq vs.toArray } (.tup (vs.toArray.toList.map toV)))) = _
  rw [if_pos (beq_self_eq_true _)]
theorem hoOf_tup (vs : List Value) : hoOf { cls := .type "tuple", data := .seq vs.toArray } = some (.frz { cls := .type "tuple", data := .seq vs.toArray } (.tup (vs.map toV))) := by
  show (if (Value.type "tuple" == Value.type "list") = true then some (HO.frz { cls := .type "tuple", data := .seq vs.toArray } (.lst (vs.toArray.toList.map toV))) else some (HO.frz { cls := .type "tuple", data := .seq vs.toArray } (.tup (vs.toArray.toList.map toV)))) = _
  rw [if_neg (by decide)]
section
variable {P : Program} {w : World} {K : PySem.W.Frag} {h : Heap} {A : List Addr}
theorem argH_at {b : Addr} {o : Obj} (hb : b ∈ A) (hk : K.lookup b = none) (e : h.get? b = some o) : argH K h A b = hoOf o := by
  unfold argH
  rw [if_pos hb, hk, if_pos (show (none : Option Obj).isNone = true from rfl), e] <;> rfl
theorem of_argH {b : Addr} {u : HO} (q : argH K h A b = some u) : b ∈ A ∧ K.lookup b = none := by
  unfold argH at q
  by_cases hb : b ∈ A
  · rw [if_pos hb] at q
    cases hk : K.lookup b with
    | none => exact ⟨hb, rfl⟩
    | some o =>
      rw [hk, if_neg (by simp)] at q
      cases q
  · rw [if_neg hb] at q
    cases q
theorem argH_is (ar : ∀ a ∈ A, ArgOb h A a) {b : Addr} {u : HO} (q : argH K h A b = some u) : K.lookup b = none ∧ ∃ vs : List Value, vs.length ≤ sizeLine ∧ (∀ u ∈ vs, OkU A u) ∧
    ((h.get? b = some { cls := .type "list", data := .seq vs.toArray } ∧ u = .frz { cls := .type "list", data := .seq vs.toArray } (.lst (vs.map toV))) ∨
     (h.get? b = some { cls := .type "tuple", data := .seq vs.toArray } ∧ u = .frz { cls := .type "tuple", data := .seq vs.toArray } (.tup (vs.map toV)))) := by
  obtain ⟨hb, hk⟩ := of_argH q
  obtain ⟨vs, h1, h2, h3⟩ := ar b hb
  refine ⟨hk, vs, h1, h2, ?_⟩
  rcases h3 with e | e
  · rw [argH_at hb hk e, hoOf_lst] at q
    exact .inl ⟨e, (Option.some.inj q).symm⟩
  · rw [argH_at hb hk e, hoOf_tup] at q
    exact .inr ⟨e, (Option.some.inj q).symm⟩
theorem argH_only (ar : ∀ a ∈ A, ArgOb h A a) : OnlyF (argH K h A) := fun b => by
  cases q : argH K h A b with
  | none => exact .inl rfl
  | some u =>
    obtain ⟨_, vs, _, _, ⟨_, e⟩ | ⟨_, e⟩⟩ := argH_is ar q
    · exact .inr ⟨_, _, by rw [e]⟩
    · exact .inr ⟨_, _, by rw [e]⟩
theorem argH_ok (ar : ∀ a ∈ A, ArgOb h A a) : HOk P w (argH K h A) h := fun b u q => by
  obtain ⟨_, vs, h1, h2, ⟨e, rfl⟩ | ⟨e, rfl⟩⟩ := argH_is ar q
  · exact ⟨e, by rw [List.length_map]; exact h1, vs, _, vals_toV h2, e⟩
  · exact ⟨e, by rw [List.length_map]; exact h1, vs, vals_toV h2, _, e, rfl, _, rfl⟩
theorem seq_inj {c c' : Value} {vs us : List Value} (e : (some { cls := c, data := .seq vs.toArray } : Option Obj) = some { cls := c', data := .seq us.toArray }) : c = c' ∧ vs = us := by
  have e1 := Option.some.inj e
  have e2 : c = c' := congrArg Obj.cls e1
  have e3 : Data.seq vs.toArray = Data.seq us.toArray := congrArg Obj.data e1
  injection e3 with e4
  refine ⟨e2, ?_⟩
  have e5 := congrArg Array.toList e4
  simpa using e5
theorem argL (KX : K.In h) (ar : ∀ a ∈ A, ArgOb h A a) {a : Addr} {vs : List Value} (ha : a ∈ A) (e : h.get? a = some { cls := .type "list", data := .seq vs.toArray }) : (∀ u ∈ vs, OkU A u) ∧ SqL K (argH K h A) a (vs.map toV) := by
  obtain ⟨us, h1, h2, h3⟩ := ar a ha
  have hu : us = vs := by
    rcases h3 with q | q
    · rw [e] at q
      exact (seq_inj q).2.symm
    · rw [e] at q
      exact absurd (Value.type.inj (seq_inj q).1) (by decide)
  subst hu
  refine ⟨h2, ?_⟩
  cases hk : K.lookup a with
  | none => exact .inl (.inr ⟨_, by rw [argH_at ha hk e, hoOf_lst]⟩)
  | some o =>
    have e2 := KX a o hk
    rw [e] at e2
    obtain rfl := Option.some.inj e2
    exact .inr ⟨_, us.toArray, _, hk, rfl, rfl, rfl, by rw [List.size_toArray]; exact h1, by simpa using vals_toV h2⟩
theorem argT (KX : K.In h) (ar : ∀ a ∈ A, ArgOb h A a) {a : Addr} {vs : List Value} (ha : a ∈ A) (e : h.get? a = some { cls := .type "tuple", data := .seq vs.toArray }) : (∀ u ∈ vs, OkU A u) ∧ SqT K (argH K h A) a (vs.map toV) := by
  obtain ⟨us, h1, h2, h3⟩ := ar a ha
  have hu : us = vs := by
    rcases h3 with q | q
    · rw [e] at q
      exact absurd (Value.type.inj (seq_inj q).1) (by decide)
    · rw [e] at q
      exact (seq_inj q).2.symm
  subst hu
  refine ⟨h2, ?_⟩
  cases hk : K.lookup a with
  | none => exact .inl (.inr ⟨_, by rw [argH_at ha hk e, hoOf_tup]⟩)
  | some o =>
    have e2 := KX a o hk
    rw [e] at e2
    obtain rfl := Option.some.inj e2
    exact .inr ⟨_, us.toArray, _, hk, rfl, rfl, by rw [List.size_toArray]; exact h1, by simpa using vals_toV h2⟩
mutual
theorem dw_one {Pm : Params} (KX : K.In h) (ar : ∀ a ∈ A, ArgOb h A a) : ∀ (d : WData) (v : Value), Well Pm h v d → plW d = true → OkU A v → Dw K (argH K h A) (toV v) d
  | .none, _, x, _, _ => by
    cases x
    exact .non
  | .bool b, _, x, _, _ => by
    cases x
    exact .bl b
  | .int i, _, x, _, _ => by
    cases x
    exact .int i
  | .str s, _, x, _, _ => by
    cases x
    exact .str s
  | .bytes b, _, x, _, _ => by
    cases x
    have z := Dw.byt (K := K) (H := argH K h A) b.toArray
    exact z
  | .list ds, _, x, p, hu => by
    obtain ⟨a, vs, rfl, ho, hall⟩ := well_list x
    obtain ⟨h2, hs⟩ := argL KX ar hu ho
    exact .lst hs (dw_all KX ar ds _ hall p h2)
  | .tuple ds, _, x, p, hu => by
    obtain ⟨a, vs, rfl, ho, hall⟩ := well_tuple x
    obtain ⟨h2, hs⟩ := argT KX ar hu ho
    exact .tup hs (dw_all KX ar ds _ hall p h2)
  | .float _, _, _, p, _ => Bool.noConfusion (show false = true from p)
  | .dict _, _, _, p, _ => Bool.noConfusion (show false = true from p)
  | .bytearray _, _, _, p, _ => Bool.noConfusion (show false = true from p)
  | .set _, _, _, p, _ => Bool.noConfusion (show false = true from p)
  | .frozenset _, _, _, p, _ => Bool.noConfusion (show false = true from p)
  | .obj _ _, _, _, p, _ => Bool.noConfusion (show false = true from p)
theorem dw_all {Pm : Params} (KX : K.In h) (ar : ∀ a ∈ A, ArgOb h A a) : ∀ (ds : List WData) (vs : List Value), WellAll Pm h vs ds → plWs ds = true → (∀ u ∈ vs, OkU A u) → DwAll K (argH K h A) (vs.map toV) ds
  | [], _, x, _, _ => by
    cases x
    exact .nil
  | d :: ds, _, x, p, hu => by
    obtain ⟨v, vs, rfl, x1, x2⟩ := well_cons x
    have q : plW d = true ∧ plWs ds = true := Bool.and_eq_true_iff.mp p
    exact .cons (dw_one KX ar d v x1 q.1 (hu _ (List.mem_cons_self ..))) (dw_all KX ar ds vs x2 q.2 fun u m => hu u (List.mem_cons_of_mem _ m))
end
end
theorem spec_call {P : Program} {w : World} {K : PySem.W.Frag} {mg mb : Str → Option Value} {CX : CXT} {k : Nat} {fa : Addr} {fd : FuncData} {ps : List Str} {sp : Sp} {s₁ : Shared} {vals : List Value} {ds : List WData} {R : PySem.W.WRecords} {cl : Str → Option Addr} {d0 : WData}
    (KX : K.In s₁.heap) (hns : s₁.heap.Ns mainGlobals mg) (hb : s₁.heap.Ns builtinsNs mb) (hbb : ∀ x : Str, x ≠ "__name__" → mb x = bootBuiltins x) (hlim : s₁.heap.NoLimit) (hg : s₁.gens = #[])
    (hwl : WellAll w.params s₁.heap vals ds) (hpl : plWs ds = true) (hwt : ∀ d ∈ ds, d.weight ≤ 1048576) (hr : Room k callerA)
    (F : ∀ base : Heap, K.In base → base.Ns mainGlobals mg → FnOk P w K mg base CX k fa fd ps sp) (hbind : ∀ (s : Shared) (us : List Value), us.length = ps.length → BindsTo s fd ⟨us, []⟩ (ps.zip us)) (hlen : ds.length = ps.length)
    (hsp : ∀ (H : Hp) (xs : List V), OnlyF H → DwAll K H xs ds → sp xs H (fun v H' => Dw K H' v d0) fun _ _ _ => False)
    (hCX : ∀ H e s', CX [] H s₁ (fun _ _ _ => False) e s' → False) :
    codeAny (model P w) callerA (.call (.ref fa) ⟨vals, []⟩) (fun r s' => ∃ u as, r = .ok (.ret u) ∧ ReadsW R cl s'.heap u d0 as ∧ OldK s₁.heap s'.heap ∧ s'.os = s₁.os ∧ AllBare s'.gens) s₁ := by
  obtain ⟨A, ho, ar⟩ := area_all ds vals hwl hpl hwt
  have hO : OnlyF (argH K s₁.heap A) := argH_only ar
  have hok : HOk P w (argH K s₁.heap A) s₁.heap := argH_ok ar
  have hS := dw_all KX ar ds vals hwl hpl ho
  have hV := vals_toV ho
  have hK : ∀ b u, argH K s₁.heap A b = some u → K.lookup b = none := fun b u q => (argH_is ar q).1
  have noA : ∀ {b : Addr} {o : Obj} {es : Array DictEntry} {ep : Nat}, s₁.heap.get? b = some o → o.data = .dict es ep → argH K s₁.heap A b = none := fun {b o es ep} e d => by
    cases q : argH K s₁.heap A b with
    | none => rfl
    | some u =>
      obtain ⟨_, vs, _, _, ⟨e2, _⟩ | ⟨e2, _⟩⟩ := argH_is ar q
      · rw [e2] at e
        cases e
        have d' : Data.seq vs.toArray _ = Data.dict es ep := d
        cases d'
      · rw [e2] at e
        cases e
        have d' : Data.seq vs.toArray _ = Data.dict es ep := d
        cases d'
  generalize argH K s₁.heap A = H at hO hok hS hK noA
  have base_of : ∀ {b : Addr} {o : Obj}, s₁.heap.get? b = some o → H b = none → (hidT s₁.heap H).get? b = some o := fun e n => hidT_get e n
  have nsK : ∀ {b : Addr} {m : Str → Option Value}, s₁.heap.Ns b m → (hidT s₁.heap H).Ns b m := fun {b m} ⟨o, es, ep, e, d, r⟩ => ⟨o, es, ep, base_of e (noA e d), d, r⟩
  have nK : ∀ b o, K.lookup b = some o → H b = none := fun b o e => by
    cases q : H b with
    | none => rfl
    | some u =>
      rw [hK b u q] at e
      cases e
  have hKb : K.In (hidT s₁.heap H) := fun b o e => base_of (KX b o e) (nK b o e)
  have hM : Mod K mg (hidT s₁.heap H) := ⟨hKb, nsK hns, ⟨mb, nsK hb, hbb⟩, let ⟨mc, h1, h2⟩ := hlim; ⟨mc, nsK h1, h2⟩⟩
  have e0 : Env0 P w K mg (hidT s₁.heap H) callerA [] s₁ H := ⟨rfl, hM, fun b o e => of_hidT e, Nat.le_of_eq (hidT_size _ _), trivial, fun b hb => absurd (show b ∈ ([] : List Addr) from hb) (by simp), hok, .of_eq hg⟩
  have hl : vals.length = ps.length := by rw [wellAll_len hwl]; exact hlen
  refine codeAny_mono ((F _ hKb (nsK hns)).run callerA [] s₁ H ⟨vals, []⟩ vals (vals.map toV) _ _ hr e0 (hbind s₁ vals hl) hV (hsp H _ hO hS)) fun r s' x => ?_
  cases r with
  | error e => exact (hCX H e s' x).elim
  | ok fl =>
    cases fl with
    | next => exact False.elim x
    | brk => exact False.elim x
    | cont => exact False.elim x
    | ret u =>
      obtain ⟨v, H', os, bare, un, hok', r', q⟩ := x
      have kept : ∀ b o, s₁.heap.get? b = some o → s'.heap.get? b = some o := fun b o e => by
        cases q2 : H b with
        | none => exact un.keep b o e q2 (by intro z; exact absurd (show b ∈ ([] : List Addr) from z) (by simp)) (by simp)
        | some u2 =>
          rcases hO b with z | ⟨ob, u3, z⟩
          · rw [q2] at z
            cases z
          · have z2 := un.frzs b ob _ z
            obtain ⟨e1, _⟩ := hok b _ z
            obtain ⟨e2, _⟩ := hok' b _ z2
            rw [e] at e1
            cases e1
            exact e2
      have KX' : K.In s'.heap := fun b o e => kept b o (KX b o e)
      obtain ⟨as, hrd⟩ := Dw.reads (R := R) (cl := cl) hok' KX' d0 v u q r'
      exact ⟨u, as, rfl, hrd, OldK.of_keep kept, os, bare⟩
theorem layable_weight {ds : List WData} (h : WData.layableAll ds = true) : ∀ d ∈ ds, d.weight ≤ 1048576 := fun d hd =>
  (PySem.W.layableW_iff.mp (List.all_eq_true.mp h d hd)).2.2
theorem encAll_len : ∀ (cs : List Codec) (a : Codec.denoteAll cs), (Codec.encAll cs a).length = cs.length
  | [], _ => rfl
  | c :: cs, a => by
    show (Codec.encAll cs a.2).length + 1 = cs.length + 1
    rw [encAll_len cs a.2]
theorem walk_spec {r : OpenSpec} {k : Nat} {q : Program} {loose : List Str} {XP : (Str → Option Value) → Heap → Prop} {YP : World → Heap → Prop} {d : DefRec} {K : Params → PySem.W.Frag} {CX : World → CXT} {ps : List Str} {sp : World → Sp}
    (hwell : r.wellSaid = true) (hdf : d.params.defaults = []) (hlen : r.args.length = ps.length) (hr : Room k callerA)
    (hY : ∀ (w : World) (h : Heap), YP w h → (K w.params).In h)
    (F : ∀ (w : World) (mg : Str → Option Value) (fa : Addr) (h : Heap), YP w h → (K w.params).In h → h.Ns mainGlobals mg → mg d.name = some (.ref fa) →
      ∃ fd : FuncData, (∀ (s : Shared) (us : List Value), us.length = ps.length → BindsTo s fd ⟨us, []⟩ (ps.zip us)) ∧
        ∀ base : Heap, (K w.params).In base → base.Ns mainGlobals mg → FnOk r.prog w (K w.params) mg base (CX w) k fa fd ps (sp w))
    (hsp : ∀ (w : World) (H : Hp) (xs : List V) (a : Codec.denoteAll r.args), OnlyF H → Codec.withinAll r.args a = true → Codec.app r.args r.asked a = true → DwAll (K w.params) H xs (Codec.encAll r.args a) →
      sp w xs H (fun v H' => Dw (K w.params) H' v (r.ret.enc (Codec.app r.args r.f a))) fun _ _ _ => False)
    (hCX : ∀ (w : World) (H : Hp) (s : Shared) (e : Value) (s' : Shared), CX w [] H s (fun _ _ _ => False) e s' → False) :
    PySem.W.WalkOS q loose XP YP r d [] (fun f vs => PySem.call f vs) := by
  intro w s_0 s₁ mg mb G Y fa o pm cd doc dV kV ho hd hcd hD hmg hg args vals as hpre hlay hrd hwl hlo
  obtain ⟨a, e1, e2⟩ := PySem.W.os_pre_some hpre
  obtain ⟨e3, hwi⟩ := Codec.encAll_of_decAll r.args args a e1
  subst e3
  have KX := hY w _ Y
  obtain ⟨fd, hb, hF⟩ := F w mg fa _ Y KX G.T.g hmg
  refine PySem.W.enter_call (codeAny_mono (spec_call (R := []) (cl := classAt s_0.heap) (d0 := r.ret.enc (Codec.app r.args r.f a)) KX G.T.g G.T.b G.T.builtins G.T.nolimit hg hwl (pl_encAll _ _) (layable_weight hlay) hr hF hb (by rw [encAll_len]; exact hlen)
    (fun H xs hO hS => hsp w H xs a hO hwi e2 hS) fun H e s' => hCX w H s₁ e s') fun r' s' hq => ?_)
  obtain ⟨u, as', rfl, h1, h2, h3, h4⟩ := hq
  exact ⟨.inl ⟨u, _, as', rfl, fun _ => rfl, h1, (OpenSpec.post_iff hwell hwi _ _).mpr rfl, fun z => Bool.noConfusion (show false = true from z)⟩, h2, h3, h4⟩
theorem walk_specK {r : OpenSpec} {k : Nat} {q : Program} {loose : List Str} {XP : (Str → Option Value) → Heap → Prop} {YP : World → Heap → Prop} {d : DefRec} {K : Params → PySem.W.Frag} {CX : CXT} {ps : List Str} {sp : PySem.W.Frag → Sp}
    (hwell : r.wellSaid = true) (hdf : d.params.defaults = []) (hlen : r.args.length = ps.length) (hr : Room k callerA)
    (hY : ∀ (w : World) (h : Heap), YP w h → (K w.params).In h)
    (F : ∀ (w : World) (mg : Str → Option Value) (fa : Addr) (h : Heap), YP w h → (K w.params).In h → h.Ns mainGlobals mg → mg d.name = some (.ref fa) →
      ∃ fd : FuncData, (∀ (s : Shared) (us : List Value), us.length = ps.length → BindsTo s fd ⟨us, []⟩ (ps.zip us)) ∧
        ∀ base : Heap, (K w.params).In base → base.Ns mainGlobals mg → FnOk r.prog w (K w.params) mg base CX k fa fd ps (sp (K w.params)))
    (hsp : ∀ (K : PySem.W.Frag) (H : Hp) (xs : List V) (a : Codec.denoteAll r.args), OnlyF H → Codec.withinAll r.args a = true → Codec.app r.args r.asked a = true → DwAll K H xs (Codec.encAll r.args a) →
      sp K xs H (fun v H' => Dw K H' v (r.ret.enc (Codec.app r.args r.f a))) fun _ _ _ => False)
    (hCX : ∀ (H : Hp) (s : Shared) (e : Value) (s' : Shared), CX [] H s (fun _ _ _ => False) e s' → False) :
    PySem.W.WalkOS q loose XP YP r d [] (fun f vs => PySem.call f vs) :=
  walk_spec (K := K) (CX := fun _ => CX) (sp := fun w => sp (K w.params)) hwell hdf hlen hr hY F (fun w H xs a h1 h2 h3 h4 => hsp (K w.params) H xs a h1 h2 h3 h4) fun _ H s e s' => hCX H s e s'
end L2
-- rests on (row put in by the clerk, for the bench that shows a file only what it spells): KE.SpHead KE.OsShapes
end

end
section
namespace My
open Kqp1
/-! ## fractions -/
theorem frac_scale (k : Nat) (hk : 0 < k) (n : Int) (d : Nat) (hd : 0 < d) : frac ((k : Int) * n) (k * d) = frac n d := by
  unfold frac
  have hg : Nat.gcd n.natAbs d ≠ 0 := by
    intro h
    have := Nat.eq_zero_of_gcd_eq_zero_right h
    omega
  have e : Nat.gcd ((k : Int) * n).natAbs (k * d) = k * Nat.gcd n.natAbs d := by
    rw [Int.natAbs_mul, Int.natAbs_natCast, Nat.gcd_mul_left]
  have hkg : k * Nat.gcd n.natAbs d ≠ 0 := Nat.mul_ne_zero (by omega) hg
  simp only [e, if_neg hg, if_neg hkg]
  have e1 : ((k : Int) * n) / ((k * Nat.gcd n.natAbs d : Nat) : Int) = n / ((Nat.gcd n.natAbs d : Nat) : Int) := by
    rw [Int.natCast_mul]
    exact Int.mul_ediv_mul_of_pos _ _ (by omega)
  rw [e1, Nat.mul_div_mul_left _ _ hk]
theorem frac_eq {a c : Int} {b d : Nat} (hb : 0 < b) (hd : 0 < d) (h : a * d = c * b) : frac a b = frac c d := by
  rw [← frac_scale d hd a b hb, ← frac_scale b hb c d hd, Nat.mul_comm d b]
  congr 1
  rw [Int.mul_comm, h, Int.mul_comm]
theorem frac_zero {d : Nat} (hd : 0 < d) : frac 0 d = zero := by
  unfold frac zero
  simp only [Int.natAbs_zero, Nat.gcd_zero_left]
  rw [if_neg (by omega)]
  simp [Nat.div_self hd]
theorem frac_parts (a : Int) {b : Nat} (hb : 0 < b) : ∃ g : Nat, 0 < g ∧ a = (frac a b).num * g ∧ b = (frac a b).den * g ∧ 0 < (frac a b).den := by
  have hg : Nat.gcd a.natAbs b ≠ 0 := by
    intro h
    have := Nat.eq_zero_of_gcd_eq_zero_right h
    omega
  refine ⟨Nat.gcd a.natAbs b, by omega, ?_, ?_, ?_⟩
  · unfold frac
    simp only [if_neg hg]
    exact (Int.ediv_mul_cancel (Int.ofNat_dvd_left.mpr (Nat.gcd_dvd_left _ _))).symm
  · unfold frac
    simp only [if_neg hg]
    exact (Nat.div_mul_cancel (Nat.gcd_dvd_right _ _)).symm
  · unfold frac
    simp only [if_neg hg]
    exact Nat.div_pos (Nat.le_of_dvd hb (Nat.gcd_dvd_right _ _)) (by omega)
theorem den_pos (a : Int) {b : Nat} (hb : 0 < b) : 0 < (frac a b).den := by
  obtain ⟨_, _, _, _, h⟩ := frac_parts a hb
  exact h
theorem cross_eq (a : Int) {b : Nat} (hb : 0 < b) : (frac a b).num * b = a * (frac a b).den := by
  obtain ⟨g, _, h1, h2, _⟩ := frac_parts a hb
  generalize (frac a b).num = n at *
  generalize (frac a b).den = d at *
  subst h2
  rw [h1]
  push_cast
  grind
theorem add_frac (a c : Int) {b d : Nat} (hb : 0 < b) (hd : 0 < d) : add (frac a b) (frac c d) = frac (a * d + c * b) (b * d) := by
  unfold add
  have h1 := cross_eq a hb
  have h2 := cross_eq c hd
  refine frac_eq (Nat.mul_pos (den_pos a hb) (den_pos c hd)) (Nat.mul_pos hb hd) ?_
  generalize frac a b = x at *
  generalize frac c d = y at *
  push_cast
  grind
theorem sub_frac (a c : Int) {b d : Nat} (hb : 0 < b) (hd : 0 < d) : sub (frac a b) (frac c d) = frac (a * d - c * b) (b * d) := by
  unfold sub
  have h1 := cross_eq a hb
  have h2 := cross_eq c hd
  refine frac_eq (Nat.mul_pos (den_pos a hb) (den_pos c hd)) (Nat.mul_pos hb hd) ?_
  generalize frac a b = x at *
  generalize frac c d = y at *
  push_cast
  grind
theorem mul_frac (a c : Int) {b d : Nat} (hb : 0 < b) (hd : 0 < d) : mul (frac a b) (frac c d) = frac (a * c) (b * d) := by
  unfold mul
  have h1 := cross_eq a hb
  have h2 := cross_eq c hd
  refine frac_eq (Nat.mul_pos (den_pos a hb) (den_pos c hd)) (Nat.mul_pos hb hd) ?_
  generalize frac a b = x at *
  generalize frac c d = y at *
  push_cast
  grind
theorem num_pos {a : Int} {b : Nat} (ha : 0 < a) (hb : 0 < b) : 0 < (frac a b).num := by
  obtain ⟨g, h0, h1, _, _⟩ := frac_parts a hb
  rcases Int.lt_trichotomy 0 (frac a b).num with h | h | h
  · exact h
  · rw [← h] at h1; omega
  · have : (frac a b).num * (g : Int) < 0 := Int.mul_neg_of_neg_of_pos h (by omega)
    omega
theorem num_zero_iff {a : Int} {b : Nat} (hb : 0 < b) : (frac a b).num = 0 ↔ a = 0 := by
  obtain ⟨g, h0, h1, _, _⟩ := frac_parts a hb
  constructor
  · intro h
    rw [h] at h1
    omega
  · rintro rfl
    rw [frac_zero hb]
    rfl
theorem div_frac (a : Int) {c : Int} {b d : Nat} (hb : 0 < b) (hd : 0 < d) (hc : 0 < c) : div (frac a b) (frac c d) = frac (a * d) (b * c.toNat) := by
  unfold div
  have h1 := cross_eq a hb
  have h2 := cross_eq c hd
  have hn := num_pos hc hd
  refine frac_eq (Nat.mul_pos (den_pos a hb) (by omega)) (Nat.mul_pos hb (by omega)) ?_
  have e1 : (((frac c d).num.toNat : Nat) : Int) = (frac c d).num := by omega
  have e2 : ((c.toNat : Nat) : Int) = c := by omega
  push_cast
  rw [e1, e2]
  generalize frac a b = x at *
  generalize frac c d = y at *
  grind
theorem le_frac (a c : Int) {b d : Nat} (hb : 0 < b) (hd : 0 < d) : le (frac a b) (frac c d) = decide (a * d ≤ c * b) := by
  unfold le
  obtain ⟨g, g0, h1, h2, h3⟩ := frac_parts a hb
  obtain ⟨e, e0, h4, h5, h6⟩ := frac_parts c hd
  generalize frac a b = x at *
  generalize frac c d = y at *
  subst h1 h2 h4 h5
  congr 1
  push_cast
  have k : (0 : Int) < (g : Int) * (e : Int) := Int.mul_pos (by omega) (by omega)
  have l : x.num * (g : Int) * ((y.den : Int) * (e : Int)) = (x.num * y.den) * ((g : Int) * e) := by grind
  have r : y.num * (e : Int) * ((x.den : Int) * (g : Int)) = (y.num * x.den) * ((g : Int) * e) := by grind
  rw [l, r]
  exact propext ⟨fun h => Int.mul_le_mul_of_nonneg_right h (by omega), fun h => Int.le_of_mul_le_mul_right h k⟩
theorem same_frac (a c : Int) {b d : Nat} (hb : 0 < b) (hd : 0 < d) : same (frac a b) (frac c d) = (a * d == c * b) := by
  unfold same
  obtain ⟨g, g0, h1, h2, h3⟩ := frac_parts a hb
  obtain ⟨e, e0, h4, h5, h6⟩ := frac_parts c hd
  generalize frac a b = x at *
  generalize frac c d = y at *
  subst h1 h2 h4 h5
  push_cast
  have k : (0 : Int) < (g : Int) * (e : Int) := Int.mul_pos (by omega) (by omega)
  have l : x.num * (g : Int) * ((y.den : Int) * (e : Int)) = (x.num * y.den) * ((g : Int) * e) := by grind
  have r : y.num * (e : Int) * ((x.den : Int) * (g : Int)) = (y.num * x.den) * ((g : Int) * e) := by grind
  rw [l, r]
  rw [Bool.eq_iff_iff, beq_iff_eq, beq_iff_eq]
  exact ⟨fun h => by rw [h], fun h => Int.eq_of_mul_eq_mul_right (by omega) h⟩
/-- a sum over one lower number -/
theorem total_frac {α : Type} (f : α → Int) {D : Nat} (hD : 0 < D) : ∀ l : List α, total (l.map fun x => frac (f x) D) = frac ((l.map f).sum) D
  | [] => (frac_zero hD).symm
  | x :: l => by
    have ih := total_frac f hD l
    unfold total at ih ⊢
    rw [List.map_cons, List.foldr_cons, ih, add_frac _ _ hD hD, List.map_cons, List.sum_cons]
    refine frac_eq (Nat.mul_pos hD hD) hD ?_
    push_cast
    grind
end My

end
section
namespace My
open Kqp1
/-! ## the program's own numbers -/
/-- the weight of pair i j -/
noncomputable def wt (k : Nat) (W : List Int) (i j : Nat) : Int := W.getD (place k i j) 0
/-- a kind's weight -/
noncomputable def kw (k : Nat) (W : List Int) (i : Nat) : Int := ((List.range k).map fun j => wt k W i j).sum + wt k W i i
noncomputable def anyW (k : Nat) (W : List Int) : List Int := (order k).map fun x => if x.1 = x.2 then kw k W x.1 * kw k W x.1 else 2 * kw k W x.1 * kw k W x.2
noncomputable def selfW (k : Nat) (W : List Int) : List Int := (order k).map fun x => if x.1 = x.2 then kw k W x.1 + 2 * wt k W x.1 x.1 else 2 * wt k W x.1 x.2
noncomputable def nextW (k : Nat) (W : List Int) (s : Int) : List Int := List.zipWith (fun a b => s * W.sum * a + (100 - s) * b) (selfW k W) (anyW k W)
noncomputable def laterW (k : Nat) (s : Int) : Nat → List Int → List Int
  | 0, W => W
  | n + 1, W => laterW k s n (nextW k W s)
noncomputable def alike (k : Nat) (W : List Int) : Int := ((List.range k).map fun i => wt k W i i).sum
noncomputable def rep (W : List Int) (T : Nat) : Pairs := W.map fun v => frac v T
/-! ## how many kinds -/
theorem kcases {k : Nat} (h2 : 2 ≤ k) (h4 : k ≤ 4) : k = 2 ∨ k = 3 ∨ k = 4 := by omega
theorem rep_getD {T : Nat} (hT : 0 < T) (W : List Int) (n : Nat) : (rep W T).getD n zero = frac (W.getD n 0) T := by
  unfold rep
  rw [List.getD_eq_getElem?_getD, List.getD_eq_getElem?_getD, List.getElem?_map]
  cases W[n]? with
  | none => exact (frac_zero hT).symm
  | some v => rfl
theorem half_eq : half = frac 1 2 := by simp [frac, half]
theorem two_eq : two = frac 2 1 := by simp [frac, two]
theorem quarter_eq : (⟨1, 4⟩ : Frac) = frac 1 4 := by simp [frac]
theorem one_eq : (⟨1, 1⟩ : Frac) = frac 1 1 := by simp [frac]
theorem order2 : order 2 = [(0, 0), (0, 1), (1, 1)] := by decide
theorem order3 : order 3 = [(0, 0), (0, 1), (0, 2), (1, 1), (1, 2), (2, 2)] := by decide
theorem order4 : order 4 = [(0, 0), (0, 1), (0, 2), (0, 3), (1, 1), (1, 2), (1, 3), (2, 2), (2, 3), (3, 3)] := by decide
/-- the place of a pair, by the program's way -/
noncomputable def pp (k i j : Int) : Int := (min i j) * k - (min i j) * (min i j - 1) / 2 + max i j - min i j
theorem pp_place {k i j : Nat} (h2 : 2 ≤ k) (h4 : k ≤ 4) (hi : i < k) (hj : j < k) : pp k i j = (place k i j : Int) := by
  have : ∀ k, k < 5 → 2 ≤ k → ∀ i, i < k → ∀ j, j < k → pp (k : Nat) (i : Nat) (j : Nat) = (place k i j : Int) := by decide
  exact this k (by omega) h2 i hi j hj
theorem place_lt {k i j : Nat} (h2 : 2 ≤ k) (h4 : k ≤ 4) (hi : i < k) (hj : j < k) : place k i j < (order k).length := by
  have : ∀ k, k < 5 → 2 ≤ k → ∀ i, i < k → ∀ j, j < k → place k i j < (order k).length := by decide
  exact this k (by omega) h2 i hi j hj
theorem place_comm (k i j : Nat) : place k i j = place k j i := by
  unfold place
  rw [Nat.min_comm, Nat.max_comm]
theorem wt_comm (k : Nat) (W : List Int) (i j : Nat) : wt k W i j = wt k W j i := by
  unfold wt
  rw [place_comm]
/-! ### places, reckoned -/
theorem pl2 : place 2 0 0 = 0 ∧ place 2 0 1 = 1 ∧ place 2 1 0 = 1 ∧ place 2 1 1 = 2 := by decide
theorem pl3 : place 3 0 0 = 0 ∧ place 3 0 1 = 1 ∧ place 3 0 2 = 2 ∧ place 3 1 0 = 1 ∧ place 3 1 1 = 3 ∧ place 3 1 2 = 4 ∧ place 3 2 0 = 2 ∧ place 3 2 1 = 4 ∧ place 3 2 2 = 5 := by decide
theorem pl4 : place 4 0 0 = 0 ∧ place 4 0 1 = 1 ∧ place 4 0 2 = 2 ∧ place 4 0 3 = 3 ∧ place 4 1 0 = 1 ∧ place 4 1 1 = 4 ∧ place 4 1 2 = 5 ∧ place 4 1 3 = 6 ∧ place 4 2 0 = 2 ∧ place 4 2 1 = 5 ∧ place 4 2 2 = 7 ∧ place 4 2 3 = 8 ∧ place 4 3 0 = 3 ∧ place 4 3 1 = 6 ∧ place 4 3 2 = 8 ∧ place 4 3 3 = 9 := by decide
theorem range2 : List.range 2 = [0, 1] := rfl
theorem range3 : List.range 3 = [0, 1, 2] := rfl
theorem range4 : List.range 4 = [0, 1, 2, 3] := rfl
/-! ## the specification's kinds, by weights -/
noncomputable def cI (i : Nat) (x : Nat × Nat) : Int := if x.1 = i ∧ x.2 = i then 2 else if x.1 = i ∨ x.2 = i then 1 else 0
theorem kinds_sum {k : Nat} (h2 : 2 ≤ k) (h4 : k ≤ 4) (W : List Int) {i : Nat} (hi : i < k) : ((order k).map fun x => cI i x * wt k W x.1 x.2).sum = kw k W i := by
  unfold kw
  rcases kcases h2 h4 with rfl | rfl | rfl
  · rw [order2, range2]
    have : i = 0 ∨ i = 1 := by omega
    rcases this with rfl | rfl <;> simp [cI, wt, pl2] <;> omega
  · rw [order3, range3]
    have : i = 0 ∨ i = 1 ∨ i = 2 := by omega
    rcases this with rfl | rfl | rfl <;> simp [cI, wt, pl3] <;> omega
  · rw [order4, range4]
    have : i = 0 ∨ i = 1 ∨ i = 2 ∨ i = 3 := by omega
    rcases this with rfl | rfl | rfl | rfl <;> simp [cI, wt, pl4] <;> omega
theorem kindsOf_rep {k : Nat} (h2 : 2 ≤ k) (h4 : k ≤ 4) (W : List Int) {T : Nat} (hT : 0 < T) : kindsOf k (rep W T) = (List.range k).map fun i => frac (kw k W i) (2 * T) := by
  unfold kindsOf
  refine List.map_congr_left fun i hi => ?_
  rw [← kinds_sum h2 h4 W (List.mem_range.mp hi), ← total_frac _ (show 0 < 2 * T by omega)]
  congr 1
  refine List.map_congr_left fun x _ => ?_
  unfold cI
  by_cases c : x.1 = i ∧ x.2 = i
  · rw [if_pos c, if_pos c, rep_getD hT, ← c.1, show place k x.1 x.1 = place k x.1 x.2 by rw [c.1, c.2]]
    refine frac_eq hT (by omega) ?_
    unfold wt
    push_cast
    grind
  · rw [if_neg c, if_neg c]
    by_cases c' : x.1 = i ∨ x.2 = i
    · rw [if_pos c', if_pos c', rep_getD hT, half_eq, mul_frac _ _ (by omega) hT]
      rfl
    · rw [if_neg c', if_neg c', Int.zero_mul]
      exact (frac_zero (by omega)).symm
theorem range_getD {α : Type} (f : Nat → α) {k i : Nat} (h : i < k) (z : α) : ((List.range k).map f).getD i z = f i := by
  rw [List.getD_eq_getElem?_getD, List.getElem?_map, List.getElem?_range h]
  rfl
theorem order_lt {k : Nat} {x : Nat × Nat} (h : x ∈ order k) : x.1 < k ∧ x.2 < k ∧ x.1 ≤ x.2 := by
  unfold order at h
  rw [List.mem_flatMap] at h
  obtain ⟨i, hi, h⟩ := h
  rw [List.mem_map] at h
  obtain ⟨j, hj, rfl⟩ := h
  rw [List.mem_range] at hi hj
  exact ⟨hi, (by show i + j < k; omega), (by show i ≤ i + j; omega)⟩
theorem squares_kinds (p : List Frac) {K : Nat} {T : Nat} (hT : 0 < T) (f : Nat → Int) (hp : p = (List.range K).map fun i => frac (f i) (2 * T)) {i j : Nat} (hi : i < K) (hj : j < K) :
    squares p i j = frac (if i = j then f i * f i else 2 * f i * f j) (4 * T * T) := by
  subst hp
  unfold squares
  rw [range_getD _ hi, range_getD _ hj]
  by_cases c : i = j
  · rw [if_pos c, if_pos c, mul_frac _ _ (by omega) (by omega)]
    refine frac_eq (Nat.mul_pos (by omega) (by omega)) (Nat.mul_pos (by omega) hT) ?_
    push_cast
    grind
  · rw [if_neg c, if_neg c, mul_frac _ _ (by omega) (by omega), two_eq, mul_frac _ _ (by omega) (Nat.mul_pos (by omega) (by omega))]
    refine frac_eq (Nat.mul_pos (by omega) (Nat.mul_pos (by omega) (by omega))) (Nat.mul_pos (by omega) hT) ?_
    push_cast
    grind
theorem next_rep {k : Nat} (h2 : 2 ≤ k) (h4 : k ≤ 4) (W : List Int) {T : Nat} (hT : 0 < T) : next k (rep W T) = rep (anyW k W) (4 * T * T) := by
  unfold next
  show _ = ((order k).map _).map _
  rw [List.map_map]
  refine List.map_congr_left fun x hx => ?_
  obtain ⟨h, h', _⟩ := order_lt hx
  rw [squares_kinds _ hT (kw k W) (kindsOf_rep h2 h4 W hT) h h']
  rfl
/-! ## sums -/
theorem kw_sum {k : Nat} (h2 : 2 ≤ k) (h4 : k ≤ 4) (W : List Int) (hW : W.length = (order k).length) : ((List.range k).map fun j => kw k W j).sum = 2 * W.sum := by
  unfold kw
  rcases kcases h2 h4 with rfl | rfl | rfl
  · rw [order2] at hW
    rw [range2]
    match W, hW with
    | [a, b, c], _ =>
      simp [wt, pl2]
      omega
  · rw [order3] at hW
    rw [range3]
    match W, hW with
    | [a, b, c, d, e, f], _ =>
      simp [wt, pl3]
      omega
  · rw [order4] at hW
    rw [range4]
    match W, hW with
    | [a, b, c, d, e, f, g, h, i, j], _ =>
      simp [wt, pl4]
      omega
noncomputable def crossW (k : Nat) (W V : List Int) : List Int := (order k).map fun x => if x.1 = x.2 then kw k W x.1 * kw k V x.1 else kw k W x.1 * kw k V x.2 + kw k W x.2 * kw k V x.1
theorem cross_sum {k : Nat} (h2 : 2 ≤ k) (h4 : k ≤ 4) (W V : List Int) (hW : W.length = (order k).length) (hV : V.length = (order k).length) : (crossW k W V).sum = 4 * W.sum * V.sum := by
  have e1 := kw_sum h2 h4 W hW
  have e2 := kw_sum h2 h4 V hV
  have : (4 : Int) * W.sum * V.sum = (2 * W.sum) * (2 * V.sum) := by grind
  rw [this, ← e1, ← e2]
  unfold crossW
  generalize kw k W = f
  generalize kw k V = g
  rcases kcases h2 h4 with rfl | rfl | rfl
  · rw [order2, range2]
    simp
    grind
  · rw [order3, range3]
    simp
    grind
  · rw [order4, range4]
    simp
    grind
theorem cross_self (k : Nat) (W : List Int) : crossW k W W = anyW k W := by
  unfold crossW anyW
  refine List.map_congr_left fun x _ => ?_
  by_cases c : x.1 = x.2
  · rw [if_pos c, if_pos c]
  · rw [if_neg c, if_neg c]
    grind
theorem any_sum {k : Nat} (h2 : 2 ≤ k) (h4 : k ≤ 4) (W : List Int) (hW : W.length = (order k).length) : (anyW k W).sum = 4 * W.sum * W.sum := by
  rw [← cross_self, cross_sum h2 h4 W W hW hW]
theorem self_sum {k : Nat} (h2 : 2 ≤ k) (h4 : k ≤ 4) (W : List Int) (hW : W.length = (order k).length) : (selfW k W).sum = 4 * W.sum := by
  unfold selfW kw
  rcases kcases h2 h4 with rfl | rfl | rfl
  · rw [order2] at hW ⊢
    rw [range2]
    match W, hW with
    | [a, b, c], _ =>
      simp [wt, pl2]
      omega
  · rw [order3] at hW ⊢
    rw [range3]
    match W, hW with
    | [a, b, c, d, e, f], _ =>
      simp [wt, pl3]
      omega
  · rw [order4] at hW ⊢
    rw [range4]
    match W, hW with
    | [a, b, c, d, e, f, g, h, i, j], _ =>
      simp [wt, pl4]
      omega
end My

end
section
set_option maxRecDepth 100000
set_option linter.all false
namespace My
open Kqp1
theorem any_len (k : Nat) (W : List Int) : (anyW k W).length = (order k).length := by unfold anyW; rw [List.length_map]
theorem self_len (k : Nat) (W : List Int) : (selfW k W).length = (order k).length := by unfold selfW; rw [List.length_map]
theorem next_len (k : Nat) (W : List Int) (s : Int) : (nextW k W s).length = (order k).length := by
  unfold nextW
  rw [List.length_zipWith, any_len, self_len, Nat.min_self]
theorem range_zip {α : Type} (f : Int → Int → α) : ∀ (A B : List Int) (m : Nat), A.length = m → B.length = m → (List.range m).map (fun n => f (A.getD n 0) (B.getD n 0)) = List.zipWith f A B
  | [], [], 0, _, _ => rfl
  | a :: A, b :: B, m + 1, ha, hb => by
    rw [List.range_succ_eq_map, List.map_cons, List.map_map, List.zipWith_cons_cons, ← range_zip f A B m (by simpa using ha) (by simpa using hb)]
    rfl
  | [], _ :: _, _, ha, hb => by
    simp at ha hb
    omega
  | _ :: _, [], _, ha, hb => by
    simp at ha hb
    omega
noncomputable def dI (i : Nat) (y : Nat × Nat) : Int := if y.1 ≠ y.2 ∧ (y.1 = i ∨ y.2 = i) then 1 else 0
theorem self_kinds {k : Nat} (h2 : 2 ≤ k) (h4 : k ≤ 4) (W : List Int) {i : Nat} (hi : i < k) : 4 * wt k W i i + ((order k).map fun y => dI i y * wt k W y.1 y.2).sum = kw k W i + 2 * wt k W i i := by
  unfold kw
  rcases kcases h2 h4 with rfl | rfl | rfl
  · rw [order2, range2]
    have : i = 0 ∨ i = 1 := by omega
    rcases this with rfl | rfl <;> simp [dI, wt, pl2] <;> omega
  · rw [order3, range3]
    have : i = 0 ∨ i = 1 ∨ i = 2 := by omega
    rcases this with rfl | rfl | rfl <;> simp [dI, wt, pl3] <;> omega
  · rw [order4, range4]
    have : i = 0 ∨ i = 1 ∨ i = 2 ∨ i = 3 := by omega
    rcases this with rfl | rfl | rfl | rfl <;> simp [dI, wt, pl4] <;> omega
theorem self_rep {k : Nat} (h2 : 2 ≤ k) (h4 : k ≤ 4) (W : List Int) {T : Nat} (hT : 0 < T) :
    ((order k).map fun x => if x.1 = x.2 then add ((rep W T).getD (place k x.1 x.1) zero) (mul ⟨1, 4⟩ (total ((order k).map fun y => if y.1 ≠ y.2 ∧ (y.1 = x.1 ∨ y.2 = x.1) then (rep W T).getD (place k y.1 y.2) zero else zero)))
      else mul half ((rep W T).getD (place k x.1 x.2) zero)) = rep (selfW k W) (4 * T) := by
  show _ = ((order k).map _).map _
  rw [List.map_map]
  refine List.map_congr_left fun x hx => ?_
  obtain ⟨h, h', _⟩ := order_lt hx
  by_cases c : x.1 = x.2
  · have e : ((order k).map fun y => if y.1 ≠ y.2 ∧ (y.1 = x.1 ∨ y.2 = x.1) then (rep W T).getD (place k y.1 y.2) zero else zero) = (order k).map fun y => frac (dI x.1 y * wt k W y.1 y.2) T := by
      refine List.map_congr_left fun y _ => ?_
      unfold dI
      by_cases d : y.1 ≠ y.2 ∧ (y.1 = x.1 ∨ y.2 = x.1)
      · rw [if_pos d, if_pos d, rep_getD hT, Int.one_mul]
        rfl
      · rw [if_neg d, if_neg d, Int.zero_mul]
        exact (frac_zero hT).symm
    rw [if_pos c, e, total_frac _ hT, quarter_eq, rep_getD hT, mul_frac _ _ (by omega) hT, add_frac _ _ hT (Nat.mul_pos (by omega) hT)]
    show _ = frac (if x.1 = x.2 then kw k W x.1 + 2 * wt k W x.1 x.1 else 2 * wt k W x.1 x.2) (4 * T)
    rw [if_pos c, ← self_kinds h2 h4 W h]
    refine frac_eq (Nat.mul_pos hT (Nat.mul_pos (by omega) hT)) (Nat.mul_pos (by omega) hT) ?_
    unfold wt
    push_cast
    grind
  · rw [if_neg c, rep_getD hT, half_eq, mul_frac _ _ (by omega) hT]
    show _ = frac (if x.1 = x.2 then kw k W x.1 + 2 * wt k W x.1 x.1 else 2 * wt k W x.1 x.2) (4 * T)
    rw [if_neg c]
    refine frac_eq (Nat.mul_pos (by omega) hT) (Nat.mul_pos (by omega) hT) ?_
    unfold wt
    push_cast
    grind
theorem selfed_rep {k : Nat} (h2 : 2 ≤ k) (h4 : k ≤ 4) (W : List Int) {T : Nat} (hT : 0 < T) (hs : (T : Int) = W.sum) {s : Nat} (h100 : s ≤ 100) :
    selfed k s (rep W T) = rep (nextW k W s) (400 * T * T) := by
  unfold selfed
  rw [self_rep h2 h4 W hT, next_rep h2 h4 W hT]
  unfold nextW
  rw [← range_zip _ _ _ _ (self_len k W) (any_len k W)]
  show _ = ((List.range _).map _).map _
  rw [List.map_map]
  refine List.map_congr_left fun n _ => ?_
  have h4T : 0 < 4 * T := Nat.mul_pos (by omega) hT
  have h4TT : 0 < 4 * T * T := Nat.mul_pos h4T hT
  dsimp only [Function.comp]
  rw [rep_getD h4T, rep_getD h4TT, mul_frac _ _ (by omega) h4T, mul_frac _ _ (by omega) h4TT, add_frac _ _ (Nat.mul_pos (by omega) h4T) (Nat.mul_pos (by omega) h4TT)]
  refine frac_eq (Nat.mul_pos (Nat.mul_pos (by omega) h4T) (Nat.mul_pos (by omega) h4TT)) (Nat.mul_pos (Nat.mul_pos (by omega) hT) hT) ?_
  rw [← hs]
  have e : ((100 - s : Nat) : Int) = 100 - (s : Int) := by omega
  rw [e]
  generalize (selfW k W).getD n 0 = x
  generalize (anyW k W).getD n 0 = y
  push_cast
  grind
theorem sum_zip (f g : Int) : ∀ (A B : List Int), A.length = B.length → (List.zipWith (fun a b => f * a + g * b) A B).sum = f * A.sum + g * B.sum
  | [], [], _ => by simp
  | a :: A, b :: B, h => by
    rw [List.zipWith_cons_cons, List.sum_cons, List.sum_cons, List.sum_cons, sum_zip f g A B (by simpa using h)]
    grind
  | [], _ :: _, h => by simp at h
  | _ :: _, [], h => by simp at h
theorem nextW_sum {k : Nat} (h2 : 2 ≤ k) (h4 : k ≤ 4) (W : List Int) (hW : W.length = (order k).length) (s : Int) : (nextW k W s).sum = 400 * W.sum * W.sum := by
  unfold nextW
  rw [sum_zip (s * W.sum) (100 - s) _ _ (by rw [self_len, any_len]), any_sum h2 h4 W hW, self_sum h2 h4 W hW]
  grind
theorem after_rep {k : Nat} (h2 : 2 ≤ k) (h4 : k ≤ 4) {s : Nat} (h100 : s ≤ 100) : ∀ (n : Nat) (W : List Int) (T : Nat), W.length = (order k).length → 0 < T → (T : Int) = W.sum →
    ∃ T' : Nat, 0 < T' ∧ (T' : Int) = (laterW k s n W).sum ∧ (laterW k s n W).length = (order k).length ∧ after k s n (rep W T) = rep (laterW k s n W) T'
  | 0, W, T, hl, hT, hs => ⟨T, hT, hs, hl, rfl⟩
  | n + 1, W, T, hl, hT, hs => by
    have e := nextW_sum h2 h4 W hl s
    have := after_rep h2 h4 h100 n (nextW k W s) (400 * T * T) (next_len k W s) (Nat.mul_pos (Nat.mul_pos (by omega) hT) hT) (by rw [e, ← hs]; push_cast; rfl)
    show ∃ T' : Nat, _ ∧ _ ∧ _ ∧ after k s n (selfed k s (rep W T)) = _
    rw [selfed_rep h2 h4 W hT hs h100]
    exact this
/-! ## mixed, expected -/
theorem mixed_sum {k : Nat} (h2 : 2 ≤ k) (h4 : k ≤ 4) (W : List Int) (hW : W.length = (order k).length) : ((order k).map fun x => if x.1 = x.2 then 0 else wt k W x.1 x.2).sum = W.sum - alike k W := by
  unfold alike
  rcases kcases h2 h4 with rfl | rfl | rfl
  · rw [order2] at hW ⊢
    rw [range2]
    match W, hW with
    | [a, b, c], _ =>
      simp [wt, pl2]
      omega
  · rw [order3] at hW ⊢
    rw [range3]
    match W, hW with
    | [a, b, c, d, e, f], _ =>
      simp [wt, pl3]
      omega
  · rw [order4] at hW ⊢
    rw [range4]
    match W, hW with
    | [a, b, c, d, e, f, g, h, i, j], _ =>
      simp [wt, pl4]
      omega
theorem mixed_rep {k : Nat} (h2 : 2 ≤ k) (h4 : k ≤ 4) (W : List Int) (hW : W.length = (order k).length) {T : Nat} (hT : 0 < T) : mixed k (rep W T) = frac (W.sum - alike k W) T := by
  unfold mixed
  rw [← mixed_sum h2 h4 W hW, ← total_frac _ hT]
  congr 1
  refine List.map_congr_left fun x _ => ?_
  by_cases c : x.1 = x.2
  · rw [if_pos c, if_pos c]
    exact (frac_zero hT).symm
  · rw [if_neg c, if_neg c, rep_getD hT]
    rfl
theorem expected_rep {k : Nat} (h2 : 2 ≤ k) (h4 : k ≤ 4) (W : List Int) {T : Nat} (hT : 0 < T) : expected k (rep W T) = frac ((anyW k W).sum - alike k (anyW k W)) (4 * T * T) := by
  unfold expected
  rw [next_rep h2 h4 W hT, mixed_rep h2 h4 _ (any_len k W) (Nat.mul_pos (Nat.mul_pos (by omega) hT) hT)]
/-! ## a field -/
noncomputable def asInts (l : List Nat) : List Int := l.map fun (n : Nat) => (n : Int)
theorem ints_getD (l : List Nat) (n : Nat) : (asInts l).getD n 0 = (l.getD n 0 : Nat) := by
  unfold asInts
  rw [List.getD_eq_getElem?_getD, List.getD_eq_getElem?_getD, List.getElem?_map]
  cases l[n]? <;> rfl
theorem ints_sum : ∀ l : List Nat, (asInts l).sum = (l.foldr (fun a b => a + b) 0 : Nat)
  | [] => rfl
  | a :: l => by
    have ih := ints_sum l
    show ((a : Int) :: asInts l).sum = _
    rw [List.sum_cons, ih, List.foldr_cons, Int.natCast_add]
theorem size_eq (f : Field) : (size f : Int) = (asInts f.pairs).sum := (ints_sum f.pairs).symm
theorem many_eq (f : Field) (i j : Nat) : (many f i j : Int) = wt f.kinds (asInts f.pairs) i j := (ints_getD _ _).symm
theorem share_eq (f : Field) (i j : Nat) : share f i j = frac (wt f.kinds (asInts f.pairs) i j) (size f) := by
  unfold share
  rw [many_eq]
theorem place_nth {k : Nat} (h2 : 2 ≤ k) (h4 : k ≤ 4) : (order k).map (fun x => place k x.1 x.2) = List.range (order k).length := by
  rcases kcases h2 h4 with rfl | rfl | rfl <;> decide
theorem range_self {α : Type} (W : List Int) (f : Int → α) : (List.range W.length).map (fun n => f (W.getD n 0)) = W.map f := by
  refine List.ext_getElem? fun i => ?_
  rw [List.getElem?_map, List.getElem?_map]
  by_cases h : i < W.length
  · rw [List.getElem?_range h, List.getElem?_eq_getElem h]
    show some (f (W.getD i 0)) = some (f W[i])
    rw [List.getD_eq_getElem?_getD, List.getElem?_eq_getElem h]
    rfl
  · rw [List.getElem?_eq_none (by rw [List.length_range]; omega), List.getElem?_eq_none (by omega)]
    rfl
theorem now_rep {f : Field} (h2 : 2 ≤ f.kinds) (h4 : f.kinds ≤ 4) (hl : f.pairs.length = (order f.kinds).length) : now f = rep (asInts f.pairs) (size f) := by
  unfold now rep
  have e : (order f.kinds).map (fun x => share f x.1 x.2) = ((order f.kinds).map fun x => place f.kinds x.1 x.2).map fun n => frac ((asInts f.pairs).getD n 0) (size f) := by
    rw [List.map_map]
    refine List.map_congr_left fun x _ => ?_
    rw [share_eq]
    rfl
  rw [e, place_nth h2 h4, ← hl, show f.pairs.length = (asInts f.pairs).length by unfold asInts; rw [List.length_map]]
  exact range_self (asInts f.pairs) fun v => frac v (size f)
theorem foldr_cast (l : List Nat) : ((l.foldr (fun a b => a + b) 0 : Nat) : Int) = (l.map fun (n : Nat) => (n : Int)).sum := (ints_sum l).symm
theorem kind_eq {f : Field} (h2 : 2 ≤ f.kinds) (h4 : f.kinds ≤ 4) {i : Nat} (hi : i < f.kinds) : kind f i = frac (kw f.kinds (asInts f.pairs) i) (2 * size f) := by
  unfold kind
  rw [foldr_cast, List.map_map]
  congr 1
  unfold kw
  have e : ((fun n : Nat => (n : Int)) ∘ fun j => (if i = j then 2 else 1) * many f i j) = fun j => (if i = j then 2 else 1) * wt f.kinds (asInts f.pairs) i j := by
    funext j
    show (((if i = j then 2 else 1) * many f i j : Nat) : Int) = _
    rw [Int.natCast_mul, many_eq]
    by_cases c : i = j
    · rw [if_pos c, if_pos c]
      rfl
    · rw [if_neg c, if_neg c]
      rfl
  rw [e]
  generalize asInts f.pairs = W
  generalize f.kinds = k at *
  rcases kcases h2 h4 with rfl | rfl | rfl
  · rw [range2]
    have : i = 0 ∨ i = 1 := by omega
    rcases this with rfl | rfl <;> simp <;> omega
  · rw [range3]
    have : i = 0 ∨ i = 1 ∨ i = 2 := by omega
    rcases this with rfl | rfl | rfl <;> simp <;> omega
  · rw [range4]
    have : i = 0 ∨ i = 1 ∨ i = 2 ∨ i = 3 := by omega
    rcases this with rfl | rfl | rfl | rfl <;> simp <;> omega
theorem anyW_at {k : Nat} (h2 : 2 ≤ k) (h4 : k ≤ 4) (W : List Int) {i j : Nat} (hi : i < k) (hj : j < k) : wt k (anyW k W) i j = if i = j then kw k W i * kw k W i else 2 * kw k W i * kw k W j := by
  unfold wt anyW
  have key : ∀ x : Nat × Nat, (order k)[place k i j]? = some x → x = (min i j, max i j) := by
    have : ∀ k, k < 5 → 2 ≤ k → ∀ i, i < k → ∀ j, j < k → (order k).getD (place k i j) (0, 0) = (min i j, max i j) := by decide
    intro x hx
    have e := this k (by omega) h2 i hi j hj
    rw [List.getD_eq_getElem?_getD, hx] at e
    exact e
  have lt := place_lt h2 h4 hi hj
  rw [List.getD_eq_getElem?_getD, List.getElem?_map, List.getElem?_eq_getElem lt]
  have e := key _ (List.getElem?_eq_getElem lt)
  rw [e]
  show (if min i j = max i j then kw k W (min i j) * kw k W (min i j) else 2 * kw k W (min i j) * kw k W (max i j)) = _
  by_cases c : i = j
  · subst c
    rw [Nat.min_self, Nat.max_self, if_pos rfl]
  · rw [if_neg c, if_neg (by omega)]
    by_cases l : i ≤ j
    · rw [Nat.min_eq_left l, Nat.max_eq_right l]
    · rw [Nat.min_eq_right (by omega), Nat.max_eq_left (by omega)]
      grind
theorem next_call {f : Field} (h2 : 2 ≤ f.kinds) (h4 : f.kinds ≤ 4) {i j : Nat} (hi : i < f.kinds) (hj : j < f.kinds) (hT : 0 < size f) :
    squares (shares f) i j = frac (wt f.kinds (anyW f.kinds (asInts f.pairs)) i j) (4 * size f * size f) := by
  rw [anyW_at h2 h4 _ hi hj]
  refine squares_kinds _ hT (kw f.kinds (asInts f.pairs)) ?_ hi hj
  unfold shares
  exact List.map_congr_left fun n hn => kind_eq h2 h4 (List.mem_range.mp hn)
end My

end
section
set_option maxRecDepth 100000
set_option linter.all false
namespace My
open Kqp1
/-! ## at rest -/
theorem atRest_rep {k : Nat} (h2 : 2 ≤ k) (h4 : k ≤ 4) (W : List Int) {T : Nat} (hT : 0 < T) :
    atRest k (rep W T) = (List.range (order k).length).all fun n => W.getD n 0 * (4 * T) == (anyW k W).getD n 0 := by
  unfold atRest
  rw [next_rep h2 h4 W hT]
  have h4TT : 0 < 4 * T * T := Nat.mul_pos (Nat.mul_pos (by omega) hT) hT
  congr 1
  funext n
  rw [rep_getD hT, rep_getD h4TT, same_frac _ _ hT h4TT, Bool.eq_iff_iff, beq_iff_eq, beq_iff_eq]
  push_cast
  have hT' : (T : Int) ≠ 0 := by omega
  constructor
  · intro h
    refine Int.eq_of_mul_eq_mul_right hT' ?_
    rw [← h]
    grind
  · intro h
    rw [← h]
    grind
theorem kw_any {k : Nat} (h2 : 2 ≤ k) (h4 : k ≤ 4) (W : List Int) (hW : W.length = (order k).length) {i : Nat} (hi : i < k) : kw k (anyW k W) i = 4 * W.sum * kw k W i := by
  have e : ∀ j, j < k → wt k (anyW k W) i j = if i = j then kw k W i * kw k W i else 2 * kw k W i * kw k W j := fun j hj => anyW_at h2 h4 W hi hj
  have s : ((List.range k).map fun j => kw k W j).sum = 2 * W.sum := kw_sum h2 h4 W hW
  rw [kw, e i hi, if_pos rfl]
  have q : (4 : Int) * W.sum * kw k W i = 2 * (2 * W.sum) * kw k W i := by grind
  rw [q, ← s]
  generalize kw k W = g at *
  rcases kcases h2 h4 with rfl | rfl | rfl
  · have : i = 0 ∨ i = 1 := by omega
    have e0 := e 0 (by omega)
    have e1 := e 1 (by omega)
    rw [range2]
    rcases this with rfl | rfl <;> simp [e0, e1] <;> grind
  · have : i = 0 ∨ i = 1 ∨ i = 2 := by omega
    have e0 := e 0 (by omega)
    have e1 := e 1 (by omega)
    have e2 := e 2 (by omega)
    rw [range3]
    rcases this with rfl | rfl | rfl <;> simp [e0, e1, e2] <;> grind
  · have : i = 0 ∨ i = 1 ∨ i = 2 ∨ i = 3 := by omega
    have e0 := e 0 (by omega)
    have e1 := e 1 (by omega)
    have e2 := e 2 (by omega)
    have e3 := e 3 (by omega)
    rw [range4]
    rcases this with rfl | rfl | rfl | rfl <;> simp [e0, e1, e2, e3] <;> grind
theorem any_any {k : Nat} (h2 : 2 ≤ k) (h4 : k ≤ 4) (W : List Int) (hW : W.length = (order k).length) : anyW k (anyW k W) = (anyW k W).map fun v => 16 * W.sum * W.sum * v := by
  show (order k).map _ = ((order k).map _).map _
  rw [List.map_map]
  refine List.map_congr_left fun x hx => ?_
  obtain ⟨h, h', _⟩ := order_lt hx
  dsimp only [Function.comp]
  rw [kw_any h2 h4 W hW h, kw_any h2 h4 W hW h']
  by_cases c : x.1 = x.2
  · rw [if_pos c, if_pos c]
    grind
  · rw [if_neg c, if_neg c]
    grind
/-- after one generation all rests -/
theorem rest_next {k : Nat} (h2 : 2 ≤ k) (h4 : k ≤ 4) (W : List Int) (hW : W.length = (order k).length) {T : Nat} (hT : 0 < T) (hs : (T : Int) = W.sum) : atRest k (next k (rep W T)) = true := by
  rw [next_rep h2 h4 W hT, atRest_rep h2 h4 _ (Nat.mul_pos (Nat.mul_pos (by omega) hT) hT), any_any h2 h4 W hW, List.all_eq_true]
  intro n _
  rw [beq_iff_eq, List.getD_eq_getElem?_getD, List.getD_eq_getElem?_getD, List.getElem?_map, ← hs]
  cases (anyW k W)[n]? with
  | none => simp
  | some v =>
    show v * (4 * ((4 * T * T : Nat) : Int)) = 16 * (T : Int) * T * v
    push_cast
    grind
/-! ## together, cross -/
theorem zip_range (A B : List Nat) (m : Nat) (ha : A.length = m) (hb : B.length = m) : (List.range m).map (fun n => A.getD n 0 + B.getD n 0) = List.zipWith (fun a b => a + b) A B := by
  refine List.ext_getElem? fun i => ?_
  rw [List.getElem?_map, List.getElem?_zipWith]
  by_cases h : i < m
  · rw [List.getElem?_range h]
    show some (A.getD i 0 + B.getD i 0) = _
    rw [List.getD_eq_getElem?_getD, List.getD_eq_getElem?_getD, List.getElem?_eq_getElem (show i < A.length by omega), List.getElem?_eq_getElem (show i < B.length by omega)]
    rfl
  · rw [List.getElem?_eq_none (by rw [List.length_range]; omega), List.getElem?_eq_none (show A.length ≤ i by omega)]
    rfl
theorem cross_rep {f g : Field} (e : f.kinds = g.kinds) (h2 : 2 ≤ f.kinds) (h4 : f.kinds ≤ 4) (hf : 0 < size f) (hg : 0 < size g) :
    cross f g = rep ((order f.kinds).map fun x => if x.1 = x.2 then kw f.kinds (asInts f.pairs) x.1 * kw f.kinds (asInts g.pairs) x.1 else kw f.kinds (asInts f.pairs) x.1 * kw f.kinds (asInts g.pairs) x.2 + kw f.kinds (asInts f.pairs) x.2 * kw f.kinds (asInts g.pairs) x.1) (4 * size f * size g) := by
  unfold cross
  show _ = ((order f.kinds).map _).map _
  rw [List.map_map]
  refine List.map_congr_left fun x hx => ?_
  obtain ⟨h, h', _⟩ := order_lt hx
  have hpf : 0 < 2 * size f := by omega
  have hpg : 0 < 2 * size g := by omega
  have a1 := kind_eq h2 h4 h
  have a2 := kind_eq h2 h4 h'
  have b1 := kind_eq (f := g) (by omega) (by omega) (show x.1 < g.kinds by omega)
  have b2 := kind_eq (f := g) (by omega) (by omega) (show x.2 < g.kinds by omega)
  rw [← e] at b1 b2
  dsimp only [Function.comp]
  by_cases c : x.1 = x.2
  · rw [if_pos c, if_pos c, a1, b1, mul_frac _ _ hpf hpg]
    refine frac_eq (Nat.mul_pos hpf hpg) (Nat.mul_pos (Nat.mul_pos (by omega) hf) hg) ?_
    push_cast
    grind
  · rw [if_neg c, if_neg c, a1, b1, a2, b2, mul_frac _ _ hpf hpg, mul_frac _ _ hpf hpg, add_frac _ _ (Nat.mul_pos hpf hpg) (Nat.mul_pos hpf hpg)]
    refine frac_eq (Nat.mul_pos (Nat.mul_pos hpf hpg) (Nat.mul_pos hpf hpg)) (Nat.mul_pos (Nat.mul_pos (by omega) hf) hg) ?_
    push_cast
    grind
/-! ## half -/
theorem kept_eq {s : Nat} (hs : s ≤ 100) : ∀ n : Nat, kept s n = frac (((200 - s : Nat) : Int) ^ n) (200 ^ n)
  | 0 => one_eq
  | n + 1 => by
    show mul (frac (200 - s : Nat) 200) (kept s n) = _
    rw [kept_eq hs n, mul_frac _ _ (by omega) (Nat.pow_pos (by omega)), Int.pow_succ, Nat.pow_succ, Int.mul_comm, Nat.mul_comm]
/-! ## the greatest common divisor, by the program's loop -/
theorem gcd_turn (a b : Int) (hb : 0 < b) : Int.gcd b (a % b) = Int.gcd a b := by
  rw [Int.emod_def, Int.gcd_sub_mul_left_right, Int.gcd_comm]
/-- what fraction answers -/
theorem frac_gcd (a : Int) {b : Int} (hb : 0 < b) : ((frac a b.toNat).num = a / (Int.gcd a b : Int)) ∧ (((frac a b.toNat).den : Int) = b / (Int.gcd a b : Int)) := by
  have hg : Nat.gcd a.natAbs b.toNat ≠ 0 := by
    intro h
    have := Nat.eq_zero_of_gcd_eq_zero_right h
    omega
  have e : Int.gcd a b = Nat.gcd a.natAbs b.toNat := by
    rw [Int.gcd_eq_natAbs_gcd_natAbs]
    congr 1
    omega
  rw [e]
  unfold frac
  rw [if_neg hg]
  refine ⟨rfl, ?_⟩
  show ((b.toNat / Nat.gcd a.natAbs b.toNat : Nat) : Int) = _
  rw [Int.natCast_ediv]
  congr 1
  omega
theorem gcd_le {a b : Int} (hb : 0 < b) : 0 < (Int.gcd a b : Int) ∧ (Int.gcd a b : Int) ≤ b := by
  have h := Int.gcd_dvd_right (a := a) (b := b)
  have h1 := Int.le_of_dvd hb h
  have : Int.gcd a b ≠ 0 := fun z => by
    rw [Int.gcd_eq_zero_iff] at z
    omega
  omega
end My

end
section
set_option maxRecDepth 100000
set_option linter.all false
namespace My
open Kqp1
noncomputable def NN (W : List Int) : Prop := ∀ v ∈ W, 0 ≤ v
theorem NN.getD {W : List Int} (h : NN W) (n : Nat) : 0 ≤ W.getD n 0 := by
  rw [List.getD_eq_getElem?_getD]
  cases e : W[n]? with
  | none => exact Int.le_refl _
  | some v => exact h v (List.mem_of_getElem? e)
theorem NN.sum : ∀ {W : List Int}, NN W → 0 ≤ W.sum
  | [], _ => Int.le_refl _
  | a :: W, h => by
    rw [List.sum_cons]
    have := NN.sum (W := W) fun v hv => h v (List.mem_cons_of_mem _ hv)
    have := h a List.mem_cons_self
    omega
theorem NN.le_sum : ∀ {W : List Int}, NN W → ∀ v ∈ W, v ≤ W.sum
  | a :: W, h, v, hv => by
    rw [List.sum_cons]
    have h1 := NN.sum (W := W) fun v hv => h v (List.mem_cons_of_mem _ hv)
    have h0 := h a List.mem_cons_self
    rcases List.mem_cons.mp hv with rfl | hv
    · omega
    · have := NN.le_sum (W := W) (fun v hv => h v (List.mem_cons_of_mem _ hv)) v hv
      omega
theorem NN.getD_le {W : List Int} (h : NN W) (n : Nat) : W.getD n 0 ≤ W.sum := by
  rw [List.getD_eq_getElem?_getD]
  cases e : W[n]? with
  | none => exact h.sum
  | some v => exact h.le_sum v (List.mem_of_getElem? e)
theorem NN.wt {k : Nat} {W : List Int} (h : NN W) (i j : Nat) : 0 ≤ wt k W i j := h.getD _
theorem NN.kw {k : Nat} {W : List Int} (h : NN W) (i : Nat) : 0 ≤ kw k W i := by
  unfold My.kw
  have a := NN.wt (k := k) h i i
  have b : NN ((List.range k).map fun j => My.wt k W i j) := fun v hv => by
    obtain ⟨j, _, rfl⟩ := List.mem_map.mp hv
    exact h.wt i j
  have := b.sum
  omega
theorem NN.any {k : Nat} {W : List Int} (h : NN W) : NN (anyW k W) := fun v hv => by
  obtain ⟨x, _, rfl⟩ := List.mem_map.mp hv
  have a := NN.kw (k := k) h x.1
  have b := NN.kw (k := k) h x.2
  split
  · exact Int.mul_nonneg a a
  · exact Int.mul_nonneg (Int.mul_nonneg (by omega) a) b
theorem NN.self {k : Nat} {W : List Int} (h : NN W) : NN (selfW k W) := fun v hv => by
  obtain ⟨x, _, rfl⟩ := List.mem_map.mp hv
  have a := NN.kw (k := k) h x.1
  have b := NN.wt (k := k) h x.1 x.1
  have c := NN.wt (k := k) h x.1 x.2
  split <;> omega
theorem zip_mem {α : Type} {f : Int → Int → α} : ∀ {A B : List Int} {v : α}, v ∈ List.zipWith f A B → ∃ a ∈ A, ∃ b ∈ B, v = f a b
  | a :: A, b :: B, v, h => by
    rw [List.zipWith_cons_cons] at h
    rcases List.mem_cons.mp h with rfl | h
    · exact ⟨a, List.mem_cons_self, b, List.mem_cons_self, rfl⟩
    · obtain ⟨x, hx, y, hy, e⟩ := zip_mem h
      exact ⟨x, List.mem_cons_of_mem _ hx, y, List.mem_cons_of_mem _ hy, e⟩
  | [], _, v, h => by simp at h
  | _ :: _, [], v, h => by simp at h
theorem NN.next {k : Nat} {W : List Int} (h : NN W) {s : Int} (h0 : 0 ≤ s) (h1 : s ≤ 100) : NN (nextW k W s) := fun v hv => by
  obtain ⟨a, ha, b, hb, rfl⟩ := zip_mem hv
  have := h.self a ha
  have := h.any b hb
  have := h.sum
  exact Int.add_nonneg (Int.mul_nonneg (Int.mul_nonneg h0 this) (by assumption)) (Int.mul_nonneg (by omega) (by assumption))
theorem NN.later {k : Nat} {s : Int} (h0 : 0 ≤ s) (h1 : s ≤ 100) : ∀ (n : Nat) {W : List Int}, NN W → NN (laterW k s n W)
  | 0, _, h => h
  | n + 1, _, h => NN.later h0 h1 n (h.next h0 h1)
theorem NN.asInts (l : List Nat) : NN (asInts l) := fun v hv => by
  obtain ⟨n, _, rfl⟩ := List.mem_map.mp hv
  exact Int.natCast_nonneg n
theorem later_succ (k : Nat) (s : Int) : ∀ (n : Nat) (W : List Int), laterW k s (n + 1) W = nextW k (laterW k s n W) s
  | 0, _ => rfl
  | n + 1, W => by
    show laterW k s (n + 1) (nextW k W s) = nextW k (laterW k s n (nextW k W s)) s
    exact later_succ k s n (nextW k W s)
theorem later_len (k : Nat) (s : Int) : ∀ (n : Nat) {W : List Int}, W.length = (order k).length → (laterW k s n W).length = (order k).length
  | 0, _, h => h
  | n + 1, W, _ => later_len k s n (next_len k W s)
/-- the sums grow, but not without end -/
theorem later_sum {k : Nat} (h2 : 2 ≤ k) (h4 : k ≤ 4) {s : Int} (h0 : 0 ≤ s) (h1 : s ≤ 100) {W : List Int} (hW : W.length = (order k).length) (hn : NN W) (hs : W.sum ≤ 1000) : ∀ n, n ≤ 3 → (laterW k s n W).sum < 2 ^ 150 := by
  have st : ∀ n, (laterW k s (n + 1) W).sum = 400 * (laterW k s n W).sum * (laterW k s n W).sum := fun n => by
    rw [later_succ, nextW_sum h2 h4 _ (later_len k s n hW)]
  have up : ∀ n (B : Int), (laterW k s n W).sum ≤ B → (laterW k s (n + 1) W).sum ≤ 400 * B * B := fun n B hb => by
    rw [st n]
    have := (hn.later (k := k) h0 h1 n).sum
    exact Int.mul_le_mul (by omega) hb (by omega) (by omega)
  have s0 : (laterW k s 0 W).sum ≤ 1000 := hs
  have s1 := up 0 _ s0
  have s2 := up 1 _ s1
  have s3 := up 2 _ s2
  intro n hn3
  have : n = 0 ∨ n = 1 ∨ n = 2 ∨ n = 3 := by omega
  rcases this with rfl | rfl | rfl | rfl
  · exact Int.lt_of_le_of_lt s0 (by decide)
  · exact Int.lt_of_le_of_lt s1 (by decide)
  · exact Int.lt_of_le_of_lt s2 (by decide)
  · exact Int.lt_of_le_of_lt s3 (by decide)
theorem sum_le_100 : ∀ (l : List Nat), (∀ n ∈ l, n ≤ 100) → (asInts l).sum ≤ 100 * (l.length : Int)
  | [], _ => by simp [asInts]
  | a :: l, h => by
    have ih := sum_le_100 l fun n hn => h n (List.mem_cons_of_mem _ hn)
    have h0 := h a List.mem_cons_self
    show ((a : Int) :: asInts l).sum ≤ _
    rw [List.sum_cons, List.length_cons]
    omega
end My

end
section
set_option maxRecDepth 100000
set_option linter.all false
namespace My
open Kqp1
/-! ## calls, told as one list -/
noncomputable def counts : List Int := [1, 0, 4, 4, 3, 2, 3, 5, 1, 1, 1, 1, 2, 2, 4, 2, 1, 1, 2, 0]
/-- a call as the program meets it: its number, what it tells -/
structure OneCall (c : List (List Int)) (p : Nat) (told : List Int) : Prop where
  lt : p < 20
  form : (p = 1 ∧ c = [[1], told]) ∨ (p ≠ 1 ∧ c = [(p : Int) :: told] ∧ counts[p]? = some (told.length : Int))
theorem one_call {c : List (List Int)} (h : PyFlat.okCall PyKqp1.shape c) : ∃ p told, OneCall c p told := by
  obtain ⟨p, a, xs, rfl, e⟩ := h
  unfold PyKqp1.shape at e
  have fin : ∀ (n : Nat) (z : n < 20) (hp : p = (n : Int)) (h1 : n ≠ 1) (m : Nat), counts[n]? = some (m : Int) → some (m, 0) = some (a.length, xs.length) → ∃ p' told, OneCall ((p :: a) :: xs) p' told := by
    intro n z hp h1 m hc he
    have e1 : m = a.length := congrArg (fun q : Nat × Nat => q.1) (Option.some.inj he)
    have e2 : 0 = xs.length := congrArg (fun q : Nat × Nat => q.2) (Option.some.inj he)
    have e3 : xs = [] := List.eq_nil_of_length_eq_zero e2.symm
    subst e3
    subst hp
    exact ⟨n, a, z, .inr ⟨h1, rfl, by rw [hc, e1]⟩⟩
  by_cases c0 : p = 0
  · rw [if_pos c0] at e; exact fin 0 (by omega) c0 (by omega) 1 rfl e
  rw [if_neg c0] at e
  by_cases c1 : p = 1
  · rw [if_pos c1] at e
    have e1 : 0 = a.length := congrArg (fun q : Nat × Nat => q.1) (Option.some.inj e)
    have e2 : 1 = xs.length := congrArg (fun q : Nat × Nat => q.2) (Option.some.inj e)
    have e3 : a = [] := List.eq_nil_of_length_eq_zero e1.symm
    subst e3
    match xs, e2 with
    | [r], _ =>
      subst c1
      exact ⟨1, r, by omega, .inl ⟨rfl, rfl⟩⟩
  rw [if_neg c1] at e
  by_cases c2 : p = 2
  · rw [if_pos c2] at e; exact fin 2 (by omega) c2 (by omega) 4 rfl e
  rw [if_neg c2] at e
  by_cases c3 : p = 3
  · rw [if_pos c3] at e; exact fin 3 (by omega) c3 (by omega) 4 rfl e
  rw [if_neg c3] at e
  by_cases c4 : p = 4
  · rw [if_pos c4] at e; exact fin 4 (by omega) c4 (by omega) 3 rfl e
  rw [if_neg c4] at e
  by_cases c5 : p = 5
  · rw [if_pos c5] at e; exact fin 5 (by omega) c5 (by omega) 2 rfl e
  rw [if_neg c5] at e
  by_cases c6 : p = 6
  · rw [if_pos c6] at e; exact fin 6 (by omega) c6 (by omega) 3 rfl e
  rw [if_neg c6] at e
  by_cases c7 : p = 7
  · rw [if_pos c7] at e; exact fin 7 (by omega) c7 (by omega) 5 rfl e
  rw [if_neg c7] at e
  by_cases c8 : p = 8
  · rw [if_pos c8] at e; exact fin 8 (by omega) c8 (by omega) 1 rfl e
  rw [if_neg c8] at e
  by_cases c9 : p = 9
  · rw [if_pos c9] at e; exact fin 9 (by omega) c9 (by omega) 1 rfl e
  rw [if_neg c9] at e
  by_cases c10 : p = 10
  · rw [if_pos c10] at e; exact fin 10 (by omega) c10 (by omega) 1 rfl e
  rw [if_neg c10] at e
  by_cases c11 : p = 11
  · rw [if_pos c11] at e; exact fin 11 (by omega) c11 (by omega) 1 rfl e
  rw [if_neg c11] at e
  by_cases c12 : p = 12
  · rw [if_pos c12] at e; exact fin 12 (by omega) c12 (by omega) 2 rfl e
  rw [if_neg c12] at e
  by_cases c13 : p = 13
  · rw [if_pos c13] at e; exact fin 13 (by omega) c13 (by omega) 2 rfl e
  rw [if_neg c13] at e
  by_cases c14 : p = 14
  · rw [if_pos c14] at e; exact fin 14 (by omega) c14 (by omega) 4 rfl e
  rw [if_neg c14] at e
  by_cases c15 : p = 15
  · rw [if_pos c15] at e; exact fin 15 (by omega) c15 (by omega) 2 rfl e
  rw [if_neg c15] at e
  by_cases c16 : p = 16
  · rw [if_pos c16] at e; exact fin 16 (by omega) c16 (by omega) 1 rfl e
  rw [if_neg c16] at e
  by_cases c17 : p = 17
  · rw [if_pos c17] at e; exact fin 17 (by omega) c17 (by omega) 1 rfl e
  rw [if_neg c17] at e
  by_cases c18 : p = 18
  · rw [if_pos c18] at e; exact fin 18 (by omega) c18 (by omega) 2 rfl e
  rw [if_neg c18] at e
  by_cases c19 : p = 19
  · rw [if_pos c19] at e; exact fin 19 (by omega) c19 (by omega) 0 rfl e
  rw [if_neg c19] at e
  cases e
/-! ### lists of a length -/
section
variable {α : Type} {l : List α}
theorem ln0 (h : l.length = 0) : l = [] := List.eq_nil_of_length_eq_zero h
theorem ln1 (h : l.length = 1) : ∃ a, l = [a] := by
  cases l with
  | nil => cases h
  | cons a l => exact ⟨a, by rw [ln0 (Nat.succ.inj h)]⟩
theorem ln2 (h : l.length = 2) : ∃ a b, l = [a, b] := by
  cases l with
  | nil => cases h
  | cons a l =>
    obtain ⟨b, e⟩ := ln1 (Nat.succ.inj h)
    exact ⟨a, b, by rw [e]⟩
theorem ln3 (h : l.length = 3) : ∃ a b c, l = [a, b, c] := by
  cases l with
  | nil => cases h
  | cons a l =>
    obtain ⟨b, c, e⟩ := ln2 (Nat.succ.inj h)
    exact ⟨a, b, c, by rw [e]⟩
theorem ln4 (h : l.length = 4) : ∃ a b c d, l = [a, b, c, d] := by
  cases l with
  | nil => cases h
  | cons a l =>
    obtain ⟨b, c, d, e⟩ := ln3 (Nat.succ.inj h)
    exact ⟨a, b, c, d, by rw [e]⟩
theorem ln5 (h : l.length = 5) : ∃ a b c d f, l = [a, b, c, d, f] := by
  cases l with
  | nil => cases h
  | cons a l =>
    obtain ⟨b, c, d, f, e⟩ := ln4 (Nat.succ.inj h)
    exact ⟨a, b, c, d, f, by rw [e]⟩
end
theorem c20 : ∀ p : Nat, p < 20 → p = 0 ∨ p = 1 ∨ p = 2 ∨ p = 3 ∨ p = 4 ∨ p = 5 ∨ p = 6 ∨ p = 7 ∨ p = 8 ∨ p = 9 ∨ p = 10 ∨ p = 11 ∨ p = 12 ∨ p = 13 ∨ p = 14 ∨ p = 15 ∨ p = 16 ∨ p = 17 ∨ p = 18 ∨ p = 19 := by decide
/-- of a number below twenty it is enough to look at each -/
theorem below20 (P : Nat → Prop) (h0 : P 0) (h1 : P 1) (h2 : P 2) (h3 : P 3) (h4 : P 4) (h5 : P 5) (h6 : P 6) (h7 : P 7) (h8 : P 8) (h9 : P 9) (h10 : P 10) (h11 : P 11) (h12 : P 12) (h13 : P 13) (h14 : P 14) (h15 : P 15) (h16 : P 16) (h17 : P 17) (h18 : P 18) (h19 : P 19) {p : Nat} (h : p < 20) : P p := by
  rcases c20 p h with e | e | e | e | e | e | e | e | e | e | e | e | e | e | e | e | e | e | e | e <;> (rw [e]; assumption)
/-- what tells n numbers -/
theorem of_count {n m : Nat} {P : Prop} (e : some (n : Int) = some (m : Int)) (h : m = n → P) : P := h (Int.ofNat.inj (Option.some.inj e)).symm
theorem whole_one {c : List (List Int)} {p : Nat} {told : List Int} (h : OneCall c p told) : PyKqp1.whole c = c := by
  rcases h.form with ⟨_, rfl⟩ | ⟨h1, rfl, h2⟩
  · rfl
  · revert h1 h2
    refine below20 (fun p => p ≠ 1 → counts[p]? = some (told.length : Int) → PyKqp1.whole [(p : Int) :: told] = [(p : Int) :: told]) ?_ ?_ ?_ ?_ ?_ ?_ ?_ ?_ ?_ ?_ ?_ ?_ ?_ ?_ ?_ ?_ ?_ ?_ ?_ ?_ h.lt
    · exact fun _ h => of_count (n := 1) h fun e => by obtain ⟨a, rfl⟩ := ln1 e; rfl
    · exact fun h => absurd rfl h
    · exact fun _ h => of_count (n := 4) h fun e => by obtain ⟨a, b, c, d, rfl⟩ := ln4 e; rfl
    · exact fun _ h => of_count (n := 4) h fun e => by obtain ⟨a, b, c, d, rfl⟩ := ln4 e; rfl
    · exact fun _ h => of_count (n := 3) h fun e => by obtain ⟨a, b, c, rfl⟩ := ln3 e; rfl
    · exact fun _ h => of_count (n := 2) h fun e => by obtain ⟨a, b, rfl⟩ := ln2 e; rfl
    · exact fun _ h => of_count (n := 3) h fun e => by obtain ⟨a, b, c, rfl⟩ := ln3 e; rfl
    · exact fun _ h => of_count (n := 5) h fun e => by obtain ⟨a, b, c, d, f, rfl⟩ := ln5 e; rfl
    · exact fun _ h => of_count (n := 1) h fun e => by obtain ⟨a, rfl⟩ := ln1 e; rfl
    · exact fun _ h => of_count (n := 1) h fun e => by obtain ⟨a, rfl⟩ := ln1 e; rfl
    · exact fun _ h => of_count (n := 1) h fun e => by obtain ⟨a, rfl⟩ := ln1 e; rfl
    · exact fun _ h => of_count (n := 1) h fun e => by obtain ⟨a, rfl⟩ := ln1 e; rfl
    · exact fun _ h => of_count (n := 2) h fun e => by obtain ⟨a, b, rfl⟩ := ln2 e; rfl
    · exact fun _ h => of_count (n := 2) h fun e => by obtain ⟨a, b, rfl⟩ := ln2 e; rfl
    · exact fun _ h => of_count (n := 4) h fun e => by obtain ⟨a, b, c, d, rfl⟩ := ln4 e; rfl
    · exact fun _ h => of_count (n := 2) h fun e => by obtain ⟨a, b, rfl⟩ := ln2 e; rfl
    · exact fun _ h => of_count (n := 1) h fun e => by obtain ⟨a, rfl⟩ := ln1 e; rfl
    · exact fun _ h => of_count (n := 1) h fun e => by obtain ⟨a, rfl⟩ := ln1 e; rfl
    · exact fun _ h => of_count (n := 2) h fun e => by obtain ⟨a, b, rfl⟩ := ln2 e; rfl
    · exact fun _ h => of_count (n := 0) h fun e => by rw [ln0 e]; rfl
theorem map_whole : ∀ cs : List (List (List Int)), (∀ c ∈ cs, ∃ p told, OneCall c p told) → cs.map PyKqp1.whole = cs
  | [], _ => rfl
  | c :: cs, h => by
    obtain ⟨p, told, h1⟩ := h c List.mem_cons_self
    rw [List.map_cons, whole_one h1, map_whole cs fun c hc => h c (List.mem_cons_of_mem _ hc)]
/-- what is asked of a list -/
structure Asked (l : List Int) (raw : List (List (List Int))) : Prop where
  is : l = PyFlat.put raw
  ok : ∀ c ∈ raw, ∃ p told, OneCall c p told
  few : raw.length ≤ 200
  ans : PyKqp1.answers l = PyFlat.told (PyFlat.played Kqp1Neutral.step Kqp1Neutral.start raw)
theorem asked_raw {l : List Int} (h : PyKqp1.answers_asked l = true) : ∃ raw, Asked l raw := by
  unfold PyKqp1.answers_asked at h
  cases e : PyFlat.calls PyKqp1.shape l.length l with
  | none => rw [e] at h; cases h
  | some raw =>
    rw [e] at h
    simp only [Bool.and_eq_true] at h
    obtain ⟨⟨⟨⟨_, h200⟩, _⟩, _⟩, _⟩ := h
    obtain ⟨e1, e2⟩ := PyFlat.put_calls _ _ _ e
    refine ⟨raw, e1, fun c hc => one_call (e2 c hc), of_decide_eq_true h200, ?_⟩
    unfold PyKqp1.answers PyKqp1.calls
    rw [e]
    show PyFlat.told (PyFlat.played _ _ (raw.map PyKqp1.whole)) = _
    rw [map_whole raw fun c hc => one_call (e2 c hc)]
/-! ### lists -/
theorem cut_mid {α : Type} (pre a post : List α) : ((pre ++ (a ++ post)).drop pre.length).take a.length = a := by
  rw [List.drop_left, List.take_left]
theorem told_snoc (l : List (List Int)) (a : List Int) : PyFlat.told (l ++ [a]) = PyFlat.told l ++ ((a.length : Int) :: a) := by
  unfold PyFlat.told
  rw [List.flatMap_append]
  simp
theorem put_append : ∀ a b : List (List (List Int)), PyFlat.put (a ++ b) = PyFlat.put a ++ PyFlat.put b
  | [], b => rfl
  | c :: a, b => by
    show PyFlat.put1 c ++ PyFlat.put (a ++ b) = (PyFlat.put1 c ++ PyFlat.put a) ++ PyFlat.put b
    rw [put_append a b, List.append_assoc]
theorem put1_of {c : List (List Int)} {p : Nat} {told : List Int} (h : OneCall c p told) : PyFlat.put1 c = (p : Int) :: ((if p = 1 then [(told.length : Int)] else []) ++ told) := by
  rcases h.form with ⟨rfl, rfl⟩ | ⟨h1, rfl, _⟩
  · rw [if_pos rfl]
    show ([1] : List Int) ++ ((told.length : Int) :: told ++ []) = _
    simp
  · rw [if_neg h1]
    show ((p : Int) :: told) ++ [] = _
    simp
/-! ### a machine played -/
noncomputable def stateAfter {S : Type} (step : S → List (List Int) → S × List Int) : S → List (List (List Int)) → S
  | s, [] => s
  | s, c :: r => stateAfter step (step s c).1 r
theorem state_snoc {S : Type} (step : S → List (List Int) → S × List Int) : ∀ (l : List (List (List Int))) (s : S) (c : List (List Int)), stateAfter step s (l ++ [c]) = (step (stateAfter step s l) c).1
  | [], _, _ => rfl
  | d :: l, s, c => state_snoc step l (step s d).1 c
theorem played_snoc {S : Type} (step : S → List (List Int) → S × List Int) : ∀ (l : List (List (List Int))) (s : S) (c : List (List Int)), PyFlat.played step s (l ++ [c]) = PyFlat.played step s l ++ [(step (stateAfter step s l) c).2]
  | [], _, _ => rfl
  | d :: l, s, c => by
    show (step s d).2 :: PyFlat.played step (step s d).1 (l ++ [c]) = (step s d).2 :: PyFlat.played step (step s d).1 l ++ [_]
    rw [played_snoc step l (step s d).1 c]
    rfl
end My

end
section
set_option maxRecDepth 100000
set_option linter.all false
namespace My
open Kqp1
theorem kw_le {k : Nat} (h2 : 2 ≤ k) (h4 : k ≤ 4) {W : List Int} (hW : W.length = (order k).length) (hn : NN W) {i : Nat} (hi : i < k) : kw k W i ≤ 2 * W.sum := by
  rw [← kw_sum h2 h4 W hW]
  have : NN ((List.range k).map fun j => kw k W j) := fun v hv => by
    obtain ⟨j, _, rfl⟩ := List.mem_map.mp hv
    exact hn.kw j
  exact this.le_sum _ (List.mem_map.mpr ⟨i, List.mem_range.mpr hi, rfl⟩)
theorem wt_le {k : Nat} {W : List Int} (hn : NN W) (i j : Nat) : wt k W i j ≤ W.sum := hn.getD_le _
/-- a row of the program's double loop -/
noncomputable def row (k : Nat) (dg : Nat → Int) (of : Nat → Nat → Int) (i : Nat) : List Int := dg i :: (List.range (k - (i + 1))).map fun j => of i (i + 1 + j)
theorem row_eq {k : Nat} (dg : Nat → Int) (of : Nat → Nat → Int) {i : Nat} (h : i < k) : row k dg of i = (List.range (k - i)).map fun j => if i = i + j then dg i else of i (i + j) := by
  unfold row
  have e : k - i = (k - (i + 1)) + 1 := by omega
  rw [e, List.range_succ_eq_map, List.map_cons, List.map_map, if_pos (by omega)]
  congr 1
  refine List.map_congr_left fun j _ => ?_
  show of i (i + 1 + j) = if i = i + (j + 1) then dg i else of i (i + (j + 1))
  rw [if_neg (by omega)]
  congr 1
  omega
theorem rows_all (k : Nat) (dg : Nat → Int) (of : Nat → Nat → Int) : (List.range k).flatMap (row k dg of) = (order k).map fun x => if x.1 = x.2 then dg x.1 else of x.1 x.2 := by
  unfold order
  rw [List.map_flatMap]
  rw [List.flatMap_def, List.flatMap_def]
  congr 1
  refine List.map_congr_left fun i hi => ?_
  rw [row_eq dg of (List.mem_range.mp hi), List.map_map]
  rfl
theorem any_rows (k : Nat) (W : List Int) : (List.range k).flatMap (row k (fun i => kw k W i * kw k W i) fun i j => 2 * kw k W i * kw k W j) = anyW k W := rows_all k _ _
theorem self_rows (k : Nat) (W : List Int) : (List.range k).flatMap (row k (fun i => kw k W i + 2 * wt k W i i) fun i j => 2 * wt k W i j) = selfW k W := rows_all k _ _
theorem flat_snoc {α : Type} (f : Nat → List α) (i : Nat) : (List.range i).flatMap f ++ f i = (List.range (i + 1)).flatMap f := by
  rw [List.range_succ, List.flatMap_append]
  simp
theorem flat_len {k : Nat} (dg : Nat → Int) (of : Nat → Nat → Int) : ∀ i : Nat, ((List.range i).flatMap (row k dg of)).length ≤ i * (k + 1)
  | 0 => by simp
  | i + 1 => by
    rw [← flat_snoc, List.length_append]
    have := flat_len (k := k) dg of i
    have : (row k dg of i).length ≤ k + 1 := by
      unfold row
      rw [List.length_cons, List.length_map, List.length_range]
      omega
    rw [Nat.add_mul]
    omega
end My

end
section
set_option maxRecDepth 100000
set_option linter.all false
namespace My
open Kqp1
theorem later_sum2 {k : Nat} (h2 : 2 ≤ k) (h4 : k ≤ 4) {s : Int} (h0 : 0 ≤ s) (h1 : s ≤ 100) {W : List Int} (hW : W.length = (order k).length) (hn : NN W) (hs : W.sum ≤ 1000) : ∀ n, n ≤ 2 → (laterW k s n W).sum < 2 ^ 100 := by
  have st : ∀ n, (laterW k s (n + 1) W).sum = 400 * (laterW k s n W).sum * (laterW k s n W).sum := fun n => by
    rw [later_succ, nextW_sum h2 h4 _ (later_len k s n hW)]
  have up : ∀ n (B : Int), (laterW k s n W).sum ≤ B → (laterW k s (n + 1) W).sum ≤ 400 * B * B := fun n B hb => by
    rw [st n]
    have := (hn.later (k := k) h0 h1 n).sum
    exact Int.mul_le_mul (by omega) hb (by omega) (by omega)
  have s0 : (laterW k s 0 W).sum ≤ 1000 := hs
  have s1 := up 0 _ s0
  have s2 := up 1 _ s1
  intro n hn3
  have : n = 0 ∨ n = 1 ∨ n = 2 := by omega
  rcases this with rfl | rfl | rfl
  · exact Int.lt_of_le_of_lt s0 (by decide)
  · exact Int.lt_of_le_of_lt s1 (by decide)
  · exact Int.lt_of_le_of_lt s2 (by decide)
/-- the sum stays above 0 -/
theorem later_pos {k : Nat} (h2 : 2 ≤ k) (h4 : k ≤ 4) {s : Int} (h0 : 0 ≤ s) (h1 : s ≤ 100) {W : List Int} (hW : W.length = (order k).length) (hp : 0 < W.sum) : ∀ n, 0 < (laterW k s n W).sum
  | 0 => hp
  | n + 1 => by
    rw [later_succ, nextW_sum h2 h4 _ (later_len k s n hW)]
    have := later_pos h2 h4 h0 h1 hW hp n
    exact Int.mul_pos (by omega) this
theorem any_pos {k : Nat} (h2 : 2 ≤ k) (h4 : k ≤ 4) {W : List Int} (hW : W.length = (order k).length) (hp : 0 < W.sum) : 0 < (anyW k W).sum := by
  rw [any_sum h2 h4 W hW]
  exact Int.mul_pos (by omega) hp
theorem sq_lt {x : Int} (h0 : 0 ≤ x) (h : x < 2 ^ 100) : 4 * x * x < 2 ^ 203 := by
  have : 4 * x * x ≤ 4 * 2 ^ 100 * 2 ^ 100 := Int.mul_le_mul (by omega) (by omega) h0 (by decide)
  have : (4 : Int) * 2 ^ 100 * 2 ^ 100 < 2 ^ 203 := by decide
  omega
end My

end
section
set_option maxRecDepth 100000
set_option linter.all false
namespace My
open Kqp1
/-! ## the object's state -/
noncomputable abbrev St9 := Option State
noncomputable def kindsS : St9 → Nat
  | none => 0
  | some y => y.kinds
noncomputable def fldsS : St9 → List Field
  | none => []
  | some y => y.fields
structure WFf (k : Nat) (f : Field) : Prop where
  kinds : f.kinds = k
  len : f.pairs.length = (order k).length
  top : ∀ n ∈ f.pairs, n ≤ 100
structure WFy (y : State) : Prop where
  two : 2 ≤ y.kinds
  four : y.kinds ≤ 4
  six : y.fields.length ≤ 6
  each : ∀ f ∈ y.fields, WFf y.kinds f
noncomputable def WF (s : St9) : Prop := ∀ y, s = some y → WFy y
theorem WFy.at {y : State} (h : WFy y) {j : Nat} {f : Field} (e : y.fields[j]? = some f) : WFf y.kinds f := h.each f (List.mem_of_getElem? e)
/-- a call, told with natural numbers -/
noncomputable def callC (p : Nat) (ts : List Nat) : List (List Int) := if p = 1 then [[1], asInts ts] else [(p : Int) :: asInts ts]
noncomputable def stepN (s : St9) (p : Nat) (ts : List Nat) : St9 × List Int := Kqp1Neutral.step s (callC p ts)
theorem ints_toNat : ∀ (l : List Int), NN l → asInts (l.map Int.toNat) = l
  | [], _ => rfl
  | a :: l, h => by
    have ih := ints_toNat l fun v hv => h v (List.mem_cons_of_mem _ hv)
    have h0 := h a List.mem_cons_self
    show ((a.toNat : Nat) : Int) :: asInts (l.map Int.toNat) = a :: l
    rw [ih]
    congr 1
    omega
theorem toNat_ints (l : List Nat) : (asInts l).map Kqp1Neutral.n = l := by
  unfold asInts
  rw [List.map_map]
  have : Kqp1Neutral.n ∘ (fun (n : Nat) => (n : Int)) = id := by
    funext n
    rfl
  rw [this, List.map_id]
/-! ## what refuses a call that asks for shares -/
noncomputable def refuse (y : State) (f : Nat) (asked : List Nat) : Int := match y.fields[f]? with
  | none => -2
  | some x => if size x = 0 then -6 else if asked.any (fun i => decide (y.kinds ≤ i)) = true then -22 else 0
theorem refuse_tell {y : State} {f : Nat} {asked : List Nat} (h : refuse y f asked ≠ 0) (g : Field → Ans) (b : Bool) (hb : b = asked.any fun i => decide (y.kinds ≤ i)) :
    Kqp1Neutral.tell (fieldAt y f fun x => if b = true then .num (-22) else g x) = [refuse y f asked] := by
  subst hb
  unfold refuse at h ⊢
  unfold fieldAt
  cases e : y.fields[f]? with
  | none => rfl
  | some x =>
    rw [e] at h
    dsimp only at h ⊢
    by_cases c : size x = 0
    · rw [if_pos c, if_pos c]
      rfl
    · rw [if_neg c] at h ⊢
      rw [if_neg c]
      by_cases d : asked.any (fun i => decide (y.kinds ≤ i)) = true
      · rw [if_pos d, if_pos d]
        rfl
      · rw [if_neg d] at h
        exact absurd rfl h
theorem refuse_ok {y : State} {f : Nat} {asked : List Nat} (h : refuse y f asked = 0) : ∃ x, y.fields[f]? = some x ∧ 0 < size x ∧ (asked.any fun i => decide (y.kinds ≤ i)) = false ∧ ∀ i ∈ asked, i < y.kinds := by
  unfold refuse at h
  cases e : y.fields[f]? with
  | none => rw [e] at h; cases h
  | some x =>
    rw [e] at h
    dsimp only at h
    by_cases c : size x = 0
    · rw [if_pos c] at h
      cases h
    · rw [if_neg c] at h
      by_cases d : asked.any (fun i => decide (y.kinds ≤ i)) = true
      · rw [if_pos d] at h
        cases h
      · have d' : (asked.any fun i => decide (y.kinds ≤ i)) = false := Bool.not_eq_true _ ▸ d
        refine ⟨x, rfl, by omega, d', fun i hi => ?_⟩
        rcases Nat.lt_or_ge i y.kinds with z | z
        · exact z
        · exfalso
          exact d (List.any_eq_true.mpr ⟨i, hi, decide_eq_true z⟩)
theorem fieldAt_ok {y : State} {f : Nat} {x : Field} (e : y.fields[f]? = some x) (h0 : 0 < size x) (g : Field → Ans) : fieldAt y f g = g x := by
  unfold fieldAt
  rw [e]
  show (if size x = 0 then _ else g x) = g x
  rw [if_neg (by omega)]
theorem pair_any (y : State) (i j : Nat) : (!okPair y i j) = ([i, j].any fun i => decide (y.kinds ≤ i)) := by
  unfold okPair
  simp only [List.any_cons, List.any_nil, Bool.or_false, Bool.not_and]
  congr 1 <;> (rw [← decide_not]; congr 1; exact propext Nat.not_lt)
theorem okPair_false (y : State) (i j : Nat) {α : Type} (a b : α) : (if okPair y i j = false then a else b) = if ([i, j].any fun i => decide (y.kinds ≤ i)) = true then a else b := by
  rw [← pair_any]
  cases okPair y i j <;> rfl
/-! ## the calls -/
theorem step_none {p : Nat} {ts : List Nat} (h : p ≠ 0) (c : ∃ x, Kqp1Neutral.callOf (callC p ts) = some x ∧ ∀ k, x ≠ .start k) : stepN none p ts = (none, [-11]) := by
  obtain ⟨x, e, hx⟩ := c
  unfold stepN Kqp1Neutral.step
  rw [e]
  cases x <;> first | rfl | exact absurd rfl (hx _)
noncomputable def tf (f : Frac) : List Int := [f.num, (f.den : Int)]
theorem step_share (y : State) (f i j : Nat) : stepN (some y) 4 [f, i, j] = (some y, Kqp1Neutral.tell (fieldAt y f fun x => if ([i, j].any fun i => decide (y.kinds ≤ i)) = true then .num (-22) else tell (share x i j))) := by
  show (some y, Kqp1Neutral.tell (fieldAt y f fun x => if okPair y i j = false then .num (-22) else tell (share x i j))) = _
  simp only [okPair_false]
theorem step_kind (y : State) (f i : Nat) : stepN (some y) 5 [f, i] = (some y, Kqp1Neutral.tell (fieldAt y f fun x => if ([i].any fun i => decide (y.kinds ≤ i)) = true then .num (-22) else tell (kind x i))) := by
  show (some y, Kqp1Neutral.tell (fieldAt y f fun x => if y.kinds ≤ i then .num (-22) else tell (kind x i))) = _
  simp only [List.any_cons, List.any_nil, Bool.or_false, decide_eq_true_eq]
theorem step_next (y : State) (f i j : Nat) : stepN (some y) 6 [f, i, j] = (some y, Kqp1Neutral.tell (fieldAt y f fun x => if ([i, j].any fun i => decide (y.kinds ≤ i)) = true then .num (-22) else tell (squares (shares x) i j))) := by
  show (some y, Kqp1Neutral.tell (fieldAt y f fun x => if okPair y i j = false then .num (-22) else tell (squares (shares x) i j))) = _
  simp only [okPair_false]
theorem step_after (y : State) (f s n i j : Nat) : stepN (some y) 7 [f, s, n, i, j] = (some y, Kqp1Neutral.tell (fieldAt y f fun x => if ([i, j].any fun i => decide (y.kinds ≤ i)) = true then .num (-22) else if 100 < s ∨ 3 < n then .num (-22) else tell ((after y.kinds s n (now x)).getD (place y.kinds i j) zero))) := by
  show (some y, Kqp1Neutral.tell (fieldAt y f fun x => if okPair y i j = false ∨ 100 < s ∨ 3 < n then .num (-22) else tell ((after y.kinds s n (now x)).getD (place y.kinds i j) zero))) = _
  congr 3
  funext x
  rw [← okPair_false]
  by_cases c : okPair y i j = false
  · rw [if_pos c, if_pos (.inl c)]
  · rw [if_neg c]
    by_cases d : 100 < s ∨ 3 < n
    · rw [if_pos d, if_pos (.inr d)]
    · rw [if_neg d, if_neg (fun z => z.elim c d)]
theorem no_any (y : State) : (([] : List Nat).any fun i => decide (y.kinds ≤ i)) = false := rfl
theorem step_mixed (y : State) (f : Nat) : stepN (some y) 8 [f] = (some y, Kqp1Neutral.tell (fieldAt y f fun x => if (([] : List Nat).any fun i => decide (y.kinds ≤ i)) = true then .num (-22) else tell (mixed y.kinds (now x)))) := rfl
theorem step_expected (y : State) (f : Nat) : stepN (some y) 9 [f] = (some y, Kqp1Neutral.tell (fieldAt y f fun x => if (([] : List Nat).any fun i => decide (y.kinds ≤ i)) = true then .num (-22) else tell (expected y.kinds (now x)))) := rfl
theorem tell_tell (f : Frac) : Kqp1Neutral.tell (tell f) = 0 :: tf f := rfl
end My

end
section
set_option maxRecDepth 100000
set_option linter.all false
namespace My
open Kqp1
/-! ## what the specification answers, by the program's numbers -/
section
variable {k : Nat} {x : Field} (h2 : 2 ≤ k) (h4 : k ≤ 4) (hx : WFf k x) (h0 : 0 < size x)
include h2 h4 hx h0
theorem fs_len : (asInts x.pairs).length = (order k).length := by
  unfold asInts
  rw [List.length_map]
  exact hx.len
theorem fs_sum : (size x : Int) = (asInts x.pairs).sum := size_eq x
theorem fs_nat : size x = (asInts x.pairs).sum.toNat := by
  have := size_eq x
  omega
theorem fs_pos : 0 < (asInts x.pairs).sum := by
  have := size_eq x
  omega
theorem fs_top : (asInts x.pairs).sum ≤ 1000 := by
  have := sum_le_100 x.pairs hx.top
  have h := hx.len
  have : (order k).length ≤ 10 := by
    rcases kcases h2 h4 with rfl | rfl | rfl <;> decide
  omega
theorem share_num (i j : Nat) : share x i j = frac (wt k (asInts x.pairs) i j) (asInts x.pairs).sum.toNat := by
  rw [share_eq, hx.kinds, fs_nat h2 h4 hx h0]
theorem kind_num {i : Nat} (hi : i < k) : kind x i = frac (kw k (asInts x.pairs) i) (2 * (asInts x.pairs).sum).toNat := by
  have e := hx.kinds
  rw [kind_eq (by omega) (by omega) (by omega), e]
  congr 1
  have := size_eq x
  omega
theorem any_nat : 4 * size x * size x = (anyW k (asInts x.pairs)).sum.toNat := by
  rw [any_sum h2 h4 _ (fs_len h2 h4 hx h0), ← fs_sum h2 h4 hx h0]
  have : (4 : Int) * (size x : Int) * (size x : Int) = ((4 * size x * size x : Nat) : Int) := by push_cast; rfl
  rw [this]
  rfl
theorem next_num {i j : Nat} (hi : i < k) (hj : j < k) : squares (shares x) i j = frac (wt k (anyW k (asInts x.pairs)) i j) (anyW k (asInts x.pairs)).sum.toNat := by
  have e := hx.kinds
  rw [next_call (by omega) (by omega) (by omega) (by omega) h0, any_nat h2 h4 hx h0, e]
theorem now_num : now x = rep (asInts x.pairs) (size x) := now_rep (by rw [hx.kinds]; exact h2) (by rw [hx.kinds]; exact h4) (by rw [hx.kinds]; exact hx.len)
theorem after_num {s n : Nat} (hs : s ≤ 100) (i j : Nat) : (after k s n (now x)).getD (place k i j) zero = frac (wt k (laterW k s n (asInts x.pairs)) i j) (laterW k s n (asInts x.pairs)).sum.toNat := by
  rw [now_num h2 h4 hx h0]
  obtain ⟨T', h1, h3, _, e⟩ := after_rep h2 h4 hs n (asInts x.pairs) (size x) (fs_len h2 h4 hx h0) h0 (fs_sum h2 h4 hx h0)
  rw [e, rep_getD h1]
  show frac (wt k _ i j) T' = _
  congr 1
  omega
theorem mixed_num : mixed k (now x) = frac ((asInts x.pairs).sum - alike k (asInts x.pairs)) (asInts x.pairs).sum.toNat := by
  rw [now_num h2 h4 hx h0, mixed_rep h2 h4 _ (fs_len h2 h4 hx h0) h0, ← fs_nat h2 h4 hx h0]
theorem expected_num : expected k (now x) = frac ((anyW k (asInts x.pairs)).sum - alike k (anyW k (asInts x.pairs))) (anyW k (asInts x.pairs)).sum.toNat := by
  rw [now_num h2 h4 hx h0, expected_rep h2 h4 _ h0, any_nat h2 h4 hx h0]
end
end My

end
section
set_option maxRecDepth 100000
set_option linter.all false
namespace My
open Kqp1
theorem step_start (s : St9) (k : Nat) : stepN s 0 [k] = if k < 2 ∨ 4 < k then (s, [-22]) else (some ⟨k, []⟩, [0]) := by
  have e : stepN s 0 [k] = ((Kqp1.step s (.start k)).1, Kqp1Neutral.tell (Kqp1.step s (.start k)).2) := rfl
  have e2 : Kqp1.step s (.start k) = if k < 2 ∨ 4 < k then (s, .num (-22)) else (some ⟨k, []⟩, .num 0) := by
    cases s <;> rfl
  rw [e, e2]
  split <;> rfl
theorem wf_start {k : Nat} (h : ¬ (k < 2 ∨ 4 < k)) : WF (some ⟨k, []⟩) := fun y e => by
  cases e
  exact ⟨by show 2 ≤ k; omega, by show k ≤ 4; omega, by simp, fun f hf => by simp at hf⟩
theorem step_field (y : State) (ts : List Nat) : stepN (some y) 1 ts = if ts.length ≠ (order y.kinds).length ∨ ts.any (fun n => decide (100 < n)) = true then (some y, [-22]) else if 6 ≤ y.fields.length then (some y, [-28]) else (some { y with fields := y.fields ++ [⟨y.kinds, ts⟩] }, [(y.fields.length : Int)]) := by
  have e : stepN (some y) 1 ts = ((Kqp1.step (some y) (.field ((asInts ts).map Kqp1Neutral.n))).1, Kqp1Neutral.tell (Kqp1.step (some y) (.field ((asInts ts).map Kqp1Neutral.n))).2) := rfl
  rw [e, toNat_ints]
  have e2 : Kqp1.step (some y) (.field ts) = if ts.length ≠ (order y.kinds).length ∨ ts.any (fun n => decide (100 < n)) = true then (some y, .num (-22)) else if 6 ≤ y.fields.length then (some y, .num (-28)) else (some { y with fields := y.fields ++ [⟨y.kinds, ts⟩] }, .num y.fields.length) := rfl
  rw [e2]
  split
  · rfl
  · split <;> rfl
theorem wf_field {y : State} (h : WFy y) {ts : List Nat} (h1 : ts.length = (order y.kinds).length) (h2 : ∀ n ∈ ts, n ≤ 100) (h6 : y.fields.length < 6) : WFy { y with fields := y.fields ++ [⟨y.kinds, ts⟩] } :=
  ⟨h.two, h.four, by show (y.fields ++ [_]).length ≤ 6; rw [List.length_append]; simp; omega, fun f hf => by
    rcases List.mem_append.mp hf with z | z
    · exact h.each f z
    · have : f = ⟨y.kinds, ts⟩ := by simpa using z
      subst this
      exact ⟨rfl, h1, h2⟩⟩
/-- what refuses a put and a take -/
noncomputable def refuse2 (y : State) (f : Nat) (asked : List Nat) (n : Nat) : Int := match y.fields[f]? with
  | none => -2
  | some _ => if asked.any (fun i => decide (y.kinds ≤ i)) = true ∨ n = 0 then -22 else 0
theorem refuse2_ok {y : State} {f n : Nat} {asked : List Nat} (h : refuse2 y f asked n = 0) : ∃ x, y.fields[f]? = some x ∧ n ≠ 0 ∧ (asked.any fun i => decide (y.kinds ≤ i)) = false ∧ ∀ i ∈ asked, i < y.kinds := by
  unfold refuse2 at h
  cases e : y.fields[f]? with
  | none => rw [e] at h; cases h
  | some x =>
    rw [e] at h
    dsimp only at h
    by_cases c : asked.any (fun i => decide (y.kinds ≤ i)) = true ∨ n = 0
    · rw [if_pos c] at h
      cases h
    · have d' : (asked.any fun i => decide (y.kinds ≤ i)) = false := by
        cases z : asked.any fun i => decide (y.kinds ≤ i) with
        | false => rfl
        | true => exact absurd (.inl z) c
      refine ⟨x, rfl, fun z => c (.inr z), d', fun i hi => ?_⟩
      rcases Nat.lt_or_ge i y.kinds with z | z
      · exact z
      · exact absurd (.inl (List.any_eq_true.mpr ⟨i, hi, decide_eq_true z⟩)) c
theorem okPair_iff (y : State) (i j : Nat) : okPair y i j = false ↔ ([i, j].any fun i => decide (y.kinds ≤ i)) = true := by
  rw [← pair_any]
  cases okPair y i j <;> simp
noncomputable def putX (x : Field) (p v : Nat) : Field := { x with pairs := x.pairs.set p v }
theorem step_put (y : State) (f i j n : Nat) : stepN (some y) 2 [f, i, j, n] = if refuse2 y f [i, j] n ≠ 0 then (some y, [refuse2 y f [i, j] n]) else match y.fields[f]? with
    | none => (some y, [-2])
    | some x => if 100 < many x i j + n then (some y, [-22]) else (some { y with fields := y.fields.set f (putX x (place y.kinds i j) (many x i j + n)) }, [((many x i j + n : Nat) : Int)]) := by
  have e : stepN (some y) 2 [f, i, j, n] = ((Kqp1.step (some y) (.put f i j n)).1, Kqp1Neutral.tell (Kqp1.step (some y) (.put f i j n)).2) := rfl
  rw [e]
  unfold Kqp1.step refuse2
  dsimp only
  cases e1 : y.fields[f]? with
  | none => rfl
  | some x =>
    dsimp only
    have ok := okPair_iff y i j
    by_cases c : ([i, j].any fun i => decide (y.kinds ≤ i)) = true ∨ n = 0
    · have c1 : okPair y i j = false ∨ n = 0 ∨ 100 < many x i j + n := c.elim (fun z => .inl (ok.mpr z)) fun z => .inr (.inl z)
      rw [if_pos c1, if_pos c, if_pos (show (-22 : Int) ≠ 0 by decide)]
      rfl
    · rw [if_neg c, if_neg (show ¬ ((0 : Int) ≠ 0) by decide)]
      by_cases d : 100 < many x i j + n
      · have c1 : okPair y i j = false ∨ n = 0 ∨ 100 < many x i j + n := .inr (.inr d)
        rw [if_pos c1, if_pos d]
        rfl
      · have c1 : ¬ (okPair y i j = false ∨ n = 0 ∨ 100 < many x i j + n) := fun z => z.elim (fun z => c (.inl (ok.mp z))) fun z => z.elim (fun z => c (.inr z)) d
        rw [if_neg c1, if_neg d]
        rfl
theorem step_take (y : State) (f i j n : Nat) : stepN (some y) 3 [f, i, j, n] = if refuse2 y f [i, j] n ≠ 0 then (some y, [refuse2 y f [i, j] n]) else match y.fields[f]? with
    | none => (some y, [-2])
    | some x => if many x i j < n then (some y, [-12]) else (some { y with fields := y.fields.set f (putX x (place y.kinds i j) (many x i j - n)) }, [((many x i j - n : Nat) : Int)]) := by
  have e : stepN (some y) 3 [f, i, j, n] = ((Kqp1.step (some y) (.take f i j n)).1, Kqp1Neutral.tell (Kqp1.step (some y) (.take f i j n)).2) := rfl
  rw [e]
  unfold Kqp1.step refuse2
  dsimp only
  cases e1 : y.fields[f]? with
  | none => rfl
  | some x =>
    dsimp only
    have ok := okPair_iff y i j
    by_cases c : ([i, j].any fun i => decide (y.kinds ≤ i)) = true ∨ n = 0
    · have c1 : okPair y i j = false ∨ n = 0 := c.elim (fun z => .inl (ok.mpr z)) .inr
      rw [if_pos c1, if_pos c, if_pos (show (-22 : Int) ≠ 0 by decide)]
      rfl
    · have c1 : ¬ (okPair y i j = false ∨ n = 0) := fun z => c (z.elim (fun z => .inl (ok.mp z)) .inr)
      rw [if_neg c1, if_neg c, if_neg (show ¬ ((0 : Int) ≠ 0) by decide)]
      by_cases d : many x i j < n
      · rw [if_pos d, if_pos d]
        rfl
      · rw [if_neg d, if_neg d]
        rfl
theorem mem_set {α : Type} : ∀ {l : List α} {i : Nat} {v x : α}, x ∈ l.set i v → x ∈ l ∨ x = v
  | [], _, _, _, h => by simp at h
  | a :: l, 0, v, x, h => by
    rcases List.mem_cons.mp h with z | z
    · exact .inr z
    · exact .inl (List.mem_cons_of_mem _ z)
  | a :: l, i + 1, v, x, h => by
    rcases List.mem_cons.mp h with z | z
    · exact .inl (z ▸ List.mem_cons_self)
    · rcases mem_set (l := l) z with z | z
      · exact .inl (List.mem_cons_of_mem _ z)
      · exact .inr z
theorem wf_put {y : State} (h : WFy y) {f p v : Nat} {x : Field} (e : y.fields[f]? = some x) (hv : v ≤ 100) : WFy { y with fields := y.fields.set f (putX x p v) } :=
  ⟨h.two, h.four, by show (y.fields.set f _).length ≤ 6; rw [List.length_set]; exact h.six, fun z hz => by
    have X := h.at e
    rcases mem_set hz with a | a
    · exact h.each z a
    · subst a
      refine ⟨X.kinds, by show (x.pairs.set p v).length = _; rw [List.length_set]; exact X.len, fun m hm => ?_⟩
      rcases mem_set hm with b | b
      · exact X.top m b
      · omega⟩
theorem asInts_set : ∀ (l : List Nat) (p v : Nat), asInts (l.set p v) = (asInts l).set p (v : Int)
  | [], _, _ => rfl
  | a :: l, 0, v => rfl
  | a :: l, p + 1, v => by
    show ((a : Int) :: asInts (l.set p v)) = (a : Int) :: (asInts l).set p (v : Int)
    rw [asInts_set l p v]
end My

end
section
set_option maxRecDepth 100000
set_option linter.all false
namespace My
open Kqp1
theorem len_cases {p : Nat} {ts : List Nat} (h : p ≠ 1 → counts[p]? = some (ts.length : Int)) (h1 : p ≠ 1) {n : Nat} (e : counts[p]? = some (n : Int)) : ts.length = n := by
  have := h h1
  rw [e] at this
  have := Option.some.inj this
  omega
/-- every call but start is one of the others -/
theorem callOf_some {p : Nat} {ts : List Nat} (hp : p < 20) (h0 : p ≠ 0) (h : p ≠ 1 → counts[p]? = some (ts.length : Int)) : ∃ x, Kqp1Neutral.callOf (callC p ts) = some x ∧ ∀ k, x ≠ .start k := by
  revert h0 h
  refine below20 (fun p => p ≠ 0 → (p ≠ 1 → counts[p]? = some (ts.length : Int)) → ∃ x, Kqp1Neutral.callOf (callC p ts) = some x ∧ ∀ k, x ≠ .start k) ?_ ?_ ?_ ?_ ?_ ?_ ?_ ?_ ?_ ?_ ?_ ?_ ?_ ?_ ?_ ?_ ?_ ?_ ?_ ?_ hp
  · exact fun h => absurd rfl h
  · exact fun _ _ => ⟨_, rfl, fun k z => Kqp1.Call.noConfusion z⟩
  · exact fun _ h => of_count (n := 4) (h (by decide)) fun e => by obtain ⟨a, b, c, d, rfl⟩ := ln4 e; exact ⟨_, rfl, fun k z => Kqp1.Call.noConfusion z⟩
  · exact fun _ h => of_count (n := 4) (h (by decide)) fun e => by obtain ⟨a, b, c, d, rfl⟩ := ln4 e; exact ⟨_, rfl, fun k z => Kqp1.Call.noConfusion z⟩
  · exact fun _ h => of_count (n := 3) (h (by decide)) fun e => by obtain ⟨a, b, c, rfl⟩ := ln3 e; exact ⟨_, rfl, fun k z => Kqp1.Call.noConfusion z⟩
  · exact fun _ h => of_count (n := 2) (h (by decide)) fun e => by obtain ⟨a, b, rfl⟩ := ln2 e; exact ⟨_, rfl, fun k z => Kqp1.Call.noConfusion z⟩
  · exact fun _ h => of_count (n := 3) (h (by decide)) fun e => by obtain ⟨a, b, c, rfl⟩ := ln3 e; exact ⟨_, rfl, fun k z => Kqp1.Call.noConfusion z⟩
  · exact fun _ h => of_count (n := 5) (h (by decide)) fun e => by obtain ⟨a, b, c, d, f, rfl⟩ := ln5 e; exact ⟨_, rfl, fun k z => Kqp1.Call.noConfusion z⟩
  · exact fun _ h => of_count (n := 1) (h (by decide)) fun e => by obtain ⟨a, rfl⟩ := ln1 e; exact ⟨_, rfl, fun k z => Kqp1.Call.noConfusion z⟩
  · exact fun _ h => of_count (n := 1) (h (by decide)) fun e => by obtain ⟨a, rfl⟩ := ln1 e; exact ⟨_, rfl, fun k z => Kqp1.Call.noConfusion z⟩
  · exact fun _ h => of_count (n := 1) (h (by decide)) fun e => by obtain ⟨a, rfl⟩ := ln1 e; exact ⟨_, rfl, fun k z => Kqp1.Call.noConfusion z⟩
  · exact fun _ h => of_count (n := 1) (h (by decide)) fun e => by obtain ⟨a, rfl⟩ := ln1 e; exact ⟨_, rfl, fun k z => Kqp1.Call.noConfusion z⟩
  · exact fun _ h => of_count (n := 2) (h (by decide)) fun e => by obtain ⟨a, b, rfl⟩ := ln2 e; exact ⟨_, rfl, fun k z => Kqp1.Call.noConfusion z⟩
  · exact fun _ h => of_count (n := 2) (h (by decide)) fun e => by obtain ⟨a, b, rfl⟩ := ln2 e; exact ⟨_, rfl, fun k z => Kqp1.Call.noConfusion z⟩
  · exact fun _ h => of_count (n := 4) (h (by decide)) fun e => by obtain ⟨a, b, c, d, rfl⟩ := ln4 e; exact ⟨_, rfl, fun k z => Kqp1.Call.noConfusion z⟩
  · exact fun _ h => of_count (n := 2) (h (by decide)) fun e => by obtain ⟨a, b, rfl⟩ := ln2 e; exact ⟨_, rfl, fun k z => Kqp1.Call.noConfusion z⟩
  · exact fun _ h => of_count (n := 1) (h (by decide)) fun e => by obtain ⟨a, rfl⟩ := ln1 e; exact ⟨_, rfl, fun k z => Kqp1.Call.noConfusion z⟩
  · exact fun _ h => of_count (n := 1) (h (by decide)) fun e => by obtain ⟨a, rfl⟩ := ln1 e; exact ⟨_, rfl, fun k z => Kqp1.Call.noConfusion z⟩
  · exact fun _ h => of_count (n := 2) (h (by decide)) fun e => by obtain ⟨a, b, rfl⟩ := ln2 e; exact ⟨_, rfl, fun k z => Kqp1.Call.noConfusion z⟩
  · exact fun _ h => of_count (n := 0) (h (by decide)) fun e => by rw [ln0 e]; exact ⟨_, rfl, fun k z => Kqp1.Call.noConfusion z⟩
theorem none_step {p : Nat} {ts : List Nat} (hp : p < 20) (h0 : p ≠ 0) (h : p ≠ 1 → counts[p]? = some (ts.length : Int)) : stepN none p ts = (none, [-11]) := step_none h0 (callOf_some hp h0 h)
/-! ### an answer is short -/
theorem fieldAt_len {y : State} {f : Nat} {g : Field → Ans} (h : ∀ x, (Kqp1Neutral.tell (g x)).length ≤ 5) : (Kqp1Neutral.tell (fieldAt y f g)).length ≤ 5 := by
  unfold fieldAt
  split
  · decide
  · split
    · decide
    · exact h _
theorem ite_len {c : Prop} [Decidable c] {a b : Ans} (ha : (Kqp1Neutral.tell a).length ≤ 5) (hb : (Kqp1Neutral.tell b).length ≤ 5) : (Kqp1Neutral.tell (if c then a else b)).length ≤ 5 := by
  split
  · exact ha
  · exact hb
theorem num_len (v : Int) : (Kqp1Neutral.tell (.num v)).length ≤ 5 := by
  show 1 ≤ 5
  decide
theorem tell_len (f : Frac) : (Kqp1Neutral.tell (tell f)).length ≤ 5 := by
  show 3 ≤ 5
  decide
theorem ans_len (s : Option State) (c : Kqp1.Call) : (Kqp1Neutral.tell (Kqp1.step s c).2).length ≤ 5 := by
  cases s with
  | none =>
    cases c with
    | start k =>
      unfold Kqp1.step
      dsimp only
      split <;> exact num_len _
    | _ => exact num_len _
  | some y =>
    cases c with
    | start k =>
      unfold Kqp1.step
      dsimp only
      split <;> exact num_len _
    | field l =>
      unfold Kqp1.step
      dsimp only
      split
      · exact num_len _
      · split <;> exact num_len _
    | put f i j n =>
      unfold Kqp1.step
      dsimp only
      split
      · exact num_len _
      · split <;> exact num_len _
    | take f i j n =>
      unfold Kqp1.step
      dsimp only
      split
      · exact num_len _
      · split
        · exact num_len _
        · split <;> exact num_len _
    | share f i j => exact fieldAt_len fun x => ite_len (num_len _) (tell_len _)
    | kind f i => exact fieldAt_len fun x => ite_len (num_len _) (tell_len _)
    | next f i j => exact fieldAt_len fun x => ite_len (num_len _) (tell_len _)
    | after f p n i j => exact fieldAt_len fun x => ite_len (num_len _) (tell_len _)
    | mixed f => exact fieldAt_len fun x => tell_len _
    | expected f => exact fieldAt_len fun x => tell_len _
    | lack f => exact fieldAt_len fun x => ite_len (num_len _) (tell_len _)
    | rest f => exact fieldAt_len fun x => num_len _
    | soon f n =>
      refine fieldAt_len fun x => ite_len (num_len _) ?_
      split <;> exact num_len _
    | together f g => exact fieldAt_len fun x => fieldAt_len fun z => (by show 5 ≤ 5; decide)
    | cross f g i j => exact fieldAt_len fun x => fieldAt_len fun z => ite_len (num_len _) (tell_len _)
    | crossNext f g => exact fieldAt_len fun x => fieldAt_len fun z => (by show 2 ≤ 5; decide)
    | rarest f => exact fieldAt_len fun x => (by show 3 ≤ 5; decide)
    | size f =>
      unfold Kqp1.step
      dsimp only
      split <;> exact num_len _
    | half p n => exact ite_len (num_len _) (tell_len _)
    | state =>
      show 2 ≤ 5
      decide
theorem step_len (s : St9) (c : List (List Int)) : (Kqp1Neutral.step s c).2.length ≤ 5 := by
  unfold Kqp1Neutral.step
  split
  · exact ans_len _ _
  · exact Nat.zero_le _
/-! ### the walk along the list -/
theorem one_callC {c : List (List Int)} {p : Nat} {told : List Int} (h : OneCall c p told) (hn : NN told) : c = callC p (told.map Int.toNat) ∧ (p ≠ 1 → counts[p]? = some ((told.map Int.toNat).length : Int)) := by
  unfold callC
  rw [ints_toNat told hn, List.length_map]
  rcases h.form with ⟨h1, e⟩ | ⟨h1, e, hc⟩
  · exact ⟨by rw [if_pos h1]; exact e, fun z => absurd h1 z⟩
  · exact ⟨by rw [if_neg h1]; exact e, fun _ => hc⟩
theorem told_len : ∀ (l : List (List Int)) (n : Nat), (∀ a ∈ l, a.length ≤ 5) → l.length ≤ n → (PyFlat.told l).length ≤ 6 * n
  | [], n, _, _ => Nat.zero_le _
  | a :: l, n, h, hl => by
    have ih := told_len l (n - 1) (fun b hb => h b (List.mem_cons_of_mem _ hb)) (by rw [List.length_cons] at hl; omega)
    have h0 := h a List.mem_cons_self
    show ((a.length : Int) :: (a ++ PyFlat.told l)).length ≤ 6 * n
    rw [List.length_cons, List.length_append]
    rw [List.length_cons] at hl
    omega
theorem played_len : ∀ (l : List (List (List Int))) (s : St9), (PyFlat.played Kqp1Neutral.step s l).length = l.length ∧ ∀ a ∈ PyFlat.played Kqp1Neutral.step s l, a.length ≤ 5
  | [], s => ⟨rfl, fun a ha => by simp [PyFlat.played] at ha⟩
  | c :: l, s => by
    obtain ⟨i1, i2⟩ := played_len l (Kqp1Neutral.step s c).1
    refine ⟨congrArg (· + 1) i1, fun a ha => ?_⟩
    rcases List.mem_cons.mp ha with z | z
    · subst z
      exact step_len s c
    · exact i2 a z
theorem given_len (l : List (List (List Int))) (s : St9) {n : Nat} (h : l.length ≤ n) : (PyFlat.told (PyFlat.played Kqp1Neutral.step s l)).length ≤ 6 * n := by
  obtain ⟨h1, h2⟩ := played_len l s
  exact told_len _ n h2 (by rw [h1]; exact h)
end My

end
section
set_option maxRecDepth 100000
set_option linter.all false
namespace My
open Kqp1
theorem counts_le : ∀ p : Nat, ∀ n : Nat, counts[p]? = some (n : Int) → n ≤ 60 := by
  intro p n h
  have h1 : ∀ x ∈ counts, x ≤ 5 := by decide
  have := h1 _ (List.mem_of_getElem? h)
  omega
theorem asked_60 {l : List Int} (h : PyKqp1.answers_asked l = true) {raw : List (List (List Int))} (hR : Asked l raw) : ∀ c ∈ raw, ∀ p told, OneCall c p told → told.length ≤ 60 := by
  unfold PyKqp1.answers_asked at h
  cases e : PyFlat.calls PyKqp1.shape l.length l with
  | none => rw [e] at h; cases h
  | some raw' =>
    rw [e] at h
    simp only [Bool.and_eq_true] at h
    obtain ⟨⟨⟨⟨_, _⟩, hb⟩, _⟩, _⟩ := h
    have e1 : raw' = raw := by
      have h1 := PyFlat.calls_put (shape := PyKqp1.shape) raw l.length (fun c hc => ?_) (by rw [hR.is]; exact Nat.le_refl _)
      · rw [← hR.is, e] at h1
        exact Option.some.inj h1
      · obtain ⟨p, told, hO⟩ := hR.ok c hc
        rcases hO.form with ⟨rfl, rfl⟩ | ⟨h1, rfl, h2⟩
        · exact ⟨1, [], [told], rfl, rfl⟩
        · refine ⟨(p : Int), told, [], rfl, ?_⟩
          have key : ∀ p : Nat, p < 20 → p ≠ 1 → ∀ n : Nat, counts[p]? = some (n : Int) → PyKqp1.shape (p : Int) = some (n, 0) := by
            intro p hp hp1 n hn
            revert hp1 hn
            refine below20 (fun p => p ≠ 1 → counts[p]? = some (n : Int) → PyKqp1.shape (p : Int) = some (n, 0)) ?_ ?_ ?_ ?_ ?_ ?_ ?_ ?_ ?_ ?_ ?_ ?_ ?_ ?_ ?_ ?_ ?_ ?_ ?_ ?_ hp
            · exact fun _ h => of_count (n := 1) h fun e => by rw [e]; rfl
            · exact fun h => absurd rfl h
            · exact fun _ h => of_count (n := 4) h fun e => by rw [e]; rfl
            · exact fun _ h => of_count (n := 4) h fun e => by rw [e]; rfl
            · exact fun _ h => of_count (n := 3) h fun e => by rw [e]; rfl
            · exact fun _ h => of_count (n := 2) h fun e => by rw [e]; rfl
            · exact fun _ h => of_count (n := 3) h fun e => by rw [e]; rfl
            · exact fun _ h => of_count (n := 5) h fun e => by rw [e]; rfl
            · exact fun _ h => of_count (n := 1) h fun e => by rw [e]; rfl
            · exact fun _ h => of_count (n := 1) h fun e => by rw [e]; rfl
            · exact fun _ h => of_count (n := 1) h fun e => by rw [e]; rfl
            · exact fun _ h => of_count (n := 1) h fun e => by rw [e]; rfl
            · exact fun _ h => of_count (n := 2) h fun e => by rw [e]; rfl
            · exact fun _ h => of_count (n := 2) h fun e => by rw [e]; rfl
            · exact fun _ h => of_count (n := 4) h fun e => by rw [e]; rfl
            · exact fun _ h => of_count (n := 2) h fun e => by rw [e]; rfl
            · exact fun _ h => of_count (n := 1) h fun e => by rw [e]; rfl
            · exact fun _ h => of_count (n := 1) h fun e => by rw [e]; rfl
            · exact fun _ h => of_count (n := 2) h fun e => by rw [e]; rfl
            · exact fun _ h => of_count (n := 0) h fun e => by rw [e]; rfl
          exact key p hO.lt h1 _ h2
    subst e1
    intro c hc p told hO
    rcases hO.form with ⟨rfl, rfl⟩ | ⟨h1, rfl, h2⟩
    · have := List.all_eq_true.mp hb _ hc
      have h3 : (true && ((decide (0 ≤ told.length) && decide (told.length ≤ 60) && told.all (PyInside.within 0 4294967295)) && true)) = true := this
      simp only [Bool.and_eq_true] at h3
      exact of_decide_eq_true h3.2.1.1.2
    · exact counts_le p _ h2
end My

end
section
set_option maxRecDepth 100000
set_option linter.all false
namespace My
open Kqp1
/-! ## the calls of the second stage, by the specification -/
noncomputable abbrev noKind (y : State) : Bool := ([] : List Nat).any fun i => decide (y.kinds ≤ i)
theorem step_lack (y : State) (f : Nat) : stepN (some y) 10 [f] = (some y, Kqp1Neutral.tell (fieldAt y f fun x => if (([] : List Nat).any fun i => decide (y.kinds ≤ i)) = true then .num (-22) else if (expected y.kinds (now x)).num = 0 then .num (-33) else tell (sub ⟨1, 1⟩ (div (mixed y.kinds (now x)) (expected y.kinds (now x)))))) := rfl
theorem step_rest (y : State) (f : Nat) : stepN (some y) 11 [f] = (some y, Kqp1Neutral.tell (fieldAt y f fun x => if (([] : List Nat).any fun i => decide (y.kinds ≤ i)) = true then .num (-22) else .num (if atRest y.kinds (now x) then 1 else 0))) := rfl
theorem step_soon (y : State) (f n : Nat) : stepN (some y) 12 [f, n] = (some y, Kqp1Neutral.tell (fieldAt y f fun x => if (([] : List Nat).any fun i => decide (y.kinds ≤ i)) = true then .num (-22) else if 3 < n then .num (-22) else match (List.range (n + 1)).find? fun k => atRest y.kinds (after y.kinds 0 k (now x)) with
    | none => .num (-33)
    | some k => .num k)) := rfl
theorem step_together (y : State) (f g : Nat) : stepN (some y) 13 [f, g] = (some y, Kqp1Neutral.tell (fieldAt y f fun x => if (([] : List Nat).any fun i => decide (y.kinds ≤ i)) = true then .num (-22) else fieldAt y g fun z => if (([] : List Nat).any fun i => decide (y.kinds ≤ i)) = true then .num (-22) else
    .some_ 0 (tf (expected y.kinds (now (together x z))) ++ tf (mixed y.kinds (now (together x z)))))) := rfl
theorem step_cross (y : State) (f g i j : Nat) : stepN (some y) 14 [f, g, i, j] = (some y, Kqp1Neutral.tell (fieldAt y f fun x => if (([] : List Nat).any fun i => decide (y.kinds ≤ i)) = true then .num (-22) else fieldAt y g fun z => if ([i, j].any fun i => decide (y.kinds ≤ i)) = true then .num (-22) else tell ((cross x z).getD (place y.kinds i j) zero))) := by
  show (some y, Kqp1Neutral.tell (fieldAt y f fun x => fieldAt y g fun z => if okPair y i j = false then .num (-22) else tell ((cross x z).getD (place y.kinds i j) zero))) = _
  simp only [okPair_false]
  rfl
theorem step_crossNext (y : State) (f g : Nat) : stepN (some y) 15 [f, g] = (some y, Kqp1Neutral.tell (fieldAt y f fun x => if (([] : List Nat).any fun i => decide (y.kinds ≤ i)) = true then .num (-22) else fieldAt y g fun z => if (([] : List Nat).any fun i => decide (y.kinds ≤ i)) = true then .num (-22) else
    .some_ (if atRest y.kinds (cross x z) then 1 else 0) [if atRest y.kinds (next y.kinds (cross x z)) then 1 else 0])) := rfl
theorem step_rarest (y : State) (f : Nat) : stepN (some y) 16 [f] = (some y, Kqp1Neutral.tell (fieldAt y f fun x => if (([] : List Nat).any fun i => decide (y.kinds ≤ i)) = true then .num (-22) else
    .some_ (((List.range y.kinds).find? fun i => (List.range y.kinds).all fun j => le (kind x i) (kind x j)).getD 0 : Nat) (tf (kind x (((List.range y.kinds).find? fun i => (List.range y.kinds).all fun j => le (kind x i) (kind x j)).getD 0))))) := rfl
theorem step_size (y : State) (f : Nat) : stepN (some y) 17 [f] = (some y, match y.fields[f]? with
    | none => [-2]
    | some x => [(size x : Int)]) := by
  have e : stepN (some y) 17 [f] = (some y, Kqp1Neutral.tell (match y.fields[f]? with
    | none => .num (-2)
    | some x => .num (size x))) := rfl
  rw [e]
  cases y.fields[f]? <;> rfl
theorem step_half (y : State) (s n : Nat) : stepN (some y) 18 [s, n] = (some y, if 100 < s ∨ 10 < n then [-22] else 0 :: tf (kept s n)) := by
  have e : stepN (some y) 18 [s, n] = (some y, Kqp1Neutral.tell (if 100 < s ∨ 10 < n then .num (-22) else tell (kept s n))) := rfl
  rw [e]
  split <;> rfl
theorem step_state (y : State) : stepN (some y) 19 [] = (some y, [(y.kinds : Int), (y.fields.length : Int)]) := rfl
/-! ## alike, mixed: bounds -/
theorem mixed_nn {k : Nat} (h2 : 2 ≤ k) (h4 : k ≤ 4) {W : List Int} (hW : W.length = (order k).length) (hn : NN W) : 0 ≤ W.sum - alike k W := by
  rw [← mixed_sum h2 h4 W hW]
  refine NN.sum fun v hv => ?_
  obtain ⟨x, _, rfl⟩ := List.mem_map.mp hv
  split
  · exact Int.le_refl _
  · exact hn.wt _ _
theorem alike_nn (k : Nat) {W : List Int} (hn : NN W) : 0 ≤ alike k W := by
  unfold alike
  refine NN.sum fun v hv => ?_
  obtain ⟨x, _, rfl⟩ := List.mem_map.mp hv
  exact hn.wt _ _
/-! ## lack -/
theorem lack_frac {m e : Int} {T S : Nat} (hT : 0 < T) (hS : 0 < S) (he : 0 < e) : sub ⟨1, 1⟩ (div (frac m T) (frac e S)) = frac ((T : Int) * e - m * S) ((T : Int) * e).toNat := by
  have h1 : 0 < T * e.toNat := Nat.mul_pos hT (by omega)
  rw [one_eq, div_frac m hT hS he, sub_frac _ _ (by omega) h1]
  have e1 : ((T : Int) * e).toNat = T * e.toNat := by
    have : (T : Int) * e = ((T * e.toNat : Nat) : Int) := by
      push_cast
      congr 1
      omega
    rw [this]
    rfl
  rw [e1]
  refine frac_eq (by omega) h1 ?_
  have e2 : ((e.toNat : Nat) : Int) = e := by omega
  push_cast
  rw [e2]
  grind
/-! ## rest -/
theorem rest_num {k : Nat} (h2 : 2 ≤ k) (h4 : k ≤ 4) (W : List Int) (hW : W.length = (order k).length) {T : Nat} (hT : 0 < T) (hs : (T : Int) = W.sum) :
    atRest k (rep W T) = (List.range (order k).length).all fun n => W.getD n 0 * (anyW k W).sum == (anyW k W).getD n 0 * W.sum := by
  rw [atRest_rep h2 h4 W hT, any_sum h2 h4 W hW, ← hs]
  congr 1
  funext n
  rw [Bool.eq_iff_iff, beq_iff_eq, beq_iff_eq]
  have hT' : (T : Int) ≠ 0 := by omega
  constructor
  · intro h
    rw [← h]
    grind
  · intro h
    refine Int.eq_of_mul_eq_mul_right hT' ?_
    rw [← h]
    grind
theorem selfed_zero {k : Nat} (h2 : 2 ≤ k) (h4 : k ≤ 4) (W : List Int) {T : Nat} (hT : 0 < T) (hs : (T : Int) = W.sum) : selfed k 0 (rep W T) = next k (rep W T) := by
  rw [selfed_rep h2 h4 W hT hs (by omega), next_rep h2 h4 W hT]
  unfold rep nextW
  rw [← range_zip _ _ _ _ (self_len k W) (any_len k W), List.map_map]
  have e : (anyW k W).map (fun v => frac v (4 * T * T)) = (List.range (order k).length).map fun n => frac ((anyW k W).getD n 0) (4 * T * T) := by
    rw [← any_len k W]
    exact (range_self (anyW k W) fun v => frac v (4 * T * T)).symm
  rw [e]
  refine List.map_congr_left fun n _ => ?_
  dsimp only [Function.comp]
  refine frac_eq (Nat.mul_pos (Nat.mul_pos (by omega) hT) hT) (Nat.mul_pos (Nat.mul_pos (by omega) hT) hT) ?_
  generalize (selfW k W).getD n 0 = x
  generalize (anyW k W).getD n 0 = y
  push_cast
  grind
theorem soon_find {k : Nat} (h2 : 2 ≤ k) (h4 : k ≤ 4) (W : List Int) (hW : W.length = (order k).length) {T : Nat} (hT : 0 < T) (hs : (T : Int) = W.sum) (n : Nat) :
    ((List.range (n + 1)).find? fun t => atRest k (after k 0 t (rep W T))) = if atRest k (rep W T) = true then some 0 else if n = 0 then none else some 1 := by
  rw [List.range_succ_eq_map, List.find?_cons]
  have e0 : after k 0 0 (rep W T) = rep W T := rfl
  rw [e0]
  cases c : atRest k (rep W T) with
  | true => rfl
  | false =>
    dsimp only
    rw [if_neg (by decide)]
    cases n with
    | zero => rfl
    | succ n =>
      rw [if_neg (by omega), List.range_succ_eq_map, List.map_cons, List.find?_cons]
      have e1 : after k 0 (0 + 1) (rep W T) = next k (rep W T) := selfed_zero h2 h4 W hT hs
      show (match atRest k (after k 0 (0 + 1) (rep W T)) with
        | true => some (0 + 1)
        | false => _) = some 1
      rw [e1, rest_next h2 h4 W hW hT hs]
/-! ## cross -/
theorem cross_len (k : Nat) (W V : List Int) : (crossW k W V).length = (order k).length := by unfold crossW; rw [List.length_map]
theorem cross_num {k : Nat} {x z : Field} (h2 : 2 ≤ k) (h4 : k ≤ 4) (hx : WFf k x) (hz : WFf k z) (hx0 : 0 < size x) (hz0 : 0 < size z) : cross x z = rep (crossW k (asInts x.pairs) (asInts z.pairs)) (4 * size x * size z) := by
  have e := hx.kinds
  have e' := hz.kinds
  rw [cross_rep (by omega) (by omega) (by omega) hx0 hz0, e]
  rfl
theorem NN.cross {k : Nat} {W V : List Int} (h : NN W) (h' : NN V) : NN (crossW k W V) := fun v hv => by
  obtain ⟨x, _, rfl⟩ := List.mem_map.mp hv
  have a := NN.kw (k := k) h x.1
  have b := NN.kw (k := k) h x.2
  have c := NN.kw (k := k) h' x.1
  have d := NN.kw (k := k) h' x.2
  split
  · exact Int.mul_nonneg a c
  · exact Int.add_nonneg (Int.mul_nonneg a d) (Int.mul_nonneg b c)
/-! ## rarest -/
theorem rarest_num {k : Nat} {x : Field} (h2 : 2 ≤ k) (h4 : k ≤ 4) (hx : WFf k x) (h0 : 0 < size x) :
    ((List.range k).find? fun i => (List.range k).all fun j => le (kind x i) (kind x j)) = (List.range k).find? fun i => (List.range k).all fun j => decide (kw k (asInts x.pairs) i ≤ kw k (asInts x.pairs) j) := by
  have key : ∀ i, i < k → ((List.range k).all fun j => le (kind x i) (kind x j)) = (List.range k).all fun j => decide (kw k (asInts x.pairs) i ≤ kw k (asInts x.pairs) j) := by
    intro i hi
    have hc : ∀ l : List Nat, (∀ j ∈ l, j < k) → (l.all fun j => le (kind x i) (kind x j)) = l.all fun j => decide (kw k (asInts x.pairs) i ≤ kw k (asInts x.pairs) j) := by
      intro l
      induction l with
      | nil => intro _; rfl
      | cons j l ih =>
        intro hl
        rw [List.all_cons, List.all_cons, ih fun j hj => hl j (List.mem_cons_of_mem _ hj)]
        congr 1
        have hj := hl j List.mem_cons_self
        have hp : 0 < (2 * (asInts x.pairs).sum).toNat := by
          have := fs_pos h2 h4 hx h0
          omega
        rw [kind_num h2 h4 hx h0 hi, kind_num h2 h4 hx h0 hj, le_frac _ _ hp hp]
        refine decide_eq_decide.mpr ⟨fun h => Int.le_of_mul_le_mul_right h (by omega), fun h => Int.mul_le_mul_of_nonneg_right h (by omega)⟩
    exact hc _ fun j hj => List.mem_range.mp hj
  have hf : ∀ l : List Nat, (∀ j ∈ l, j < k) → (l.find? fun i => (List.range k).all fun j => le (kind x i) (kind x j)) = l.find? fun i => (List.range k).all fun j => decide (kw k (asInts x.pairs) i ≤ kw k (asInts x.pairs) j) := by
    intro l
    induction l with
    | nil => intro _; rfl
    | cons j l ih =>
      intro hl
      rw [List.find?_cons, List.find?_cons, ih fun j hj => hl j (List.mem_cons_of_mem _ hj), key j (hl j List.mem_cons_self)]
  exact hf _ fun j hj => List.mem_range.mp hj
/-! ## together -/
noncomputable def togW (W V : List Int) : List Int := List.zipWith (fun a b => a + b) W V
theorem tog_pairs {k : Nat} {x z : Field} (hx : WFf k x) (hz : WFf k z) : asInts (together x z).pairs = togW (asInts x.pairs) (asInts z.pairs) := by
  have : (together x z).pairs = List.zipWith (fun a b => a + b) x.pairs z.pairs := by
    unfold together
    show (List.range (order x.kinds).length).map _ = _
    rw [hx.kinds]
    exact zip_range _ _ _ hx.len hz.len
  rw [this]
  unfold togW asInts
  rw [List.map_zipWith, List.zipWith_map]
  rfl
theorem tog_sum : ∀ (W V : List Int), W.length = V.length → (togW W V).sum = W.sum + V.sum
  | [], [], _ => rfl
  | a :: W, b :: V, h => by
    show ((a + b) :: togW W V).sum = _
    rw [List.sum_cons, tog_sum W V (by simpa using h), List.sum_cons, List.sum_cons]
    omega
  | [], _ :: _, h => by simp at h
  | _ :: _, [], h => by simp at h
theorem tog_len {W V : List Int} {n : Nat} (hW : W.length = n) (hV : V.length = n) : (togW W V).length = n := by
  unfold togW
  rw [List.length_zipWith, hW, hV, Nat.min_self]
theorem tog_now {k : Nat} {x z : Field} (h2 : 2 ≤ k) (h4 : k ≤ 4) (hx : WFf k x) (hz : WFf k z) : now (together x z) = rep (togW (asInts x.pairs) (asInts z.pairs)) (size (together x z)) := by
  have hk : (together x z).kinds = k := hx.kinds
  have hl : (together x z).pairs.length = (order k).length := by
    have := congrArg List.length (tog_pairs hx hz)
    have l1 : (asInts x.pairs).length = (order k).length := by unfold asInts; rw [List.length_map]; exact hx.len
    have l2 : (asInts z.pairs).length = (order k).length := by unfold asInts; rw [List.length_map]; exact hz.len
    rw [tog_len l1 l2] at this
    unfold asInts at this
    rw [List.length_map] at this
    exact this
  rw [now_rep (by rw [hk]; exact h2) (by rw [hk]; exact h4) (by rw [hk]; exact hl), tog_pairs hx hz]
theorem tog_size {k : Nat} {x z : Field} (hx : WFf k x) (hz : WFf k z) : (size (together x z) : Int) = (togW (asInts x.pairs) (asInts z.pairs)).sum := by
  rw [size_eq, tog_pairs hx hz]
end My

end
section
set_option maxRecDepth 100000
set_option linter.all false
namespace My
open Kqp1
/-! ## what refuses a call that asks for shares of some fields -/
noncomputable def refuseL (y : State) : List Nat → List Nat → Int
  | [], asked => if (asked.any fun i => decide (y.kinds ≤ i)) = true then -22 else 0
  | f :: fs, asked => match y.fields[f]? with
    | none => -2
    | some x => if size x = 0 then -6 else refuseL y fs asked
theorem refuseL_one (y : State) (f : Nat) (asked : List Nat) : refuseL y [f] asked = refuse y f asked := rfl
theorem refuse_tell2 {y : State} {f g : Nat} {asked : List Nat} (h : refuseL y [f, g] asked ≠ 0) (G : Field → Field → Ans) :
    Kqp1Neutral.tell (fieldAt y f fun x => if (([] : List Nat).any fun i => decide (y.kinds ≤ i)) = true then .num (-22) else fieldAt y g fun z => if (asked.any fun i => decide (y.kinds ≤ i)) = true then .num (-22) else G x z) = [refuseL y [f, g] asked] := by
  unfold refuseL at h ⊢
  unfold fieldAt
  cases e : y.fields[f]? with
  | none => rfl
  | some x =>
    rw [e] at h
    dsimp only at h ⊢
    by_cases c : size x = 0
    · rw [if_pos c, if_pos c]
      rfl
    · rw [if_neg c, if_neg c, no_any, if_neg (by decide)]
      rw [if_neg c] at h
      unfold refuseL at h ⊢
      cases e2 : y.fields[g]? with
      | none => rfl
      | some z =>
        rw [e2] at h
        dsimp only at h ⊢
        by_cases d : size z = 0
        · rw [if_pos d, if_pos d]
          rfl
        · rw [if_neg d, if_neg d]
          rw [if_neg d] at h
          unfold refuseL at h ⊢
          by_cases a : (asked.any fun i => decide (y.kinds ≤ i)) = true
          · rw [if_pos a, if_pos a]
            rfl
          · rw [if_neg a] at h
            exact absurd rfl h
theorem refuse_ok2 {y : State} {f g : Nat} {asked : List Nat} (h : refuseL y [f, g] asked = 0) :
    ∃ x z, y.fields[f]? = some x ∧ 0 < size x ∧ y.fields[g]? = some z ∧ 0 < size z ∧ (asked.any fun i => decide (y.kinds ≤ i)) = false ∧ ∀ i ∈ asked, i < y.kinds := by
  unfold refuseL at h
  cases e : y.fields[f]? with
  | none =>
    rw [e] at h
    dsimp only at h
    exact absurd h (by decide)
  | some x =>
    rw [e] at h
    dsimp only at h
    by_cases c : size x = 0
    · rw [if_pos c] at h
      exact absurd h (by decide)
    · rw [if_neg c, refuseL_one] at h
      obtain ⟨z, h1, h2, h3, h4⟩ := refuse_ok h
      exact ⟨x, z, rfl, by omega, h1, h2, h3, h4⟩
/-! ## crossed -/
theorem cross_rows (k : Nat) (W V : List Int) : (List.range k).flatMap (row k (fun i => kw k W i * kw k V i) fun i j => kw k W i * kw k V j + kw k W j * kw k V i) = crossW k W V := rows_all k _ _
theorem cross_at {k : Nat} {x z : Field} (h2 : 2 ≤ k) (h4 : k ≤ 4) (hx : WFf k x) (hz : WFf k z) (hx0 : 0 < size x) (hz0 : 0 < size z) : ((4 * size x * size z : Nat) : Int) = (crossW k (asInts x.pairs) (asInts z.pairs)).sum := by
  rw [cross_sum h2 h4 _ _ (fs_len h2 h4 hx hx0) (fs_len h2 h4 hz hz0), ← size_eq, ← size_eq]
  push_cast
  rfl
theorem cross_pair {k : Nat} {x z : Field} (h2 : 2 ≤ k) (h4 : k ≤ 4) (hx : WFf k x) (hz : WFf k z) (hx0 : 0 < size x) (hz0 : 0 < size z) (i j : Nat) :
    (cross x z).getD (place k i j) zero = frac (wt k (crossW k (asInts x.pairs) (asInts z.pairs)) i j) (crossW k (asInts x.pairs) (asInts z.pairs)).sum.toNat := by
  have hp : 0 < 4 * size x * size z := Nat.mul_pos (by omega) hz0
  rw [cross_num h2 h4 hx hz hx0 hz0, rep_getD hp, ← cross_at h2 h4 hx hz hx0 hz0]
  rfl
/-! ## at rest -/
noncomputable def restL (k : Nat) (W : List Int) : List Bool := List.zipWith (fun a b => decide (a * (anyW k W).sum = b * W.sum)) W (anyW k W)
noncomputable def restW (k : Nat) (W : List Int) : Bool := (restL k W).all id
theorem restL_len {k : Nat} {W : List Int} (hW : W.length = (order k).length) : (restL k W).length = (order k).length := by
  unfold restL
  rw [List.length_zipWith, hW, any_len, Nat.min_self]
theorem restW_eq (k : Nat) (W : List Int) : restW k W = (List.zipWith (fun a b => decide (a * (anyW k W).sum = b * W.sum)) W (anyW k W)).all id := rfl
theorem rest_eq {k : Nat} (h2 : 2 ≤ k) (h4 : k ≤ 4) (W : List Int) (hW : W.length = (order k).length) {T : Nat} (hT : 0 < T) (hs : (T : Int) = W.sum) : atRest k (rep W T) = restW k W := by
  rw [rest_num h2 h4 W hW hT hs, restW_eq, ← range_zip (fun a b => decide (a * (anyW k W).sum = b * W.sum)) W (anyW k W) _ hW (any_len k W), List.all_map]
  congr 1
theorem any_T {k : Nat} (h2 : 2 ≤ k) (h4 : k ≤ 4) (W : List Int) (hW : W.length = (order k).length) {T : Nat} (hs : (T : Int) = W.sum) : ((4 * T * T : Nat) : Int) = (anyW k W).sum := by
  rw [any_sum h2 h4 W hW, ← hs]
  push_cast
  rfl
theorem rest_any {k : Nat} (h2 : 2 ≤ k) (h4 : k ≤ 4) (W : List Int) (hW : W.length = (order k).length) (h0 : 0 < W.sum) : restW k (anyW k W) = true := by
  have hs : (W.sum.toNat : Int) = W.sum := by omega
  have hT : 0 < W.sum.toNat := by omega
  have := rest_next h2 h4 W hW hT hs
  rw [next_rep h2 h4 W hT, rest_eq h2 h4 _ (any_len k W) (Nat.mul_pos (Nat.mul_pos (by omega) hT) hT) (any_T h2 h4 W hW hs)] at this
  exact this
noncomputable def soonW (k : Nat) (W : List Int) (n : Nat) : Option Nat := if restW k W = true then some 0 else if n = 0 then none else some 1
theorem soon_eq {k : Nat} (h2 : 2 ≤ k) (h4 : k ≤ 4) (W : List Int) (hW : W.length = (order k).length) {T : Nat} (hT : 0 < T) (hs : (T : Int) = W.sum) (n : Nat) : ((List.range (n + 1)).find? fun t => atRest k (after k 0 t (rep W T))) = soonW k W n := by
  rw [soon_find h2 h4 W hW hT hs, rest_eq h2 h4 W hW hT hs]
  rfl
/-! ## lack -/
theorem frac_self (a : Int) {b : Nat} (hb : 0 < b) : frac (frac a b).num (frac a b).den = frac a b := frac_eq (den_pos a hb) hb (cross_eq a hb)
theorem lack_num (m e : Int) {T S : Nat} (hT : 0 < T) (hS : 0 < S) (he : 0 < (frac e S).num) : sub ⟨1, 1⟩ (div (frac m T) (frac e S)) = frac ((frac e S).num * (frac m T).den - (frac m T).num * (frac e S).den) ((frac e S).num * (frac m T).den).toNat := by
  have h := lack_frac (m := (frac m T).num) (e := (frac e S).num) (T := (frac m T).den) (S := (frac e S).den) (den_pos m hT) (den_pos e hS) he
  rw [frac_self m hT, frac_self e hS] at h
  rw [h, Int.mul_comm ((frac m T).den : Int)]
theorem frac_small {a : Int} (h0 : 0 ≤ a) {b : Nat} (hb : 0 < b) : 0 ≤ (frac a b).num ∧ (frac a b).num ≤ a ∧ (frac a b).den ≤ b := by
  obtain ⟨g, hg, e1, e2, _⟩ := frac_parts a hb
  have hn : 0 ≤ (frac a b).num := by
    rcases Int.lt_or_le (frac a b).num 0 with c | c
    · have : (frac a b).num * (g : Int) < 0 := Int.mul_neg_of_neg_of_pos c (by omega)
      omega
    · exact c
  refine ⟨hn, ?_, ?_⟩
  · have : (frac a b).num * 1 ≤ (frac a b).num * (g : Int) := Int.mul_le_mul_of_nonneg_left (by omega) hn
    omega
  · have : (frac a b).den * 1 ≤ (frac a b).den * g := Nat.mul_le_mul_left _ hg
    omega
/-! ## rarest -/
theorem first_at {m : Int} : ∀ {l : List Int}, m ∈ l → ∃ j : Nat, l[j]? = some m ∧ ∀ i : Nat, i < j → l[i]? ≠ some m
  | x :: l, h => by
    by_cases c : x = m
    · exact ⟨0, by rw [c]; rfl, fun i hi => absurd hi (by omega)⟩
    · have h' : m ∈ l := (List.mem_cons.mp h).resolve_left fun z => c z.symm
      obtain ⟨j, h1, h2⟩ := first_at h'
      refine ⟨j + 1, by rw [List.getElem?_cons_succ]; exact h1, fun i hi => ?_⟩
      cases i with
      | zero => intro z; exact c (Option.some.inj z)
      | succ i => rw [List.getElem?_cons_succ]; exact h2 i (by omega)
theorem rarest_first (k : Nat) (f : Nat → Int) {m : Int} {j : Nat} (hm : ∀ v ∈ (List.range k).map f, m ≤ v) (hj : ((List.range k).map f)[j]? = some m) (hno : ∀ i, i < j → ((List.range k).map f)[i]? ≠ some m) :
    ((List.range k).find? fun i => (List.range k).all fun t => decide (f i ≤ f t)) = some j := by
  have jk : j < k := by
    have := (List.getElem?_eq_some_iff.mp hj).1
    rwa [List.length_map, List.length_range] at this
  have at_ : ∀ i, i < k → ((List.range k).map f)[i]? = some (f i) := fun i hi => by
    rw [List.getElem?_map, List.getElem?_range hi]
    rfl
  have ej : f j = m := Option.some.inj ((at_ j jk).symm.trans hj)
  rw [List.find?_range_eq_some]
  refine ⟨?_, List.mem_range.mpr jk, fun i hi => ?_⟩
  · rw [List.all_eq_true]
    intro t ht
    rw [ej]
    exact decide_eq_true (hm _ (List.mem_map_of_mem ht))
  · rw [Bool.not_eq_true', List.all_eq_false]
    refine ⟨j, List.mem_range.mpr jk, fun c => hno i hi ?_⟩
    have c := of_decide_eq_true c
    have := hm (f i) (List.mem_map_of_mem (List.mem_range.mpr (by omega)))
    rw [at_ i (by omega)]
    congr 1
    omega
/-! ## together -/
theorem NN.tog {W V : List Int} (h : NN W) (h' : NN V) : NN (togW W V) := fun v hv => by
  obtain ⟨a, ha, b, hb, rfl⟩ := zip_mem hv
  have := h a ha
  have := h' b hb
  omega
section
variable {k : Nat} {x z : Field} (h2 : 2 ≤ k) (h4 : k ≤ 4) (hx : WFf k x) (hz : WFf k z) (hx0 : 0 < size x) (hz0 : 0 < size z)
include h2 h4 hx hz hx0 hz0
theorem tog_l : (togW (asInts x.pairs) (asInts z.pairs)).length = (order k).length := tog_len (fs_len h2 h4 hx hx0) (fs_len h2 h4 hz hz0)
theorem tog_s : (togW (asInts x.pairs) (asInts z.pairs)).sum = (asInts x.pairs).sum + (asInts z.pairs).sum := tog_sum _ _ ((fs_len h2 h4 hx hx0).trans (fs_len h2 h4 hz hz0).symm)
theorem tog_mixed : mixed k (now (together x z)) = frac ((togW (asInts x.pairs) (asInts z.pairs)).sum - alike k (togW (asInts x.pairs) (asInts z.pairs))) (togW (asInts x.pairs) (asInts z.pairs)).sum.toNat := by
  have e := tog_size hx hz
  have s := tog_s h2 h4 hx hz hx0 hz0
  have p := fs_pos h2 h4 hx hx0
  have p' := fs_pos h2 h4 hz hz0
  have hT : 0 < size (together x z) := by omega
  rw [tog_now h2 h4 hx hz, mixed_rep h2 h4 _ (tog_l h2 h4 hx hz hx0 hz0) hT, ← e]
  rfl
theorem tog_expected : expected k (now (together x z)) = frac ((anyW k (togW (asInts x.pairs) (asInts z.pairs))).sum - alike k (anyW k (togW (asInts x.pairs) (asInts z.pairs)))) (anyW k (togW (asInts x.pairs) (asInts z.pairs))).sum.toNat := by
  have e := tog_size hx hz
  have s := tog_s h2 h4 hx hz hx0 hz0
  have p := fs_pos h2 h4 hx hx0
  have p' := fs_pos h2 h4 hz hz0
  have hT : 0 < size (together x z) := by omega
  rw [tog_now h2 h4 hx hz, expected_rep h2 h4 _ hT, ← any_T h2 h4 _ (tog_l h2 h4 hx hz hx0 hz0) e]
  rfl
theorem crossNext_num : atRest k (cross x z) = restW k (crossW k (asInts x.pairs) (asInts z.pairs)) ∧ atRest k (next k (cross x z)) = restW k (anyW k (crossW k (asInts x.pairs) (asInts z.pairs))) := by
  have hp : 0 < 4 * size x * size z := Nat.mul_pos (by omega) hz0
  have e := cross_at h2 h4 hx hz hx0 hz0
  have l := cross_len k (asInts x.pairs) (asInts z.pairs)
  rw [cross_num h2 h4 hx hz hx0 hz0, next_rep h2 h4 _ hp]
  exact ⟨rest_eq h2 h4 _ l hp e, rest_eq h2 h4 _ (any_len _ _) (Nat.mul_pos (Nat.mul_pos (by omega) hp) hp) (any_T h2 h4 _ l e)⟩
end
theorem rest_field {k : Nat} {x : Field} (h2 : 2 ≤ k) (h4 : k ≤ 4) (hx : WFf k x) (h0 : 0 < size x) : atRest k (now x) = restW k (asInts x.pairs) := by
  rw [now_num h2 h4 hx h0]
  exact rest_eq h2 h4 _ (fs_len h2 h4 hx h0) h0 (size_eq x)
theorem soon_field {k : Nat} {x : Field} (h2 : 2 ≤ k) (h4 : k ≤ 4) (hx : WFf k x) (h0 : 0 < size x) (n : Nat) : ((List.range (n + 1)).find? fun t => atRest k (after k 0 t (now x))) = soonW k (asInts x.pairs) n := by
  rw [now_num h2 h4 hx h0]
  exact soon_eq h2 h4 _ (fs_len h2 h4 hx h0) h0 (size_eq x) n
theorem half_num {s n : Nat} (hs : s ≤ 100) : kept s n = frac ((200 - (s : Int)) ^ n) ((200 : Int) ^ n).toNat := by
  rw [kept_eq hs]
  have e1 : (((200 - s : Nat)) : Int) = 200 - (s : Int) := by omega
  have e2 : ((200 : Int) ^ n).toNat = 200 ^ n := by
    have : (200 : Int) ^ n = ((200 ^ n : Nat) : Int) := by push_cast; rfl
    rw [this]
    rfl
  rw [e1, e2]
theorem pow_small {b : Int} (h0 : 0 ≤ b) (h : b ≤ 200) : ∀ n : Nat, n ≤ 10 → 0 ≤ b ^ n ∧ b ^ n ≤ 200 ^ 10 := by
  intro n hn
  refine ⟨Int.pow_nonneg h0, ?_⟩
  have key : ∀ n : Nat, b ^ n ≤ 200 ^ n := fun n => by
    induction n with
    | zero => simp
    | succ n ih =>
      rw [Int.pow_succ, Int.pow_succ]
      have : b ^ n * b ≤ b ^ n * 200 := Int.mul_le_mul_of_nonneg_left h (Int.pow_nonneg h0)
      have : b ^ n * 200 ≤ 200 ^ n * 200 := Int.mul_le_mul_of_nonneg_right ih (by decide)
      omega
  refine Int.le_trans (key n) ?_
  have : (200 : Nat) ^ n ≤ 200 ^ 10 := Nat.pow_le_pow_right (by decide) hn
  have e : ∀ m : Nat, (200 : Int) ^ m = ((200 ^ m : Nat) : Int) := fun m => by push_cast; rfl
  rw [e n, e 10]
  exact Int.ofNat_le.mpr this
end My

end
section
set_option Elab.async false
set_option linter.all false
set_option maxRecDepth 100000
set_option maxHeartbeats 4000000
namespace L2
open PySem PySem.Spec PyProof.Rows
section
variable {X : Cx} {e : Expr} {es : List Expr} {t : TA} {x : Str} {p pos : Pos}
/-! ### great numbers -/
noncomputable def CBig (i j : Int) : Prop := i.natAbs < 2 ^ 250 ∧ j.natAbs < 2 ^ 250
theorem bits_big {k : Int} (h : k.natAbs < 2 ^ 250) : Builtin.Int.intBits k ≤ 250 := by
  unfold Builtin.Int.intBits
  split
  · exact Nat.zero_le _
  · have : k.natAbs.log2 < 250 := by
      rcases Nat.eq_zero_or_pos k.natAbs with h0 | hp
      · rw [h0]; decide
      · exact (Nat.log2_lt (Nat.ne_of_gt hp)).mpr h
    omega
theorem op_mulB : OpR X (binaryOp .Mult) (rI CBig fun i j => .int (i * j)) := opI fun _ _ _ _ _ _ _ hc q =>
  mul_int q (mulOk_of_bits (bits_big hc.1) (bits_big hc.2) (by decide))
theorem op_fdivB : OpR X (binaryOp .FloorDiv) (rI (fun _ j => 0 < j ∧ j.natAbs < 2 ^ 250) fun i j => .int (i / j)) := opI fun i j _ _ _ _ _ hc q => by
  have h1 : (0 : Int) < j := hc.1
  refine floordiv_int (by omega) (by rw [Int.fdiv_eq_ediv_of_nonneg i (by omega)]; exact q) (.inl (PyProof.noPylong_of_log2 ?_))
  exact (Nat.log2_lt (by omega)).mpr (Nat.lt_of_lt_of_le hc.2 (Nat.pow_le_pow_right (by decide) (by decide)))
/-- a whole number that a name of the file's top bears -/
theorem pe_const {v : Int} (hg : Gl X x) (h : ∃ t, X.mg x = some (.int v t)) (hd : (x == ("__debug__" : Str)) = false := by decide) : PE X (.Name x pos) (tC (.int v)) := by
  obtain ⟨t, h⟩ := h
  exact pe_glob hg h ⟨t, rfl⟩ hd
/-! ### a def that a local name bears, called -/
noncomputable def CanCall (X : Cx) (f : Addr) (vs : List V) (H : Hp) (Q : VK) : Prop := ∃ k fd ps sp, FnOk X.prog X.w X.K X.mg X.base CX0 k f fd ps sp ∧ Room k X.A ∧ Binds X.K fd ps [] ∧ sp vs H Q E0
noncomputable def tCallL (X : Cx) (i : Nat) (t : TA) : TE := fun σ H Q => ∃ f, σ[i]? = some (some (.ref f)) ∧ PySem.W.keepIn X.K (.ref f) = true ∧ t σ H fun vs H1 => CanCall X f vs H1 Q
theorem pe_callL (i : Nat) (ha : PA X (e :: es) t) (hN : X.N[i]? = some x := by rfl) (hv : Vis X.env.scope x := by first | exact Or.inl rfl | exact Or.inr (Or.inl rfl) | exact Or.inr (Or.inr rfl)) (hd : (x == ("__debug__" : Str)) = false := by decide)
    (hcd : (x == ("__classdict__" : Str)) = false := by decide) (he : starEach (e :: es) X.env = (false, eval e X.env) :: starEach es X.env := by rfl) (hpl : (backTo pos (starEach es X.env)).any (·.1) = false := by rfl)
    (hx : X.xe = fun _ _ => False := by rfl) :
    PE X (.Call (.Name x p) (e :: es) [] pos) (tCallL X i t) := by
  intro pins s σ H Q I h
  obtain ⟨f, ef, hk, h⟩ := h
  refine wpAny_Call_Name_kw ?_
  refine thn (pe_var (i := i) hN hv hd hcd pins s σ H (fun v H' => v = .ref f ∧ H' = H) I ⟨_, ef, rfl, rfl⟩) fun u s1 ⟨v, H1, I1, r1, e1, e2⟩ => ?_
  subst e1 e2
  cases r1
  refine PySem.W.callWith_K (h₀ := X.base) I1.ok.mod.kin hk (thn (ha pos pins s1 σ _ _ I1 h) fun us s2 ⟨vs, H2, I2, r, q⟩ => ⟨I2.kIn, ?_⟩) he hpl
  obtain ⟨k, fd, ps, sp, F, hr, hb, q⟩ := q
  exact run_fn (dvs := []) F hr hb .nil pass0 I2 r (by rw [List.append_nil]; exact q)
end
/-! ### the same rules where the context is a comprehension's -/
section
variable {X : Cx} {K : PySem.W.Frag} {e : Expr} {f : Str} {ta : TE} {pos : Pos}
theorem ix_listK (h : X.K = K) : IxR X (rIxL K) := by subst h; exact ix_list
theorem ix_tupK (h : X.K = K) : IxR X (rIxT K) := by subst h; exact ix_tup
theorem pe_fldK (h : X.K = K) (he : PE X e ta) (hb : attributeBase e f X.env (eval e X.env) = eval e X.env) : PE X (.Attribute e f pos) (tFld K ta f) := by subst h; exact pe_fld he hb
theorem cr_lenK (h : X.K = K) : CallR X (.builtin "len") (fun xs H Q => ∃ p ys, xs = [.ref p] ∧ (SqL K H p ys ∨ SqT K H p ys) ∧ Q (.int ys.length) H) := by subst h; exact call_len_seq
theorem cr_sumK (h : X.K = K) (hc : X.calm = true) : CallR X (.builtin "sum") (rSum K) := by subst h; exact cr_sum hc
theorem pg_tupK {es : List Expr} {k : Nat} {t : TGs} {n : Nat} (h : X.K = K) (hc : X.calm = true) (hg : PGs X es t)
    (hn : (assignEach es X.env).length = n := by rfl) (hst : (assignEach es X.env).findIdx? (·.1) = none := by rfl) : PG X (.Tuple es k pos) (gTup K n t) := by subst h; exact pg_tup hc hg hn hst
end
/-- a comprehension over two lists abreast that it leaves as they are -/
theorem lc_zip {K : PySem.W.Frag} {a b : Addr} {xs ys : List V} {g : TG} {tt : TT} {te : TE} {vs : List Nat} {σ : St} {H1 : Hp} {D : Addr} {Qd : Hp → Prop} (hxy : xs.length = ys.length) (Pv : Nat → Hp → Prop) (h0 : Pv 0 (upd H1 D (.lst []))) (hl : ∀ i H, i ≤ xs.length → Pv i H → SqL K H a xs ∧ SqL K H b ys)
    (hs : ∀ i x y T H, xs[i]? = some x → ys[i]? = some y → H T = none → Pv i H → g (.ref T) (wipe σ vs) (upd H T (.tup [x, y])) fun σ2 H2 => wipe σ2 vs = wipe σ vs ∧ tt σ2 H2 fun b H3 =>
      if b = true then te σ2 H3 fun y H4 => ∃ acc, H4 D = some (.lst acc) ∧ acc.length < sizeLine ∧ Pv (i + 1) (upd H4 D (.lst (acc ++ [y]))) else Pv (i + 1) H3) (hd : ∀ H, Pv xs.length H → Qd H) :
    ∃ W : Nat → Nat → Hp → Prop, (∃ m, W 0 m (upd H1 D (.lst []))) ∧ ∀ i m H, W i m H →
      ((Itz K a b).stop i H ∧ Qd H) ∨ ((Itz K a b).go i H ∧ ∃ Nx : Hp → Prop, (∀ H', Nx H' → ∃ m', m' < m ∧ W (i + 1) m' H') ∧ ∀ x H', (Itz K a b).yld i H x H' → g x (wipe σ vs) H' fun σ2 H2 => wipe σ2 vs = wipe σ vs ∧ tt σ2 H2 fun b H3 =>
        if b = true then te σ2 H3 fun y H4 => ∃ acc, H4 D = some (.lst acc) ∧ acc.length < sizeLine ∧ Nx (upd H4 D (.lst (acc ++ [y]))) else Nx H3) := by
  refine ⟨fun i m H => m = xs.length - i ∧ i ≤ xs.length ∧ Pv i H, ⟨xs.length, by simp, Nat.zero_le _, h0⟩, ?_⟩
  rintro i m H ⟨rfl, hi, p⟩
  obtain ⟨q1, q2⟩ := hl i H hi p
  by_cases hlt : i < xs.length
  · refine .inr ⟨⟨xs, ys, xs[i], ys[i]'(by omega), q1, q2, by simp [hlt], by simp⟩, Pv (i + 1), fun H' p' => ⟨xs.length - (i + 1), by omega, rfl, hlt, p'⟩, fun x H' y => ?_⟩
    obtain ⟨T, x, y, e, hT, e', hx, hy⟩ := y
    subst e e'
    exact hs i x y T _ (hx xs q1) (hy ys q2) hT p
  · have e : i = xs.length := by omega
    subst e
    exact .inl ⟨⟨xs, ys, q1, q2, .inl (Nat.le_refl _)⟩, hd H p⟩
/-! ### lists that are made -/
/-- a new list of whole numbers, all else as it was -/
structure Made (H H' : Hp) (p : Addr) (xs : List Int) : Prop where
  new : H p = none
  same : Same H H'
  is : H' p = some (.lst (xs.map V.int))
theorem Same.upd {H : Hp} {p : Addr} {o : HO} (h : H p = none) : Same H (L2.upd H p o) := fun b u e => by
  rw [upd_ne (ne_of_none e h)]
  exact e
theorem Made.one {H : Hp} {p : Addr} {xs : List V} (ns : List Int) (h : H p = none) (e : xs = ns.map V.int) : Made H (L2.upd H p (.lst xs)) p ns := ⟨h, Same.upd h, by rw [upd_same, e]⟩
theorem Made.before {H0 H H' : Hp} {p : Addr} {xs : List Int} (s : Same H0 H) (m : Made H H' p xs) : Made H0 H' p xs := ⟨s.free m.new, s.trans m.same, m.is⟩
theorem Made.sq {K : PySem.W.Frag} {H H' : Hp} {p : Addr} {xs : List Int} (m : Made H H' p xs) : SqL K H' p (xs.map V.int) := SqL.of m.is
/-- the i-th of whole numbers -/
theorem at_int {W : List Int} {j : Nat} (h : j < W.length) : atI (W.map V.int) (j : Int) = some (V.int (W.getD j 0)) := by
  refine atI_nat ?_
  rw [List.getElem?_map, List.getElem?_eq_getElem h, List.getD_eq_getElem?_getD, List.getElem?_eq_getElem h]
  rfl
theorem int_at {W : List Int} {i : Nat} {x : V} (h : (W.map V.int)[i]? = some x) : ∃ z, W[i]? = some z ∧ x = V.int z := by
  rw [List.getElem?_map] at h
  cases e : W[i]? with
  | none => rw [e] at h; cases h
  | some z => rw [e] at h; exact ⟨z, rfl, (Option.some.inj h).symm⟩
theorem take_more {α : Type} {l : List α} {i : Nat} {x : α} (h : l[i]? = some x) : l.take (i + 1) = l.take i ++ [x] := by
  rw [List.take_succ, h]
  rfl
end L2

end
section
set_option Elab.async false
set_option linter.all false
set_option maxRecDepth 100000
set_option maxHeartbeats 4000000
namespace Pf
open PySem PySem.Spec PyProof.Rows L2
open My (wt kw anyW selfW nextW laterW NN)
open Kqp1 (order place frac)
noncomputable def top (i : Nat) : Stmt := PySem.Challenge.pw_restsquares_s01_answers.main.body.getD i (.Pass ⟨0, 0, 0, 0⟩)
noncomputable abbrev s_common_divisor : Stmt := top 2
noncomputable abbrev s_fraction : Stmt := top 3
noncomputable abbrev s_pair_count : Stmt := top 4
noncomputable abbrev s_pair_place : Stmt := top 5
noncomputable abbrev s_kind_weights : Stmt := top 6
noncomputable abbrev s_weights_crossed : Stmt := top 7
noncomputable abbrev s_weights_by_any : Stmt := top 8
noncomputable abbrev s_weights_by_themselves : Stmt := top 9
noncomputable abbrev s_next_weights : Stmt := top 10
noncomputable abbrev s_later_weights : Stmt := top 11
noncomputable abbrev s_weights_together : Stmt := top 12
noncomputable abbrev s_is_at_rest : Stmt := top 13
noncomputable abbrev s_generations_to_rest : Stmt := top 14
noncomputable abbrev s_share_of_pair : Stmt := top 15
noncomputable abbrev s_share_of_kind : Stmt := top 16
noncomputable abbrev s_share_mixed : Stmt := top 17
noncomputable abbrev s_share_expected : Stmt := top 18
noncomputable abbrev s_lack_of_mixed : Stmt := top 19
noncomputable abbrev s_rarest_kind : Stmt := top 20
noncomputable abbrev s_left_by_halves : Stmt := top 21
noncomputable abbrev s_Garden_init : Stmt := inClass (top 40) 0
noncomputable abbrev s_is_no_field : Stmt := top 41
noncomputable abbrev s_is_no_kind : Stmt := top 42
noncomputable abbrev s_shares_refusal : Stmt := top 43
noncomputable abbrev s_change_refusal : Stmt := top 44
noncomputable abbrev s_one_if : Stmt := top 45
noncomputable abbrev s_answer_start : Stmt := top 46
noncomputable abbrev s_answer_field : Stmt := top 47
noncomputable abbrev s_answer_put : Stmt := top 48
noncomputable abbrev s_answer_take : Stmt := top 49
noncomputable abbrev s_answer_share : Stmt := top 50
noncomputable abbrev s_answer_kind : Stmt := top 51
noncomputable abbrev s_answer_next : Stmt := top 52
noncomputable abbrev s_answer_after : Stmt := top 53
noncomputable abbrev s_answer_mixed : Stmt := top 54
noncomputable abbrev s_answer_expected : Stmt := top 55
noncomputable abbrev s_answer_lack : Stmt := top 56
noncomputable abbrev s_answer_rest : Stmt := top 57
noncomputable abbrev s_answer_soon : Stmt := top 58
noncomputable abbrev s_answer_together : Stmt := top 59
noncomputable abbrev s_answer_cross : Stmt := top 60
noncomputable abbrev s_answer_cross_next : Stmt := top 61
noncomputable abbrev s_answer_rarest : Stmt := top 62
noncomputable abbrev s_answer_size : Stmt := top 63
noncomputable abbrev s_answer_half : Stmt := top 64
noncomputable abbrev s_answer_state : Stmt := top 65
noncomputable abbrev s_answer_of : Stmt := top 67
noncomputable abbrev s_told_begin : Stmt := top 68
noncomputable abbrev s_told_count : Stmt := top 69
noncomputable abbrev s_answers : Stmt := top 70
set_option genInjectivity false in
set_option genSizeOf false in
structure Ad where
  f_common_divisor : Addr
  d_common_divisor : FuncData
  f_fraction : Addr
  d_fraction : FuncData
  f_pair_count : Addr
  d_pair_count : FuncData
  f_pair_place : Addr
  d_pair_place : FuncData
  f_kind_weights : Addr
  d_kind_weights : FuncData
  f_weights_crossed : Addr
  d_weights_crossed : FuncData
  f_weights_by_any : Addr
  d_weights_by_any : FuncData
  f_weights_by_themselves : Addr
  d_weights_by_themselves : FuncData
  f_next_weights : Addr
  d_next_weights : FuncData
  f_later_weights : Addr
  d_later_weights : FuncData
  f_weights_together : Addr
  d_weights_together : FuncData
  f_is_at_rest : Addr
  d_is_at_rest : FuncData
  f_generations_to_rest : Addr
  d_generations_to_rest : FuncData
  f_share_of_pair : Addr
  d_share_of_pair : FuncData
  f_share_of_kind : Addr
  d_share_of_kind : FuncData
  f_share_mixed : Addr
  d_share_mixed : FuncData
  f_share_expected : Addr
  d_share_expected : FuncData
  f_lack_of_mixed : Addr
  d_lack_of_mixed : FuncData
  f_rarest_kind : Addr
  d_rarest_kind : FuncData
  f_left_by_halves : Addr
  d_left_by_halves : FuncData
  f_Garden_init : Addr
  d_Garden_init : FuncData
  f_is_no_field : Addr
  d_is_no_field : FuncData
  f_is_no_kind : Addr
  d_is_no_kind : FuncData
  f_shares_refusal : Addr
  d_shares_refusal : FuncData
  f_change_refusal : Addr
  d_change_refusal : FuncData
  f_one_if : Addr
  d_one_if : FuncData
  f_answer_start : Addr
  d_answer_start : FuncData
  f_answer_field : Addr
  d_answer_field : FuncData
  f_answer_put : Addr
  d_answer_put : FuncData
  f_answer_take : Addr
  d_answer_take : FuncData
  f_answer_share : Addr
  d_answer_share : FuncData
  f_answer_kind : Addr
  d_answer_kind : FuncData
  f_answer_next : Addr
  d_answer_next : FuncData
  f_answer_after : Addr
  d_answer_after : FuncData
  f_answer_mixed : Addr
  d_answer_mixed : FuncData
  f_answer_expected : Addr
  d_answer_expected : FuncData
  f_answer_lack : Addr
  d_answer_lack : FuncData
  f_answer_rest : Addr
  d_answer_rest : FuncData
  f_answer_soon : Addr
  d_answer_soon : FuncData
  f_answer_together : Addr
  d_answer_together : FuncData
  f_answer_cross : Addr
  d_answer_cross : FuncData
  f_answer_cross_next : Addr
  d_answer_cross_next : FuncData
  f_answer_rarest : Addr
  d_answer_rarest : FuncData
  f_answer_size : Addr
  d_answer_size : FuncData
  f_answer_half : Addr
  d_answer_half : FuncData
  f_answer_state : Addr
  d_answer_state : FuncData
  f_answer_of : Addr
  d_answer_of : FuncData
  f_told_begin : Addr
  d_told_begin : FuncData
  f_told_count : Addr
  d_told_count : FuncData
  f_answers : Addr
  d_answers : FuncData
  C_Garden : Addr
  t_TOLD_COUNTS : Addr
  t_ANSWERERS : Addr
structure Txt (K : PySem.W.Frag) (mg : Str → Option Value) (a : Ad) : Prop where
  F_common_divisor : Fun K "common_divisor" "common_divisor" s_common_divisor a.f_common_divisor a.d_common_divisor
  b_common_divisor : Binds K a.d_common_divisor ["a", "b"] []
  m_common_divisor : mg "common_divisor" = some (.ref a.f_common_divisor)
  F_fraction : Fun K "fraction" "fraction" s_fraction a.f_fraction a.d_fraction
  b_fraction : Binds K a.d_fraction ["upper", "lower"] []
  m_fraction : mg "fraction" = some (.ref a.f_fraction)
  F_pair_count : Fun K "pair_count" "pair_count" s_pair_count a.f_pair_count a.d_pair_count
  b_pair_count : Binds K a.d_pair_count ["kinds"] []
  m_pair_count : mg "pair_count" = some (.ref a.f_pair_count)
  F_pair_place : Fun K "pair_place" "pair_place" s_pair_place a.f_pair_place a.d_pair_place
  b_pair_place : Binds K a.d_pair_place ["kinds", "i", "j"] []
  m_pair_place : mg "pair_place" = some (.ref a.f_pair_place)
  F_kind_weights : Fun K "kind_weights" "kind_weights" s_kind_weights a.f_kind_weights a.d_kind_weights
  b_kind_weights : Binds K a.d_kind_weights ["kinds", "weights"] []
  m_kind_weights : mg "kind_weights" = some (.ref a.f_kind_weights)
  F_weights_crossed : Fun K "weights_crossed" "weights_crossed" s_weights_crossed a.f_weights_crossed a.d_weights_crossed
  b_weights_crossed : Binds K a.d_weights_crossed ["kinds", "hers", "his"] []
  m_weights_crossed : mg "weights_crossed" = some (.ref a.f_weights_crossed)
  F_weights_by_any : Fun K "weights_by_any" "weights_by_any" s_weights_by_any a.f_weights_by_any a.d_weights_by_any
  b_weights_by_any : Binds K a.d_weights_by_any ["kinds", "weights"] []
  m_weights_by_any : mg "weights_by_any" = some (.ref a.f_weights_by_any)
  F_weights_by_themselves : Fun K "weights_by_themselves" "weights_by_themselves" s_weights_by_themselves a.f_weights_by_themselves a.d_weights_by_themselves
  b_weights_by_themselves : Binds K a.d_weights_by_themselves ["kinds", "weights"] []
  m_weights_by_themselves : mg "weights_by_themselves" = some (.ref a.f_weights_by_themselves)
  F_next_weights : Fun K "next_weights" "next_weights" s_next_weights a.f_next_weights a.d_next_weights
  b_next_weights : Binds K a.d_next_weights ["kinds", "weights", "s"] []
  m_next_weights : mg "next_weights" = some (.ref a.f_next_weights)
  F_later_weights : Fun K "later_weights" "later_weights" s_later_weights a.f_later_weights a.d_later_weights
  b_later_weights : Binds K a.d_later_weights ["kinds", "weights", "s", "n"] []
  m_later_weights : mg "later_weights" = some (.ref a.f_later_weights)
  F_weights_together : Fun K "weights_together" "weights_together" s_weights_together a.f_weights_together a.d_weights_together
  b_weights_together : Binds K a.d_weights_together ["one", "other"] []
  m_weights_together : mg "weights_together" = some (.ref a.f_weights_together)
  F_is_at_rest : Fun K "is_at_rest" "is_at_rest" s_is_at_rest a.f_is_at_rest a.d_is_at_rest
  b_is_at_rest : Binds K a.d_is_at_rest ["kinds", "weights"] []
  m_is_at_rest : mg "is_at_rest" = some (.ref a.f_is_at_rest)
  F_generations_to_rest : Fun K "generations_to_rest" "generations_to_rest" s_generations_to_rest a.f_generations_to_rest a.d_generations_to_rest
  b_generations_to_rest : Binds K a.d_generations_to_rest ["kinds", "weights", "n"] []
  m_generations_to_rest : mg "generations_to_rest" = some (.ref a.f_generations_to_rest)
  F_share_of_pair : Fun K "share_of_pair" "share_of_pair" s_share_of_pair a.f_share_of_pair a.d_share_of_pair
  b_share_of_pair : Binds K a.d_share_of_pair ["kinds", "weights", "i", "j"] []
  m_share_of_pair : mg "share_of_pair" = some (.ref a.f_share_of_pair)
  F_share_of_kind : Fun K "share_of_kind" "share_of_kind" s_share_of_kind a.f_share_of_kind a.d_share_of_kind
  b_share_of_kind : Binds K a.d_share_of_kind ["kinds", "weights", "i"] []
  m_share_of_kind : mg "share_of_kind" = some (.ref a.f_share_of_kind)
  F_share_mixed : Fun K "share_mixed" "share_mixed" s_share_mixed a.f_share_mixed a.d_share_mixed
  b_share_mixed : Binds K a.d_share_mixed ["kinds", "weights"] []
  m_share_mixed : mg "share_mixed" = some (.ref a.f_share_mixed)
  F_share_expected : Fun K "share_expected" "share_expected" s_share_expected a.f_share_expected a.d_share_expected
  b_share_expected : Binds K a.d_share_expected ["kinds", "weights"] []
  m_share_expected : mg "share_expected" = some (.ref a.f_share_expected)
  F_lack_of_mixed : Fun K "lack_of_mixed" "lack_of_mixed" s_lack_of_mixed a.f_lack_of_mixed a.d_lack_of_mixed
  b_lack_of_mixed : Binds K a.d_lack_of_mixed ["mixed", "expected"] []
  m_lack_of_mixed : mg "lack_of_mixed" = some (.ref a.f_lack_of_mixed)
  F_rarest_kind : Fun K "rarest_kind" "rarest_kind" s_rarest_kind a.f_rarest_kind a.d_rarest_kind
  b_rarest_kind : Binds K a.d_rarest_kind ["kinds", "weights"] []
  m_rarest_kind : mg "rarest_kind" = some (.ref a.f_rarest_kind)
  F_left_by_halves : Fun K "left_by_halves" "left_by_halves" s_left_by_halves a.f_left_by_halves a.d_left_by_halves
  b_left_by_halves : Binds K a.d_left_by_halves ["s", "n"] []
  m_left_by_halves : mg "left_by_halves" = some (.ref a.f_left_by_halves)
  F_Garden_init : Fun K "__init__" "Garden.__init__" s_Garden_init a.f_Garden_init a.d_Garden_init
  b_Garden_init : Binds K a.d_Garden_init ["self"] []
  F_is_no_field : Fun K "is_no_field" "is_no_field" s_is_no_field a.f_is_no_field a.d_is_no_field
  b_is_no_field : Binds K a.d_is_no_field ["garden", "f"] []
  m_is_no_field : mg "is_no_field" = some (.ref a.f_is_no_field)
  F_is_no_kind : Fun K "is_no_kind" "is_no_kind" s_is_no_kind a.f_is_no_kind a.d_is_no_kind
  b_is_no_kind : Binds K a.d_is_no_kind ["garden", "asked_kinds"] []
  m_is_no_kind : mg "is_no_kind" = some (.ref a.f_is_no_kind)
  F_shares_refusal : Fun K "shares_refusal" "shares_refusal" s_shares_refusal a.f_shares_refusal a.d_shares_refusal
  b_shares_refusal : Binds K a.d_shares_refusal ["garden", "asked_fields", "asked_kinds"] []
  m_shares_refusal : mg "shares_refusal" = some (.ref a.f_shares_refusal)
  F_change_refusal : Fun K "change_refusal" "change_refusal" s_change_refusal a.f_change_refusal a.d_change_refusal
  b_change_refusal : Binds K a.d_change_refusal ["garden", "f", "asked_kinds", "n"] []
  m_change_refusal : mg "change_refusal" = some (.ref a.f_change_refusal)
  F_one_if : Fun K "one_if" "one_if" s_one_if a.f_one_if a.d_one_if
  b_one_if : Binds K a.d_one_if ["holds"] []
  m_one_if : mg "one_if" = some (.ref a.f_one_if)
  F_answer_start : Fun K "answer_start" "answer_start" s_answer_start a.f_answer_start a.d_answer_start
  b_answer_start : Binds K a.d_answer_start ["garden", "told"] []
  m_answer_start : mg "answer_start" = some (.ref a.f_answer_start)
  F_answer_field : Fun K "answer_field" "answer_field" s_answer_field a.f_answer_field a.d_answer_field
  b_answer_field : Binds K a.d_answer_field ["garden", "told"] []
  m_answer_field : mg "answer_field" = some (.ref a.f_answer_field)
  F_answer_put : Fun K "answer_put" "answer_put" s_answer_put a.f_answer_put a.d_answer_put
  b_answer_put : Binds K a.d_answer_put ["garden", "told"] []
  m_answer_put : mg "answer_put" = some (.ref a.f_answer_put)
  F_answer_take : Fun K "answer_take" "answer_take" s_answer_take a.f_answer_take a.d_answer_take
  b_answer_take : Binds K a.d_answer_take ["garden", "told"] []
  m_answer_take : mg "answer_take" = some (.ref a.f_answer_take)
  F_answer_share : Fun K "answer_share" "answer_share" s_answer_share a.f_answer_share a.d_answer_share
  b_answer_share : Binds K a.d_answer_share ["garden", "told"] []
  m_answer_share : mg "answer_share" = some (.ref a.f_answer_share)
  F_answer_kind : Fun K "answer_kind" "answer_kind" s_answer_kind a.f_answer_kind a.d_answer_kind
  b_answer_kind : Binds K a.d_answer_kind ["garden", "told"] []
  m_answer_kind : mg "answer_kind" = some (.ref a.f_answer_kind)
  F_answer_next : Fun K "answer_next" "answer_next" s_answer_next a.f_answer_next a.d_answer_next
  b_answer_next : Binds K a.d_answer_next ["garden", "told"] []
  m_answer_next : mg "answer_next" = some (.ref a.f_answer_next)
  F_answer_after : Fun K "answer_after" "answer_after" s_answer_after a.f_answer_after a.d_answer_after
  b_answer_after : Binds K a.d_answer_after ["garden", "told"] []
  m_answer_after : mg "answer_after" = some (.ref a.f_answer_after)
  F_answer_mixed : Fun K "answer_mixed" "answer_mixed" s_answer_mixed a.f_answer_mixed a.d_answer_mixed
  b_answer_mixed : Binds K a.d_answer_mixed ["garden", "told"] []
  m_answer_mixed : mg "answer_mixed" = some (.ref a.f_answer_mixed)
  F_answer_expected : Fun K "answer_expected" "answer_expected" s_answer_expected a.f_answer_expected a.d_answer_expected
  b_answer_expected : Binds K a.d_answer_expected ["garden", "told"] []
  m_answer_expected : mg "answer_expected" = some (.ref a.f_answer_expected)
  F_answer_lack : Fun K "answer_lack" "answer_lack" s_answer_lack a.f_answer_lack a.d_answer_lack
  b_answer_lack : Binds K a.d_answer_lack ["garden", "told"] []
  m_answer_lack : mg "answer_lack" = some (.ref a.f_answer_lack)
  F_answer_rest : Fun K "answer_rest" "answer_rest" s_answer_rest a.f_answer_rest a.d_answer_rest
  b_answer_rest : Binds K a.d_answer_rest ["garden", "told"] []
  m_answer_rest : mg "answer_rest" = some (.ref a.f_answer_rest)
  F_answer_soon : Fun K "answer_soon" "answer_soon" s_answer_soon a.f_answer_soon a.d_answer_soon
  b_answer_soon : Binds K a.d_answer_soon ["garden", "told"] []
  m_answer_soon : mg "answer_soon" = some (.ref a.f_answer_soon)
  F_answer_together : Fun K "answer_together" "answer_together" s_answer_together a.f_answer_together a.d_answer_together
  b_answer_together : Binds K a.d_answer_together ["garden", "told"] []
  m_answer_together : mg "answer_together" = some (.ref a.f_answer_together)
  F_answer_cross : Fun K "answer_cross" "answer_cross" s_answer_cross a.f_answer_cross a.d_answer_cross
  b_answer_cross : Binds K a.d_answer_cross ["garden", "told"] []
  m_answer_cross : mg "answer_cross" = some (.ref a.f_answer_cross)
  F_answer_cross_next : Fun K "answer_cross_next" "answer_cross_next" s_answer_cross_next a.f_answer_cross_next a.d_answer_cross_next
  b_answer_cross_next : Binds K a.d_answer_cross_next ["garden", "told"] []
  m_answer_cross_next : mg "answer_cross_next" = some (.ref a.f_answer_cross_next)
  F_answer_rarest : Fun K "answer_rarest" "answer_rarest" s_answer_rarest a.f_answer_rarest a.d_answer_rarest
  b_answer_rarest : Binds K a.d_answer_rarest ["garden", "told"] []
  m_answer_rarest : mg "answer_rarest" = some (.ref a.f_answer_rarest)
  F_answer_size : Fun K "answer_size" "answer_size" s_answer_size a.f_answer_size a.d_answer_size
  b_answer_size : Binds K a.d_answer_size ["garden", "told"] []
  m_answer_size : mg "answer_size" = some (.ref a.f_answer_size)
  F_answer_half : Fun K "answer_half" "answer_half" s_answer_half a.f_answer_half a.d_answer_half
  b_answer_half : Binds K a.d_answer_half ["garden", "told"] []
  m_answer_half : mg "answer_half" = some (.ref a.f_answer_half)
  F_answer_state : Fun K "answer_state" "answer_state" s_answer_state a.f_answer_state a.d_answer_state
  b_answer_state : Binds K a.d_answer_state ["garden", "told"] []
  m_answer_state : mg "answer_state" = some (.ref a.f_answer_state)
  F_answer_of : Fun K "answer_of" "answer_of" s_answer_of a.f_answer_of a.d_answer_of
  b_answer_of : Binds K a.d_answer_of ["garden", "number", "told"] []
  m_answer_of : mg "answer_of" = some (.ref a.f_answer_of)
  F_told_begin : Fun K "told_begin" "told_begin" s_told_begin a.f_told_begin a.d_told_begin
  b_told_begin : Binds K a.d_told_begin ["calls", "place"] []
  m_told_begin : mg "told_begin" = some (.ref a.f_told_begin)
  F_told_count : Fun K "told_count" "told_count" s_told_count a.f_told_count a.d_told_count
  b_told_count : Binds K a.d_told_count ["calls", "place"] []
  m_told_count : mg "told_count" = some (.ref a.f_told_count)
  F_answers : Fun K "answers" "answers" s_answers a.f_answers a.d_answers
  b_answers : Binds K a.d_answers ["calls"] []
  m_answers : mg "answers" = some (.ref a.f_answers)
  c_HUNDRED : ∃ t, mg "HUNDRED" = some (.int (100) t)
  c_NO_FIELD : ∃ t, mg "NO_FIELD" = some (.int (-2) t)
  c_NO_PLANTS : ∃ t, mg "NO_PLANTS" = some (.int (-6) t)
  c_NOT_STARTED : ∃ t, mg "NOT_STARTED" = some (.int (-11) t)
  c_TOO_FEW : ∃ t, mg "TOO_FEW" = some (.int (-12) t)
  c_WRONG : ∃ t, mg "WRONG" = some (.int (-22) t)
  c_FULL : ∃ t, mg "FULL" = some (.int (-28) t)
  c_NO_ANSWER : ∃ t, mg "NO_ANSWER" = some (.int (-33) t)
  c_FEWEST_KINDS : ∃ t, mg "FEWEST_KINDS" = some (.int (2) t)
  c_MOST_KINDS : ∃ t, mg "MOST_KINDS" = some (.int (4) t)
  c_MOST_FIELDS : ∃ t, mg "MOST_FIELDS" = some (.int (6) t)
  c_MOST_OF_A_PAIR : ∃ t, mg "MOST_OF_A_PAIR" = some (.int (100) t)
  c_MOST_OF_HUNDRED : ∃ t, mg "MOST_OF_HUNDRED" = some (.int (100) t)
  c_MOST_GENERATIONS : ∃ t, mg "MOST_GENERATIONS" = some (.int (3) t)
  c_MOST_HALVES : ∃ t, mg "MOST_HALVES" = some (.int (10) t)
  c_START : ∃ t, mg "START" = some (.int (0) t)
  c_FIELD : ∃ t, mg "FIELD" = some (.int (1) t)
  t_TOLD_COUNTS : mg "TOLD_COUNTS" = some (.ref a.t_TOLD_COUNTS)
  q_TOLD_COUNTS : ∀ H, SqT K H a.t_TOLD_COUNTS (([1, 0, 4, 4, 3, 2, 3, 5, 1, 1, 1, 1, 2, 2, 4, 2, 1, 1, 2, 0] : List Int).map V.int)
  t_ANSWERERS : mg "ANSWERERS" = some (.ref a.t_ANSWERERS)
  q_ANSWERERS : ∀ H, SqT K H a.t_ANSWERERS ([V.ref a.f_answer_start, V.ref a.f_answer_field, V.ref a.f_answer_put, V.ref a.f_answer_take, V.ref a.f_answer_share, V.ref a.f_answer_kind, V.ref a.f_answer_next, V.ref a.f_answer_after, V.ref a.f_answer_mixed, V.ref a.f_answer_expected, V.ref a.f_answer_lack, V.ref a.f_answer_rest, V.ref a.f_answer_soon, V.ref a.f_answer_together, V.ref a.f_answer_cross, V.ref a.f_answer_cross_next, V.ref a.f_answer_rarest, V.ref a.f_answer_size, V.ref a.f_answer_half, V.ref a.f_answer_state])
  n_len : mg "len" = none
  n_sum : mg "sum" = none
  n_any : mg "any" = none
  n_all : mg "all" = none
  n_min : mg "min" = none
  n_max : mg "max" = none
  n_list : mg "list" = none
  n_range : mg "range" = none
  n_zip : mg "zip" = none
  m_Garden : mg "Garden" = some (.ref a.C_Garden)
  M_Garden : Mk K a.C_Garden a.f_Garden_init
  cl_Garden : Cls K a.C_Garden
  no_fields : NoAttr K a.C_Garden "fields"
  no_kinds : NoAttr K a.C_Garden "kinds"
/-! ### promises -/
noncomputable def spGcd : Sp := fun vs H Q _ => ∃ x y : Int, vs = [.int x, .int y] ∧ 0 < y ∧ Q (.int (Int.gcd x y : Int)) H
noncomputable def spFrac : Sp := fun vs H Q _ => ∃ x y : Int, vs = [.int x, .int y] ∧ 0 < y ∧ y < 2 ^ 249 ∧ ∀ p, H p = none → Q (.ref p) (upd H p (.lst [.int (frac x y.toNat).num, .int ((frac x y.toNat).den : Nat)]))
noncomputable def spCount : Sp := fun vs H Q _ => ∃ k : Nat, vs = [.int k] ∧ 2 ≤ k ∧ k ≤ 4 ∧ Q (.int ((order k).length : Nat)) H
noncomputable def spPlace : Sp := fun vs H Q _ => ∃ k i j : Nat, vs = [.int k, .int i, .int j] ∧ 2 ≤ k ∧ k ≤ 4 ∧ i < k ∧ j < k ∧ Q (.int (place k i j : Nat)) H
section
variable {P : Program} {w : World} {K : PySem.W.Frag} {mg : Str → Option Value} {base : Heap} {a : Ad}
theorem sc_common_divisor : FnScope ["a", "b", "left"] ["a", "b"] (defScope s_common_divisor) := ⟨rfl, rfl, rfl, by decide +kernel, rfl, by decide +kernel, by decide +kernel⟩
theorem ok_common_divisor (T : Txt K mg a) : FnOk P w K mg base CX0 1 a.f_common_divisor a.d_common_divisor ["a", "b"] spGcd := by
  refine T.F_common_divisor.ok sc_common_divisor (fun vs H Q E h => ?_) (fun cdv A outer s H vs Q E hr h => ?_)
  · obtain ⟨x, y, rfl, _⟩ := h
    rfl
  · obtain ⟨x, y, rfl, hy, q⟩ := h
    refine ⟨_, (pss_cons (ps_while PassesOwn.never (pt_cmpR op_gt (pv 1) pe_int (nomark _)) (pss_cons (ps_set (i := 2) sc_common_divisor.nd rfl (by first | exact Or.inl rfl | exact Or.inr rfl) (pe_op op_mod (pv 0) (pv 1))) (pss_cons (ps_set (i := 0) sc_common_divisor.nd rfl (by first | exact Or.inl rfl | exact Or.inr rfl) (pv 1)) (pss_one (ps_set (i := 1) sc_common_divisor.nd rfl (by first | exact Or.inl rfl | exact Or.inr rfl) (pv 2)))))) (pss_one (ps_ret (pv 0)))), ?_⟩
    try dsimp only [cxOf]
    refine while_by (fun σ H' => ∃ (x' y' : Int) (v : Option V), σ = [some (.int x'), some (.int y'), v] ∧ H' = H ∧ 0 ≤ y' ∧ Int.gcd x' y' = Int.gcd x y ∧ (y' = 0 → 0 ≤ x'))
      (fun σ _ => match σ with | [_, some (.int y'), _] => y'.toNat | _ => 0) ⟨x, y, none, rfl, rfl, by omega, rfl, by omega⟩ ?_ ?_
    · rintro σ H' ⟨x', y', v, rfl, rfl, h0, hg, hz⟩
      refine ⟨_, rfl, _, _, rfl, rfl, _, rfl, ?_⟩
      refine ite2 (fun c => ?_) (fun c => ?_)
      · have hp : 0 < y' := of_decide_eq_true c
        refine ⟨_, rfl, _, rfl, _, _, rfl, rfl, hp, ?_⟩
        refine ⟨_, rfl, _, rfl, ?_⟩
        refine ⟨⟨y', x' % y', _, rfl, rfl, Int.emod_nonneg _ (by omega), ?_, by omega⟩, ?_⟩
        · rw [My.gcd_turn _ _ hp]
          exact hg
        · show (x' % y').toNat < y'.toNat
          have := Int.emod_lt_of_pos x' hp
          have := Int.emod_nonneg x' (show y' ≠ 0 by omega)
          omega
      · have hn : ¬ 0 < y' := fun z => c (decide_eq_true z)
        have e0 : y' = 0 := by omega
        subst e0
        refine ⟨_, rfl, ?_⟩
        have : x' = (Int.gcd x y : Int) := by
          rw [← hg, Int.gcd_zero_right]
          have := hz rfl
          omega
        rw [this]
        exact q
    · intro σ H' Q1 Q2 hm h
      obtain ⟨v, e, i, j, e1, e2, k, e3, h⟩ := h
      exact ⟨v, e, i, j, e1, e2, k, e3, hm _ _ h⟩
theorem sc_fraction : FnScope ["upper", "lower", "divisor"] ["upper", "lower"] (defScope s_fraction) := ⟨rfl, rfl, rfl, by decide +kernel, rfl, by decide +kernel, by decide +kernel⟩
theorem ok_fraction (T : Txt K mg a) : FnOk P w K mg base CX0 2 a.f_fraction a.d_fraction ["upper", "lower"] spFrac := by
  refine T.F_fraction.ok sc_fraction (fun vs H Q E h => ?_) (fun cdv A outer s H vs Q E hr h => ?_)
  · obtain ⟨x, y, rfl, _⟩ := h
    rfl
  · obtain ⟨x, y, rfl, hy, hb, q⟩ := h
    refine ⟨_, (pss_cons (ps_set (i := 2) sc_fraction.nd rfl (by first | exact Or.inl rfl | exact Or.inr rfl) (pe_call (ok_common_divisor T) (hr.mono (by decide)) rfl T.m_common_divisor T.F_common_divisor.kp T.b_common_divisor .nil pass0 (pa_cons (pv 0) (pa_cons (pv 1) pa_nil)))) (pss_one (ps_ret (pe_lst (pa_cons (pe_op op_fdivB (pv 0) (pv 2)) (pa_cons (pe_op op_fdivB (pv 1) (pv 2)) pa_nil)))))), ?_⟩
    try dsimp only [cxOf]
    refine ⟨_, rfl, _, rfl, x, y, rfl, hy, ?_⟩
    obtain ⟨g0, g1⟩ := My.gcd_le (a := x) hy
    obtain ⟨e1, e2⟩ := My.frac_gcd x hy
    have hs : (Int.gcd x y : Int).natAbs < 2 ^ 250 := by omega
    refine ⟨_, rfl, _, rfl, _, _, rfl, rfl, ⟨g0, hs⟩, _, rfl, _, rfl, _, _, rfl, rfl, ⟨g0, hs⟩, (by show 2 ≤ sizeLine; decide), fun p hp => ?_⟩
    have := q p hp
    rw [e1, e2] at this
    exact this
theorem sc_pair_count : FnScope ["kinds"] ["kinds"] (defScope s_pair_count) := ⟨rfl, rfl, rfl, by decide +kernel, rfl, by decide +kernel, by decide +kernel⟩
theorem ok_pair_count (T : Txt K mg a) : FnOk P w K mg base CX0 1 a.f_pair_count a.d_pair_count ["kinds"] spCount := by
  refine T.F_pair_count.ok sc_pair_count (fun vs H Q E h => ?_) (fun cdv A outer s H vs Q E hr h => ?_)
  · obtain ⟨k, rfl, _⟩ := h
    rfl
  · obtain ⟨k, rfl, h2, h4, q⟩ := h
    refine ⟨_, (pss_one (ps_ret (pe_op op_fdivB (pe_op op_mulB (pv 0) (pe_op op_add (pv 0) pe_int)) pe_int))), ?_⟩
    try dsimp only [cxOf]
    have e : (k : Int) * ((k : Int) + 1) / 2 = ((order k).length : Nat) := by
      rcases My.kcases h2 h4 with rfl | rfl | rfl <;> decide
    refine ⟨_, rfl, _, rfl, _, _, rfl, rfl, _, _, rfl, rfl, ⟨(by show (k : Int).natAbs < _; omega), (by show ((k : Int) + 1).natAbs < _; omega)⟩, _, _, rfl, rfl, ⟨(by decide), (by decide)⟩, ?_⟩
    show Q (V.int _) H
    rw [e]
    exact q
theorem sc_pair_place : FnScope ["kinds", "i", "j", "low", "high"] ["kinds", "i", "j"] (defScope s_pair_place) := ⟨rfl, rfl, rfl, by decide +kernel, rfl, by decide +kernel, by decide +kernel⟩
theorem ok_pair_place (T : Txt K mg a) : FnOk P w K mg base CX0 1 a.f_pair_place a.d_pair_place ["kinds", "i", "j"] spPlace := by
  refine T.F_pair_place.ok sc_pair_place (fun vs H Q E h => ?_) (fun cdv A outer s H vs Q E hr h => ?_)
  · obtain ⟨k, i, j, rfl, _⟩ := h
    rfl
  · obtain ⟨k, i, j, rfl, h2, h4, hi, hj, q⟩ := h
    refine ⟨_, (pss_cons (ps_set (i := 3) sc_pair_place.nd rfl (by first | exact Or.inl rfl | exact Or.inr rfl) (pe_callB (call_min2 rfl) (by rfl) T.n_min PyProof.Rows.boot_min (pa_cons (pv 1) (pa_cons (pv 2) pa_nil)))) (pss_cons (ps_set (i := 4) sc_pair_place.nd rfl (by first | exact Or.inl rfl | exact Or.inr rfl) (pe_callB (call_max2 rfl) (by rfl) T.n_max PyProof.Rows.boot_max (pa_cons (pv 1) (pa_cons (pv 2) pa_nil)))) (pss_one (ps_ret (pe_op op_sub (pe_op op_add (pe_op op_sub (pe_op op_mulB (pv 3) (pv 0)) (pe_op op_fdivB (pe_op op_mulB (pv 3) (pe_op op_sub (pv 3) pe_int)) pe_int)) (pv 4)) (pv 3)))))), ?_⟩
    try dsimp only [cxOf]
    have el : (if (j : Int) < (i : Int) then (j : Int) else (i : Int)) = min (i : Int) (j : Int) := by split <;> omega
    have eh : (if (j : Int) > (i : Int) then (j : Int) else (i : Int)) = max (i : Int) (j : Int) := by split <;> omega
    refine ⟨_, rfl, _, rfl, _, _, rfl, ?_⟩
    rw [el]
    refine ⟨_, rfl, _, rfl, _, _, rfl, ?_⟩
    rw [eh]
    have b1 : (min (i : Int) (j : Int)).natAbs < 2 ^ 250 := by omega
    have b2 : (k : Int).natAbs < 2 ^ 250 := by omega
    have b3 : (min (i : Int) (j : Int) - 1).natAbs < 2 ^ 250 := by omega
    refine ⟨_, rfl, _, rfl, _, _, rfl, rfl, ⟨b1, b2⟩, _, rfl, _, rfl, _, _, rfl, rfl, _, _, rfl, rfl, ⟨b1, b3⟩, _, _, rfl, rfl, ⟨(by decide), (by decide)⟩, _, _, rfl, rfl, _, rfl, _, _, rfl, rfl, _, rfl, _, _, rfl, rfl, ?_⟩
    have e := My.pp_place h2 h4 hi hj
    unfold My.pp at e
    show Q (V.int _) H
    rw [e]
    exact q
end
end Pf

end
section
set_option Elab.async false
set_option linter.all false
set_option maxRecDepth 100000
namespace Pf
open PySem
noncomputable def z_0 : Str := ⟨#[95, 95, 110, 97, 109, 101, 95, 95]⟩
noncomputable def z_1 : Str := ⟨#[114, 101, 115, 116, 115, 113, 117, 97, 114, 101, 115, 46, 102, 105, 101, 108, 100, 115]⟩
noncomputable def z_2 : Str := ⟨#[95, 95, 100, 111, 99, 95, 95]⟩
noncomputable def z_3 : Str := ⟨#[95, 95, 112, 97, 99, 107, 97, 103, 101, 95, 95]⟩
noncomputable def z_4 : Str := ⟨#[95, 95, 108, 111, 97, 100, 101, 114, 95, 95]⟩
noncomputable def z_5 : Str := ⟨#[95, 95, 115, 112, 101, 99, 95, 95]⟩
noncomputable def z_6 : Str := ⟨#[95, 95, 97, 110, 110, 111, 116, 97, 116, 105, 111, 110, 115, 95, 95]⟩
noncomputable def z_7 : Str := ⟨#[95, 95, 98, 117, 105, 108, 116, 105, 110, 115, 95, 95]⟩
noncomputable def z_8 : Str := ⟨#[95, 95, 102, 105, 108, 101, 95, 95]⟩
noncomputable def z_9 : Str := ⟨#[47, 99, 108, 97, 105, 109, 47, 99, 117, 116, 46, 112, 121]⟩
noncomputable def z_10 : Str := ⟨#[95, 95, 99, 97, 99, 104, 101, 100, 95, 95]⟩
noncomputable def z_11 : Str := ⟨#[72, 85, 78, 68, 82, 69, 68]⟩
noncomputable def z_12 : Str := ⟨#[99, 111, 109, 109, 111, 110, 95, 100, 105, 118, 105, 115, 111, 114]⟩
noncomputable def z_13 : Str := ⟨#[102, 114, 97, 99, 116, 105, 111, 110]⟩
noncomputable def z_14 : Str := ⟨#[112, 97, 105, 114, 95, 99, 111, 117, 110, 116]⟩
noncomputable def z_15 : Str := ⟨#[112, 97, 105, 114, 95, 112, 108, 97, 99, 101]⟩
noncomputable def z_16 : Str := ⟨#[107, 105, 110, 100, 95, 119, 101, 105, 103, 104, 116, 115]⟩
noncomputable def z_17 : Str := ⟨#[119, 101, 105, 103, 104, 116, 115, 95, 99, 114, 111, 115, 115, 101, 100]⟩
noncomputable def z_18 : Str := ⟨#[119, 101, 105, 103, 104, 116, 115, 95, 98, 121, 95, 97, 110, 121]⟩
noncomputable def z_19 : Str := ⟨#[119, 101, 105, 103, 104, 116, 115, 95, 98, 121, 95, 116, 104, 101, 109, 115, 101, 108, 118, 101, 115]⟩
noncomputable def z_20 : Str := ⟨#[110, 101, 120, 116, 95, 119, 101, 105, 103, 104, 116, 115]⟩
noncomputable def z_21 : Str := ⟨#[108, 97, 116, 101, 114, 95, 119, 101, 105, 103, 104, 116, 115]⟩
noncomputable def z_22 : Str := ⟨#[119, 101, 105, 103, 104, 116, 115, 95, 116, 111, 103, 101, 116, 104, 101, 114]⟩
noncomputable def z_23 : Str := ⟨#[105, 115, 95, 97, 116, 95, 114, 101, 115, 116]⟩
noncomputable def z_24 : Str := ⟨#[103, 101, 110, 101, 114, 97, 116, 105, 111, 110, 115, 95, 116, 111, 95, 114, 101, 115, 116]⟩
noncomputable def z_25 : Str := ⟨#[115, 104, 97, 114, 101, 95, 111, 102, 95, 112, 97, 105, 114]⟩
noncomputable def z_26 : Str := ⟨#[115, 104, 97, 114, 101, 95, 111, 102, 95, 107, 105, 110, 100]⟩
noncomputable def z_27 : Str := ⟨#[115, 104, 97, 114, 101, 95, 109, 105, 120, 101, 100]⟩
noncomputable def z_28 : Str := ⟨#[115, 104, 97, 114, 101, 95, 101, 120, 112, 101, 99, 116, 101, 100]⟩
noncomputable def z_29 : Str := ⟨#[108, 97, 99, 107, 95, 111, 102, 95, 109, 105, 120, 101, 100]⟩
noncomputable def z_30 : Str := ⟨#[114, 97, 114, 101, 115, 116, 95, 107, 105, 110, 100]⟩
noncomputable def z_31 : Str := ⟨#[108, 101, 102, 116, 95, 98, 121, 95, 104, 97, 108, 118, 101, 115]⟩
noncomputable def z_32 : Str := ⟨#[78, 79, 95, 70, 73, 69, 76, 68]⟩
noncomputable def z_33 : Str := ⟨#[78, 79, 95, 80, 76, 65, 78, 84, 83]⟩
noncomputable def z_34 : Str := ⟨#[78, 79, 84, 95, 83, 84, 65, 82, 84, 69, 68]⟩
noncomputable def z_35 : Str := ⟨#[84, 79, 79, 95, 70, 69, 87]⟩
noncomputable def z_36 : Str := ⟨#[87, 82, 79, 78, 71]⟩
noncomputable def z_37 : Str := ⟨#[70, 85, 76, 76]⟩
noncomputable def z_38 : Str := ⟨#[78, 79, 95, 65, 78, 83, 87, 69, 82]⟩
noncomputable def z_39 : Str := ⟨#[70, 69, 87, 69, 83, 84, 95, 75, 73, 78, 68, 83]⟩
noncomputable def z_40 : Str := ⟨#[77, 79, 83, 84, 95, 75, 73, 78, 68, 83]⟩
noncomputable def z_41 : Str := ⟨#[77, 79, 83, 84, 95, 70, 73, 69, 76, 68, 83]⟩
noncomputable def z_42 : Str := ⟨#[77, 79, 83, 84, 95, 79, 70, 95, 65, 95, 80, 65, 73, 82]⟩
noncomputable def z_43 : Str := ⟨#[77, 79, 83, 84, 95, 79, 70, 95, 72, 85, 78, 68, 82, 69, 68]⟩
noncomputable def z_44 : Str := ⟨#[77, 79, 83, 84, 95, 71, 69, 78, 69, 82, 65, 84, 73, 79, 78, 83]⟩
noncomputable def z_45 : Str := ⟨#[77, 79, 83, 84, 95, 72, 65, 76, 86, 69, 83]⟩
noncomputable def z_46 : Str := ⟨#[83, 84, 65, 82, 84]⟩
noncomputable def z_47 : Str := ⟨#[70, 73, 69, 76, 68]⟩
noncomputable def z_48 : Str := ⟨#[84, 79, 76, 68, 95, 67, 79, 85, 78, 84, 83]⟩
noncomputable def z_49 : Str := ⟨#[71, 97, 114, 100, 101, 110]⟩
noncomputable def z_50 : Str := ⟨#[105, 115, 95, 110, 111, 95, 102, 105, 101, 108, 100]⟩
noncomputable def z_51 : Str := ⟨#[105, 115, 95, 110, 111, 95, 107, 105, 110, 100]⟩
noncomputable def z_52 : Str := ⟨#[115, 104, 97, 114, 101, 115, 95, 114, 101, 102, 117, 115, 97, 108]⟩
noncomputable def z_53 : Str := ⟨#[99, 104, 97, 110, 103, 101, 95, 114, 101, 102, 117, 115, 97, 108]⟩
noncomputable def z_54 : Str := ⟨#[111, 110, 101, 95, 105, 102]⟩
noncomputable def z_55 : Str := ⟨#[97, 110, 115, 119, 101, 114, 95, 115, 116, 97, 114, 116]⟩
noncomputable def z_56 : Str := ⟨#[97, 110, 115, 119, 101, 114, 95, 102, 105, 101, 108, 100]⟩
noncomputable def z_57 : Str := ⟨#[97, 110, 115, 119, 101, 114, 95, 112, 117, 116]⟩
noncomputable def z_58 : Str := ⟨#[97, 110, 115, 119, 101, 114, 95, 116, 97, 107, 101]⟩
noncomputable def z_59 : Str := ⟨#[97, 110, 115, 119, 101, 114, 95, 115, 104, 97, 114, 101]⟩
noncomputable def z_60 : Str := ⟨#[97, 110, 115, 119, 101, 114, 95, 107, 105, 110, 100]⟩
noncomputable def z_61 : Str := ⟨#[97, 110, 115, 119, 101, 114, 95, 110, 101, 120, 116]⟩
noncomputable def z_62 : Str := ⟨#[97, 110, 115, 119, 101, 114, 95, 97, 102, 116, 101, 114]⟩
noncomputable def z_63 : Str := ⟨#[97, 110, 115, 119, 101, 114, 95, 109, 105, 120, 101, 100]⟩
noncomputable def z_64 : Str := ⟨#[97, 110, 115, 119, 101, 114, 95, 101, 120, 112, 101, 99, 116, 101, 100]⟩
noncomputable def z_65 : Str := ⟨#[97, 110, 115, 119, 101, 114, 95, 108, 97, 99, 107]⟩
noncomputable def z_66 : Str := ⟨#[97, 110, 115, 119, 101, 114, 95, 114, 101, 115, 116]⟩
noncomputable def z_67 : Str := ⟨#[97, 110, 115, 119, 101, 114, 95, 115, 111, 111, 110]⟩
noncomputable def z_68 : Str := ⟨#[97, 110, 115, 119, 101, 114, 95, 116, 111, 103, 101, 116, 104, 101, 114]⟩
noncomputable def z_69 : Str := ⟨#[97, 110, 115, 119, 101, 114, 95, 99, 114, 111, 115, 115]⟩
noncomputable def z_70 : Str := ⟨#[97, 110, 115, 119, 101, 114, 95, 99, 114, 111, 115, 115, 95, 110, 101, 120, 116]⟩
noncomputable def z_71 : Str := ⟨#[97, 110, 115, 119, 101, 114, 95, 114, 97, 114, 101, 115, 116]⟩
noncomputable def z_72 : Str := ⟨#[97, 110, 115, 119, 101, 114, 95, 115, 105, 122, 101]⟩
noncomputable def z_73 : Str := ⟨#[97, 110, 115, 119, 101, 114, 95, 104, 97, 108, 102]⟩
noncomputable def z_74 : Str := ⟨#[97, 110, 115, 119, 101, 114, 95, 115, 116, 97, 116, 101]⟩
noncomputable def z_75 : Str := ⟨#[65, 78, 83, 87, 69, 82, 69, 82, 83]⟩
noncomputable def z_76 : Str := ⟨#[97, 110, 115, 119, 101, 114, 95, 111, 102]⟩
noncomputable def z_77 : Str := ⟨#[116, 111, 108, 100, 95, 98, 101, 103, 105, 110]⟩
noncomputable def z_78 : Str := ⟨#[116, 111, 108, 100, 95, 99, 111, 117, 110, 116]⟩
noncomputable def z_79 : Str := ⟨#[97, 110, 115, 119, 101, 114, 115]⟩
noncomputable def z_80 : Str := ⟨#[114, 101, 115, 116, 115, 113, 117, 97, 114, 101, 115, 46, 115, 104, 97, 114, 101, 115]⟩
noncomputable def z_81 : Str := ⟨#[95, 95, 105, 110, 105, 116, 95, 95]⟩
noncomputable def z_82 : Str := ⟨#[71, 97, 114, 100, 101, 110, 46, 95, 95, 105, 110, 105, 116, 95, 95]⟩
noncomputable def z_83 : Str := ⟨#[95, 95, 109, 111, 100, 117, 108, 101, 95, 95]⟩
noncomputable def z_84 : Str := ⟨#[95, 95, 102, 105, 114, 115, 116, 108, 105, 110, 101, 110, 111, 95, 95]⟩
noncomputable def z_85 : Str := ⟨#[95, 95, 115, 116, 97, 116, 105, 99, 95, 97, 116, 116, 114, 105, 98, 117, 116, 101, 115, 95, 95]⟩
noncomputable def z_86 : Str := ⟨#[95, 95, 100, 105, 99, 116, 95, 95]⟩
noncomputable def z_87 : Str := ⟨#[95, 95, 119, 101, 97, 107, 114, 101, 102, 95, 95]⟩
noncomputable def k_21 : Obj := ⟨Value.type "function", none, .func (PySem.W.fnOf z_12 z_12 (L2.defArgs s_common_divisor) (L2.defBody s_common_divisor) (L2.defScope s_common_divisor) Value.none (Value.none) (Value.none) (Value.str z_80 (187 : Nat)) (none) (Value.ref (20 : Nat)) (Value.none)), #[]⟩
noncomputable def k_28 : Obj := ⟨Value.type "function", none, .func (PySem.W.fnOf z_13 z_13 (L2.defArgs s_fraction) (L2.defBody s_fraction) (L2.defScope s_fraction) Value.none (Value.none) (Value.none) (Value.str z_80 (187 : Nat)) (none) (Value.ref (27 : Nat)) (Value.none)), #[]⟩
noncomputable def k_35 : Obj := ⟨Value.type "function", none, .func (PySem.W.fnOf z_14 z_14 (L2.defArgs s_pair_count) (L2.defBody s_pair_count) (L2.defScope s_pair_count) Value.none (Value.none) (Value.none) (Value.str z_80 (187 : Nat)) (none) (Value.ref (34 : Nat)) (Value.none)), #[]⟩
noncomputable def k_42 : Obj := ⟨Value.type "function", none, .func (PySem.W.fnOf z_15 z_15 (L2.defArgs s_pair_place) (L2.defBody s_pair_place) (L2.defScope s_pair_place) Value.none (Value.none) (Value.none) (Value.str z_80 (187 : Nat)) (none) (Value.ref (41 : Nat)) (Value.none)), #[]⟩
noncomputable def k_47 : Obj := ⟨Value.type "function", none, .func (PySem.W.fnOf z_16 z_16 (L2.defArgs s_kind_weights) (L2.defBody s_kind_weights) (L2.defScope s_kind_weights) Value.none (Value.none) (Value.none) (Value.str z_80 (187 : Nat)) (none) (Value.ref (46 : Nat)) (Value.none)), #[]⟩
noncomputable def k_54 : Obj := ⟨Value.type "function", none, .func (PySem.W.fnOf z_17 z_17 (L2.defArgs s_weights_crossed) (L2.defBody s_weights_crossed) (L2.defScope s_weights_crossed) Value.none (Value.none) (Value.none) (Value.str z_80 (187 : Nat)) (none) (Value.ref (53 : Nat)) (Value.none)), #[]⟩
noncomputable def k_61 : Obj := ⟨Value.type "function", none, .func (PySem.W.fnOf z_18 z_18 (L2.defArgs s_weights_by_any) (L2.defBody s_weights_by_any) (L2.defScope s_weights_by_any) Value.none (Value.none) (Value.none) (Value.str z_80 (187 : Nat)) (none) (Value.ref (60 : Nat)) (Value.none)), #[]⟩
noncomputable def k_68 : Obj := ⟨Value.type "function", none, .func (PySem.W.fnOf z_19 z_19 (L2.defArgs s_weights_by_themselves) (L2.defBody s_weights_by_themselves) (L2.defScope s_weights_by_themselves) Value.none (Value.none) (Value.none) (Value.str z_80 (187 : Nat)) (none) (Value.ref (67 : Nat)) (Value.none)), #[]⟩
noncomputable def k_73 : Obj := ⟨Value.type "function", none, .func (PySem.W.fnOf z_20 z_20 (L2.defArgs s_next_weights) (L2.defBody s_next_weights) (L2.defScope s_next_weights) Value.none (Value.none) (Value.none) (Value.str z_80 (187 : Nat)) (none) (Value.ref (72 : Nat)) (Value.none)), #[]⟩
noncomputable def k_80 : Obj := ⟨Value.type "function", none, .func (PySem.W.fnOf z_21 z_21 (L2.defArgs s_later_weights) (L2.defBody s_later_weights) (L2.defScope s_later_weights) Value.none (Value.none) (Value.none) (Value.str z_80 (187 : Nat)) (none) (Value.ref (79 : Nat)) (Value.none)), #[]⟩
noncomputable def k_85 : Obj := ⟨Value.type "function", none, .func (PySem.W.fnOf z_22 z_22 (L2.defArgs s_weights_together) (L2.defBody s_weights_together) (L2.defScope s_weights_together) Value.none (Value.none) (Value.none) (Value.str z_80 (187 : Nat)) (none) (Value.ref (84 : Nat)) (Value.none)), #[]⟩
noncomputable def k_90 : Obj := ⟨Value.type "function", none, .func (PySem.W.fnOf z_23 z_23 (L2.defArgs s_is_at_rest) (L2.defBody s_is_at_rest) (L2.defScope s_is_at_rest) Value.none (Value.none) (Value.none) (Value.str z_80 (187 : Nat)) (none) (Value.ref (89 : Nat)) (Value.none)), #[]⟩
noncomputable def k_97 : Obj := ⟨Value.type "function", none, .func (PySem.W.fnOf z_24 z_24 (L2.defArgs s_generations_to_rest) (L2.defBody s_generations_to_rest) (L2.defScope s_generations_to_rest) Value.none (Value.none) (Value.none) (Value.str z_80 (187 : Nat)) (none) (Value.ref (96 : Nat)) (Value.none)), #[]⟩
noncomputable def k_104 : Obj := ⟨Value.type "function", none, .func (PySem.W.fnOf z_25 z_25 (L2.defArgs s_share_of_pair) (L2.defBody s_share_of_pair) (L2.defScope s_share_of_pair) Value.none (Value.none) (Value.none) (Value.str z_80 (187 : Nat)) (none) (Value.ref (103 : Nat)) (Value.none)), #[]⟩
noncomputable def k_111 : Obj := ⟨Value.type "function", none, .func (PySem.W.fnOf z_26 z_26 (L2.defArgs s_share_of_kind) (L2.defBody s_share_of_kind) (L2.defScope s_share_of_kind) Value.none (Value.none) (Value.none) (Value.str z_80 (187 : Nat)) (none) (Value.ref (110 : Nat)) (Value.none)), #[]⟩
noncomputable def k_116 : Obj := ⟨Value.type "function", none, .func (PySem.W.fnOf z_27 z_27 (L2.defArgs s_share_mixed) (L2.defBody s_share_mixed) (L2.defScope s_share_mixed) Value.none (Value.none) (Value.none) (Value.str z_80 (187 : Nat)) (none) (Value.ref (115 : Nat)) (Value.none)), #[]⟩
noncomputable def k_123 : Obj := ⟨Value.type "function", none, .func (PySem.W.fnOf z_28 z_28 (L2.defArgs s_share_expected) (L2.defBody s_share_expected) (L2.defScope s_share_expected) Value.none (Value.none) (Value.none) (Value.str z_80 (187 : Nat)) (none) (Value.ref (122 : Nat)) (Value.none)), #[]⟩
noncomputable def k_130 : Obj := ⟨Value.type "function", none, .func (PySem.W.fnOf z_29 z_29 (L2.defArgs s_lack_of_mixed) (L2.defBody s_lack_of_mixed) (L2.defScope s_lack_of_mixed) Value.none (Value.none) (Value.none) (Value.str z_80 (187 : Nat)) (none) (Value.ref (129 : Nat)) (Value.none)), #[]⟩
noncomputable def k_137 : Obj := ⟨Value.type "function", none, .func (PySem.W.fnOf z_30 z_30 (L2.defArgs s_rarest_kind) (L2.defBody s_rarest_kind) (L2.defScope s_rarest_kind) Value.none (Value.none) (Value.none) (Value.str z_80 (187 : Nat)) (none) (Value.ref (136 : Nat)) (Value.none)), #[]⟩
noncomputable def k_144 : Obj := ⟨Value.type "function", none, .func (PySem.W.fnOf z_31 z_31 (L2.defArgs s_left_by_halves) (L2.defBody s_left_by_halves) (L2.defScope s_left_by_halves) Value.none (Value.none) (Value.none) (Value.str z_80 (187 : Nat)) (none) (Value.ref (143 : Nat)) (Value.none)), #[]⟩
noncomputable def k_159 : Obj := ⟨Value.type "function", none, .func (PySem.W.fnOf z_81 z_82 (L2.defArgs s_Garden_init) (L2.defBody s_Garden_init) (L2.defScope s_Garden_init) Value.none (Value.none) (Value.none) (Value.str z_1 (371 : Nat)) (none) (Value.ref (158 : Nat)) (Value.none)), #[]⟩
noncomputable def k_173 : Obj := ⟨Value.type "function", none, .func (PySem.W.fnOf z_50 z_50 (L2.defArgs s_is_no_field) (L2.defBody s_is_no_field) (L2.defScope s_is_no_field) Value.none (Value.none) (Value.none) (Value.str z_1 (371 : Nat)) (none) (Value.ref (172 : Nat)) (Value.none)), #[]⟩
noncomputable def k_178 : Obj := ⟨Value.type "function", none, .func (PySem.W.fnOf z_51 z_51 (L2.defArgs s_is_no_kind) (L2.defBody s_is_no_kind) (L2.defScope s_is_no_kind) Value.none (Value.none) (Value.none) (Value.str z_1 (371 : Nat)) (none) (Value.ref (177 : Nat)) (Value.none)), #[]⟩
noncomputable def k_185 : Obj := ⟨Value.type "function", none, .func (PySem.W.fnOf z_52 z_52 (L2.defArgs s_shares_refusal) (L2.defBody s_shares_refusal) (L2.defScope s_shares_refusal) Value.none (Value.none) (Value.none) (Value.str z_1 (371 : Nat)) (none) (Value.ref (184 : Nat)) (Value.none)), #[]⟩
noncomputable def k_192 : Obj := ⟨Value.type "function", none, .func (PySem.W.fnOf z_53 z_53 (L2.defArgs s_change_refusal) (L2.defBody s_change_refusal) (L2.defScope s_change_refusal) Value.none (Value.none) (Value.none) (Value.str z_1 (371 : Nat)) (none) (Value.ref (191 : Nat)) (Value.none)), #[]⟩
noncomputable def k_199 : Obj := ⟨Value.type "function", none, .func (PySem.W.fnOf z_54 z_54 (L2.defArgs s_one_if) (L2.defBody s_one_if) (L2.defScope s_one_if) Value.none (Value.none) (Value.none) (Value.str z_1 (371 : Nat)) (none) (Value.ref (198 : Nat)) (Value.none)), #[]⟩
noncomputable def k_206 : Obj := ⟨Value.type "function", none, .func (PySem.W.fnOf z_55 z_55 (L2.defArgs s_answer_start) (L2.defBody s_answer_start) (L2.defScope s_answer_start) Value.none (Value.none) (Value.none) (Value.str z_1 (371 : Nat)) (none) (Value.ref (205 : Nat)) (Value.none)), #[]⟩
noncomputable def k_213 : Obj := ⟨Value.type "function", none, .func (PySem.W.fnOf z_56 z_56 (L2.defArgs s_answer_field) (L2.defBody s_answer_field) (L2.defScope s_answer_field) Value.none (Value.none) (Value.none) (Value.str z_1 (371 : Nat)) (none) (Value.ref (212 : Nat)) (Value.none)), #[]⟩
noncomputable def k_220 : Obj := ⟨Value.type "function", none, .func (PySem.W.fnOf z_57 z_57 (L2.defArgs s_answer_put) (L2.defBody s_answer_put) (L2.defScope s_answer_put) Value.none (Value.none) (Value.none) (Value.str z_1 (371 : Nat)) (none) (Value.ref (219 : Nat)) (Value.none)), #[]⟩
noncomputable def k_227 : Obj := ⟨Value.type "function", none, .func (PySem.W.fnOf z_58 z_58 (L2.defArgs s_answer_take) (L2.defBody s_answer_take) (L2.defScope s_answer_take) Value.none (Value.none) (Value.none) (Value.str z_1 (371 : Nat)) (none) (Value.ref (226 : Nat)) (Value.none)), #[]⟩
noncomputable def k_234 : Obj := ⟨Value.type "function", none, .func (PySem.W.fnOf z_59 z_59 (L2.defArgs s_answer_share) (L2.defBody s_answer_share) (L2.defScope s_answer_share) Value.none (Value.none) (Value.none) (Value.str z_1 (371 : Nat)) (none) (Value.ref (233 : Nat)) (Value.none)), #[]⟩
noncomputable def k_241 : Obj := ⟨Value.type "function", none, .func (PySem.W.fnOf z_60 z_60 (L2.defArgs s_answer_kind) (L2.defBody s_answer_kind) (L2.defScope s_answer_kind) Value.none (Value.none) (Value.none) (Value.str z_1 (371 : Nat)) (none) (Value.ref (240 : Nat)) (Value.none)), #[]⟩
noncomputable def k_248 : Obj := ⟨Value.type "function", none, .func (PySem.W.fnOf z_61 z_61 (L2.defArgs s_answer_next) (L2.defBody s_answer_next) (L2.defScope s_answer_next) Value.none (Value.none) (Value.none) (Value.str z_1 (371 : Nat)) (none) (Value.ref (247 : Nat)) (Value.none)), #[]⟩
noncomputable def k_255 : Obj := ⟨Value.type "function", none, .func (PySem.W.fnOf z_62 z_62 (L2.defArgs s_answer_after) (L2.defBody s_answer_after) (L2.defScope s_answer_after) Value.none (Value.none) (Value.none) (Value.str z_1 (371 : Nat)) (none) (Value.ref (254 : Nat)) (Value.none)), #[]⟩
noncomputable def k_262 : Obj := ⟨Value.type "function", none, .func (PySem.W.fnOf z_63 z_63 (L2.defArgs s_answer_mixed) (L2.defBody s_answer_mixed) (L2.defScope s_answer_mixed) Value.none (Value.none) (Value.none) (Value.str z_1 (371 : Nat)) (none) (Value.ref (261 : Nat)) (Value.none)), #[]⟩
noncomputable def k_269 : Obj := ⟨Value.type "function", none, .func (PySem.W.fnOf z_64 z_64 (L2.defArgs s_answer_expected) (L2.defBody s_answer_expected) (L2.defScope s_answer_expected) Value.none (Value.none) (Value.none) (Value.str z_1 (371 : Nat)) (none) (Value.ref (268 : Nat)) (Value.none)), #[]⟩
noncomputable def k_276 : Obj := ⟨Value.type "function", none, .func (PySem.W.fnOf z_65 z_65 (L2.defArgs s_answer_lack) (L2.defBody s_answer_lack) (L2.defScope s_answer_lack) Value.none (Value.none) (Value.none) (Value.str z_1 (371 : Nat)) (none) (Value.ref (275 : Nat)) (Value.none)), #[]⟩
noncomputable def k_283 : Obj := ⟨Value.type "function", none, .func (PySem.W.fnOf z_66 z_66 (L2.defArgs s_answer_rest) (L2.defBody s_answer_rest) (L2.defScope s_answer_rest) Value.none (Value.none) (Value.none) (Value.str z_1 (371 : Nat)) (none) (Value.ref (282 : Nat)) (Value.none)), #[]⟩
noncomputable def k_290 : Obj := ⟨Value.type "function", none, .func (PySem.W.fnOf z_67 z_67 (L2.defArgs s_answer_soon) (L2.defBody s_answer_soon) (L2.defScope s_answer_soon) Value.none (Value.none) (Value.none) (Value.str z_1 (371 : Nat)) (none) (Value.ref (289 : Nat)) (Value.none)), #[]⟩
noncomputable def k_297 : Obj := ⟨Value.type "function", none, .func (PySem.W.fnOf z_68 z_68 (L2.defArgs s_answer_together) (L2.defBody s_answer_together) (L2.defScope s_answer_together) Value.none (Value.none) (Value.none) (Value.str z_1 (371 : Nat)) (none) (Value.ref (296 : Nat)) (Value.none)), #[]⟩
noncomputable def k_304 : Obj := ⟨Value.type "function", none, .func (PySem.W.fnOf z_69 z_69 (L2.defArgs s_answer_cross) (L2.defBody s_answer_cross) (L2.defScope s_answer_cross) Value.none (Value.none) (Value.none) (Value.str z_1 (371 : Nat)) (none) (Value.ref (303 : Nat)) (Value.none)), #[]⟩
noncomputable def k_311 : Obj := ⟨Value.type "function", none, .func (PySem.W.fnOf z_70 z_70 (L2.defArgs s_answer_cross_next) (L2.defBody s_answer_cross_next) (L2.defScope s_answer_cross_next) Value.none (Value.none) (Value.none) (Value.str z_1 (371 : Nat)) (none) (Value.ref (310 : Nat)) (Value.none)), #[]⟩
noncomputable def k_318 : Obj := ⟨Value.type "function", none, .func (PySem.W.fnOf z_71 z_71 (L2.defArgs s_answer_rarest) (L2.defBody s_answer_rarest) (L2.defScope s_answer_rarest) Value.none (Value.none) (Value.none) (Value.str z_1 (371 : Nat)) (none) (Value.ref (317 : Nat)) (Value.none)), #[]⟩
noncomputable def k_325 : Obj := ⟨Value.type "function", none, .func (PySem.W.fnOf z_72 z_72 (L2.defArgs s_answer_size) (L2.defBody s_answer_size) (L2.defScope s_answer_size) Value.none (Value.none) (Value.none) (Value.str z_1 (371 : Nat)) (none) (Value.ref (324 : Nat)) (Value.none)), #[]⟩
noncomputable def k_332 : Obj := ⟨Value.type "function", none, .func (PySem.W.fnOf z_73 z_73 (L2.defArgs s_answer_half) (L2.defBody s_answer_half) (L2.defScope s_answer_half) Value.none (Value.none) (Value.none) (Value.str z_1 (371 : Nat)) (none) (Value.ref (331 : Nat)) (Value.none)), #[]⟩
noncomputable def k_339 : Obj := ⟨Value.type "function", none, .func (PySem.W.fnOf z_74 z_74 (L2.defArgs s_answer_state) (L2.defBody s_answer_state) (L2.defScope s_answer_state) Value.none (Value.none) (Value.none) (Value.str z_1 (371 : Nat)) (none) (Value.ref (338 : Nat)) (Value.none)), #[]⟩
noncomputable def k_347 : Obj := ⟨Value.type "function", none, .func (PySem.W.fnOf z_76 z_76 (L2.defArgs s_answer_of) (L2.defBody s_answer_of) (L2.defScope s_answer_of) Value.none (Value.none) (Value.none) (Value.str z_1 (371 : Nat)) (none) (Value.ref (346 : Nat)) (Value.none)), #[]⟩
noncomputable def k_354 : Obj := ⟨Value.type "function", none, .func (PySem.W.fnOf z_77 z_77 (L2.defArgs s_told_begin) (L2.defBody s_told_begin) (L2.defScope s_told_begin) Value.none (Value.none) (Value.none) (Value.str z_1 (371 : Nat)) (none) (Value.ref (353 : Nat)) (Value.none)), #[]⟩
noncomputable def k_361 : Obj := ⟨Value.type "function", none, .func (PySem.W.fnOf z_78 z_78 (L2.defArgs s_told_count) (L2.defBody s_told_count) (L2.defScope s_told_count) Value.none (Value.none) (Value.none) (Value.str z_1 (371 : Nat)) (none) (Value.ref (360 : Nat)) (Value.none)), #[]⟩
noncomputable def k_368 : Obj := ⟨Value.type "function", none, .func (PySem.W.fnOf z_79 z_79 (L2.defArgs s_answers) (L2.defBody s_answers) (L2.defScope s_answers) Value.none (Value.none) (Value.none) (Value.str z_1 (371 : Nat)) (none) (Value.ref (367 : Nat)) (Value.none)), #[]⟩
noncomputable def k_2 : Obj := { cls := Value.none, data := Data.dict #[] }
noncomputable def k_3 (P : Params) : Obj := { cls := Value.type "dict", data := Data.dict (List.toArray ({ hash := PyData.keyHash P z_0, key := Value.str z_0 (165 : Nat), val := Value.str z_1 (371 : Nat) } :: { hash := PyData.keyHash P z_2, key := Value.str z_2 (166 : Nat), val := Value.none } :: { hash := PyData.keyHash P z_3, key := Value.str z_3 (167 : Nat), val := Value.none } :: { hash := PyData.keyHash P z_4, key := Value.str z_4 (168 : Nat), val := Value.builtin "__main__.__loader__#opaque" } :: { hash := PyData.keyHash P z_5, key := Value.str z_5 (169 : Nat), val := Value.none } :: { hash := PyData.keyHash P z_6, key := Value.str z_6 (170 : Nat), val := Value.ref (6 : Nat) } :: { hash := PyData.keyHash P z_7, key := Value.str z_7 (171 : Nat), val := Value.ref (4 : Nat) } :: { hash := PyData.keyHash P z_8, key := Value.str z_8 (173 : Nat), val := Value.str z_9 (172 : Nat) } :: { hash := PyData.keyHash P z_10, key := Value.str z_10 (174 : Nat), val := Value.none } :: { hash := PyData.keyHash P z_11, key := Value.str z_11 (190 : Nat), val := Value.int (100 : Int) (189 : Nat) } :: { hash := PyData.keyHash P z_12, key := Value.str z_12 (199 : Nat), val := Value.ref (21 : Nat) } :: { hash := PyData.keyHash P z_13, key := Value.str z_13 (208 : Nat), val := Value.ref (28 : Nat) } :: { hash := PyData.keyHash P z_14, key := Value.str z_14 (215 : Nat), val := Value.ref (35 : Nat) } :: { hash := PyData.keyHash P z_15, key := Value.str z_15 (226 : Nat), val := Value.ref (42 : Nat) } :: { hash := PyData.keyHash P z_16, key := Value.str z_16 (232 : Nat), val := Value.ref (47 : Nat) } :: { hash := PyData.keyHash P z_17, key := Value.str z_17 (246 : Nat), val := Value.ref (54 : Nat) } :: { hash := PyData.keyHash P z_18, key := Value.str z_18 (254 : Nat), val := Value.ref (61 : Nat) } :: { hash := PyData.keyHash P z_19, key := Value.str z_19 (266 : Nat), val := Value.ref (68 : Nat) } :: { hash := PyData.keyHash P z_20, key := Value.str z_20 (272 : Nat), val := Value.ref (73 : Nat) } :: { hash := PyData.keyHash P z_21, key := Value.str z_21 (284 : Nat), val := Value.ref (80 : Nat) } :: { hash := PyData.keyHash P z_22, key := Value.str z_22 (290 : Nat), val := Value.ref (85 : Nat) } :: { hash := PyData.keyHash P z_23, key := Value.str z_23 (296 : Nat), val := Value.ref (90 : Nat) } :: { hash := PyData.keyHash P z_24, key := Value.str z_24 (307 : Nat), val := Value.ref (97 : Nat) } :: { hash := PyData.keyHash P z_25, key := Value.str z_25 (317 : Nat), val := Value.ref (104 : Nat) } :: { hash := PyData.keyHash P z_26, key := Value.str z_26 (326 : Nat), val := Value.ref (111 : Nat) } :: { hash := PyData.keyHash P z_27, key := Value.str z_27 (332 : Nat), val := Value.ref (116 : Nat) } :: { hash := PyData.keyHash P z_28, key := Value.str z_28 (340 : Nat), val := Value.ref (123 : Nat) } :: { hash := PyData.keyHash P z_29, key := Value.str z_29 (349 : Nat), val := Value.ref (130 : Nat) } :: { hash := PyData.keyHash P z_30, key := Value.str z_30 (358 : Nat), val := Value.ref (137 : Nat) } :: { hash := PyData.keyHash P z_31, key := Value.str z_31 (370 : Nat), val := Value.ref (144 : Nat) } :: { hash := PyData.keyHash P z_32, key := Value.str z_32 (375 : Nat), val := Value.int (-2 : Int) (374 : Nat) } :: { hash := PyData.keyHash P z_33, key := Value.str z_33 (378 : Nat), val := Value.int (-6 : Int) (377 : Nat) } :: { hash := PyData.keyHash P z_34, key := Value.str z_34 (381 : Nat), val := Value.int (-11 : Int) (380 : Nat) } :: { hash := PyData.keyHash P z_35, key := Value.str z_35 (384 : Nat), val := Value.int (-12 : Int) (383 : Nat) } :: { hash := PyData.keyHash P z_36, key := Value.str z_36 (387 : Nat), val := Value.int (-22 : Int) (386 : Nat) } :: { hash := PyData.keyHash P z_37, key := Value.str z_37 (390 : Nat), val := Value.int (-28 : Int) (389 : Nat) } :: { hash := PyData.keyHash P z_38, key := Value.str z_38 (393 : Nat), val := Value.int (-33 : Int) (392 : Nat) } :: { hash := PyData.keyHash P z_39, key := Value.str z_39 (395 : Nat), val := Value.int (2 : Int) (394 : Nat) } :: { hash := PyData.keyHash P z_40, key := Value.str z_40 (397 : Nat), val := Value.int (4 : Int) (396 : Nat) } :: { hash := PyData.keyHash P z_41, key := Value.str z_41 (399 : Nat), val := Value.int (6 : Int) (398 : Nat) } :: { hash := PyData.keyHash P z_42, key := Value.str z_42 (401 : Nat), val := Value.int (100 : Int) (400 : Nat) } :: { hash := PyData.keyHash P z_43, key := Value.str z_43 (403 : Nat), val := Value.int (100 : Int) (402 : Nat) } :: { hash := PyData.keyHash P z_44, key := Value.str z_44 (405 : Nat), val := Value.int (3 : Int) (404 : Nat) } :: { hash := PyData.keyHash P z_45, key := Value.str z_45 (407 : Nat), val := Value.int (10 : Int) (406 : Nat) } :: { hash := PyData.keyHash P z_46, key := Value.str z_46 (409 : Nat), val := Value.int (0 : Int) (408 : Nat) } :: { hash := PyData.keyHash P z_47, key := Value.str z_47 (411 : Nat), val := Value.int (1 : Int) (410 : Nat) } :: { hash := PyData.keyHash P z_48, key := Value.str z_48 (432 : Nat), val := Value.ref (145 : Nat) } :: { hash := PyData.keyHash P z_49, key := Value.str z_49 (461 : Nat), val := Value.ref (162 : Nat) } :: { hash := PyData.keyHash P z_50, key := Value.str z_50 (469 : Nat), val := Value.ref (173 : Nat) } :: { hash := PyData.keyHash P z_51, key := Value.str z_51 (475 : Nat), val := Value.ref (178 : Nat) } :: { hash := PyData.keyHash P z_52, key := Value.str z_52 (485 : Nat), val := Value.ref (185 : Nat) } :: { hash := PyData.keyHash P z_53, key := Value.str z_53 (495 : Nat), val := Value.ref (192 : Nat) } :: { hash := PyData.keyHash P z_54, key := Value.str z_54 (502 : Nat), val := Value.ref (199 : Nat) } :: { hash := PyData.keyHash P z_55, key := Value.str z_55 (511 : Nat), val := Value.ref (206 : Nat) } :: { hash := PyData.keyHash P z_56, key := Value.str z_56 (519 : Nat), val := Value.ref (213 : Nat) } :: { hash := PyData.keyHash P z_57, key := Value.str z_57 (531 : Nat), val := Value.ref (220 : Nat) } :: { hash := PyData.keyHash P z_58, key := Value.str z_58 (543 : Nat), val := Value.ref (227 : Nat) } :: { hash := PyData.keyHash P z_59, key := Value.str z_59 (553 : Nat), val := Value.ref (234 : Nat) } :: { hash := PyData.keyHash P z_60, key := Value.str z_60 (563 : Nat), val := Value.ref (241 : Nat) } :: { hash := PyData.keyHash P z_61, key := Value.str z_61 (573 : Nat), val := Value.ref (248 : Nat) } :: { hash := PyData.keyHash P z_62, key := Value.str z_62 (585 : Nat), val := Value.ref (255 : Nat) } :: { hash := PyData.keyHash P z_63, key := Value.str z_63 (594 : Nat), val := Value.ref (262 : Nat) } :: { hash := PyData.keyHash P z_64, key := Value.str z_64 (603 : Nat), val := Value.ref (269 : Nat) } :: { hash := PyData.keyHash P z_65, key := Value.str z_65 (614 : Nat), val := Value.ref (276 : Nat) } :: { hash := PyData.keyHash P z_66, key := Value.str z_66 (623 : Nat), val := Value.ref (283 : Nat) } :: { hash := PyData.keyHash P z_67, key := Value.str z_67 (634 : Nat), val := Value.ref (290 : Nat) } :: { hash := PyData.keyHash P z_68, key := Value.str z_68 (644 : Nat), val := Value.ref (297 : Nat) } :: { hash := PyData.keyHash P z_69, key := Value.str z_69 (654 : Nat), val := Value.ref (304 : Nat) } :: { hash := PyData.keyHash P z_70, key := Value.str z_70 (665 : Nat), val := Value.ref (311 : Nat) } :: { hash := PyData.keyHash P z_71, key := Value.str z_71 (676 : Nat), val := Value.ref (318 : Nat) } :: { hash := PyData.keyHash P z_72, key := Value.str z_72 (684 : Nat), val := Value.ref (325 : Nat) } :: { hash := PyData.keyHash P z_73, key := Value.str z_73 (694 : Nat), val := Value.ref (332 : Nat) } :: { hash := PyData.keyHash P z_74, key := Value.str z_74 (702 : Nat), val := Value.ref (339 : Nat) } :: { hash := PyData.keyHash P z_75, key := Value.str z_75 (703 : Nat), val := Value.ref (340 : Nat) } :: { hash := PyData.keyHash P z_76, key := Value.str z_76 (713 : Nat), val := Value.ref (347 : Nat) } :: { hash := PyData.keyHash P z_77, key := Value.str z_77 (721 : Nat), val := Value.ref (354 : Nat) } :: { hash := PyData.keyHash P z_78, key := Value.str z_78 (729 : Nat), val := Value.ref (361 : Nat) } :: { hash := PyData.keyHash P z_79, key := Value.str z_79 (742 : Nat), val := Value.ref (368 : Nat) } :: [])) (78 : Nat) }
noncomputable def k_20 : Obj := { cls := Value.type "code", data := Data.fields #[Value.str z_12 (191 : Nat), Value.str z_12 (192 : Nat), Value.str z_9 (193 : Nat), Value.int (3 : Int) (0 : Nat), Value.int (2 : Int) (0 : Nat), Value.int (0 : Int) (0 : Nat), Value.int (0 : Int) (0 : Nat), Value.int (3 : Int) (0 : Nat), Value.ref (15 : Nat), Value.bool true, Value.int (181 : Int) (0 : Nat), Value.ref (16 : Nat), Value.none, Value.ref (17 : Nat), Value.ref (18 : Nat), Value.ref (19 : Nat), Value.int (197 : Int) (0 : Nat), Value.int (3 : Int) (0 : Nat), Value.str z_9 (198 : Nat)] }
noncomputable def k_27 : Obj := { cls := Value.type "code", data := Data.fields #[Value.str z_13 (200 : Nat), Value.str z_13 (201 : Nat), Value.str z_9 (202 : Nat), Value.int (9 : Int) (0 : Nat), Value.int (2 : Int) (0 : Nat), Value.int (0 : Int) (0 : Nat), Value.int (0 : Int) (0 : Nat), Value.int (3 : Int) (0 : Nat), Value.ref (22 : Nat), Value.bool true, Value.int (181 : Int) (0 : Nat), Value.ref (23 : Nat), Value.none, Value.ref (24 : Nat), Value.ref (25 : Nat), Value.ref (26 : Nat), Value.int (206 : Int) (0 : Nat), Value.int (9 : Int) (0 : Nat), Value.str z_9 (207 : Nat)] }
noncomputable def k_34 : Obj := { cls := Value.type "code", data := Data.fields #[Value.str z_14 (209 : Nat), Value.str z_14 (210 : Nat), Value.str z_9 (211 : Nat), Value.int (12 : Int) (0 : Nat), Value.int (1 : Int) (0 : Nat), Value.int (0 : Int) (0 : Nat), Value.int (0 : Int) (0 : Nat), Value.int (3 : Int) (0 : Nat), Value.ref (29 : Nat), Value.bool true, Value.int (181 : Int) (0 : Nat), Value.ref (30 : Nat), Value.none, Value.ref (31 : Nat), Value.ref (32 : Nat), Value.ref (33 : Nat), Value.int (213 : Int) (0 : Nat), Value.int (12 : Int) (0 : Nat), Value.str z_9 (214 : Nat)] }
noncomputable def k_41 : Obj := { cls := Value.type "code", data := Data.fields #[Value.str z_15 (216 : Nat), Value.str z_15 (217 : Nat), Value.str z_9 (218 : Nat), Value.int (14 : Int) (0 : Nat), Value.int (3 : Int) (0 : Nat), Value.int (0 : Int) (0 : Nat), Value.int (0 : Int) (0 : Nat), Value.int (3 : Int) (0 : Nat), Value.ref (36 : Nat), Value.bool true, Value.int (181 : Int) (0 : Nat), Value.ref (37 : Nat), Value.none, Value.ref (38 : Nat), Value.ref (39 : Nat), Value.ref (40 : Nat), Value.int (224 : Int) (0 : Nat), Value.int (14 : Int) (0 : Nat), Value.str z_9 (225 : Nat)] }
noncomputable def k_46 : Obj := { cls := Value.type "code", data := Data.fields #[Value.str z_16 (227 : Nat), Value.str z_16 (228 : Nat), Value.str z_9 (229 : Nat), Value.int (18 : Int) (0 : Nat), Value.int (2 : Int) (0 : Nat), Value.int (0 : Int) (0 : Nat), Value.int (0 : Int) (0 : Nat), Value.int (3 : Int) (0 : Nat), Value.ref (43 : Nat), Value.bool true, Value.int (181 : Int) (0 : Nat), Value.ref (44 : Nat), Value.none, Value.none, Value.none, Value.ref (45 : Nat), Value.int (230 : Int) (0 : Nat), Value.int (18 : Int) (0 : Nat), Value.str z_9 (231 : Nat)] }
noncomputable def k_53 : Obj := { cls := Value.type "code", data := Data.fields #[Value.str z_17 (233 : Nat), Value.str z_17 (234 : Nat), Value.str z_9 (235 : Nat), Value.int (24 : Int) (0 : Nat), Value.int (3 : Int) (0 : Nat), Value.int (0 : Int) (0 : Nat), Value.int (0 : Int) (0 : Nat), Value.int (3 : Int) (0 : Nat), Value.ref (48 : Nat), Value.bool true, Value.int (181 : Int) (0 : Nat), Value.ref (49 : Nat), Value.none, Value.ref (50 : Nat), Value.ref (51 : Nat), Value.ref (52 : Nat), Value.int (244 : Int) (0 : Nat), Value.int (24 : Int) (0 : Nat), Value.str z_9 (245 : Nat)] }
noncomputable def k_60 : Obj := { cls := Value.type "code", data := Data.fields #[Value.str z_18 (247 : Nat), Value.str z_18 (248 : Nat), Value.str z_9 (249 : Nat), Value.int (33 : Int) (0 : Nat), Value.int (2 : Int) (0 : Nat), Value.int (0 : Int) (0 : Nat), Value.int (0 : Int) (0 : Nat), Value.int (3 : Int) (0 : Nat), Value.ref (55 : Nat), Value.bool true, Value.int (181 : Int) (0 : Nat), Value.ref (56 : Nat), Value.none, Value.ref (57 : Nat), Value.ref (58 : Nat), Value.ref (59 : Nat), Value.int (252 : Int) (0 : Nat), Value.int (33 : Int) (0 : Nat), Value.str z_9 (253 : Nat)] }
noncomputable def k_67 : Obj := { cls := Value.type "code", data := Data.fields #[Value.str z_19 (255 : Nat), Value.str z_19 (256 : Nat), Value.str z_9 (257 : Nat), Value.int (35 : Int) (0 : Nat), Value.int (2 : Int) (0 : Nat), Value.int (0 : Int) (0 : Nat), Value.int (0 : Int) (0 : Nat), Value.int (3 : Int) (0 : Nat), Value.ref (62 : Nat), Value.bool true, Value.int (181 : Int) (0 : Nat), Value.ref (63 : Nat), Value.none, Value.ref (64 : Nat), Value.ref (65 : Nat), Value.ref (66 : Nat), Value.int (264 : Int) (0 : Nat), Value.int (35 : Int) (0 : Nat), Value.str z_9 (265 : Nat)] }
noncomputable def k_72 : Obj := { cls := Value.type "code", data := Data.fields #[Value.str z_20 (267 : Nat), Value.str z_20 (268 : Nat), Value.str z_9 (269 : Nat), Value.int (43 : Int) (0 : Nat), Value.int (3 : Int) (0 : Nat), Value.int (0 : Int) (0 : Nat), Value.int (0 : Int) (0 : Nat), Value.int (3 : Int) (0 : Nat), Value.ref (69 : Nat), Value.bool true, Value.int (181 : Int) (0 : Nat), Value.ref (70 : Nat), Value.none, Value.none, Value.none, Value.ref (71 : Nat), Value.int (270 : Int) (0 : Nat), Value.int (43 : Int) (0 : Nat), Value.str z_9 (271 : Nat)] }
noncomputable def k_79 : Obj := { cls := Value.type "code", data := Data.fields #[Value.str z_21 (273 : Nat), Value.str z_21 (274 : Nat), Value.str z_9 (275 : Nat), Value.int (48 : Int) (0 : Nat), Value.int (4 : Int) (0 : Nat), Value.int (0 : Int) (0 : Nat), Value.int (0 : Int) (0 : Nat), Value.int (3 : Int) (0 : Nat), Value.ref (74 : Nat), Value.bool true, Value.int (181 : Int) (0 : Nat), Value.ref (75 : Nat), Value.none, Value.ref (76 : Nat), Value.ref (77 : Nat), Value.ref (78 : Nat), Value.int (282 : Int) (0 : Nat), Value.int (48 : Int) (0 : Nat), Value.str z_9 (283 : Nat)] }
noncomputable def k_84 : Obj := { cls := Value.type "code", data := Data.fields #[Value.str z_22 (285 : Nat), Value.str z_22 (286 : Nat), Value.str z_9 (287 : Nat), Value.int (53 : Int) (0 : Nat), Value.int (2 : Int) (0 : Nat), Value.int (0 : Int) (0 : Nat), Value.int (0 : Int) (0 : Nat), Value.int (3 : Int) (0 : Nat), Value.ref (81 : Nat), Value.bool true, Value.int (181 : Int) (0 : Nat), Value.ref (82 : Nat), Value.none, Value.none, Value.none, Value.ref (83 : Nat), Value.int (288 : Int) (0 : Nat), Value.int (53 : Int) (0 : Nat), Value.str z_9 (289 : Nat)] }
noncomputable def k_89 : Obj := { cls := Value.type "code", data := Data.fields #[Value.str z_23 (291 : Nat), Value.str z_23 (292 : Nat), Value.str z_9 (293 : Nat), Value.int (55 : Int) (0 : Nat), Value.int (2 : Int) (0 : Nat), Value.int (0 : Int) (0 : Nat), Value.int (0 : Int) (0 : Nat), Value.int (3 : Int) (0 : Nat), Value.ref (86 : Nat), Value.bool true, Value.int (181 : Int) (0 : Nat), Value.ref (87 : Nat), Value.none, Value.none, Value.none, Value.ref (88 : Nat), Value.int (294 : Int) (0 : Nat), Value.int (55 : Int) (0 : Nat), Value.str z_9 (295 : Nat)] }
noncomputable def k_96 : Obj := { cls := Value.type "code", data := Data.fields #[Value.str z_24 (297 : Nat), Value.str z_24 (298 : Nat), Value.str z_9 (299 : Nat), Value.int (60 : Int) (0 : Nat), Value.int (3 : Int) (0 : Nat), Value.int (0 : Int) (0 : Nat), Value.int (0 : Int) (0 : Nat), Value.int (3 : Int) (0 : Nat), Value.ref (91 : Nat), Value.bool true, Value.int (181 : Int) (0 : Nat), Value.ref (92 : Nat), Value.none, Value.ref (93 : Nat), Value.ref (94 : Nat), Value.ref (95 : Nat), Value.int (305 : Int) (0 : Nat), Value.int (60 : Int) (0 : Nat), Value.str z_9 (306 : Nat)] }
noncomputable def k_103 : Obj := { cls := Value.type "code", data := Data.fields #[Value.str z_25 (308 : Nat), Value.str z_25 (309 : Nat), Value.str z_9 (310 : Nat), Value.int (67 : Int) (0 : Nat), Value.int (4 : Int) (0 : Nat), Value.int (0 : Int) (0 : Nat), Value.int (0 : Int) (0 : Nat), Value.int (3 : Int) (0 : Nat), Value.ref (98 : Nat), Value.bool true, Value.int (181 : Int) (0 : Nat), Value.ref (99 : Nat), Value.none, Value.ref (100 : Nat), Value.ref (101 : Nat), Value.ref (102 : Nat), Value.int (315 : Int) (0 : Nat), Value.int (67 : Int) (0 : Nat), Value.str z_9 (316 : Nat)] }
noncomputable def k_110 : Obj := { cls := Value.type "code", data := Data.fields #[Value.str z_26 (318 : Nat), Value.str z_26 (319 : Nat), Value.str z_9 (320 : Nat), Value.int (69 : Int) (0 : Nat), Value.int (3 : Int) (0 : Nat), Value.int (0 : Int) (0 : Nat), Value.int (0 : Int) (0 : Nat), Value.int (3 : Int) (0 : Nat), Value.ref (105 : Nat), Value.bool true, Value.int (181 : Int) (0 : Nat), Value.ref (106 : Nat), Value.none, Value.ref (107 : Nat), Value.ref (108 : Nat), Value.ref (109 : Nat), Value.int (324 : Int) (0 : Nat), Value.int (69 : Int) (0 : Nat), Value.str z_9 (325 : Nat)] }
noncomputable def k_115 : Obj := { cls := Value.type "code", data := Data.fields #[Value.str z_27 (327 : Nat), Value.str z_27 (328 : Nat), Value.str z_9 (329 : Nat), Value.int (71 : Int) (0 : Nat), Value.int (2 : Int) (0 : Nat), Value.int (0 : Int) (0 : Nat), Value.int (0 : Int) (0 : Nat), Value.int (3 : Int) (0 : Nat), Value.ref (112 : Nat), Value.bool true, Value.int (181 : Int) (0 : Nat), Value.ref (113 : Nat), Value.none, Value.none, Value.none, Value.ref (114 : Nat), Value.int (330 : Int) (0 : Nat), Value.int (71 : Int) (0 : Nat), Value.str z_9 (331 : Nat)] }
noncomputable def k_122 : Obj := { cls := Value.type "code", data := Data.fields #[Value.str z_28 (333 : Nat), Value.str z_28 (334 : Nat), Value.str z_9 (335 : Nat), Value.int (75 : Int) (0 : Nat), Value.int (2 : Int) (0 : Nat), Value.int (0 : Int) (0 : Nat), Value.int (0 : Int) (0 : Nat), Value.int (3 : Int) (0 : Nat), Value.ref (117 : Nat), Value.bool true, Value.int (181 : Int) (0 : Nat), Value.ref (118 : Nat), Value.none, Value.ref (119 : Nat), Value.ref (120 : Nat), Value.ref (121 : Nat), Value.int (338 : Int) (0 : Nat), Value.int (75 : Int) (0 : Nat), Value.str z_9 (339 : Nat)] }
noncomputable def k_129 : Obj := { cls := Value.type "code", data := Data.fields #[Value.str z_29 (341 : Nat), Value.str z_29 (342 : Nat), Value.str z_9 (343 : Nat), Value.int (77 : Int) (0 : Nat), Value.int (2 : Int) (0 : Nat), Value.int (0 : Int) (0 : Nat), Value.int (0 : Int) (0 : Nat), Value.int (3 : Int) (0 : Nat), Value.ref (124 : Nat), Value.bool true, Value.int (181 : Int) (0 : Nat), Value.ref (125 : Nat), Value.none, Value.ref (126 : Nat), Value.ref (127 : Nat), Value.ref (128 : Nat), Value.int (347 : Int) (0 : Nat), Value.int (77 : Int) (0 : Nat), Value.str z_9 (348 : Nat)] }
noncomputable def k_136 : Obj := { cls := Value.type "code", data := Data.fields #[Value.str z_30 (350 : Nat), Value.str z_30 (351 : Nat), Value.str z_9 (352 : Nat), Value.int (80 : Int) (0 : Nat), Value.int (2 : Int) (0 : Nat), Value.int (0 : Int) (0 : Nat), Value.int (0 : Int) (0 : Nat), Value.int (3 : Int) (0 : Nat), Value.ref (131 : Nat), Value.bool true, Value.int (181 : Int) (0 : Nat), Value.ref (132 : Nat), Value.none, Value.ref (133 : Nat), Value.ref (134 : Nat), Value.ref (135 : Nat), Value.int (356 : Int) (0 : Nat), Value.int (80 : Int) (0 : Nat), Value.str z_9 (357 : Nat)] }
noncomputable def k_143 : Obj := { cls := Value.type "code", data := Data.fields #[Value.str z_31 (359 : Nat), Value.str z_31 (360 : Nat), Value.str z_9 (361 : Nat), Value.int (83 : Int) (0 : Nat), Value.int (2 : Int) (0 : Nat), Value.int (0 : Int) (0 : Nat), Value.int (0 : Int) (0 : Nat), Value.int (3 : Int) (0 : Nat), Value.ref (138 : Nat), Value.bool true, Value.int (181 : Int) (0 : Nat), Value.ref (139 : Nat), Value.none, Value.ref (140 : Nat), Value.ref (141 : Nat), Value.ref (142 : Nat), Value.int (368 : Int) (0 : Nat), Value.int (83 : Int) (0 : Nat), Value.str z_9 (369 : Nat)] }
noncomputable def k_145 : Obj := { cls := Value.type "tuple", data := Data.seq #[Value.int (1 : Int) (412 : Nat), Value.int (0 : Int) (413 : Nat), Value.int (4 : Int) (414 : Nat), Value.int (4 : Int) (415 : Nat), Value.int (3 : Int) (416 : Nat), Value.int (2 : Int) (417 : Nat), Value.int (3 : Int) (418 : Nat), Value.int (5 : Int) (419 : Nat), Value.int (1 : Int) (420 : Nat), Value.int (1 : Int) (421 : Nat), Value.int (1 : Int) (422 : Nat), Value.int (1 : Int) (423 : Nat), Value.int (2 : Int) (424 : Nat), Value.int (2 : Int) (425 : Nat), Value.int (4 : Int) (426 : Nat), Value.int (2 : Int) (427 : Nat), Value.int (1 : Int) (428 : Nat), Value.int (1 : Int) (429 : Nat), Value.int (2 : Int) (430 : Nat), Value.int (0 : Int) (431 : Nat)] }
noncomputable def k_158 : Obj := { cls := Value.type "code", data := Data.fields #[Value.str z_81 (445 : Nat), Value.str z_82 (446 : Nat), Value.str z_9 (447 : Nat), Value.int (111 : Int) (0 : Nat), Value.int (1 : Int) (0 : Nat), Value.int (0 : Int) (0 : Nat), Value.int (0 : Int) (0 : Nat), Value.int (3 : Int) (0 : Nat), Value.ref (153 : Nat), Value.bool true, Value.int (181 : Int) (0 : Nat), Value.ref (154 : Nat), Value.none, Value.ref (155 : Nat), Value.ref (156 : Nat), Value.ref (157 : Nat), Value.int (449 : Int) (0 : Nat), Value.int (111 : Int) (0 : Nat), Value.str z_9 (450 : Nat)] }
noncomputable def k_161 (P : Params) : Obj := { cls := Value.type "dict", data := Data.dict #[{ hash := PyData.keyHash P z_83, key := Value.str z_83 (440 : Nat), val := Value.str z_1 (371 : Nat) }, { hash := PyData.keyHash P z_84, key := Value.str z_84 (444 : Nat), val := Value.int (109 : Int) (443 : Nat) }, { hash := PyData.keyHash P z_81, key := Value.str z_81 (451 : Nat), val := Value.ref (159 : Nat) }, { hash := PyData.keyHash P z_85, key := Value.str z_85 (454 : Nat), val := Value.ref (160 : Nat) }, { hash := PyData.keyHash P z_86, key := Value.str z_86 (456 : Nat), val := Value.ref (163 : Nat) }, { hash := PyData.keyHash P z_87, key := Value.str z_87 (458 : Nat), val := Value.ref (164 : Nat) }, { hash := PyData.keyHash P z_2, key := Value.str z_2 (459 : Nat), val := Value.none }] (4 : Nat) }
noncomputable def k_162 : Obj := { cls := Value.type "type", data := Data.cls { name := z_49, bases := [Value.type "object"], mro := [Value.ref (162 : Nat), Value.type "object"], ns := (161 : Nat), qualname := z_49 }, slots := #[none, none, some (Value.str z_49 (433 : Nat)), some (Value.str z_49 (441 : Nat)), some (Value.builtin "object.__new__"), some (Value.bool true)] }
noncomputable def k_163 : Obj := { cls := Value.type "getset_descriptor", data := Data.fields #[Value.str z_86 (455 : Nat), Value.ref (162 : Nat), Value.builtin "function.__dict__", Value.builtin "function.__dict__#set"] }
noncomputable def k_164 : Obj := { cls := Value.type "getset_descriptor", data := Data.fields #[Value.str z_87 (457 : Nat), Value.ref (162 : Nat), Value.builtin "ExceptionGroup.__weakref__", Value.none] }
noncomputable def k_172 : Obj := { cls := Value.type "code", data := Data.fields #[Value.str z_50 (462 : Nat), Value.str z_50 (463 : Nat), Value.str z_9 (464 : Nat), Value.int (114 : Int) (0 : Nat), Value.int (2 : Int) (0 : Nat), Value.int (0 : Int) (0 : Nat), Value.int (0 : Int) (0 : Nat), Value.int (3 : Int) (0 : Nat), Value.ref (167 : Nat), Value.bool true, Value.int (181 : Int) (0 : Nat), Value.ref (168 : Nat), Value.none, Value.ref (169 : Nat), Value.ref (170 : Nat), Value.ref (171 : Nat), Value.int (467 : Int) (0 : Nat), Value.int (114 : Int) (0 : Nat), Value.str z_9 (468 : Nat)] }
noncomputable def k_177 : Obj := { cls := Value.type "code", data := Data.fields #[Value.str z_51 (470 : Nat), Value.str z_51 (471 : Nat), Value.str z_9 (472 : Nat), Value.int (116 : Int) (0 : Nat), Value.int (2 : Int) (0 : Nat), Value.int (0 : Int) (0 : Nat), Value.int (0 : Int) (0 : Nat), Value.int (3 : Int) (0 : Nat), Value.ref (174 : Nat), Value.bool true, Value.int (181 : Int) (0 : Nat), Value.ref (175 : Nat), Value.none, Value.none, Value.none, Value.ref (176 : Nat), Value.int (473 : Int) (0 : Nat), Value.int (116 : Int) (0 : Nat), Value.str z_9 (474 : Nat)] }
noncomputable def k_184 : Obj := { cls := Value.type "code", data := Data.fields #[Value.str z_52 (476 : Nat), Value.str z_52 (477 : Nat), Value.str z_9 (478 : Nat), Value.int (118 : Int) (0 : Nat), Value.int (3 : Int) (0 : Nat), Value.int (0 : Int) (0 : Nat), Value.int (0 : Int) (0 : Nat), Value.int (3 : Int) (0 : Nat), Value.ref (179 : Nat), Value.bool true, Value.int (181 : Int) (0 : Nat), Value.ref (180 : Nat), Value.none, Value.ref (181 : Nat), Value.ref (182 : Nat), Value.ref (183 : Nat), Value.int (483 : Int) (0 : Nat), Value.int (118 : Int) (0 : Nat), Value.str z_9 (484 : Nat)] }
noncomputable def k_191 : Obj := { cls := Value.type "code", data := Data.fields #[Value.str z_53 (486 : Nat), Value.str z_53 (487 : Nat), Value.str z_9 (488 : Nat), Value.int (127 : Int) (0 : Nat), Value.int (4 : Int) (0 : Nat), Value.int (0 : Int) (0 : Nat), Value.int (0 : Int) (0 : Nat), Value.int (3 : Int) (0 : Nat), Value.ref (186 : Nat), Value.bool true, Value.int (181 : Int) (0 : Nat), Value.ref (187 : Nat), Value.none, Value.ref (188 : Nat), Value.ref (189 : Nat), Value.ref (190 : Nat), Value.int (493 : Int) (0 : Nat), Value.int (127 : Int) (0 : Nat), Value.str z_9 (494 : Nat)] }
noncomputable def k_198 : Obj := { cls := Value.type "code", data := Data.fields #[Value.str z_54 (496 : Nat), Value.str z_54 (497 : Nat), Value.str z_9 (498 : Nat), Value.int (133 : Int) (0 : Nat), Value.int (1 : Int) (0 : Nat), Value.int (0 : Int) (0 : Nat), Value.int (0 : Int) (0 : Nat), Value.int (3 : Int) (0 : Nat), Value.ref (193 : Nat), Value.bool true, Value.int (181 : Int) (0 : Nat), Value.ref (194 : Nat), Value.none, Value.ref (195 : Nat), Value.ref (196 : Nat), Value.ref (197 : Nat), Value.int (500 : Int) (0 : Nat), Value.int (133 : Int) (0 : Nat), Value.str z_9 (501 : Nat)] }
noncomputable def k_205 : Obj := { cls := Value.type "code", data := Data.fields #[Value.str z_55 (503 : Nat), Value.str z_55 (504 : Nat), Value.str z_9 (505 : Nat), Value.int (135 : Int) (0 : Nat), Value.int (2 : Int) (0 : Nat), Value.int (0 : Int) (0 : Nat), Value.int (0 : Int) (0 : Nat), Value.int (3 : Int) (0 : Nat), Value.ref (200 : Nat), Value.bool true, Value.int (181 : Int) (0 : Nat), Value.ref (201 : Nat), Value.none, Value.ref (202 : Nat), Value.ref (203 : Nat), Value.ref (204 : Nat), Value.int (509 : Int) (0 : Nat), Value.int (135 : Int) (0 : Nat), Value.str z_9 (510 : Nat)] }
noncomputable def k_212 : Obj := { cls := Value.type "code", data := Data.fields #[Value.str z_56 (512 : Nat), Value.str z_56 (513 : Nat), Value.str z_9 (514 : Nat), Value.int (142 : Int) (0 : Nat), Value.int (2 : Int) (0 : Nat), Value.int (0 : Int) (0 : Nat), Value.int (0 : Int) (0 : Nat), Value.int (3 : Int) (0 : Nat), Value.ref (207 : Nat), Value.bool true, Value.int (181 : Int) (0 : Nat), Value.ref (208 : Nat), Value.none, Value.ref (209 : Nat), Value.ref (210 : Nat), Value.ref (211 : Nat), Value.int (517 : Int) (0 : Nat), Value.int (142 : Int) (0 : Nat), Value.str z_9 (518 : Nat)] }
noncomputable def k_219 : Obj := { cls := Value.type "code", data := Data.fields #[Value.str z_57 (520 : Nat), Value.str z_57 (521 : Nat), Value.str z_9 (522 : Nat), Value.int (149 : Int) (0 : Nat), Value.int (2 : Int) (0 : Nat), Value.int (0 : Int) (0 : Nat), Value.int (0 : Int) (0 : Nat), Value.int (3 : Int) (0 : Nat), Value.ref (214 : Nat), Value.bool true, Value.int (181 : Int) (0 : Nat), Value.ref (215 : Nat), Value.none, Value.ref (216 : Nat), Value.ref (217 : Nat), Value.ref (218 : Nat), Value.int (529 : Int) (0 : Nat), Value.int (149 : Int) (0 : Nat), Value.str z_9 (530 : Nat)] }
noncomputable def k_226 : Obj := { cls := Value.type "code", data := Data.fields #[Value.str z_58 (532 : Nat), Value.str z_58 (533 : Nat), Value.str z_9 (534 : Nat), Value.int (160 : Int) (0 : Nat), Value.int (2 : Int) (0 : Nat), Value.int (0 : Int) (0 : Nat), Value.int (0 : Int) (0 : Nat), Value.int (3 : Int) (0 : Nat), Value.ref (221 : Nat), Value.bool true, Value.int (181 : Int) (0 : Nat), Value.ref (222 : Nat), Value.none, Value.ref (223 : Nat), Value.ref (224 : Nat), Value.ref (225 : Nat), Value.int (541 : Int) (0 : Nat), Value.int (160 : Int) (0 : Nat), Value.str z_9 (542 : Nat)] }
noncomputable def k_233 : Obj := { cls := Value.type "code", data := Data.fields #[Value.str z_59 (544 : Nat), Value.str z_59 (545 : Nat), Value.str z_9 (546 : Nat), Value.int (171 : Int) (0 : Nat), Value.int (2 : Int) (0 : Nat), Value.int (0 : Int) (0 : Nat), Value.int (0 : Int) (0 : Nat), Value.int (3 : Int) (0 : Nat), Value.ref (228 : Nat), Value.bool true, Value.int (181 : Int) (0 : Nat), Value.ref (229 : Nat), Value.none, Value.ref (230 : Nat), Value.ref (231 : Nat), Value.ref (232 : Nat), Value.int (551 : Int) (0 : Nat), Value.int (171 : Int) (0 : Nat), Value.str z_9 (552 : Nat)] }
noncomputable def k_240 : Obj := { cls := Value.type "code", data := Data.fields #[Value.str z_60 (554 : Nat), Value.str z_60 (555 : Nat), Value.str z_9 (556 : Nat), Value.int (177 : Int) (0 : Nat), Value.int (2 : Int) (0 : Nat), Value.int (0 : Int) (0 : Nat), Value.int (0 : Int) (0 : Nat), Value.int (3 : Int) (0 : Nat), Value.ref (235 : Nat), Value.bool true, Value.int (181 : Int) (0 : Nat), Value.ref (236 : Nat), Value.none, Value.ref (237 : Nat), Value.ref (238 : Nat), Value.ref (239 : Nat), Value.int (561 : Int) (0 : Nat), Value.int (177 : Int) (0 : Nat), Value.str z_9 (562 : Nat)] }
noncomputable def k_247 : Obj := { cls := Value.type "code", data := Data.fields #[Value.str z_61 (564 : Nat), Value.str z_61 (565 : Nat), Value.str z_9 (566 : Nat), Value.int (183 : Int) (0 : Nat), Value.int (2 : Int) (0 : Nat), Value.int (0 : Int) (0 : Nat), Value.int (0 : Int) (0 : Nat), Value.int (3 : Int) (0 : Nat), Value.ref (242 : Nat), Value.bool true, Value.int (181 : Int) (0 : Nat), Value.ref (243 : Nat), Value.none, Value.ref (244 : Nat), Value.ref (245 : Nat), Value.ref (246 : Nat), Value.int (571 : Int) (0 : Nat), Value.int (183 : Int) (0 : Nat), Value.str z_9 (572 : Nat)] }
noncomputable def k_254 : Obj := { cls := Value.type "code", data := Data.fields #[Value.str z_62 (574 : Nat), Value.str z_62 (575 : Nat), Value.str z_9 (576 : Nat), Value.int (189 : Int) (0 : Nat), Value.int (2 : Int) (0 : Nat), Value.int (0 : Int) (0 : Nat), Value.int (0 : Int) (0 : Nat), Value.int (3 : Int) (0 : Nat), Value.ref (249 : Nat), Value.bool true, Value.int (181 : Int) (0 : Nat), Value.ref (250 : Nat), Value.none, Value.ref (251 : Nat), Value.ref (252 : Nat), Value.ref (253 : Nat), Value.int (583 : Int) (0 : Nat), Value.int (189 : Int) (0 : Nat), Value.str z_9 (584 : Nat)] }
noncomputable def k_261 : Obj := { cls := Value.type "code", data := Data.fields #[Value.str z_63 (586 : Nat), Value.str z_63 (587 : Nat), Value.str z_9 (588 : Nat), Value.int (199 : Int) (0 : Nat), Value.int (2 : Int) (0 : Nat), Value.int (0 : Int) (0 : Nat), Value.int (0 : Int) (0 : Nat), Value.int (3 : Int) (0 : Nat), Value.ref (256 : Nat), Value.bool true, Value.int (181 : Int) (0 : Nat), Value.ref (257 : Nat), Value.none, Value.ref (258 : Nat), Value.ref (259 : Nat), Value.ref (260 : Nat), Value.int (592 : Int) (0 : Nat), Value.int (199 : Int) (0 : Nat), Value.str z_9 (593 : Nat)] }
noncomputable def k_268 : Obj := { cls := Value.type "code", data := Data.fields #[Value.str z_64 (595 : Nat), Value.str z_64 (596 : Nat), Value.str z_9 (597 : Nat), Value.int (204 : Int) (0 : Nat), Value.int (2 : Int) (0 : Nat), Value.int (0 : Int) (0 : Nat), Value.int (0 : Int) (0 : Nat), Value.int (3 : Int) (0 : Nat), Value.ref (263 : Nat), Value.bool true, Value.int (181 : Int) (0 : Nat), Value.ref (264 : Nat), Value.none, Value.ref (265 : Nat), Value.ref (266 : Nat), Value.ref (267 : Nat), Value.int (601 : Int) (0 : Nat), Value.int (204 : Int) (0 : Nat), Value.str z_9 (602 : Nat)] }
noncomputable def k_275 : Obj := { cls := Value.type "code", data := Data.fields #[Value.str z_65 (604 : Nat), Value.str z_65 (605 : Nat), Value.str z_9 (606 : Nat), Value.int (209 : Int) (0 : Nat), Value.int (2 : Int) (0 : Nat), Value.int (0 : Int) (0 : Nat), Value.int (0 : Int) (0 : Nat), Value.int (3 : Int) (0 : Nat), Value.ref (270 : Nat), Value.bool true, Value.int (181 : Int) (0 : Nat), Value.ref (271 : Nat), Value.none, Value.ref (272 : Nat), Value.ref (273 : Nat), Value.ref (274 : Nat), Value.int (612 : Int) (0 : Nat), Value.int (209 : Int) (0 : Nat), Value.str z_9 (613 : Nat)] }
noncomputable def k_282 : Obj := { cls := Value.type "code", data := Data.fields #[Value.str z_66 (615 : Nat), Value.str z_66 (616 : Nat), Value.str z_9 (617 : Nat), Value.int (218 : Int) (0 : Nat), Value.int (2 : Int) (0 : Nat), Value.int (0 : Int) (0 : Nat), Value.int (0 : Int) (0 : Nat), Value.int (3 : Int) (0 : Nat), Value.ref (277 : Nat), Value.bool true, Value.int (181 : Int) (0 : Nat), Value.ref (278 : Nat), Value.none, Value.ref (279 : Nat), Value.ref (280 : Nat), Value.ref (281 : Nat), Value.int (621 : Int) (0 : Nat), Value.int (218 : Int) (0 : Nat), Value.str z_9 (622 : Nat)] }
noncomputable def k_289 : Obj := { cls := Value.type "code", data := Data.fields #[Value.str z_67 (624 : Nat), Value.str z_67 (625 : Nat), Value.str z_9 (626 : Nat), Value.int (223 : Int) (0 : Nat), Value.int (2 : Int) (0 : Nat), Value.int (0 : Int) (0 : Nat), Value.int (0 : Int) (0 : Nat), Value.int (3 : Int) (0 : Nat), Value.ref (284 : Nat), Value.bool true, Value.int (181 : Int) (0 : Nat), Value.ref (285 : Nat), Value.none, Value.ref (286 : Nat), Value.ref (287 : Nat), Value.ref (288 : Nat), Value.int (632 : Int) (0 : Nat), Value.int (223 : Int) (0 : Nat), Value.str z_9 (633 : Nat)] }
noncomputable def k_296 : Obj := { cls := Value.type "code", data := Data.fields #[Value.str z_68 (635 : Nat), Value.str z_68 (636 : Nat), Value.str z_9 (637 : Nat), Value.int (234 : Int) (0 : Nat), Value.int (2 : Int) (0 : Nat), Value.int (0 : Int) (0 : Nat), Value.int (0 : Int) (0 : Nat), Value.int (3 : Int) (0 : Nat), Value.ref (291 : Nat), Value.bool true, Value.int (181 : Int) (0 : Nat), Value.ref (292 : Nat), Value.none, Value.ref (293 : Nat), Value.ref (294 : Nat), Value.ref (295 : Nat), Value.int (642 : Int) (0 : Nat), Value.int (234 : Int) (0 : Nat), Value.str z_9 (643 : Nat)] }
noncomputable def k_303 : Obj := { cls := Value.type "code", data := Data.fields #[Value.str z_69 (645 : Nat), Value.str z_69 (646 : Nat), Value.str z_9 (647 : Nat), Value.int (240 : Int) (0 : Nat), Value.int (2 : Int) (0 : Nat), Value.int (0 : Int) (0 : Nat), Value.int (0 : Int) (0 : Nat), Value.int (3 : Int) (0 : Nat), Value.ref (298 : Nat), Value.bool true, Value.int (181 : Int) (0 : Nat), Value.ref (299 : Nat), Value.none, Value.ref (300 : Nat), Value.ref (301 : Nat), Value.ref (302 : Nat), Value.int (652 : Int) (0 : Nat), Value.int (240 : Int) (0 : Nat), Value.str z_9 (653 : Nat)] }
noncomputable def k_310 : Obj := { cls := Value.type "code", data := Data.fields #[Value.str z_70 (655 : Nat), Value.str z_70 (656 : Nat), Value.str z_9 (657 : Nat), Value.int (246 : Int) (0 : Nat), Value.int (2 : Int) (0 : Nat), Value.int (0 : Int) (0 : Nat), Value.int (0 : Int) (0 : Nat), Value.int (3 : Int) (0 : Nat), Value.ref (305 : Nat), Value.bool true, Value.int (181 : Int) (0 : Nat), Value.ref (306 : Nat), Value.none, Value.ref (307 : Nat), Value.ref (308 : Nat), Value.ref (309 : Nat), Value.int (663 : Int) (0 : Nat), Value.int (246 : Int) (0 : Nat), Value.str z_9 (664 : Nat)] }
noncomputable def k_317 : Obj := { cls := Value.type "code", data := Data.fields #[Value.str z_71 (666 : Nat), Value.str z_71 (667 : Nat), Value.str z_9 (668 : Nat), Value.int (253 : Int) (0 : Nat), Value.int (2 : Int) (0 : Nat), Value.int (0 : Int) (0 : Nat), Value.int (0 : Int) (0 : Nat), Value.int (3 : Int) (0 : Nat), Value.ref (312 : Nat), Value.bool true, Value.int (181 : Int) (0 : Nat), Value.ref (313 : Nat), Value.none, Value.ref (314 : Nat), Value.ref (315 : Nat), Value.ref (316 : Nat), Value.int (674 : Int) (0 : Nat), Value.int (253 : Int) (0 : Nat), Value.str z_9 (675 : Nat)] }
noncomputable def k_324 : Obj := { cls := Value.type "code", data := Data.fields #[Value.str z_72 (677 : Nat), Value.str z_72 (678 : Nat), Value.str z_9 (679 : Nat), Value.int (260 : Int) (0 : Nat), Value.int (2 : Int) (0 : Nat), Value.int (0 : Int) (0 : Nat), Value.int (0 : Int) (0 : Nat), Value.int (3 : Int) (0 : Nat), Value.ref (319 : Nat), Value.bool true, Value.int (181 : Int) (0 : Nat), Value.ref (320 : Nat), Value.none, Value.ref (321 : Nat), Value.ref (322 : Nat), Value.ref (323 : Nat), Value.int (682 : Int) (0 : Nat), Value.int (260 : Int) (0 : Nat), Value.str z_9 (683 : Nat)] }
noncomputable def k_331 : Obj := { cls := Value.type "code", data := Data.fields #[Value.str z_73 (685 : Nat), Value.str z_73 (686 : Nat), Value.str z_9 (687 : Nat), Value.int (264 : Int) (0 : Nat), Value.int (2 : Int) (0 : Nat), Value.int (0 : Int) (0 : Nat), Value.int (0 : Int) (0 : Nat), Value.int (3 : Int) (0 : Nat), Value.ref (326 : Nat), Value.bool true, Value.int (181 : Int) (0 : Nat), Value.ref (327 : Nat), Value.none, Value.ref (328 : Nat), Value.ref (329 : Nat), Value.ref (330 : Nat), Value.int (692 : Int) (0 : Nat), Value.int (264 : Int) (0 : Nat), Value.str z_9 (693 : Nat)] }
noncomputable def k_338 : Obj := { cls := Value.type "code", data := Data.fields #[Value.str z_74 (695 : Nat), Value.str z_74 (696 : Nat), Value.str z_9 (697 : Nat), Value.int (270 : Int) (0 : Nat), Value.int (2 : Int) (0 : Nat), Value.int (0 : Int) (0 : Nat), Value.int (0 : Int) (0 : Nat), Value.int (3 : Int) (0 : Nat), Value.ref (333 : Nat), Value.bool true, Value.int (181 : Int) (0 : Nat), Value.ref (334 : Nat), Value.none, Value.ref (335 : Nat), Value.ref (336 : Nat), Value.ref (337 : Nat), Value.int (700 : Int) (0 : Nat), Value.int (270 : Int) (0 : Nat), Value.str z_9 (701 : Nat)] }
noncomputable def k_340 : Obj := { cls := Value.type "tuple", data := Data.seq #[Value.ref (206 : Nat), Value.ref (213 : Nat), Value.ref (220 : Nat), Value.ref (227 : Nat), Value.ref (234 : Nat), Value.ref (241 : Nat), Value.ref (248 : Nat), Value.ref (255 : Nat), Value.ref (262 : Nat), Value.ref (269 : Nat), Value.ref (276 : Nat), Value.ref (283 : Nat), Value.ref (290 : Nat), Value.ref (297 : Nat), Value.ref (304 : Nat), Value.ref (311 : Nat), Value.ref (318 : Nat), Value.ref (325 : Nat), Value.ref (332 : Nat), Value.ref (339 : Nat)] }
noncomputable def k_346 : Obj := { cls := Value.type "code", data := Data.fields #[Value.str z_76 (704 : Nat), Value.str z_76 (705 : Nat), Value.str z_9 (706 : Nat), Value.int (273 : Int) (0 : Nat), Value.int (3 : Int) (0 : Nat), Value.int (0 : Int) (0 : Nat), Value.int (0 : Int) (0 : Nat), Value.int (3 : Int) (0 : Nat), Value.ref (341 : Nat), Value.bool true, Value.int (181 : Int) (0 : Nat), Value.ref (342 : Nat), Value.none, Value.ref (343 : Nat), Value.ref (344 : Nat), Value.ref (345 : Nat), Value.int (711 : Int) (0 : Nat), Value.int (273 : Int) (0 : Nat), Value.str z_9 (712 : Nat)] }
noncomputable def k_353 : Obj := { cls := Value.type "code", data := Data.fields #[Value.str z_77 (714 : Nat), Value.str z_77 (715 : Nat), Value.str z_9 (716 : Nat), Value.int (278 : Int) (0 : Nat), Value.int (2 : Int) (0 : Nat), Value.int (0 : Int) (0 : Nat), Value.int (0 : Int) (0 : Nat), Value.int (3 : Int) (0 : Nat), Value.ref (348 : Nat), Value.bool true, Value.int (181 : Int) (0 : Nat), Value.ref (349 : Nat), Value.none, Value.ref (350 : Nat), Value.ref (351 : Nat), Value.ref (352 : Nat), Value.int (719 : Int) (0 : Nat), Value.int (278 : Int) (0 : Nat), Value.str z_9 (720 : Nat)] }
noncomputable def k_360 : Obj := { cls := Value.type "code", data := Data.fields #[Value.str z_78 (722 : Nat), Value.str z_78 (723 : Nat), Value.str z_9 (724 : Nat), Value.int (282 : Int) (0 : Nat), Value.int (2 : Int) (0 : Nat), Value.int (0 : Int) (0 : Nat), Value.int (0 : Int) (0 : Nat), Value.int (3 : Int) (0 : Nat), Value.ref (355 : Nat), Value.bool true, Value.int (181 : Int) (0 : Nat), Value.ref (356 : Nat), Value.none, Value.ref (357 : Nat), Value.ref (358 : Nat), Value.ref (359 : Nat), Value.int (727 : Int) (0 : Nat), Value.int (282 : Int) (0 : Nat), Value.str z_9 (728 : Nat)] }
noncomputable def k_367 : Obj := { cls := Value.type "code", data := Data.fields #[Value.str z_79 (730 : Nat), Value.str z_79 (731 : Nat), Value.str z_9 (732 : Nat), Value.int (286 : Int) (0 : Nat), Value.int (1 : Int) (0 : Nat), Value.int (0 : Int) (0 : Nat), Value.int (0 : Int) (0 : Nat), Value.int (3 : Int) (0 : Nat), Value.ref (362 : Nat), Value.bool true, Value.int (181 : Int) (0 : Nat), Value.ref (363 : Nat), Value.none, Value.ref (364 : Nat), Value.ref (365 : Nat), Value.ref (366 : Nat), Value.int (740 : Int) (0 : Nat), Value.int (286 : Int) (0 : Nat), Value.str z_9 (741 : Nat)] }
noncomputable def myK : Params → PySem.W.Frag := fun P => (nat_lit 21, k_21) :: (nat_lit 28, k_28) :: (nat_lit 35, k_35) :: (nat_lit 42, k_42) :: (nat_lit 47, k_47) :: (nat_lit 54, k_54) :: (nat_lit 61, k_61) :: (nat_lit 68, k_68) :: (nat_lit 73, k_73) :: (nat_lit 80, k_80) :: (nat_lit 85, k_85) :: (nat_lit 90, k_90) :: (nat_lit 97, k_97) :: (nat_lit 104, k_104) :: (nat_lit 111, k_111) :: (nat_lit 116, k_116) :: (nat_lit 123, k_123) :: (nat_lit 130, k_130) :: (nat_lit 137, k_137) :: (nat_lit 144, k_144) :: (nat_lit 159, k_159) :: (nat_lit 173, k_173) :: (nat_lit 178, k_178) :: (nat_lit 185, k_185) :: (nat_lit 192, k_192) :: (nat_lit 199, k_199) :: (nat_lit 206, k_206) :: (nat_lit 213, k_213) :: (nat_lit 220, k_220) :: (nat_lit 227, k_227) :: (nat_lit 234, k_234) :: (nat_lit 241, k_241) :: (nat_lit 248, k_248) :: (nat_lit 255, k_255) :: (nat_lit 262, k_262) :: (nat_lit 269, k_269) :: (nat_lit 276, k_276) :: (nat_lit 283, k_283) :: (nat_lit 290, k_290) :: (nat_lit 297, k_297) :: (nat_lit 304, k_304) :: (nat_lit 311, k_311) :: (nat_lit 318, k_318) :: (nat_lit 325, k_325) :: (nat_lit 332, k_332) :: (nat_lit 339, k_339) :: (nat_lit 347, k_347) :: (nat_lit 354, k_354) :: (nat_lit 361, k_361) :: (nat_lit 368, k_368) :: (nat_lit 2, k_2) :: (nat_lit 3, k_3 P) :: (nat_lit 20, k_20) :: (nat_lit 27, k_27) :: (nat_lit 34, k_34) :: (nat_lit 41, k_41) :: (nat_lit 46, k_46) :: (nat_lit 53, k_53) :: (nat_lit 60, k_60) :: (nat_lit 67, k_67) :: (nat_lit 72, k_72) :: (nat_lit 79, k_79) :: (nat_lit 84, k_84) :: (nat_lit 89, k_89) :: (nat_lit 96, k_96) :: (nat_lit 103, k_103) :: (nat_lit 110, k_110) :: (nat_lit 115, k_115) :: (nat_lit 122, k_122) :: (nat_lit 129, k_129) :: (nat_lit 136, k_136) :: (nat_lit 143, k_143) :: (nat_lit 145, k_145) :: (nat_lit 158, k_158) :: (nat_lit 161, k_161 P) :: (nat_lit 162, k_162) :: (nat_lit 163, k_163) :: (nat_lit 164, k_164) :: (nat_lit 172, k_172) :: (nat_lit 177, k_177) :: (nat_lit 184, k_184) :: (nat_lit 191, k_191) :: (nat_lit 198, k_198) :: (nat_lit 205, k_205) :: (nat_lit 212, k_212) :: (nat_lit 219, k_219) :: (nat_lit 226, k_226) :: (nat_lit 233, k_233) :: (nat_lit 240, k_240) :: (nat_lit 247, k_247) :: (nat_lit 254, k_254) :: (nat_lit 261, k_261) :: (nat_lit 268, k_268) :: (nat_lit 275, k_275) :: (nat_lit 282, k_282) :: (nat_lit 289, k_289) :: (nat_lit 296, k_296) :: (nat_lit 303, k_303) :: (nat_lit 310, k_310) :: (nat_lit 317, k_317) :: (nat_lit 324, k_324) :: (nat_lit 331, k_331) :: (nat_lit 338, k_338) :: (nat_lit 340, k_340) :: (nat_lit 346, k_346) :: (nat_lit 353, k_353) :: (nat_lit 360, k_360) :: (nat_lit 367, k_367) :: []
noncomputable def myAs : List Addr := nat_lit 21 :: nat_lit 28 :: nat_lit 35 :: nat_lit 42 :: nat_lit 47 :: nat_lit 54 :: nat_lit 61 :: nat_lit 68 :: nat_lit 73 :: nat_lit 80 :: nat_lit 85 :: nat_lit 90 :: nat_lit 97 :: nat_lit 104 :: nat_lit 111 :: nat_lit 116 :: nat_lit 123 :: nat_lit 130 :: nat_lit 137 :: nat_lit 144 :: nat_lit 159 :: nat_lit 173 :: nat_lit 178 :: nat_lit 185 :: nat_lit 192 :: nat_lit 199 :: nat_lit 206 :: nat_lit 213 :: nat_lit 220 :: nat_lit 227 :: nat_lit 234 :: nat_lit 241 :: nat_lit 248 :: nat_lit 255 :: nat_lit 262 :: nat_lit 269 :: nat_lit 276 :: nat_lit 283 :: nat_lit 290 :: nat_lit 297 :: nat_lit 304 :: nat_lit 311 :: nat_lit 318 :: nat_lit 325 :: nat_lit 332 :: nat_lit 339 :: nat_lit 347 :: nat_lit 354 :: nat_lit 361 :: nat_lit 368 :: nat_lit 2 :: nat_lit 3 :: nat_lit 20 :: nat_lit 27 :: nat_lit 34 :: nat_lit 41 :: nat_lit 46 :: nat_lit 53 :: nat_lit 60 :: nat_lit 67 :: nat_lit 72 :: nat_lit 79 :: nat_lit 84 :: nat_lit 89 :: nat_lit 96 :: nat_lit 103 :: nat_lit 110 :: nat_lit 115 :: nat_lit 122 :: nat_lit 129 :: nat_lit 136 :: nat_lit 143 :: nat_lit 145 :: nat_lit 158 :: nat_lit 161 :: nat_lit 162 :: nat_lit 163 :: nat_lit 164 :: nat_lit 172 :: nat_lit 177 :: nat_lit 184 :: nat_lit 191 :: nat_lit 198 :: nat_lit 205 :: nat_lit 212 :: nat_lit 219 :: nat_lit 226 :: nat_lit 233 :: nat_lit 240 :: nat_lit 247 :: nat_lit 254 :: nat_lit 261 :: nat_lit 268 :: nat_lit 275 :: nat_lit 282 :: nat_lit 289 :: nat_lit 296 :: nat_lit 303 :: nat_lit 310 :: nat_lit 317 :: nat_lit 324 :: nat_lit 331 :: nat_lit 338 :: nat_lit 340 :: nat_lit 346 :: nat_lit 353 :: nat_lit 360 :: nat_lit 367 :: []
end Pf

end
section
set_option Elab.async false
set_option linter.all false
set_option maxRecDepth 100000
set_option maxHeartbeats 4000000
namespace Pf
open PySem PySem.Spec PyProof.Rows L2
open My (wt kw anyW selfW nextW laterW NN)
open Kqp1 (order place frac)
/-- weights of k kinds lie at a -/
structure Wts (K : PySem.W.Frag) (H : Hp) (k : Nat) (c : Addr) (W : List Int) : Prop where
  two : 2 ≤ k
  four : k ≤ 4
  sq : SqL K H c (W.map V.int)
  len : W.length = (order k).length
theorem Wts.same {K : PySem.W.Frag} {H H' : Hp} {k : Nat} {c : Addr} {W : List Int} (h : Wts K H k c W) (s : Same H H') : Wts K H' k c W := ⟨h.two, h.four, s.seq h.sq, h.len⟩
theorem Wts.of {K : PySem.W.Frag} {H H' : Hp} {k : Nat} {p : Addr} {W : List Int} (m : Made H H' p W) (h2 : 2 ≤ k) (h4 : k ≤ 4) (hl : W.length = (order k).length) : Wts K H' k p W := ⟨h2, h4, m.sq, hl⟩
noncomputable def spKw (K : PySem.W.Frag) : Sp := fun vs H Q _ => ∃ (k : Nat) (c : Addr) (W : List Int), vs = [.int k, .ref c] ∧ Wts K H k c W ∧ ∀ H' p, Made H H' p ((List.range k).map (kw k W)) → Q (.ref p) H'
noncomputable def spAny (K : PySem.W.Frag) : Sp := fun vs H Q _ => ∃ (k : Nat) (c : Addr) (W : List Int), vs = [.int k, .ref c] ∧ Wts K H k c W ∧ NN W ∧ W.sum < 2 ^ 200 ∧ ∀ H' p, Made H H' p (anyW k W) → Q (.ref p) H'
noncomputable def spSelf (K : PySem.W.Frag) : Sp := fun vs H Q _ => ∃ (k : Nat) (c : Addr) (W : List Int), vs = [.int k, .ref c] ∧ Wts K H k c W ∧ NN W ∧ W.sum < 2 ^ 200 ∧ ∀ H' p, Made H H' p (selfW k W) → Q (.ref p) H'
theorem snoc_range {α : Type} (f : Nat → α) (i : Nat) : (List.range i).map f ++ [f i] = (List.range (i + 1)).map f := by
  rw [List.range_succ, List.map_append]
  rfl
theorem small_len {α : Type} {xs : List α} {n : Nat} (h : xs.length = n) (hn : n ≤ 1000) : xs.length < sizeLine := small1000 (by omega)
section
variable {P : Program} {w : World} {K : PySem.W.Frag} {mg : Str → Option Value} {base : Heap} {a : Ad}
theorem sc_kind_weights : FnScope ["kinds", "weights", "found", "i", "once_or_twice", "j"] ["kinds", "weights"] (defScope s_kind_weights) := ⟨rfl, rfl, rfl, by decide +kernel, rfl, by decide +kernel, by decide +kernel⟩
theorem ok_kind_weights (T : Txt K mg a) : FnOk P w K mg base CX0 2 a.f_kind_weights a.d_kind_weights ["kinds", "weights"] (spKw K) := by
  refine T.F_kind_weights.ok sc_kind_weights (fun vs H Q E h => ?_) (fun cdv A outer s H vs Q E hr h => ?_)
  · obtain ⟨k, c, W, rfl, _⟩ := h
    rfl
  · obtain ⟨k, c, W, rfl, hW, q⟩ := h
    refine ⟨_, (pss_cons (ps_set (i := 2) sc_kind_weights.nd rfl (by first | exact Or.inl rfl | exact Or.inr rfl) (pe_lst pa_nil)) (pss_cons (ps_for PassesOwn.never rfl (pi_range1 rfl T.n_range (pa_cons (pv 0) pa_nil)) (pg_name (i := 3) sc_kind_weights.nd rfl (by first | exact Or.inl rfl | exact Or.inr rfl)) (pss_cons (ps_set (i := 4) sc_kind_weights.nd rfl (by first | exact Or.inl rfl | exact Or.inr rfl) (pe_callB (cr_sum rfl) (by rfl) T.n_sum PyProof.Rows.boot_sum (pa_cons (pe_lc (own := [("j", 5)]) rfl sc_kind_weights.nd (pi_range1 rfl T.n_range (pa_cons (pv 0) pa_nil)) (blkOk_by (N := ["kinds", "weights", "found", "i", "once_or_twice", "j"]) (sc := defScope s_kind_weights) (by decide +kernel)) (fun _ _ _ _ _ => (pg_name (i := 5) sc_kind_weights.nd rfl (by first | exact Or.inl rfl | exact Or.inr rfl))) (fun _ _ _ _ _ => pts_nil) (fun _ _ _ _ _ => (pe_ix (ix_listK (K := K) rfl) (pv 1) (pe_call (ok_pair_place T) (hr.mono (by decide)) rfl T.m_pair_place T.F_pair_place.kp T.b_pair_place .nil pass0 (pa_cons (pv 0) (pa_cons (pv 3) (pa_cons (pv 5) pa_nil)))) (fun _ _ => rfl)))) pa_nil))) (pss_one (ps_expr (pe_bm PySem.F.plainAttrs_list PySem.F.slot_list_append PySem.F.type_list_append mt_append (pv 2) (pa_cons (pe_op op_add (pv 4) (pe_ix ix_list (pv 1) (pe_call (ok_pair_place T) (hr.mono (by decide)) rfl T.m_pair_place T.F_pair_place.kp T.b_pair_place .nil pass0 (pa_cons (pv 0) (pa_cons (pv 3) (pa_cons (pv 3) pa_nil)))) (fun _ _ => rfl))) pa_nil)))))) (pss_one (ps_ret (pv 2))))), ?_⟩
    try dsimp only [cxOf]
    have h2 := hW.two
    have h4 := hW.four
    -- found = []
    refine ⟨Nat.zero_le _, fun d hd => ?_⟩
    -- for i in range(kinds)
    refine ⟨_, rfl, (k : Int), rfl, by omega, by omega, for_range (lo := 0) (n := k) (fun i σ H' => ∃ v3 v4 v5 : Option V, σ = [some (.int k), some (.ref c), some (.ref d), v3, v4, v5] ∧ Same H H' ∧ H' d = some (.lst (((List.range i).map (kw k W)).map V.int)))
      ⟨_, _, _, rfl, Same.upd hd, upd_same⟩ ?_ ?_⟩
    · rintro i σ H' hi ⟨v3, v4, v5, rfl, s1, hd1⟩
      rw [Int.zero_add]
      -- once_or_twice = sum([..])
      refine ⟨_, rfl, (k : Int), rfl, by omega, by omega, fun D hD => lc_range (lo := 0) (n := k) (fun j H2 => Same H' H2 ∧ H2 D = some (.lst (((List.range j).map (wt k W i)).map V.int)))
        ⟨Same.upd hD, upd_same⟩ ?_ ?_⟩
      · rintro j H2 hj ⟨s2, hD2⟩
        rw [Int.zero_add]
        refine ⟨rfl, _, rfl, _, rfl, _, rfl, _, rfl, k, i, j, rfl, h2, h4, hi, hj, c, _, _, _, rfl, rfl, (s1.trans s2).seq hW.sq, at_int (by rw [hW.len]; exact My.place_lt h2 h4 hi hj), _, hD2, ?_, ?_, ?_⟩
        · exact small1000 (by rw [List.length_map, List.length_map, List.length_range]; omega)
        · intro b o e
          rw [upd_ne (ne_of_none e hD)]
          exact s2 b o e
        · rw [upd_same, ← snoc_range, List.map_append]
          rfl
      · rintro H2 ⟨s2, hD2⟩
        refine ⟨D, _, rfl, SqL.of hD2, ?_⟩
        have hd2 := s2 _ _ hd1
        -- found.append(..)
        refine ⟨_, rfl, .inl ⟨rfl, _, SqL.of hd2⟩, _, rfl, _, rfl, _, rfl, _, rfl, _, rfl, k, i, i, rfl, h2, h4, hi, hi, c, _, _, _, rfl, rfl, (s1.trans s2).seq hW.sq, at_int (by rw [hW.len]; exact My.place_lt h2 h4 hi hi), _, _, rfl, rfl, d, _, _, rfl, rfl, hd2, ?_, ?_⟩
        · exact small1000 (by rw [List.length_map, List.length_map, List.length_range]; omega)
        · refine ⟨_, _, _, rfl, fun b o e => ?_, ?_⟩
          · rw [upd_ne (ne_of_none e hd)]
            exact s2 _ _ (s1 b o e)
          · rw [upd_same, ← snoc_range, List.map_append]
            rfl
    · rintro σ H' ⟨v3, v4, v5, rfl, s1, hd1⟩
      exact ⟨_, rfl, q H' d ⟨hd, s1, hd1⟩⟩
end
end Pf

end
section
set_option Elab.async false
set_option linter.all false
set_option maxRecDepth 100000
set_option maxHeartbeats 4000000
namespace Pf
open PySem PySem.Spec PyProof.Rows L2
open My (wt kw anyW selfW nextW laterW NN row crossW)
open Kqp1 (order place frac)
theorem kws_at (k : Nat) (W : List Int) {i : Nat} (h : i < k) : atI (((List.range k).map (kw k W)).map V.int) (i : Int) = some (V.int (kw k W i)) := by
  have := at_int (W := (List.range k).map (kw k W)) (j := i) (by rw [List.length_map, List.length_range]; exact h)
  rw [My.range_getD _ h] at this
  exact this
noncomputable def spCross (K : PySem.W.Frag) : Sp := fun vs H Q _ => ∃ (k : Nat) (c c' : Addr) (W W' : List Int), vs = [.int k, .ref c, .ref c'] ∧ Wts K H k c W ∧ Wts K H k c' W' ∧ NN W ∧ NN W' ∧ W.sum < 2 ^ 200 ∧ W'.sum < 2 ^ 200 ∧ ∀ H' p, Made H H' p (crossW k W W') → Q (.ref p) H'
section
variable {P : Program} {w : World} {K : PySem.W.Frag} {mg : Str → Option Value} {base : Heap} {a : Ad}
theorem sc_weights_crossed : FnScope ["kinds", "hers", "his", "of_hers", "of_his", "children", "i", "j"] ["kinds", "hers", "his"] (defScope s_weights_crossed) := ⟨rfl, rfl, rfl, by decide +kernel, rfl, by decide +kernel, by decide +kernel⟩
theorem ok_weights_crossed (T : Txt K mg a) : FnOk P w K mg base CX0 3 a.f_weights_crossed a.d_weights_crossed ["kinds", "hers", "his"] (spCross K) := by
  refine T.F_weights_crossed.ok sc_weights_crossed (fun vs H Q E h => ?_) (fun cdv A outer s H vs Q E hr h => ?_)
  · obtain ⟨k, c, c', W, W', rfl, _⟩ := h
    rfl
  · obtain ⟨k, c, c', W, W', rfl, hW, hW', hn, hn', hs, hs', q⟩ := h
    refine ⟨_, (pss_cons (ps_set (i := 3) sc_weights_crossed.nd rfl (by first | exact Or.inl rfl | exact Or.inr rfl) (pe_call (ok_kind_weights T) (hr.mono (by decide)) rfl T.m_kind_weights T.F_kind_weights.kp T.b_kind_weights .nil pass0 (pa_cons (pv 0) (pa_cons (pv 1) pa_nil)))) (pss_cons (ps_set (i := 4) sc_weights_crossed.nd rfl (by first | exact Or.inl rfl | exact Or.inr rfl) (pe_call (ok_kind_weights T) (hr.mono (by decide)) rfl T.m_kind_weights T.F_kind_weights.kp T.b_kind_weights .nil pass0 (pa_cons (pv 0) (pa_cons (pv 2) pa_nil)))) (pss_cons (ps_set (i := 5) sc_weights_crossed.nd rfl (by first | exact Or.inl rfl | exact Or.inr rfl) (pe_lst pa_nil)) (pss_cons (ps_for PassesOwn.never rfl (pi_range1 rfl T.n_range (pa_cons (pv 0) pa_nil)) (pg_name (i := 6) sc_weights_crossed.nd rfl (by first | exact Or.inl rfl | exact Or.inr rfl)) (pss_cons (ps_expr (pe_bm PySem.F.plainAttrs_list PySem.F.slot_list_append PySem.F.type_list_append mt_append (pv 5) (pa_cons (pe_op op_mulB (pe_ix ix_list (pv 3) (pv 6) (fun _ _ => rfl)) (pe_ix ix_list (pv 4) (pv 6) (fun _ _ => rfl))) pa_nil))) (pss_one (ps_for PassesOwn.never rfl (pi_range2 rfl T.n_range (pa_cons (pe_op op_add (pv 6) pe_int) (pa_cons (pv 0) pa_nil))) (pg_name (i := 7) sc_weights_crossed.nd rfl (by first | exact Or.inl rfl | exact Or.inr rfl)) (pss_one (ps_expr (pe_bm PySem.F.plainAttrs_list PySem.F.slot_list_append PySem.F.type_list_append mt_append (pv 5) (pa_cons (pe_op op_add (pe_op op_mulB (pe_ix ix_list (pv 3) (pv 6) (fun _ _ => rfl)) (pe_ix ix_list (pv 4) (pv 7) (fun _ _ => rfl))) (pe_op op_mulB (pe_ix ix_list (pv 3) (pv 7) (fun _ _ => rfl)) (pe_ix ix_list (pv 4) (pv 6) (fun _ _ => rfl)))) pa_nil)))))))) (pss_one (ps_ret (pv 5))))))), ?_⟩
    try dsimp only [cxOf]
    have h2 := hW.two
    have h4 := hW.four
    have kb : ∀ i, i < k → (kw k W i).natAbs < 2 ^ 250 := fun i hi => by
      have := My.kw_le h2 h4 hW.len hn hi
      have := hn.kw (k := k) i
      omega
    have kb' : ∀ i, i < k → (kw k W' i).natAbs < 2 ^ 250 := fun i hi => by
      have := My.kw_le h2 h4 hW'.len hn' hi
      have := hn'.kw (k := k) i
      omega
    -- of_hers, of_his
    refine ⟨_, rfl, _, rfl, k, c, W, rfl, hW, fun H0 o m0 => ?_⟩
    refine ⟨_, rfl, _, rfl, k, c', W', rfl, hW'.same m0.same, fun H1 o' m1 => ?_⟩
    -- children = []
    refine ⟨Nat.zero_le _, fun d hd => ?_⟩
    have m01 := m0.same.trans m1.same
    have hd0 : H d = none := m01.free hd
    have ho : H1 o = some (.lst (((List.range k).map (kw k W)).map V.int)) := m1.same _ _ m0.is
    have ho' := m1.is
    refine ⟨_, rfl, (k : Int), rfl, by omega, by omega, for_range (lo := 0) (n := k) (fun i σ H' => ∃ v4 v5 : Option V, σ = [some (.int k), some (.ref c), some (.ref c'), some (.ref o), some (.ref o'), some (.ref d), v4, v5] ∧ Same H1 H' ∧
        H' d = some (.lst (((List.range i).flatMap (row k (fun i => kw k W i * kw k W' i) fun i j => kw k W i * kw k W' j + kw k W j * kw k W' i)).map V.int)))
      ⟨_, _, rfl, Same.upd hd, upd_same⟩ ?_ ?_⟩
    · rintro i σ H' hi ⟨v4, v5, rfl, s1, hd1⟩
      rw [Int.zero_add]
      have hl : ((List.range i).flatMap (row k (fun i => kw k W i * kw k W' i) fun i j => kw k W i * kw k W' j + kw k W j * kw k W' i)).length ≤ 20 := by
        have := My.flat_len (k := k) (fun i => kw k W i * kw k W' i) (fun i j => kw k W i * kw k W' j + kw k W j * kw k W' i) i
        have : i * (k + 1) ≤ 3 * 5 := Nat.mul_le_mul (by omega) (by omega)
        omega
      generalize hpre : (List.range i).flatMap (row k (fun i => kw k W i * kw k W' i) fun i j => kw k W i * kw k W' j + kw k W j * kw k W' i) = pre at hd1 hl
      refine ⟨_, rfl, .inl ⟨rfl, _, SqL.of hd1⟩, _, rfl, _, rfl, o, _, _, _, rfl, rfl, SqL.of (s1 _ _ ho), kws_at k W hi, _, rfl, _, rfl, o', _, _, _, rfl, rfl, SqL.of (s1 _ _ ho'), kws_at k W' hi, _, _, rfl, rfl, ⟨kb i hi, kb' i hi⟩, d, _, _, rfl, rfl, hd1, ?_, ?_⟩
      · exact small1000 (by rw [List.length_map]; omega)
      have s2 : Same H1 (upd H' d (.lst (pre.map V.int ++ [V.int (kw k W i * kw k W' i)]))) := fun b o' e => by
        rw [upd_ne (ne_of_none e hd)]
        exact s1 b o' e
      refine ⟨_, rfl, _, _, rfl, rfl, _, rfl, (i : Int) + 1, (k : Int), rfl, ⟨by omega, by omega, by omega, by omega⟩, for_range (lo := (i : Int) + 1) (n := ((k : Int) - ((i : Int) + 1)).toNat)
        (fun j σ H2 => ∃ v5 : Option V, σ = [some (.int k), some (.ref c), some (.ref c'), some (.ref o), some (.ref o'), some (.ref d), some (.int i), v5] ∧ Same H1 H2 ∧
          H2 d = some (.lst ((pre ++ (kw k W i * kw k W' i :: (List.range j).map fun j => kw k W i * kw k W' (i + 1 + j) + kw k W (i + 1 + j) * kw k W' i)).map V.int)))
        ⟨_, rfl, s2, by rw [upd_same, List.map_append]; rfl⟩ ?_ ?_⟩
      · rintro j σ H2 hj ⟨v5, rfl, s3, hd3⟩
        have hj' : i + 1 + j < k := by omega
        have ej : (i : Int) + 1 + (j : Int) = ((i + 1 + j : Nat) : Int) := by omega
        rw [ej]
        refine ⟨_, rfl, .inl ⟨rfl, _, SqL.of hd3⟩, _, rfl, _, rfl, o, _, _, _, rfl, rfl, SqL.of (s3 _ _ ho), kws_at k W hi, _, rfl, _, rfl, o', _, _, _, rfl, rfl, SqL.of (s3 _ _ ho'), kws_at k W' hj', _, _, rfl, rfl, ⟨kb i hi, kb' _ hj'⟩,
          _, rfl, _, rfl, o, _, _, _, rfl, rfl, SqL.of (s3 _ _ ho), kws_at k W hj', _, rfl, _, rfl, o', _, _, _, rfl, rfl, SqL.of (s3 _ _ ho'), kws_at k W' hi, _, _, rfl, rfl, ⟨kb _ hj', kb' i hi⟩, _, _, rfl, rfl, d, _, _, rfl, rfl, hd3, ?_, ?_⟩
        · exact small1000 (by rw [List.length_map, List.length_append, List.length_cons, List.length_map, List.length_range]; omega)
        · refine ⟨_, rfl, fun b o' e => ?_, ?_⟩
          · rw [upd_ne (ne_of_none e hd)]
            exact s3 b o' e
          · rw [upd_same, ← snoc_range (fun j => kw k W i * kw k W' (i + 1 + j) + kw k W (i + 1 + j) * kw k W' i)]
            simp only [List.map_append, List.map_cons, List.map_nil, List.append_assoc, List.cons_append]
      · rintro σ H2 ⟨v5, rfl, s3, hd3⟩
        refine ⟨_, _, rfl, s3, ?_⟩
        rw [hd3, ← My.flat_snoc, hpre]
        unfold row
        rw [show ((k : Int) - ((i : Int) + 1)).toNat = k - (i + 1) by omega]
    · rintro σ H' ⟨v4, v5, rfl, s1, hd1⟩
      rw [My.cross_rows] at hd1
      exact ⟨_, rfl, q H' d ⟨hd0, m01.trans s1, hd1⟩⟩
theorem sc_weights_by_any : FnScope ["kinds", "weights"] ["kinds", "weights"] (defScope s_weights_by_any) := ⟨rfl, rfl, rfl, by decide +kernel, rfl, by decide +kernel, by decide +kernel⟩
theorem ok_weights_by_any (T : Txt K mg a) : FnOk P w K mg base CX0 4 a.f_weights_by_any a.d_weights_by_any ["kinds", "weights"] (spAny K) := by
  refine T.F_weights_by_any.ok sc_weights_by_any (fun vs H Q E h => ?_) (fun cdv A outer s H vs Q E hr h => ?_)
  · obtain ⟨k, c, W, rfl, _⟩ := h
    rfl
  · obtain ⟨k, c, W, rfl, hW, hn, hs, q⟩ := h
    refine ⟨_, (pss_one (ps_ret (pe_call (ok_weights_crossed T) (hr.mono (by decide)) rfl T.m_weights_crossed T.F_weights_crossed.kp T.b_weights_crossed .nil pass0 (pa_cons (pv 0) (pa_cons (pv 1) (pa_cons (pv 1) pa_nil)))))), ?_⟩
    try dsimp only [cxOf]
    refine ⟨_, rfl, _, rfl, _, rfl, k, c, c, W, W, rfl, hW, hW, hn, hn, hs, hs, fun H1 p m1 => ?_⟩
    rw [My.cross_self] at m1
    exact q H1 p m1
theorem sc_weights_by_themselves : FnScope ["kinds", "weights", "of_kinds", "children", "i", "j"] ["kinds", "weights"] (defScope s_weights_by_themselves) := ⟨rfl, rfl, rfl, by decide +kernel, rfl, by decide +kernel, by decide +kernel⟩
theorem ok_weights_by_themselves (T : Txt K mg a) : FnOk P w K mg base CX0 3 a.f_weights_by_themselves a.d_weights_by_themselves ["kinds", "weights"] (spSelf K) := by
  refine T.F_weights_by_themselves.ok sc_weights_by_themselves (fun vs H Q E h => ?_) (fun cdv A outer s H vs Q E hr h => ?_)
  · obtain ⟨k, c, W, rfl, _⟩ := h
    rfl
  · obtain ⟨k, c, W, rfl, hW, hn, hs, q⟩ := h
    refine ⟨_, (pss_cons (ps_set (i := 2) sc_weights_by_themselves.nd rfl (by first | exact Or.inl rfl | exact Or.inr rfl) (pe_call (ok_kind_weights T) (hr.mono (by decide)) rfl T.m_kind_weights T.F_kind_weights.kp T.b_kind_weights .nil pass0 (pa_cons (pv 0) (pa_cons (pv 1) pa_nil)))) (pss_cons (ps_set (i := 3) sc_weights_by_themselves.nd rfl (by first | exact Or.inl rfl | exact Or.inr rfl) (pe_lst pa_nil)) (pss_cons (ps_for PassesOwn.never rfl (pi_range1 rfl T.n_range (pa_cons (pv 0) pa_nil)) (pg_name (i := 4) sc_weights_by_themselves.nd rfl (by first | exact Or.inl rfl | exact Or.inr rfl)) (pss_cons (ps_expr (pe_bm PySem.F.plainAttrs_list PySem.F.slot_list_append PySem.F.type_list_append mt_append (pv 3) (pa_cons (pe_op op_add (pe_ix ix_list (pv 2) (pv 4) (fun _ _ => rfl)) (pe_op op_mulB pe_int (pe_ix ix_list (pv 1) (pe_call (ok_pair_place T) (hr.mono (by decide)) rfl T.m_pair_place T.F_pair_place.kp T.b_pair_place .nil pass0 (pa_cons (pv 0) (pa_cons (pv 4) (pa_cons (pv 4) pa_nil)))) (fun _ _ => rfl)))) pa_nil))) (pss_one (ps_for PassesOwn.never rfl (pi_range2 rfl T.n_range (pa_cons (pe_op op_add (pv 4) pe_int) (pa_cons (pv 0) pa_nil))) (pg_name (i := 5) sc_weights_by_themselves.nd rfl (by first | exact Or.inl rfl | exact Or.inr rfl)) (pss_one (ps_expr (pe_bm PySem.F.plainAttrs_list PySem.F.slot_list_append PySem.F.type_list_append mt_append (pv 3) (pa_cons (pe_op op_mulB pe_int (pe_ix ix_list (pv 1) (pe_call (ok_pair_place T) (hr.mono (by decide)) rfl T.m_pair_place T.F_pair_place.kp T.b_pair_place .nil pass0 (pa_cons (pv 0) (pa_cons (pv 4) (pa_cons (pv 5) pa_nil)))) (fun _ _ => rfl))) pa_nil)))))))) (pss_one (ps_ret (pv 3)))))), ?_⟩
    try dsimp only [cxOf]
    have h2 := hW.two
    have h4 := hW.four
    have wb : ∀ i j, (wt k W i j).natAbs < 2 ^ 250 := fun i j => by
      have := My.wt_le (k := k) hn i j
      have := hn.wt (k := k) i j
      omega
    refine ⟨_, rfl, _, rfl, k, c, W, rfl, hW, fun H1 o m1 => ?_⟩
    refine ⟨Nat.zero_le _, fun d hd => ?_⟩
    have hd0 : H d = none := m1.same.free hd
    refine ⟨_, rfl, (k : Int), rfl, by omega, by omega, for_range (lo := 0) (n := k) (fun i σ H' => ∃ v4 v5 : Option V, σ = [some (.int k), some (.ref c), some (.ref o), some (.ref d), v4, v5] ∧ Same H1 H' ∧
        H' d = some (.lst (((List.range i).flatMap (row k (fun i => kw k W i + 2 * wt k W i i) fun i j => 2 * wt k W i j)).map V.int)))
      ⟨_, _, rfl, Same.upd hd, upd_same⟩ ?_ ?_⟩
    · rintro i σ H' hi ⟨v4, v5, rfl, s1, hd1⟩
      rw [Int.zero_add]
      have hl : ((List.range i).flatMap (row k (fun i => kw k W i + 2 * wt k W i i) fun i j => 2 * wt k W i j)).length ≤ 20 := by
        have := My.flat_len (k := k) (fun i => kw k W i + 2 * wt k W i i) (fun i j => 2 * wt k W i j) i
        have : i * (k + 1) ≤ 3 * 5 := Nat.mul_le_mul (by omega) (by omega)
        omega
      generalize hpre : (List.range i).flatMap (row k (fun i => kw k W i + 2 * wt k W i i) fun i j => 2 * wt k W i j) = pre at hd1 hl
      refine ⟨_, rfl, .inl ⟨rfl, _, SqL.of hd1⟩, _, rfl, _, rfl, o, _, _, _, rfl, rfl, SqL.of (s1 _ _ m1.is), kws_at k W hi, _, rfl, _, rfl, _, rfl, _, rfl, k, i, i, rfl, h2, h4, hi, hi, c, _, _, _, rfl, rfl, (m1.same.trans s1).seq hW.sq, at_int (by rw [hW.len]; exact My.place_lt h2 h4 hi hi),
        _, _, rfl, rfl, ⟨(by decide), wb i i⟩, _, _, rfl, rfl, d, _, _, rfl, rfl, hd1, ?_, ?_⟩
      · exact small1000 (by rw [List.length_map]; omega)
      have s2 : Same H1 (upd H' d (.lst (pre.map V.int ++ [V.int (kw k W i + 2 * wt k W i i)]))) := fun b o' e => by
        rw [upd_ne (ne_of_none e hd)]
        exact s1 b o' e
      refine ⟨_, rfl, _, _, rfl, rfl, _, rfl, (i : Int) + 1, (k : Int), rfl, ⟨by omega, by omega, by omega, by omega⟩, for_range (lo := (i : Int) + 1) (n := ((k : Int) - ((i : Int) + 1)).toNat)
        (fun j σ H2 => ∃ v5 : Option V, σ = [some (.int k), some (.ref c), some (.ref o), some (.ref d), some (.int i), v5] ∧ Same H1 H2 ∧
          H2 d = some (.lst ((pre ++ ((kw k W i + 2 * wt k W i i) :: (List.range j).map fun j => 2 * wt k W i (i + 1 + j))).map V.int)))
        ⟨_, rfl, s2, by rw [upd_same, List.map_append]; rfl⟩ ?_ ?_⟩
      · rintro j σ H2 hj ⟨v5, rfl, s3, hd3⟩
        have hj' : i + 1 + j < k := by omega
        have ej : (i : Int) + 1 + (j : Int) = ((i + 1 + j : Nat) : Int) := by omega
        rw [ej]
        refine ⟨_, rfl, .inl ⟨rfl, _, SqL.of hd3⟩, _, rfl, _, rfl, _, rfl, _, rfl, k, i, i + 1 + j, rfl, h2, h4, hi, hj', c, _, _, _, rfl, rfl, (m1.same.trans s3).seq hW.sq, at_int (by rw [hW.len]; exact My.place_lt h2 h4 hi hj'), _, _, rfl, rfl, ⟨(by decide), wb i _⟩, d, _, _, rfl, rfl, hd3, ?_, ?_⟩
        · exact small1000 (by rw [List.length_map, List.length_append, List.length_cons, List.length_map, List.length_range]; omega)
        · refine ⟨_, rfl, fun b o' e => ?_, ?_⟩
          · rw [upd_ne (ne_of_none e hd)]
            exact s3 b o' e
          · rw [upd_same, ← snoc_range (fun j => 2 * wt k W i (i + 1 + j))]
            simp only [List.map_append, List.map_cons, List.map_nil, List.append_assoc, List.cons_append]
            rfl
      · rintro σ H2 ⟨v5, rfl, s3, hd3⟩
        refine ⟨_, _, rfl, s3, ?_⟩
        rw [hd3, ← My.flat_snoc, hpre]
        unfold row
        rw [show ((k : Int) - ((i : Int) + 1)).toNat = k - (i + 1) by omega]
    · rintro σ H' ⟨v4, v5, rfl, s1, hd1⟩
      rw [My.self_rows] at hd1
      exact ⟨_, rfl, q H' d ⟨hd0, m1.same.trans s1, hd1⟩⟩
end
end Pf

end
section
set_option Elab.async false
set_option linter.all false
set_option maxRecDepth 100000
set_option maxHeartbeats 4000000
namespace Pf
open PySem PySem.Spec PyProof.Rows L2
open My (wt kw anyW selfW nextW laterW NN row alike tf)
open Kqp1 (order place frac)
noncomputable def spNext (K : PySem.W.Frag) : Sp := fun vs H Q _ => ∃ (k : Nat) (c : Addr) (W : List Int) (s : Nat), vs = [.int k, .ref c, .int s] ∧ Wts K H k c W ∧ NN W ∧ W.sum < 2 ^ 100 ∧ s ≤ 100 ∧ ∀ H' p, Made H H' p (nextW k W s) → Q (.ref p) H'
noncomputable def spLater (K : PySem.W.Frag) : Sp := fun vs H Q _ => ∃ (k : Nat) (c : Addr) (W : List Int) (s n : Nat), vs = [.int k, .ref c, .int s, .int n] ∧ Wts K H k c W ∧ NN W ∧ W.sum ≤ 1000 ∧ s ≤ 100 ∧ n ≤ 3 ∧ ∀ H' p, Made H H' p (laterW k s n W) → Q (.ref p) H'
noncomputable def spShareP (K : PySem.W.Frag) : Sp := fun vs H Q _ => ∃ (k : Nat) (c : Addr) (W : List Int) (i j : Nat), vs = [.int k, .ref c, .int i, .int j] ∧ Wts K H k c W ∧ i < k ∧ j < k ∧ 0 < W.sum ∧ W.sum < 2 ^ 249 ∧ ∀ H' p, Made H H' p (tf (frac (wt k W i j) W.sum.toNat)) → Q (.ref p) H'
noncomputable def spShareK (K : PySem.W.Frag) : Sp := fun vs H Q _ => ∃ (k : Nat) (c : Addr) (W : List Int) (i : Nat), vs = [.int k, .ref c, .int i] ∧ Wts K H k c W ∧ i < k ∧ 0 < W.sum ∧ W.sum < 2 ^ 200 ∧ ∀ H' p, Made H H' p (tf (frac (kw k W i) (2 * W.sum).toNat)) → Q (.ref p) H'
noncomputable def spMixed (K : PySem.W.Frag) : Sp := fun vs H Q _ => ∃ (k : Nat) (c : Addr) (W : List Int), vs = [.int k, .ref c] ∧ Wts K H k c W ∧ 0 < W.sum ∧ W.sum < 2 ^ 249 ∧ ∀ H' p, Made H H' p (tf (frac (W.sum - alike k W) W.sum.toNat)) → Q (.ref p) H'
section
variable {P : Program} {w : World} {K : PySem.W.Frag} {mg : Str → Option Value} {base : Heap} {a : Ad}
theorem sc_next_weights : FnScope ["kinds", "weights", "s", "alone", "mingled", "total", "own", "other"] ["kinds", "weights", "s"] (defScope s_next_weights) := ⟨rfl, rfl, rfl, by decide +kernel, rfl, by decide +kernel, by decide +kernel⟩
theorem ok_next_weights (T : Txt K mg a) : FnOk P w K mg base CX0 5 a.f_next_weights a.d_next_weights ["kinds", "weights", "s"] (spNext K) := by
  refine T.F_next_weights.ok sc_next_weights (fun vs H Q E h => ?_) (fun cdv A outer st H vs Q E hr h => ?_)
  · obtain ⟨k, c, W, s, rfl, _⟩ := h
    rfl
  · obtain ⟨k, c, W, s, rfl, hW, hn, hs, h100, q⟩ := h
    refine ⟨_, (pss_cons (ps_set (i := 3) sc_next_weights.nd rfl (by first | exact Or.inl rfl | exact Or.inr rfl) (pe_call (ok_weights_by_themselves T) (hr.mono (by decide)) rfl T.m_weights_by_themselves T.F_weights_by_themselves.kp T.b_weights_by_themselves .nil pass0 (pa_cons (pv 0) (pa_cons (pv 1) pa_nil)))) (pss_cons (ps_set (i := 4) sc_next_weights.nd rfl (by first | exact Or.inl rfl | exact Or.inr rfl) (pe_call (ok_weights_by_any T) (hr.mono (by decide)) rfl T.m_weights_by_any T.F_weights_by_any.kp T.b_weights_by_any .nil pass0 (pa_cons (pv 0) (pa_cons (pv 1) pa_nil)))) (pss_cons (ps_set (i := 5) sc_next_weights.nd rfl (by first | exact Or.inl rfl | exact Or.inr rfl) (pe_callB (cr_sum rfl) (by rfl) T.n_sum PyProof.Rows.boot_sum (pa_cons (pv 1) pa_nil))) (pss_one (ps_ret (pe_lc (own := [("own", 6), ("other", 7)]) rfl sc_next_weights.nd (pi_zip rfl T.n_zip (pa_cons (pv 3) (pa_cons (pv 4) pa_nil))) (blkOk_by (N := ["kinds", "weights", "s", "alone", "mingled", "total", "own", "other"]) (sc := defScope s_next_weights) (by decide +kernel)) (fun _ _ _ _ _ => (pg_tupK (K := K) (n := 2) rfl rfl (pgs_cons (pg_name (i := 6) sc_next_weights.nd rfl (by first | exact Or.inl rfl | exact Or.inr rfl)) (pgs_cons (pg_name (i := 7) sc_next_weights.nd rfl (by first | exact Or.inl rfl | exact Or.inr rfl)) pgs_nil)))) (fun _ _ _ _ _ => pts_nil) (fun _ _ _ _ _ => (pe_op op_add (pe_op op_mulB (pe_op op_mulB (pv 2) (pv 5)) (pv 6)) (pe_op op_mulB (pe_op op_sub (pe_const rfl T.c_HUNDRED) (pv 2)) (pv 7)))))))))), ?_⟩
    try dsimp only [cxOf]
    have h2 := hW.two
    have h4 := hW.four
    have hS := hn.sum
    -- alone, mingled, total
    refine ⟨_, rfl, _, rfl, k, c, W, rfl, hW, hn, by omega, fun H1 o m1 => ?_⟩
    refine ⟨_, rfl, _, rfl, k, c, W, rfl, hW.same m1.same, hn, by omega, fun H2 u m2 => ?_⟩
    refine ⟨_, rfl, c, W, rfl, ((m1.same.trans m2.same).seq hW.sq), ?_⟩
    have sS : (selfW k W).sum = 4 * W.sum := My.self_sum h2 h4 W hW.len
    have sA : (anyW k W).sum = 4 * W.sum * W.sum := My.any_sum h2 h4 W hW.len
    have q1 := My.sq_lt hS hs
    have nS : NN (selfW k W) := hn.self
    have nA : NN (anyW k W) := hn.any
    refine ⟨_, rfl, _, rfl, _, _, _, _, rfl, SqL.of (m2.same _ _ m1.is), SqL.of m2.is, fun D hD => lc_zip (by rw [List.length_map, List.length_map, My.self_len, My.any_len]) (fun i H' => Same H2 H' ∧ H' D = some (.lst (((nextW k W s).take i).map V.int)))
      ⟨Same.upd hD, upd_same⟩ (fun i H' _ z => ⟨SqL.of (z.1 _ _ (m2.same _ _ m1.is)), SqL.of (z.1 _ _ m2.is)⟩) ?_ ?_⟩
    · rintro i x y t H' hx hy ht ⟨s1, hD1⟩
      obtain ⟨xv, ex, rfl⟩ := int_at hx
      obtain ⟨yv, ey, rfl⟩ := int_at hy
      have bx := nS.le_sum xv (List.mem_of_getElem? ex)
      have bx0 := nS xv (List.mem_of_getElem? ex)
      have by' := nA.le_sum yv (List.mem_of_getElem? ey)
      have by0 := nA yv (List.mem_of_getElem? ey)
      have c1 : (s : Int).natAbs < 2 ^ 250 := by omega
      have c2 : (W.sum).natAbs < 2 ^ 250 := by omega
      have c3 : ((s : Int) * W.sum).natAbs < 2 ^ 250 := by
        have h0 : 0 ≤ (s : Int) * W.sum := Int.mul_nonneg (by omega) hS
        have : (s : Int) * W.sum ≤ 100 * W.sum := Int.mul_le_mul_of_nonneg_right (by omega) hS
        omega
      have c4 : xv.natAbs < 2 ^ 250 := by omega
      have c5 : ((100 : Int) - (s : Int)).natAbs < 2 ^ 250 := by omega
      have c6 : yv.natAbs < 2 ^ 250 := by omega
      have nd : t ≠ D := fun e => by rw [e, hD1] at ht; cases ht
      have hD2 : (upd H' t (.tup [.int xv, .int yv])) D = some (.lst (((nextW k W s).take i).map V.int)) := by rw [upd_ne nd.symm]; exact hD1
      refine ⟨t, _, rfl, SqT.of upd_same, rfl, _, _, rfl, _, _, rfl, rfl, rfl, _, rfl, _, rfl, _, _, rfl, rfl, ⟨c1, c2⟩, _, rfl, _, _, rfl, rfl, ⟨c3, c4⟩, _, rfl, _, _, rfl, rfl, _, rfl, _, _, rfl, rfl, ⟨c5, c6⟩, _, _, rfl, rfl, _, hD2, ?_, ?_, ?_⟩
      · exact small1000 (by
          rw [List.length_map, List.length_take, My.next_len]
          have : (order k).length ≤ 10 := by rcases My.kcases h2 h4 with rfl | rfl | rfl <;> decide
          omega)
      · intro b o' e
        rw [upd_ne (ne_of_none e hD), upd_ne (ne_of_none (s1 b o' e) ht)]
        exact s1 b o' e
      · have e : (nextW k W s)[i]? = some ((s : Int) * W.sum * xv + (100 - (s : Int)) * yv) := by
          unfold nextW
          rw [List.getElem?_zipWith, ex, ey]
        rw [upd_same, take_more e, List.map_append]
        rfl
    · rintro H' ⟨s1, hD1⟩
      rw [List.length_map, My.self_len, ← My.next_len k W s, List.take_length] at hD1
      exact q H' D ⟨(m1.same.trans m2.same).free hD, (m1.same.trans m2.same).trans s1, hD1⟩
theorem sc_later_weights : FnScope ["kinds", "weights", "s", "n", "later", "generation"] ["kinds", "weights", "s", "n"] (defScope s_later_weights) := ⟨rfl, rfl, rfl, by decide +kernel, rfl, by decide +kernel, by decide +kernel⟩
theorem ok_later_weights (T : Txt K mg a) : FnOk P w K mg base CX0 6 a.f_later_weights a.d_later_weights ["kinds", "weights", "s", "n"] (spLater K) := by
  refine T.F_later_weights.ok sc_later_weights (fun vs H Q E h => ?_) (fun cdv A outer st H vs Q E hr h => ?_)
  · obtain ⟨k, c, W, s, n, rfl, _⟩ := h
    rfl
  · obtain ⟨k, c, W, s, n, rfl, hW, hn, hs, h100, h3, q⟩ := h
    refine ⟨_, (pss_cons (ps_set (i := 4) sc_later_weights.nd rfl (by first | exact Or.inl rfl | exact Or.inr rfl) (pe_callTy call_list_of (by rfl) T.n_list PyProof.Rows.boot_list (pa_cons (pv 1) pa_nil))) (pss_cons (ps_for PassesOwn.never rfl (pi_range1 rfl T.n_range (pa_cons (pv 3) pa_nil)) (pg_name (i := 5) sc_later_weights.nd rfl (by first | exact Or.inl rfl | exact Or.inr rfl)) (pss_one (ps_set (i := 4) sc_later_weights.nd rfl (by first | exact Or.inl rfl | exact Or.inr rfl) (pe_call (ok_next_weights T) (hr.mono (by decide)) rfl T.m_next_weights T.F_next_weights.kp T.b_next_weights .nil pass0 (pa_cons (pv 0) (pa_cons (pv 4) (pa_cons (pv 2) pa_nil))))))) (pss_one (ps_ret (pv 4))))), ?_⟩
    try dsimp only [cxOf]
    have h2 := hW.two
    have h4 := hW.four
    refine ⟨_, rfl, c, _, rfl, .inl hW.sq, fun l hl => ?_⟩
    refine ⟨_, rfl, (n : Int), rfl, by omega, by omega, for_range (lo := 0) (n := n) (fun i σ H' => ∃ (p : Addr) (v5 : Option V), σ = [some (.int k), some (.ref c), some (.int s), some (.int n), some (.ref p), v5] ∧ Made H H' p (laterW k s i W))
      ⟨l, _, rfl, Made.one W hl rfl⟩ ?_ ?_⟩
    · rintro i σ H' hi ⟨p, v5, rfl, m⟩
      refine ⟨_, rfl, _, rfl, _, rfl, k, p, _, s, rfl, Wts.of m h2 h4 (My.later_len k s i hW.len), hn.later (by omega) (by omega) i, My.later_sum2 h2 h4 (by omega) (by omega) hW.len hn hs i (by omega), h100, fun H2 p2 m2 => ?_⟩
      refine ⟨p2, _, rfl, ?_⟩
      rw [← My.later_succ] at m2
      exact m2.before m.same
    · rintro σ H' ⟨p, v5, rfl, m⟩
      exact ⟨_, rfl, q H' p m⟩
theorem sc_share_of_pair : FnScope ["kinds", "weights", "i", "j"] ["kinds", "weights", "i", "j"] (defScope s_share_of_pair) := ⟨rfl, rfl, rfl, by decide +kernel, rfl, by decide +kernel, by decide +kernel⟩
theorem ok_share_of_pair (T : Txt K mg a) : FnOk P w K mg base CX0 3 a.f_share_of_pair a.d_share_of_pair ["kinds", "weights", "i", "j"] (spShareP K) := by
  refine T.F_share_of_pair.ok sc_share_of_pair (fun vs H Q E h => ?_) (fun cdv A outer st H vs Q E hr h => ?_)
  · obtain ⟨k, c, W, i, j, rfl, _⟩ := h
    rfl
  · obtain ⟨k, c, W, i, j, rfl, hW, hi, hj, h0, hb, q⟩ := h
    refine ⟨_, (pss_one (ps_ret (pe_call (ok_fraction T) (hr.mono (by decide)) rfl T.m_fraction T.F_fraction.kp T.b_fraction .nil pass0 (pa_cons (pe_ix ix_list (pv 1) (pe_call (ok_pair_place T) (hr.mono (by decide)) rfl T.m_pair_place T.F_pair_place.kp T.b_pair_place .nil pass0 (pa_cons (pv 0) (pa_cons (pv 2) (pa_cons (pv 3) pa_nil)))) (fun _ _ => rfl)) (pa_cons (pe_callB (cr_sum rfl) (by rfl) T.n_sum PyProof.Rows.boot_sum (pa_cons (pv 1) pa_nil)) pa_nil))))), ?_⟩
    try dsimp only [cxOf]
    have h2 := hW.two
    have h4 := hW.four
    refine ⟨_, rfl, _, rfl, _, rfl, _, rfl, k, i, j, rfl, h2, h4, hi, hj, c, _, _, _, rfl, rfl, hW.sq, at_int (by rw [hW.len]; exact My.place_lt h2 h4 hi hj), _, rfl, c, W, rfl, hW.sq, _, _, rfl, h0, hb, fun p hp => ?_⟩
    exact q _ p (Made.one _ hp rfl)
theorem sc_share_of_kind : FnScope ["kinds", "weights", "i"] ["kinds", "weights", "i"] (defScope s_share_of_kind) := ⟨rfl, rfl, rfl, by decide +kernel, rfl, by decide +kernel, by decide +kernel⟩
theorem ok_share_of_kind (T : Txt K mg a) : FnOk P w K mg base CX0 3 a.f_share_of_kind a.d_share_of_kind ["kinds", "weights", "i"] (spShareK K) := by
  refine T.F_share_of_kind.ok sc_share_of_kind (fun vs H Q E h => ?_) (fun cdv A outer st H vs Q E hr h => ?_)
  · obtain ⟨k, c, W, i, rfl, _⟩ := h
    rfl
  · obtain ⟨k, c, W, i, rfl, hW, hi, h0, hb, q⟩ := h
    refine ⟨_, (pss_one (ps_ret (pe_call (ok_fraction T) (hr.mono (by decide)) rfl T.m_fraction T.F_fraction.kp T.b_fraction .nil pass0 (pa_cons (pe_ix ix_list (pe_call (ok_kind_weights T) (hr.mono (by decide)) rfl T.m_kind_weights T.F_kind_weights.kp T.b_kind_weights .nil pass0 (pa_cons (pv 0) (pa_cons (pv 1) pa_nil))) (pv 2) (fun _ _ => rfl)) (pa_cons (pe_op op_mulB pe_int (pe_callB (cr_sum rfl) (by rfl) T.n_sum PyProof.Rows.boot_sum (pa_cons (pv 1) pa_nil))) pa_nil))))), ?_⟩
    try dsimp only [cxOf]
    have h2 := hW.two
    have h4 := hW.four
    refine ⟨_, rfl, _, rfl, k, c, W, rfl, hW, fun H1 o m1 => ?_⟩
    refine ⟨_, rfl, o, _, _, _, rfl, rfl, m1.sq, kws_at k W hi, _, rfl, c, W, rfl, m1.same.seq hW.sq, _, _, rfl, rfl, ⟨(by decide), (by show W.sum.natAbs < _; omega)⟩, _, _, rfl, by omega, by omega, fun p hp => ?_⟩
    exact q _ p ((Made.one (tf (frac (kw k W i) (2 * W.sum).toNat)) hp rfl).before m1.same)
theorem sc_share_mixed : FnScope ["kinds", "weights", "total", "alike", "i"] ["kinds", "weights"] (defScope s_share_mixed) := ⟨rfl, rfl, rfl, by decide +kernel, rfl, by decide +kernel, by decide +kernel⟩
theorem ok_share_mixed (T : Txt K mg a) : FnOk P w K mg base CX0 3 a.f_share_mixed a.d_share_mixed ["kinds", "weights"] (spMixed K) := by
  refine T.F_share_mixed.ok sc_share_mixed (fun vs H Q E h => ?_) (fun cdv A outer st H vs Q E hr h => ?_)
  · obtain ⟨k, c, W, rfl, _⟩ := h
    rfl
  · obtain ⟨k, c, W, rfl, hW, h0, hb, q⟩ := h
    refine ⟨_, (pss_cons (ps_set (i := 2) sc_share_mixed.nd rfl (by first | exact Or.inl rfl | exact Or.inr rfl) (pe_callB (cr_sum rfl) (by rfl) T.n_sum PyProof.Rows.boot_sum (pa_cons (pv 1) pa_nil))) (pss_cons (ps_set (i := 3) sc_share_mixed.nd rfl (by first | exact Or.inl rfl | exact Or.inr rfl) (pe_callB (cr_sum rfl) (by rfl) T.n_sum PyProof.Rows.boot_sum (pa_cons (pe_lc (own := [("i", 4)]) rfl sc_share_mixed.nd (pi_range1 rfl T.n_range (pa_cons (pv 0) pa_nil)) (blkOk_by (N := ["kinds", "weights", "total", "alike", "i"]) (sc := defScope s_share_mixed) (by decide +kernel)) (fun _ _ _ _ _ => (pg_name (i := 4) sc_share_mixed.nd rfl (by first | exact Or.inl rfl | exact Or.inr rfl))) (fun _ _ _ _ _ => pts_nil) (fun _ _ _ _ _ => (pe_ix (ix_listK (K := K) rfl) (pv 1) (pe_call (ok_pair_place T) (hr.mono (by decide)) rfl T.m_pair_place T.F_pair_place.kp T.b_pair_place .nil pass0 (pa_cons (pv 0) (pa_cons (pv 4) (pa_cons (pv 4) pa_nil)))) (fun _ _ => rfl)))) pa_nil))) (pss_one (ps_ret (pe_call (ok_fraction T) (hr.mono (by decide)) rfl T.m_fraction T.F_fraction.kp T.b_fraction .nil pass0 (pa_cons (pe_op op_sub (pv 2) (pv 3)) (pa_cons (pv 2) pa_nil))))))), ?_⟩
    try dsimp only [cxOf]
    have h2 := hW.two
    have h4 := hW.four
    refine ⟨_, rfl, c, W, rfl, hW.sq, ?_⟩
    refine ⟨_, rfl, (k : Int), rfl, by omega, by omega, fun D hD => lc_range (lo := 0) (n := k) (fun j H2 => Same H H2 ∧ H2 D = some (.lst (((List.range j).map (fun i => wt k W i i)).map V.int)))
        ⟨Same.upd hD, upd_same⟩ ?_ ?_⟩
    · rintro j H2 hj ⟨s2, hD2⟩
      rw [Int.zero_add]
      refine ⟨rfl, _, rfl, _, rfl, _, rfl, _, rfl, k, j, j, rfl, h2, h4, hj, hj, c, _, _, _, rfl, rfl, s2.seq hW.sq, at_int (by rw [hW.len]; exact My.place_lt h2 h4 hj hj), _, hD2, ?_, ?_, ?_⟩
      · exact small1000 (by rw [List.length_map, List.length_map, List.length_range]; omega)
      · intro b o e
        rw [upd_ne (ne_of_none e hD)]
        exact s2 b o e
      · rw [upd_same, ← snoc_range, List.map_append]
        rfl
    · rintro H2 ⟨s2, hD2⟩
      refine ⟨D, _, rfl, SqL.of hD2, _, rfl, _, rfl, _, _, rfl, rfl, _, rfl, _, _, rfl, h0, hb, fun p hp => ?_⟩
      exact q _ p ((Made.one (tf (frac (W.sum - alike k W) W.sum.toNat)) hp rfl).before s2)
end
end Pf

end
section
set_option Elab.async false
set_option linter.all false
set_option maxRecDepth 100000
set_option maxHeartbeats 4000000
namespace Pf
open PySem PySem.Spec PyProof.Rows L2
open My (wt kw anyW selfW nextW laterW NN row alike tf crossW togW restL restW soonW)
open Kqp1 (order place frac)
noncomputable def natV : Option Nat → V
  | none => .non
  | some j => .int (j : Nat)
noncomputable def spTog (K : PySem.W.Frag) : Sp := fun vs H Q _ => ∃ (c c' : Addr) (W W' : List Int), vs = [.ref c, .ref c'] ∧ SqL K H c (W.map V.int) ∧ SqL K H c' (W'.map V.int) ∧ W.length = W'.length ∧ W.length ≤ 10 ∧ ∀ H' p, Made H H' p (togW W W') → Q (.ref p) H'
noncomputable def spRest (K : PySem.W.Frag) : Sp := fun vs H Q _ => ∃ (k : Nat) (c : Addr) (W : List Int), vs = [.int k, .ref c] ∧ Wts K H k c W ∧ NN W ∧ W.sum < 2 ^ 100 ∧ ∀ H', Same H H' → Q (.bl (restW k W)) H'
noncomputable def spSoon (K : PySem.W.Frag) : Sp := fun vs H Q _ => ∃ (k : Nat) (c : Addr) (W : List Int) (n : Nat), vs = [.int k, .ref c, .int n] ∧ Wts K H k c W ∧ NN W ∧ 0 < W.sum ∧ W.sum ≤ 1000 ∧ n ≤ 3 ∧ ∀ H', Same H H' → Q (natV (soonW k W n)) H'
noncomputable def spExp (K : PySem.W.Frag) : Sp := fun vs H Q _ => ∃ (k : Nat) (c : Addr) (W : List Int), vs = [.int k, .ref c] ∧ Wts K H k c W ∧ NN W ∧ 0 < W.sum ∧ W.sum < 2 ^ 100 ∧ ∀ H' p, Made H H' p (tf (frac ((anyW k W).sum - alike k (anyW k W)) (anyW k W).sum.toNat)) → Q (.ref p) H'
noncomputable def spLack (K : PySem.W.Frag) : Sp := fun vs H Q _ => ∃ (m e : Addr) (mn md en ed : Int), vs = [.ref m, .ref e] ∧ SqL K H m [.int mn, .int md] ∧ SqL K H e [.int en, .int ed] ∧ mn.natAbs < 2 ^ 250 ∧ md.natAbs < 2 ^ 250 ∧ en.natAbs < 2 ^ 250 ∧ ed.natAbs < 2 ^ 250 ∧ 0 < en * md ∧ en * md < 2 ^ 249 ∧
  ∀ H' p, Made H H' p (tf (frac (en * md - mn * ed) (en * md).toNat)) → Q (.ref p) H'
noncomputable def spRare (K : PySem.W.Frag) : Sp := fun vs H Q _ => ∃ (k : Nat) (c : Addr) (W : List Int), vs = [.int k, .ref c] ∧ Wts K H k c W ∧ ∀ H' j, Same H H' → j < k → ((List.range k).find? fun i => (List.range k).all fun t => decide (kw k W i ≤ kw k W t)) = some j → Q (.int (j : Nat)) H'
noncomputable def spHalf : Sp := fun vs H Q _ => ∃ s n : Nat, vs = [.int s, .int n] ∧ s ≤ 100 ∧ n ≤ 10 ∧ ∀ H' p, Made H H' p (tf (Kqp1.kept s n)) → Q (.ref p) H'
section
variable {P : Program} {w : World} {K : PySem.W.Frag} {mg : Str → Option Value} {base : Heap} {a : Ad}
theorem sc_weights_together : FnScope ["one", "other", "first", "second"] ["one", "other"] (defScope s_weights_together) := ⟨rfl, rfl, rfl, by decide +kernel, rfl, by decide +kernel, by decide +kernel⟩
theorem ok_weights_together (T : Txt K mg a) : FnOk P w K mg base CX0 1 a.f_weights_together a.d_weights_together ["one", "other"] (spTog K) := by
  refine T.F_weights_together.ok sc_weights_together (fun vs H Q E h => ?_) (fun cdv A outer st H vs Q E hr h => ?_)
  · obtain ⟨c, c', W, W', rfl, _⟩ := h
    rfl
  · obtain ⟨c, c', W, W', rfl, hW, hW', hl, h10, q⟩ := h
    refine ⟨_, (pss_one (ps_ret (pe_lc (own := [("first", 2), ("second", 3)]) rfl sc_weights_together.nd (pi_zip rfl T.n_zip (pa_cons (pv 0) (pa_cons (pv 1) pa_nil))) (blkOk_by (N := ["one", "other", "first", "second"]) (sc := defScope s_weights_together) (by decide +kernel)) (fun _ _ _ _ _ => (pg_tupK (K := K) (n := 2) rfl rfl (pgs_cons (pg_name (i := 2) sc_weights_together.nd rfl (by first | exact Or.inl rfl | exact Or.inr rfl)) (pgs_cons (pg_name (i := 3) sc_weights_together.nd rfl (by first | exact Or.inl rfl | exact Or.inr rfl)) pgs_nil)))) (fun _ _ _ _ _ => pts_nil) (fun _ _ _ _ _ => (pe_op op_add (pv 2) (pv 3)))))), ?_⟩
    try dsimp only [cxOf]
    refine ⟨_, rfl, _, rfl, _, _, _, _, rfl, hW, hW', fun D hD => lc_zip (by rw [List.length_map, List.length_map]; exact hl) (fun i H' => Same H H' ∧ H' D = some (.lst (((togW W W').take i).map V.int)))
      ⟨Same.upd hD, upd_same⟩ (fun i H' _ z => ⟨z.1.seq hW, z.1.seq hW'⟩) ?_ ?_⟩
    · rintro i x y t H' hx hy ht ⟨s1, hD1⟩
      obtain ⟨xv, ex, rfl⟩ := int_at hx
      obtain ⟨yv, ey, rfl⟩ := int_at hy
      have nd : t ≠ D := fun e => by rw [e, hD1] at ht; cases ht
      have hD2 : (upd H' t (.tup [.int xv, .int yv])) D = some (.lst (((togW W W').take i).map V.int)) := by rw [upd_ne nd.symm]; exact hD1
      refine ⟨t, _, rfl, SqT.of upd_same, rfl, _, _, rfl, _, _, rfl, rfl, rfl, _, rfl, _, rfl, _, _, rfl, rfl, _, hD2, ?_, ?_, ?_⟩
      · exact small1000 (by
          rw [List.length_map, List.length_take, My.tog_len rfl hl.symm]
          omega)
      · intro b o' e
        rw [upd_ne (ne_of_none e hD), upd_ne (ne_of_none (s1 b o' e) ht)]
        exact s1 b o' e
      · have e : (togW W W')[i]? = some (xv + yv) := by
          unfold togW
          rw [List.getElem?_zipWith, ex, ey]
        rw [upd_same, take_more e, List.map_append]
        rfl
    · rintro H' ⟨s1, hD1⟩
      rw [List.length_map, ← My.tog_len (W := W) (V := W') rfl hl.symm, List.take_length] at hD1
      exact q H' D ⟨hD, s1, hD1⟩
theorem sc_is_at_rest : FnScope ["kinds", "weights", "children", "total", "children_total", "own", "child"] ["kinds", "weights"] (defScope s_is_at_rest) := ⟨rfl, rfl, rfl, by decide +kernel, rfl, by decide +kernel, by decide +kernel⟩
theorem ok_is_at_rest (T : Txt K mg a) : FnOk P w K mg base CX0 5 a.f_is_at_rest a.d_is_at_rest ["kinds", "weights"] (spRest K) := by
  refine T.F_is_at_rest.ok sc_is_at_rest (fun vs H Q E h => ?_) (fun cdv A outer st H vs Q E hr h => ?_)
  · obtain ⟨k, c, W, rfl, _⟩ := h
    rfl
  · obtain ⟨k, c, W, rfl, hW, hn, hs, q⟩ := h
    refine ⟨_, (pss_cons (ps_set (i := 2) sc_is_at_rest.nd rfl (by first | exact Or.inl rfl | exact Or.inr rfl) (pe_call (ok_weights_by_any T) (hr.mono (by decide)) rfl T.m_weights_by_any T.F_weights_by_any.kp T.b_weights_by_any .nil pass0 (pa_cons (pv 0) (pa_cons (pv 1) pa_nil)))) (pss_cons (ps_set (i := 3) sc_is_at_rest.nd rfl (by first | exact Or.inl rfl | exact Or.inr rfl) (pe_callB (cr_sum rfl) (by rfl) T.n_sum PyProof.Rows.boot_sum (pa_cons (pv 1) pa_nil))) (pss_cons (ps_set (i := 4) sc_is_at_rest.nd rfl (by first | exact Or.inl rfl | exact Or.inr rfl) (pe_callB (cr_sum rfl) (by rfl) T.n_sum PyProof.Rows.boot_sum (pa_cons (pv 2) pa_nil))) (pss_one (ps_ret (pe_callB (cr_all rfl) (by rfl) T.n_all PyProof.Rows.boot_all (pa_cons (pe_lc (own := [("own", 5), ("child", 6)]) rfl sc_is_at_rest.nd (pi_zip rfl T.n_zip (pa_cons (pv 1) (pa_cons (pv 2) pa_nil))) (blkOk_by (N := ["kinds", "weights", "children", "total", "children_total", "own", "child"]) (sc := defScope s_is_at_rest) (by decide +kernel)) (fun _ _ _ _ _ => (pg_tupK (K := K) (n := 2) rfl rfl (pgs_cons (pg_name (i := 5) sc_is_at_rest.nd rfl (by first | exact Or.inl rfl | exact Or.inr rfl)) (pgs_cons (pg_name (i := 6) sc_is_at_rest.nd rfl (by first | exact Or.inl rfl | exact Or.inr rfl)) pgs_nil)))) (fun _ _ _ _ _ => pts_nil) (fun _ _ _ _ _ => (pe_cmpR op_eq (pe_op op_mulB (pv 5) (pv 4)) (pe_op op_mulB (pv 6) (pv 3)) (nomark _)))) pa_nil))))))), ?_⟩
    try dsimp only [cxOf]
    have h2 := hW.two
    have h4 := hW.four
    have hS := hn.sum
    have sA : (anyW k W).sum = 4 * W.sum * W.sum := My.any_sum h2 h4 W hW.len
    have q1 := My.sq_lt hS hs
    have nA : NN (anyW k W) := hn.any
    have nA0 := nA.sum
    refine ⟨_, rfl, _, rfl, k, c, W, rfl, hW, hn, by omega, fun H1 o m1 => ?_⟩
    have hW1 := m1.same.seq hW.sq
    refine ⟨_, rfl, c, W, rfl, hW1, ?_⟩
    refine ⟨_, rfl, o, anyW k W, rfl, m1.sq, ?_⟩
    refine ⟨_, rfl, _, rfl, _, _, _, _, rfl, hW1, m1.sq, fun D hD => lc_zip (by rw [List.length_map, List.length_map, hW.len, My.any_len]) (fun i H' => Same H1 H' ∧ H' D = some (.lst (((restL k W).take i).map V.bl)))
      ⟨Same.upd hD, upd_same⟩ (fun i H' _ z => ⟨z.1.seq hW1, z.1.seq m1.sq⟩) ?_ ?_⟩
    · rintro i x y t H' hx hy ht ⟨s1, hD1⟩
      obtain ⟨xv, ex, rfl⟩ := int_at hx
      obtain ⟨yv, ey, rfl⟩ := int_at hy
      have bx := hn.le_sum xv (List.mem_of_getElem? ex)
      have bx0 := hn xv (List.mem_of_getElem? ex)
      have by' := nA.le_sum yv (List.mem_of_getElem? ey)
      have by0 := nA yv (List.mem_of_getElem? ey)
      have c1 : xv.natAbs < 2 ^ 250 := by omega
      have c2 : (anyW k W).sum.natAbs < 2 ^ 250 := by omega
      have c3 : yv.natAbs < 2 ^ 250 := by omega
      have c4 : W.sum.natAbs < 2 ^ 250 := by omega
      have nd : t ≠ D := fun e => by rw [e, hD1] at ht; cases ht
      have hD2 : (upd H' t (.tup [.int xv, .int yv])) D = some (.lst (((restL k W).take i).map V.bl)) := by rw [upd_ne nd.symm]; exact hD1
      refine ⟨t, _, rfl, SqT.of upd_same, rfl, _, _, rfl, _, _, rfl, rfl, rfl, _, rfl, _, rfl, _, _, rfl, rfl, ⟨c1, c2⟩, _, rfl, _, rfl, _, _, rfl, rfl, ⟨c3, c4⟩, rfl, _, hD2, ?_, ?_, ?_⟩
      · exact small1000 (by
          rw [List.length_map, List.length_take, My.restL_len hW.len]
          have : (order k).length ≤ 10 := by rcases My.kcases h2 h4 with rfl | rfl | rfl <;> decide
          omega)
      · intro b o' e
        rw [upd_ne (ne_of_none e hD), upd_ne (ne_of_none (s1 b o' e) ht)]
        exact s1 b o' e
      · have e : (restL k W)[i]? = some (decide (V.int (xv * (anyW k W).sum) = V.int (yv * W.sum))) := by
          unfold restL
          rw [List.getElem?_zipWith, ex, ey]
          exact congrArg some (decide_eq_decide.mpr ⟨congrArg V.int, V.int.inj⟩)
        rw [upd_same, take_more e, List.map_append]
        rfl
    · rintro H' ⟨s1, hD1⟩
      rw [List.length_map, hW.len, ← My.restL_len hW.len, List.take_length] at hD1
      exact ⟨D, _, rfl, SqL.of hD1, q H' (m1.same.trans s1)⟩
theorem sc_generations_to_rest : FnScope ["kinds", "weights", "n", "later", "generation"] ["kinds", "weights", "n"] (defScope s_generations_to_rest) := ⟨rfl, rfl, rfl, by decide +kernel, rfl, by decide +kernel, by decide +kernel⟩
theorem ok_generations_to_rest (T : Txt K mg a) : FnOk P w K mg base CX0 6 a.f_generations_to_rest a.d_generations_to_rest ["kinds", "weights", "n"] (spSoon K) := by
  refine T.F_generations_to_rest.ok sc_generations_to_rest (fun vs H Q E h => ?_) (fun cdv A outer st H vs Q E hr h => ?_)
  · obtain ⟨k, c, W, n, rfl, _⟩ := h
    rfl
  · obtain ⟨k, c, W, n, rfl, hW, hn, h0, hs, h3, q⟩ := h
    refine ⟨_, (pss_cons (ps_set (i := 3) sc_generations_to_rest.nd rfl (by first | exact Or.inl rfl | exact Or.inr rfl) (pe_callTy call_list_of (by rfl) T.n_list PyProof.Rows.boot_list (pa_cons (pv 1) pa_nil))) (pss_cons (ps_for PassesOwn.never rfl (pi_range1 rfl T.n_range (pa_cons (pe_op op_add (pv 2) pe_int) pa_nil)) (pg_name (i := 4) sc_generations_to_rest.nd rfl (by first | exact Or.inl rfl | exact Or.inr rfl)) (pss_cons (ps_if (pt_val (pe_call (ok_is_at_rest T) (hr.mono (by decide)) rfl T.m_is_at_rest T.F_is_at_rest.kp T.b_is_at_rest .nil pass0 (pa_cons (pv 0) (pa_cons (pv 3) pa_nil)))) (pss_one (ps_ret (pv 4))) pss_nil) (pss_one (ps_set (i := 3) sc_generations_to_rest.nd rfl (by first | exact Or.inl rfl | exact Or.inr rfl) (pe_call (ok_weights_by_any T) (hr.mono (by decide)) rfl T.m_weights_by_any T.F_weights_by_any.kp T.b_weights_by_any .nil pass0 (pa_cons (pv 0) (pa_cons (pv 3) pa_nil))))))) (pss_one (ps_ret pe_non)))), ?_⟩
    try dsimp only [cxOf]
    have h2 := hW.two
    have h4 := hW.four
    have sA : (anyW k W).sum = 4 * W.sum * W.sum := My.any_sum h2 h4 W hW.len
    have qA : (anyW k W).sum < 2 ^ 100 := by
      have : 4 * W.sum * W.sum ≤ 4 * W.sum * 1000 := Int.mul_le_mul_of_nonneg_left hs (by omega)
      omega
    refine ⟨_, rfl, c, _, rfl, .inl hW.sq, fun l hl => ?_⟩
    refine ⟨_, rfl, _, _, rfl, rfl, (n : Int) + 1, rfl, by omega, by omega, for_range (lo := 0) (n := n + 1) (fun i σ H' => ∃ (p : Addr) (v4 : Option V) (L : List Int), σ = [some (.int k), some (.ref c), some (.int n), some (.ref p), v4] ∧ Made H H' p L ∧ ((i = 0 ∧ L = W) ∨ (i = 1 ∧ L = anyW k W ∧ ¬ restW k W = true)))
      ⟨l, _, W, rfl, Made.one W hl rfl, .inl ⟨rfl, rfl⟩⟩ ?_ ?_⟩
    · rintro i σ H' hi ⟨p, v4, L, rfl, m, hc⟩
      rw [Int.zero_add]
      have hL : L.length = (order k).length := by
        rcases hc with ⟨_, rfl⟩ | ⟨_, rfl, _⟩
        · exact hW.len
        · exact My.any_len k W
      have hLn : NN L := by
        rcases hc with ⟨_, rfl⟩ | ⟨_, rfl, _⟩
        · exact hn
        · exact hn.any
      have hLs : L.sum < 2 ^ 100 := by
        rcases hc with ⟨_, rfl⟩ | ⟨_, rfl, _⟩
        · omega
        · exact qA
      refine ⟨_, rfl, _, rfl, k, p, L, rfl, Wts.of m h2 h4 hL, hLn, hLs, fun H1 s1 => ⟨_, rfl, ?_⟩⟩
      refine ite2 (fun c1 => ?_) (fun c1 => ?_)
      · refine ⟨_, rfl, ?_⟩
        have e : soonW k W n = some i := by
          rcases hc with ⟨rfl, rfl⟩ | ⟨rfl, rfl, hr⟩
          · exact if_pos c1
          · unfold soonW
            rw [if_neg hr, if_neg (by omega)]
        have := q H1 (m.same.trans s1)
        rw [e] at this
        exact this
      · rcases hc with ⟨rfl, rfl⟩ | ⟨rfl, rfl, hr⟩
        · refine ⟨_, rfl, _, rfl, k, p, _, rfl, (Wts.of m h2 h4 hL).same s1, hn, by omega, fun H2 p2 m2 => ?_⟩
          exact ⟨p2, _, _, rfl, m2.before (m.same.trans s1), .inr ⟨rfl, rfl, c1⟩⟩
        · exact absurd (My.rest_any h2 h4 W hW.len h0) c1
    · rintro σ H' ⟨p, v4, L, rfl, m, hc⟩
      rcases hc with ⟨e, _⟩ | ⟨e, rfl, hr⟩
      · omega
      · have e0 : n = 0 := by omega
        have e1 : soonW k W n = none := by
          unfold soonW
          rw [if_neg hr, if_pos e0]
        have := q H' m.same
        rw [e1] at this
        exact this
theorem sc_share_expected : FnScope ["kinds", "weights"] ["kinds", "weights"] (defScope s_share_expected) := ⟨rfl, rfl, rfl, by decide +kernel, rfl, by decide +kernel, by decide +kernel⟩
theorem ok_share_expected (T : Txt K mg a) : FnOk P w K mg base CX0 5 a.f_share_expected a.d_share_expected ["kinds", "weights"] (spExp K) := by
  refine T.F_share_expected.ok sc_share_expected (fun vs H Q E h => ?_) (fun cdv A outer st H vs Q E hr h => ?_)
  · obtain ⟨k, c, W, rfl, _⟩ := h
    rfl
  · obtain ⟨k, c, W, rfl, hW, hn, h0, hs, q⟩ := h
    refine ⟨_, (pss_one (ps_ret (pe_call (ok_share_mixed T) (hr.mono (by decide)) rfl T.m_share_mixed T.F_share_mixed.kp T.b_share_mixed .nil pass0 (pa_cons (pv 0) (pa_cons (pe_call (ok_weights_by_any T) (hr.mono (by decide)) rfl T.m_weights_by_any T.F_weights_by_any.kp T.b_weights_by_any .nil pass0 (pa_cons (pv 0) (pa_cons (pv 1) pa_nil))) pa_nil))))), ?_⟩
    try dsimp only [cxOf]
    have h2 := hW.two
    have h4 := hW.four
    have sA : (anyW k W).sum = 4 * W.sum * W.sum := My.any_sum h2 h4 W hW.len
    have q1 := My.sq_lt hn.sum hs
    refine ⟨_, rfl, _, rfl, _, rfl, k, c, W, rfl, hW, hn, by omega, fun H1 o m1 => ?_⟩
    exact ⟨k, o, _, rfl, Wts.of m1 h2 h4 (My.any_len k W), My.any_pos h2 h4 hW.len h0, by omega, fun H2 p m2 => q H2 p (m2.before m1.same)⟩
theorem sc_lack_of_mixed : FnScope ["mixed", "expected", "whole"] ["mixed", "expected"] (defScope s_lack_of_mixed) := ⟨rfl, rfl, rfl, by decide +kernel, rfl, by decide +kernel, by decide +kernel⟩
theorem ok_lack_of_mixed (T : Txt K mg a) : FnOk P w K mg base CX0 3 a.f_lack_of_mixed a.d_lack_of_mixed ["mixed", "expected"] (spLack K) := by
  refine T.F_lack_of_mixed.ok sc_lack_of_mixed (fun vs H Q E h => ?_) (fun cdv A outer st H vs Q E hr h => ?_)
  · obtain ⟨m, e, mn, md, en, ed, rfl, _⟩ := h
    rfl
  · obtain ⟨m, e, mn, md, en, ed, rfl, hM, hE, b1, b2, b3, b4, hp, hb, q⟩ := h
    refine ⟨_, (pss_cons (ps_set (i := 2) sc_lack_of_mixed.nd rfl (by first | exact Or.inl rfl | exact Or.inr rfl) (pe_op op_mulB (pe_ix ix_list (pv 1) pe_int (fun _ _ => rfl)) (pe_ix ix_list (pv 0) pe_int (fun _ _ => rfl)))) (pss_one (ps_ret (pe_call (ok_fraction T) (hr.mono (by decide)) rfl T.m_fraction T.F_fraction.kp T.b_fraction .nil pass0 (pa_cons (pe_op op_sub (pv 2) (pe_op op_mulB (pe_ix ix_list (pv 0) pe_int (fun _ _ => rfl)) (pe_ix ix_list (pv 1) pe_int (fun _ _ => rfl)))) (pa_cons (pv 2) pa_nil)))))), ?_⟩
    try dsimp only [cxOf]
    refine ⟨_, rfl, e, _, _, _, rfl, rfl, hE, rfl, _, rfl, m, _, _, _, rfl, rfl, hM, rfl, _, _, rfl, rfl, ⟨b3, b2⟩, ?_⟩
    refine ⟨_, rfl, _, rfl, m, _, _, _, rfl, rfl, hM, rfl, _, rfl, e, _, _, _, rfl, rfl, hE, rfl, _, _, rfl, rfl, ⟨b1, b4⟩, _, _, rfl, rfl, _, rfl, _, _, rfl, hp, hb, fun p hp => ?_⟩
    exact q _ p (Made.one _ hp rfl)
theorem sc_rarest_kind : FnScope ["kinds", "weights", "of_kinds"] ["kinds", "weights"] (defScope s_rarest_kind) := ⟨rfl, rfl, rfl, by decide +kernel, rfl, by decide +kernel, by decide +kernel⟩
theorem ok_rarest_kind (T : Txt K mg a) : FnOk P w K mg base CX0 3 a.f_rarest_kind a.d_rarest_kind ["kinds", "weights"] (spRare K) := by
  refine T.F_rarest_kind.ok sc_rarest_kind (fun vs H Q E h => ?_) (fun cdv A outer st H vs Q E hr h => ?_)
  · obtain ⟨k, c, W, rfl, _⟩ := h
    rfl
  · obtain ⟨k, c, W, rfl, hW, q⟩ := h
    refine ⟨_, (pss_cons (ps_set (i := 2) sc_rarest_kind.nd rfl (by first | exact Or.inl rfl | exact Or.inr rfl) (pe_call (ok_kind_weights T) (hr.mono (by decide)) rfl T.m_kind_weights T.F_kind_weights.kp T.b_kind_weights .nil pass0 (pa_cons (pv 0) (pa_cons (pv 1) pa_nil)))) (pss_one (ps_ret (pe_bm PySem.F.plainAttrs_list PySem.F.slot_list_index PySem.F.type_list_index mt_index (pv 2) (pa_cons (pe_callB (cr_min rfl) (by rfl) T.n_min PyProof.Rows.boot_min (pa_cons (pv 2) pa_nil)) pa_nil))))), ?_⟩
    try dsimp only [cxOf]
    have h2 := hW.two
    have h4 := hW.four
    refine ⟨_, rfl, _, rfl, k, c, W, rfl, hW, fun H1 o m1 => ?_⟩
    refine ⟨_, rfl, .inl ⟨rfl, _, m1.sq⟩, _, rfl, o, _, rfl, m1.sq, (by rw [List.length_map, List.length_range]; omega), fun m hm hmin => ?_⟩
    obtain ⟨j, hj, hno⟩ := My.first_at hm
    have jk : j < k := by
      have := (List.getElem?_eq_some_iff.mp hj).1
      rwa [List.length_map, List.length_range] at this
    refine ⟨o, _, V.int m, j, V.int m, rfl, rfl, m1.sq, rfl, ?_, ?_, ?_, ?_, q H1 j m1.same jk (My.rarest_first k _ hmin hj hno)⟩
    · rw [List.all_eq_true]
      intro v hv
      obtain ⟨x, _, rfl⟩ := List.mem_map.mp hv
      rfl
    · rw [List.getElem?_map, hj]
      rfl
    · show (m == m) = true
      exact beq_self_eq_true m
    · intro i z hi hz
      obtain ⟨x, hx, rfl⟩ := int_at hz
      show (x == m) = false
      rw [beq_eq_false_iff_ne]
      intro e
      exact hno i hi (by rw [hx, e])
theorem sc_left_by_halves : FnScope ["s", "n", "whole", "upper", "lower", "step"] ["s", "n"] (defScope s_left_by_halves) := ⟨rfl, rfl, rfl, by decide +kernel, rfl, by decide +kernel, by decide +kernel⟩
theorem ok_left_by_halves (T : Txt K mg a) : FnOk P w K mg base CX0 3 a.f_left_by_halves a.d_left_by_halves ["s", "n"] spHalf := by
  refine T.F_left_by_halves.ok sc_left_by_halves (fun vs H Q E h => ?_) (fun cdv A outer st H vs Q E hr h => ?_)
  · obtain ⟨s, n, rfl, _⟩ := h
    rfl
  · obtain ⟨s, n, rfl, h100, h10, q⟩ := h
    refine ⟨_, (pss_cons (ps_set (i := 2) sc_left_by_halves.nd rfl (by first | exact Or.inl rfl | exact Or.inr rfl) (pe_op op_mulB pe_int (pe_const rfl T.c_HUNDRED))) (pss_cons (ps_set (i := 3) sc_left_by_halves.nd rfl (by first | exact Or.inl rfl | exact Or.inr rfl) pe_int) (pss_cons (ps_set (i := 4) sc_left_by_halves.nd rfl (by first | exact Or.inl rfl | exact Or.inr rfl) pe_int) (pss_cons (ps_for PassesOwn.never rfl (pi_range1 rfl T.n_range (pa_cons (pv 1) pa_nil)) (pg_name (i := 5) sc_left_by_halves.nd rfl (by first | exact Or.inl rfl | exact Or.inr rfl)) (pss_cons (ps_set (i := 3) sc_left_by_halves.nd rfl (by first | exact Or.inl rfl | exact Or.inr rfl) (pe_op op_mulB (pv 3) (pe_op op_sub (pv 2) (pv 0)))) (pss_one (ps_set (i := 4) sc_left_by_halves.nd rfl (by first | exact Or.inl rfl | exact Or.inr rfl) (pe_op op_mulB (pv 4) (pv 2)))))) (pss_one (ps_ret (pe_call (ok_fraction T) (hr.mono (by decide)) rfl T.m_fraction T.F_fraction.kp T.b_fraction .nil pass0 (pa_cons (pv 3) (pa_cons (pv 4) pa_nil))))))))), ?_⟩
    try dsimp only [cxOf]
    refine ⟨_, _, rfl, rfl, ⟨by decide, by decide⟩, ?_⟩
    refine ⟨_, rfl, (n : Int), rfl, by omega, by omega, for_range (lo := 0) (n := n) (fun i σ H' => ∃ v5 : Option V, σ = [some (.int s), some (.int n), some (.int 200), some (.int ((200 - (s : Int)) ^ i)), some (.int (200 ^ i)), v5] ∧ H' = H)
      ⟨none, by rw [Int.pow_zero, Int.pow_zero]; rfl, rfl⟩ ?_ ?_⟩
    · rintro i σ H' hi ⟨v5, rfl, rfl⟩
      obtain ⟨a0, a1⟩ := My.pow_small (b := 200 - (s : Int)) (by omega) (by omega) i (by omega)
      obtain ⟨b0, b1⟩ := My.pow_small (b := 200) (by omega) (by omega) i (by omega)
      have t : (200 : Int) ^ 10 < 2 ^ 250 := by decide
      have e1 : ((200 - (s : Int)) ^ i).natAbs < 2 ^ 250 := by omega
      have e2 : ((200 : Int) ^ i).natAbs < 2 ^ 250 := by omega
      refine ⟨_, rfl, _, rfl, _, rfl, _, _, rfl, rfl, _, _, rfl, rfl, ⟨e1, (by show (200 - (s : Int)).natAbs < _; omega)⟩, ?_⟩
      refine ⟨_, rfl, _, rfl, _, _, rfl, rfl, ⟨e2, (by decide)⟩, ?_⟩
      exact ⟨some (.int (0 + i)), by rw [Int.pow_succ, Int.pow_succ]; rfl, rfl⟩
    · rintro σ H' ⟨v5, rfl, rfl⟩
      obtain ⟨b0, b1⟩ := My.pow_small (b := 200) (by omega) (by omega) n (by omega)
      have t : (200 : Int) ^ 10 < 2 ^ 249 := by decide
      have hp : (0 : Int) < 200 ^ n := Int.pow_pos (by decide)
      refine ⟨_, rfl, _, rfl, _, _, rfl, hp, by omega, fun p hp => ?_⟩
      refine q _ p ?_
      rw [My.half_num h100]
      exact Made.one _ hp rfl
end
end Pf

end
section
set_option Elab.async false
set_option linter.all false
set_option maxRecDepth 100000
set_option maxHeartbeats 4000000
namespace Pf
open PySem PySem.Spec PyProof.Rows L2
open My (wt kw anyW selfW nextW laterW NN row alike tf asInts kindsS fldsS WF WFy WFf callC stepN refuse refuseL)
open Kqp1 (order place frac)
/-! ### the object -/
noncomputable def gf (k : Int) (l : Addr) : List (Str × V) := [("kinds", .int k), ("fields", .ref l)]
theorem gf_kinds (k : Int) (l : Addr) : (gf k l).lookup ("kinds" : Str) = some (.int k) := rfl
theorem gf_fields (k : Int) (l : Addr) : (gf k l).lookup ("fields" : Str) = some (.ref l) := rfl
theorem gf_putK (k k' : Int) (l : Addr) : putF "kinds" (.int k') (gf k l) = gf k' l := rfl
theorem gf_putF (k : Int) (l l' : Addr) : putF "fields" (.ref l') (gf k l) = gf k l' := rfl
/-- the object at g, its list of fields at l, the fields at fs -/
structure At (C : Addr) (H : Hp) (g l : Addr) (fs : List Addr) (s : Option Kqp1.State) : Prop where
  ins : ∃ dx, H g = some (.ins C dx (gf (kindsS s) l))
  lst : H l = some (.lst (fs.map V.ref))
  nd : fs.Nodup
  len : fs.length = (fldsS s).length
  at_ : ∀ (j : Nat) (c : Addr), fs[j]? = some c → ∃ f, (fldsS s)[j]? = some f ∧ H c = some (.lst ((asInts f.pairs).map V.int))
  wf : WF s
  ln : l ∉ fs
theorem At.same {C : Addr} {H H' : Hp} {g l : Addr} {fs : List Addr} {s : Option Kqp1.State} (h : At C H g l fs s) (e : Same H H') : At C H' g l fs s := by
  obtain ⟨dx, hi⟩ := h.ins
  exact ⟨⟨dx, e _ _ hi⟩, e _ _ h.lst, h.nd, h.len, fun j c hc => by
    obtain ⟨f, h1, h2⟩ := h.at_ j c hc
    exact ⟨f, h1, e _ _ h2⟩, h.wf, h.ln⟩
/-- the field of a number -/
theorem At.field {C : Addr} {H : Hp} {g l : Addr} {fs : List Addr} {s : Option Kqp1.State} (h : At C H g l fs s) {j : Nat} {f : Kqp1.Field} (e : (fldsS s)[j]? = some f) : ∃ c, fs[j]? = some c ∧ H c = some (.lst ((asInts f.pairs).map V.int)) := by
  have hj : j < fs.length := by
    rw [h.len]
    exact (List.getElem?_eq_some_iff.mp e).1
  obtain ⟨f', e1, e2⟩ := h.at_ j _ (List.getElem?_eq_getElem hj)
  have : f' = f := Option.some.inj (e1.symm.trans e)
  subst this
  exact ⟨_, List.getElem?_eq_getElem hj, e2⟩
theorem refs_at {fs : List Addr} {j : Nat} {c : Addr} (h : fs[j]? = some c) : atI (fs.map V.ref) (j : Int) = some (V.ref c) := by
  refine atI_nat ?_
  rw [List.getElem?_map, h]
  rfl
/-- all of the object's own is tracked -/
theorem At.here {C : Addr} {H : Hp} {g l : Addr} {fs : List Addr} {s : Option Kqp1.State} (h : At C H g l fs s) : ∀ b ∈ g :: l :: fs, ∃ o, H b = some o := by
  intro b hb
  rcases List.mem_cons.mp hb with rfl | hb
  · obtain ⟨dx, hi⟩ := h.ins
    exact ⟨_, hi⟩
  rcases List.mem_cons.mp hb with rfl | hb
  · exact ⟨_, h.lst⟩
  · obtain ⟨j, hj, e⟩ := List.mem_iff_getElem.mp hb
    obtain ⟨f, _, e2⟩ := h.at_ j b (by rw [List.getElem?_eq_getElem hj, e])
    exact ⟨_, e2⟩
/-! ### promises -/
noncomputable def spNoField (C : Addr) : Sp := fun vs H Q _ => ∃ (g l : Addr) (fs : List Addr) (s : Option Kqp1.State) (f : Nat), vs = [.ref g, .int f] ∧ At C H g l fs s ∧ Q (.bl (decide ((fldsS s).length ≤ f))) H
noncomputable def spNoKind (K : PySem.W.Frag) (C : Addr) : Sp := fun vs H Q _ => ∃ (g l t : Addr) (fs : List Addr) (s : Option Kqp1.State) (ts : List Nat), vs = [.ref g, .ref t] ∧ At C H g l fs s ∧ SqL K H t ((asInts ts).map V.int) ∧ ts.length ≤ 60 ∧
  ∀ H', Same H H' → Q (.bl (ts.any fun i => decide (kindsS s ≤ i))) H'
noncomputable def spShRef (K : PySem.W.Frag) (C : Addr) : Sp := fun vs H Q _ => ∃ (g l u t : Addr) (fs : List Addr) (y : Kqp1.State) (us ts : List Nat), vs = [.ref g, .ref u, .ref t] ∧ At C H g l fs (some y) ∧ SqL K H u ((asInts us).map V.int) ∧ SqL K H t ((asInts ts).map V.int) ∧ ts.length ≤ 60 ∧
  ∀ H', Same H H' → Q (.int (refuseL y us ts)) H'
section
variable {P : Program} {w : World} {K : PySem.W.Frag} {mg : Str → Option Value} {base : Heap} {a : Ad}
theorem sc_is_no_field : FnScope ["garden", "f"] ["garden", "f"] (defScope s_is_no_field) := ⟨rfl, rfl, rfl, by decide +kernel, rfl, by decide +kernel, by decide +kernel⟩
theorem ok_is_no_field (T : Txt K mg a) : FnOk P w K mg base CX0 1 a.f_is_no_field a.d_is_no_field ["garden", "f"] (spNoField a.C_Garden) := by
  refine T.F_is_no_field.ok sc_is_no_field (fun vs H Q E h => ?_) (fun cdv A outer st H vs Q E hr h => ?_)
  · obtain ⟨g, l, fs, s, f, rfl, _⟩ := h
    rfl
  · obtain ⟨g, l, fs, s, f, rfl, hA, q⟩ := h
    refine ⟨_, (pss_one (ps_ret (pe_cmpR op_ge (pv 1) (pe_callB call_len_seq (by rfl) T.n_len PySem.boot_len (pa_cons (pe_fld (pv 0) rfl) pa_nil)) (nomark _)))), ?_⟩
    try dsimp only [cxOf]
    obtain ⟨dx, hg⟩ := hA.ins
    refine ⟨_, rfl, _, rfl, g, a.C_Garden, dx, _, _, rfl, hg, T.cl_Garden, T.no_fields, gf_fields _ _, l, _, rfl, .inl (SqL.of hA.lst), _, _, rfl, rfl, ?_⟩
    show Q (V.bl (decide (((fs.map V.ref).length : Int) ≤ (f : Int)))) H
    have e : decide (((fs.map V.ref).length : Int) ≤ (f : Int)) = decide ((fldsS s).length ≤ f) := by
      rw [List.length_map, hA.len]
      exact decide_eq_decide.mpr (by omega)
    rw [e]
    exact q
theorem sc_is_no_kind : FnScope ["garden", "asked_kinds", "i"] ["garden", "asked_kinds"] (defScope s_is_no_kind) := ⟨rfl, rfl, rfl, by decide +kernel, rfl, by decide +kernel, by decide +kernel⟩
theorem ok_is_no_kind (T : Txt K mg a) : FnOk P w K mg base CX0 1 a.f_is_no_kind a.d_is_no_kind ["garden", "asked_kinds"] (spNoKind K a.C_Garden) := by
  refine T.F_is_no_kind.ok sc_is_no_kind (fun vs H Q E h => ?_) (fun cdv A outer st H vs Q E hr h => ?_)
  · obtain ⟨g, l, t, fs, s, ts, rfl, _⟩ := h
    rfl
  · obtain ⟨g, l, t, fs, s, ts, rfl, hA, ht, h60, q⟩ := h
    refine ⟨_, (pss_one (ps_ret (pe_callB (cr_any rfl) (by rfl) T.n_any PyProof.Rows.boot_any (pa_cons (pe_lc (own := [("i", 2)]) rfl sc_is_no_kind.nd (pi_list (pv 1)) (blkOk_by (N := ["garden", "asked_kinds", "i"]) (sc := defScope s_is_no_kind) (by decide +kernel)) (fun _ _ _ _ _ => (pg_name (i := 2) sc_is_no_kind.nd rfl (by first | exact Or.inl rfl | exact Or.inr rfl))) (fun _ _ _ _ _ => pts_nil) (fun _ _ _ _ _ => (pe_cmpR op_ge (pv 2) (pe_fldK (K := K) rfl (pv 0) rfl) (nomark _)))) pa_nil)))), ?_⟩
    try dsimp only [cxOf]
    obtain ⟨dx, hg⟩ := hA.ins
    refine ⟨_, rfl, t, rfl, ⟨_, ht⟩, fun D hD => lc_list (K := K) (a := t) (xs := (asInts ts).map V.int) (fun i H' => Same H H' ∧ H' D = some (.lst (((ts.take i).map fun i => decide (kindsS s ≤ i)).map V.bl)))
      ⟨Same.upd hD, upd_same⟩ (fun i H' _ z => z.1.seq ht) ?_ ?_⟩
    · rintro i x H' hx ⟨s1, hD1⟩
      obtain ⟨z, hz, rfl⟩ := int_at hx
      obtain ⟨n, hn, rfl⟩ : ∃ n : Nat, ts[i]? = some n ∧ z = (n : Int) := by
        unfold asInts at hz
        rw [List.getElem?_map] at hz
        cases e : ts[i]? with
        | none => rw [e] at hz; cases hz
        | some n => rw [e] at hz; exact ⟨n, rfl, (Option.some.inj hz).symm⟩
      refine ⟨rfl, _, rfl, _, rfl, g, a.C_Garden, dx, _, _, rfl, s1 _ _ hg, T.cl_Garden, T.no_kinds, gf_kinds _ _, _, _, rfl, rfl, _, hD1, ?_, ?_, ?_⟩
      · exact small1000 (by rw [List.length_map, List.length_map, List.length_take]; omega)
      · intro b o e
        rw [upd_ne (ne_of_none e hD)]
        exact s1 b o e
      · rw [upd_same, take_more hn, List.map_append, List.map_append]
        have e : decide ((kindsS s : Int) ≤ (n : Int)) = decide (kindsS s ≤ n) := decide_eq_decide.mpr (by omega)
        dsimp only
        rw [e]
        rfl
    · rintro H' ⟨s1, hD1⟩
      have e : ((asInts ts).map V.int).length = ts.length := by
        unfold asInts
        rw [List.length_map, List.length_map]
      rw [e, List.take_length] at hD1
      refine ⟨D, _, rfl, SqL.of hD1, ?_⟩
      rw [List.any_map]
      exact q H' s1
theorem sc_shares_refusal : FnScope ["garden", "asked_fields", "asked_kinds", "f"] ["garden", "asked_fields", "asked_kinds"] (defScope s_shares_refusal) := ⟨rfl, rfl, rfl, by decide +kernel, rfl, by decide +kernel, by decide +kernel⟩
theorem ok_shares_refusal (T : Txt K mg a) : FnOk P w K mg base CX0 2 a.f_shares_refusal a.d_shares_refusal ["garden", "asked_fields", "asked_kinds"] (spShRef K a.C_Garden) := by
  refine T.F_shares_refusal.ok sc_shares_refusal (fun vs H Q E h => ?_) (fun cdv A outer st H vs Q E hr h => ?_)
  · obtain ⟨g, l, u, t, fs, y, us, ts, rfl, _⟩ := h
    rfl
  · obtain ⟨g, l, u, t, fs, y, us, ts, rfl, hA, hu, ht, h60, q⟩ := h
    generalize hR : refuseL y us ts = R at q
    refine ⟨_, (pss_cons (ps_for PassesOwn.never rfl (pi_list (pv 1)) (pg_name (i := 3) sc_shares_refusal.nd rfl (by first | exact Or.inl rfl | exact Or.inr rfl)) (pss_cons (ps_if (pt_val (pe_call (ok_is_no_field T) (hr.mono (by decide)) rfl T.m_is_no_field T.F_is_no_field.kp T.b_is_no_field .nil pass0 (pa_cons (pv 0) (pa_cons (pv 3) pa_nil)))) (pss_one (ps_ret (pe_const rfl T.c_NO_FIELD))) pss_nil) (pss_one (ps_if (pt_cmpR op_eq (pe_callB (cr_sum rfl) (by rfl) T.n_sum PyProof.Rows.boot_sum (pa_cons (pe_ix ix_list (pe_fld (pv 0) rfl) (pv 3) (fun _ _ => rfl)) pa_nil)) pe_int (nomark _)) (pss_one (ps_ret (pe_const rfl T.c_NO_PLANTS))) pss_nil)))) (pss_cons (ps_if (pt_val (pe_call (ok_is_no_kind T) (hr.mono (by decide)) rfl T.m_is_no_kind T.F_is_no_kind.kp T.b_is_no_kind .nil pass0 (pa_cons (pv 0) (pa_cons (pv 2) pa_nil)))) (pss_one (ps_ret (pe_const rfl T.c_WRONG))) pss_nil) (pss_one (ps_ret pe_int)))), ?_⟩
    try dsimp only [cxOf]
    refine ⟨_, rfl, u, rfl, ⟨_, hu⟩, for_list (K := K) (a := u) (xs := (asInts us).map V.int) (fun i σ H' => ∃ v3 : Option V, σ = [some (.ref g), some (.ref u), some (.ref t), v3] ∧ H' = H ∧ refuseL y (us.drop i) ts = R)
      ⟨none, rfl, rfl, hR⟩ (fun i σ H' _ z => by obtain ⟨_, _, rfl, _⟩ := z; exact hu) ?_ ?_⟩
    · rintro i x σ H' hx ⟨v3, rfl, rfl, hd⟩
      obtain ⟨z, hz, rfl⟩ := int_at hx
      obtain ⟨f, hf, rfl⟩ : ∃ n : Nat, us[i]? = some n ∧ z = (n : Int) := by
        unfold asInts at hz
        rw [List.getElem?_map] at hz
        cases e : us[i]? with
        | none => rw [e] at hz; cases hz
        | some n => rw [e] at hz; exact ⟨n, rfl, (Option.some.inj hz).symm⟩
      have ed : us.drop i = f :: us.drop (i + 1) := by
        obtain ⟨hi, e⟩ := List.getElem?_eq_some_iff.mp hf
        rw [List.drop_eq_getElem_cons hi, e]
      rw [ed] at hd
      unfold refuseL at hd
      obtain ⟨dx, hg⟩ := hA.ins
      refine ⟨_, rfl, _, rfl, g, l, fs, some y, f, rfl, hA, _, rfl, ?_⟩
      refine ite2 (fun c => ?_) (fun c => ?_)
      · have c' : y.fields.length ≤ f := of_decide_eq_true c
        have e : y.fields[f]? = none := List.getElem?_eq_none c'
        rw [e] at hd
        rw [← hd] at q
        exact q H' (Same.refl H')
      have c' : f < y.fields.length := Nat.lt_of_not_le fun z => c (decide_eq_true z)
      obtain ⟨x, hx⟩ : ∃ x, y.fields[f]? = some x := ⟨_, List.getElem?_eq_getElem c'⟩
      rw [hx] at hd
      dsimp only at hd
      obtain ⟨cc, hc, hcc⟩ := hA.field (j := f) (f := x) hx
      refine ⟨_, rfl, g, a.C_Garden, dx, _, _, rfl, hg, T.cl_Garden, T.no_fields, gf_fields _ _, _, rfl, l, _, _, _, rfl, rfl, SqL.of hA.lst, refs_at hc, cc, _, rfl, SqL.of hcc, rfl, _, rfl, ?_⟩
      have eS : (asInts x.pairs).sum = (Kqp1.size x : Int) := (My.size_eq x).symm
      refine ite2 (fun d => ?_) (fun d => ?_)
      · have d1 : (asInts x.pairs).sum = 0 := by
          have := of_decide_eq_true d
          exact V.int.inj this
        rw [if_pos (by omega)] at hd
        rw [← hd] at q
        exact q H' (Same.refl H')
      have d1 : ¬ (asInts x.pairs).sum = 0 := fun z => d (decide_eq_true (by rw [z]))
      rw [if_neg (by omega)] at hd
      exact ⟨_, rfl, rfl, hd⟩
    · rintro σ H' ⟨v3, rfl, rfl, hd⟩
      have el : ((asInts us).map V.int).length = us.length := by
        unfold asInts
        rw [List.length_map, List.length_map]
      rw [el, List.drop_length] at hd
      unfold refuseL at hd
      rw [← hd] at q
      refine ⟨_, rfl, _, rfl, g, l, t, fs, some y, ts, rfl, hA, ht, h60, fun H1 s1 => ⟨_, rfl, ?_⟩⟩
      refine ite2 (fun e => ?_) (fun e => ?_)
      · rw [if_pos (show (ts.any fun i => decide (y.kinds ≤ i)) = true from e)] at q
        exact q H1 s1
      · rw [if_neg (show ¬ (ts.any fun i => decide (y.kinds ≤ i)) = true from e)] at q
        exact q H1 s1
noncomputable def spOneIf : Sp := fun vs H Q _ => ∃ b : Bool, vs = [.bl b] ∧ Q (.int (if b = true then 1 else 0)) H
theorem sc_one_if : FnScope ["holds"] ["holds"] (defScope s_one_if) := ⟨rfl, rfl, rfl, by decide +kernel, rfl, by decide +kernel, by decide +kernel⟩
theorem ok_one_if (T : Txt K mg a) : FnOk P w K mg base CX0 1 a.f_one_if a.d_one_if ["holds"] spOneIf := by
  refine T.F_one_if.ok sc_one_if (fun vs H Q E h => ?_) (fun cdv A outer st H vs Q E hr h => ?_)
  · obtain ⟨b, rfl, _⟩ := h
    rfl
  · obtain ⟨b, rfl, q⟩ := h
    refine ⟨_, (pss_one (ps_ret (pe_ifExp (pt_val (pv 0)) pe_int pe_int))), ?_⟩
    try dsimp only [cxOf]
    refine ⟨_, rfl, _, rfl, ?_⟩
    cases b with
    | true => exact q
    | false => exact q
end
end Pf

end
section
set_option Elab.async false
set_option linter.all false
set_option maxRecDepth 100000
set_option maxHeartbeats 4000000
namespace Pf
open PySem PySem.Spec PyProof.Rows L2
open My (wt kw anyW selfW nextW laterW NN row alike tf asInts kindsS fldsS WF WFy WFf callC stepN refuse refuseL)
open Kqp1 (order place frac)
/-- what a call leaves: all but the object's own as it was; the object's own is old or new; the answer is new -/
structure Frm (H H' : Hp) (ft ft' : List Addr) (r : Addr) : Prop where
  kp : ∀ b o, H b = some o → b ∉ ft → H' b = some o
  new : ∀ b ∈ ft', b ∈ ft ∨ H b = none
  rn : H r = none
  rf : r ∉ ft'
noncomputable def Told (p : Nat) (ts : List Nat) : Prop := ts.length ≤ 60 ∧ (p ≠ 1 → My.counts[p]? = some (ts.length : Int))
/-- the promise of the call of number p -/
noncomputable def spAns (K : PySem.W.Frag) (C : Addr) (p : Nat) : Sp := fun vs H Q _ => ∃ (g l t : Addr) (fs : List Addr) (s : Option Kqp1.State) (ts : List Nat), vs = [.ref g, .ref t] ∧ At C H g l fs s ∧ SqL K H t ((asInts ts).map V.int) ∧ Told p ts ∧ (p = 0 ∨ s ≠ none) ∧
  ∀ (H' : Hp) (r l' : Addr) (fs' : List Addr), At C H' g l' fs' (stepN s p ts).1 → H' r = some (.lst ((stepN s p ts).2.map V.int)) → Frm H H' (g :: l :: fs) (g :: l' :: fs') r → Q (.ref r) H'
theorem Told.len {p n : Nat} {ts : List Nat} (h : Told p ts) (h1 : p ≠ 1) (e : My.counts[p]? = some (n : Int)) : ts.length = n := by
  have := h.2 h1
  rw [e] at this
  have := Option.some.inj this
  omega
/-- a call that changes nothing -/
theorem ro_end {C : Addr} {H H' : Hp} {g l r : Addr} {fs : List Addr} {s : Option Kqp1.State} {p : Nat} {ts : List Nat} {Q : VK} {ans : List Int} (hA : At C H g l fs s) (m : Made H H' r ans) (e : stepN s p ts = (s, ans))
    (q : ∀ (H' : Hp) (r l' : Addr) (fs' : List Addr), At C H' g l' fs' (stepN s p ts).1 → H' r = some (.lst ((stepN s p ts).2.map V.int)) → Frm H H' (g :: l :: fs) (g :: l' :: fs') r → Q (.ref r) H') : Q (.ref r) H' := by
  rw [e] at q
  refine q H' r l fs (hA.same m.same) m.is ⟨fun b o h _ => m.same b o h, fun b hb => .inl hb, m.new, fun hr => ?_⟩
  obtain ⟨o, ho⟩ := hA.here r hr
  rw [m.new] at ho
  cases ho
/-- a field that has plants -/
structure Fld (K : PySem.W.Frag) (H : Hp) (y : Kqp1.State) (fs : List Addr) (f : Nat) (x : Kqp1.Field) (c : Addr) : Prop where
  at_ : fs[f]? = some c
  wts : Wts K H y.kinds c (asInts x.pairs)
  wf : WFf y.kinds x
  pos : 0 < Kqp1.size x
theorem At.fld {K : PySem.W.Frag} {C : Addr} {H : Hp} {g l : Addr} {fs : List Addr} {y : Kqp1.State} (h : At C H g l fs (some y)) {f : Nat} {x : Kqp1.Field} (e : y.fields[f]? = some x) (h0 : 0 < Kqp1.size x) : ∃ c, Fld K H y fs f x c := by
  obtain ⟨c, h1, h2⟩ := h.field (j := f) (f := x) e
  have W := h.wf y rfl
  have X := W.at e
  refine ⟨c, h1, ⟨W.two, W.four, SqL.of h2, ?_⟩, X, h0⟩
  unfold asInts
  rw [List.length_map]
  exact X.len
theorem Fld.same {K : PySem.W.Frag} {H H' : Hp} {y : Kqp1.State} {fs : List Addr} {f : Nat} {x : Kqp1.Field} {c : Addr} (h : Fld K H y fs f x c) (s : Same H H') : Fld K H' y fs f x c := ⟨h.at_, h.wts.same s, h.wf, h.pos⟩
section
variable {K : PySem.W.Frag} {H : Hp} {y : Kqp1.State} {fs : List Addr} {f : Nat} {x : Kqp1.Field} {c : Addr} (F : Fld K H y fs f x c)
include F
theorem Fld.p0 : 0 < (asInts x.pairs).sum := My.fs_pos F.wts.two F.wts.four F.wf F.pos
theorem Fld.top : (asInts x.pairs).sum ≤ 1000 := My.fs_top F.wts.two F.wts.four F.wf F.pos
end
theorem ne_z {r : Int} {A B : Prop} (h1 : r ≠ 0 → A) (h2 : r = 0 → B) : if (!decide (V.int r = V.int 0)) = true then A else B := by
  by_cases e : r = 0
  · subst e
    exact h2 rfl
  · have : (!decide (V.int r = V.int 0)) = true := by
      rw [Bool.not_eq_true', decide_eq_false_iff_not]
      exact fun z => e (V.int.inj z)
    rw [if_pos this]
    exact h1 e
theorem small5 : 5 ≤ sizeLine := by decide
end Pf

end
section
set_option Elab.async false
set_option linter.all false
set_option maxRecDepth 100000
set_option maxHeartbeats 4000000
namespace Pf
open PySem PySem.Spec PyProof.Rows L2
open My (wt kw anyW selfW nextW laterW NN row alike tf asInts kindsS fldsS WF WFy WFf callC stepN refuse refuseL)
open Kqp1 (order place frac)
/-! ### steps that the answers share -/
section
variable {K : PySem.W.Frag} {mg : Str → Option Value} {a : Ad} {σ : L2.St} {H : Hp} {g l t : Addr} {fs : List Addr} {s : Option Kqp1.State} {ts : List Nat}
theorem ev_kinds {Q : VK} (T : Txt K mg a) (h0 : σ[0]? = some (some (.ref g))) (hA : At a.C_Garden H g l fs s) (q : Q (.int (kindsS s)) H) : tFld K (tVar 0) (Str.ofString "kinds") σ H Q := by
  obtain ⟨dx, hg⟩ := hA.ins
  exact ⟨_, h0, g, a.C_Garden, dx, _, _, rfl, hg, T.cl_Garden, T.no_kinds, gf_kinds _ _, q⟩
theorem ev_told {Q : VK} {i : Int} {v : V} (h1 : σ[1]? = some (some (.ref t))) (ht : SqL K H t ((asInts ts).map V.int)) (hv : atI ((asInts ts).map V.int) i = some v) (q : Q v H) : tOp (rIxL K) (tVar 1) (tC (V.int i)) σ H Q :=
  ⟨_, h1, t, _, _, _, rfl, rfl, ht, hv, q⟩
theorem ev_field {Q : VK} {i : Int} {f : Nat} {c : Addr} (T : Txt K mg a) (h0 : σ[0]? = some (some (.ref g))) (h1 : σ[1]? = some (some (.ref t))) (hA : At a.C_Garden H g l fs s) (ht : SqL K H t ((asInts ts).map V.int)) (hv : atI ((asInts ts).map V.int) i = some (V.int f)) (hc : fs[f]? = some c) (q : Q (.ref c) H) :
    tOp (rIxL K) (tFld K (tVar 0) (Str.ofString "fields")) (tOp (rIxL K) (tVar 1) (tC (V.int i))) σ H Q := by
  obtain ⟨dx, hg⟩ := hA.ins
  exact ⟨_, h0, g, a.C_Garden, dx, _, _, rfl, hg, T.cl_Garden, T.no_fields, gf_fields _ _, _, h1, t, _, _, _, rfl, rfl, ht, hv, l, _, _, _, rfl, rfl, SqL.of hA.lst, refs_at hc, q⟩
/-! arguments -/
theorem ar_cons {ta : TE} {tr : TA} {Q : List V → Hp → Prop} (h : ta σ H fun x H1 => tr σ H1 fun xs H2 => Q (x :: xs) H2) : tCons ta tr σ H Q := h
theorem ar_kinds {tr : TA} {Q : List V → Hp → Prop} (T : Txt K mg a) (h0 : σ[0]? = some (some (.ref g))) (hA : At a.C_Garden H g l fs s) (q : tr σ H fun xs H2 => Q (.int (kindsS s) :: xs) H2) : tCons (tFld K (tVar 0) (Str.ofString "kinds")) tr σ H Q := ar_cons (ev_kinds T h0 hA q)
theorem ar_told {tr : TA} {Q : List V → Hp → Prop} {i : Int} {v : V} (h1 : σ[1]? = some (some (.ref t))) (ht : SqL K H t ((asInts ts).map V.int)) (hv : atI ((asInts ts).map V.int) i = some v) (q : tr σ H fun xs H2 => Q (v :: xs) H2) : tCons (tOp (rIxL K) (tVar 1) (tC (V.int i))) tr σ H Q := ar_cons (ev_told h1 ht hv q)
theorem ar_field {tr : TA} {Q : List V → Hp → Prop} {i : Int} {f : Nat} {c : Addr} (T : Txt K mg a) (h0 : σ[0]? = some (some (.ref g))) (h1 : σ[1]? = some (some (.ref t))) (hA : At a.C_Garden H g l fs s) (ht : SqL K H t ((asInts ts).map V.int)) (hv : atI ((asInts ts).map V.int) i = some (V.int f)) (hc : fs[f]? = some c) (q : tr σ H fun xs H2 => Q (.ref c :: xs) H2) :
    tCons (tOp (rIxL K) (tFld K (tVar 0) (Str.ofString "fields")) (tOp (rIxL K) (tVar 1) (tC (V.int i)))) tr σ H Q := ar_cons (ev_field T h0 h1 hA ht hv hc q)
theorem ar_var {tr : TA} {Q : List V → Hp → Prop} {i : Nat} {v : V} (h : σ[i]? = some (some v)) (q : tr σ H fun xs H2 => Q (v :: xs) H2) : tCons (tVar i) tr σ H Q := ⟨_, h, q⟩
theorem ar_nil {Q : List V → Hp → Prop} (q : Q [] H) : tNil σ H Q := q
/-! statements -/
theorem ev_call {sp : Sp} {ar : TA} {Q : VK} (h : ar σ H fun vs H1 => sp (vs ++ []) H1 Q E0) : tCall sp [] E0 ar σ H Q := h
theorem sq_call {sp : Sp} {ar : TA} {n : Nat} {u : TS} {D : Ends} (h : ar σ H fun vs H1 => sp (vs ++ []) H1 (fun x H2 => u D (σ.set n (some x)) H2) E0) : tSeq (tAsg (tCall sp [] E0 ar) (gName n)) u D σ H := h
theorem sq_field {n : Nat} {u : TS} {D : Ends} {i : Int} {f : Nat} {c : Addr} (T : Txt K mg a) (h0 : σ[0]? = some (some (.ref g))) (h1 : σ[1]? = some (some (.ref t))) (hA : At a.C_Garden H g l fs s) (ht : SqL K H t ((asInts ts).map V.int)) (hv : atI ((asInts ts).map V.int) i = some (V.int f)) (hc : fs[f]? = some c)
    (q : u D (σ.set n (some (.ref c))) H) : tSeq (tAsg (tOp (rIxL K) (tFld K (tVar 0) (Str.ofString "fields")) (tOp (rIxL K) (tVar 1) (tC (V.int i)))) (gName n)) u D σ H := ev_field (Q := fun x H1 => u D (σ.set n (some x)) H1) T h0 h1 hA ht hv hc q
theorem sq_told {n : Nat} {u : TS} {D : Ends} {i : Int} {v : V} (h1 : σ[1]? = some (some (.ref t))) (ht : SqL K H t ((asInts ts).map V.int)) (hv : atI ((asInts ts).map V.int) i = some v) (q : u D (σ.set n (some v)) H) : tSeq (tAsg (tOp (rIxL K) (tVar 1) (tC (V.int i))) (gName n)) u D σ H := ev_told (Q := fun x H1 => u D (σ.set n (some x)) H1) h1 ht hv q
/-- the refusal, told or not -/
theorem rf_end {Q : VK} {r : Int} {n : Nat} {u : TS} {D : Ends} {H1 : Hp} (s1 : Same H H1) (hn : ∀ v : Option V, (σ.set n v)[n]? = some v) (no : r ≠ 0 → ∀ H2 p, Made H H2 p [r] → D.rt (.ref p) H2) (yes : r = 0 → ∀ H2, Same H H2 → u D (σ.set n (some (.int 0))) H2) :
    tSeq (tIfS (tTest (tOp rNe (tVar n) (tC (V.int 0)))) (tRet (tLst (tCons (tVar n) tNil))) tNext) u D (σ.set n (some (.int r))) H1 := by
  refine ⟨_, hn _, rfl, _, rfl, ne_z (fun c => ?_) (fun c => ?_)⟩
  · exact ⟨_, hn _, (by show 1 ≤ sizeLine; decide), fun p hp => no c _ p ((Made.one [r] hp rfl).before s1)⟩
  · subst c
    exact yes rfl H1 s1
theorem sq_ref0 {nf : Int} {n : Nat} {u : TS} {D : Ends} {y : Kqp1.State} {us : List Nat} (h0 : σ[0]? = some (some (.ref g))) (h1 : σ[1]? = some (some (.ref t))) (hn : ∀ v : Option V, (σ.set n v)[n]? = some v) (hA : At a.C_Garden H g l fs (some y)) (ht : SqL K H t ((asInts ts).map V.int))
    (hu : cutV ((asInts ts).map V.int) none (some nf) = (asInts us).map V.int) (no : refuseL y us [] ≠ 0 → ∀ H2 p, Made H H2 p [refuseL y us []] → D.rt (.ref p) H2) (yes : refuseL y us [] = 0 → ∀ H2, Same H H2 → u D (σ.set n (some (.int 0))) H2) :
    tSeq (tAsg (tCall (spShRef K a.C_Garden) [] E0 (tCons (tVar 0) (tCons (tSl (rSlL K) (tVar 1) tNoPart (tPart (tC (V.int nf)))) (tCons (tLst tNil) tNil)))) (gName n))
      (tSeq (tIfS (tTest (tOp rNe (tVar n) (tC (V.int 0)))) (tRet (tLst (tCons (tVar n) tNil))) tNext) u) D σ H := by
  refine ⟨_, h0, _, h1, _, rfl, t, _, rfl, ht, fun p0 hp0 => ?_⟩
  rw [hu]
  have s0 : Same H (upd H p0 (.lst ((asInts us).map V.int))) := Same.upd hp0
  refine ⟨(by show 0 ≤ sizeLine; decide), fun p1 hp1 => ?_⟩
  have s1 : Same (upd H p0 (.lst ((asInts us).map V.int))) (upd (upd H p0 (.lst ((asInts us).map V.int))) p1 (.lst [])) := Same.upd hp1
  exact ⟨g, l, p0, p1, fs, y, us, [], rfl, hA.same (s0.trans s1), SqL.of (s1 _ _ upd_same), SqL.of upd_same, (by simp), fun H1 s2 => rf_end (Q := D.rt) ((s0.trans s1).trans s2) hn no yes⟩
theorem sq_ref1 {nf lo : Int} {n : Nat} {u : TS} {D : Ends} {y : Kqp1.State} {us ks : List Nat} (h0 : σ[0]? = some (some (.ref g))) (h1 : σ[1]? = some (some (.ref t))) (hn : ∀ v : Option V, (σ.set n v)[n]? = some v) (hA : At a.C_Garden H g l fs (some y)) (ht : SqL K H t ((asInts ts).map V.int))
    (hu : cutV ((asInts ts).map V.int) none (some nf) = (asInts us).map V.int) (hk : cutV ((asInts ts).map V.int) (some lo) none = (asInts ks).map V.int) (h60 : ks.length ≤ 60) (no : refuseL y us ks ≠ 0 → ∀ H2 p, Made H H2 p [refuseL y us ks] → D.rt (.ref p) H2) (yes : refuseL y us ks = 0 → ∀ H2, Same H H2 → u D (σ.set n (some (.int 0))) H2) :
    tSeq (tAsg (tCall (spShRef K a.C_Garden) [] E0 (tCons (tVar 0) (tCons (tSl (rSlL K) (tVar 1) tNoPart (tPart (tC (V.int nf)))) (tCons (tSl (rSlL K) (tVar 1) (tPart (tC (V.int lo))) tNoPart) tNil)))) (gName n))
      (tSeq (tIfS (tTest (tOp rNe (tVar n) (tC (V.int 0)))) (tRet (tLst (tCons (tVar n) tNil))) tNext) u) D σ H := by
  refine ⟨_, h0, _, h1, _, rfl, t, _, rfl, ht, fun p0 hp0 => ?_⟩
  rw [hu]
  have s0 : Same H (upd H p0 (.lst ((asInts us).map V.int))) := Same.upd hp0
  refine ⟨_, h1, _, rfl, t, _, rfl, s0.seq ht, fun p1 hp1 => ?_⟩
  rw [hk]
  have s1 : Same (upd H p0 (.lst ((asInts us).map V.int))) (upd (upd H p0 (.lst ((asInts us).map V.int))) p1 (.lst ((asInts ks).map V.int))) := Same.upd hp1
  exact ⟨g, l, p0, p1, fs, y, us, ks, rfl, hA.same (s0.trans s1), SqL.of (s1 _ _ upd_same), SqL.of upd_same, h60, fun H1 s2 => rf_end (Q := D.rt) ((s0.trans s1).trans s2) hn no yes⟩
/-- a list of one number, then what a call answers -/
theorem rt_cat {D : Ends} {z : Int} {te : TE} {sp : Sp} {ar : TA} (he : ∀ Q : VK, Q (.int z) H → te σ H Q) (h : ∀ p0, H p0 = none → Same H (upd H p0 (.lst [V.int z])) → ar σ (upd H p0 (.lst [V.int z])) fun vs H1 => sp (vs ++ []) H1 (fun x H2 => rCat (.ref p0) x H2 D.rt) E0) :
    tRet (tOp rCat (tLst (tCons te tNil)) (tCall sp [] E0 ar)) D σ H := he _ ⟨(by show 1 ≤ sizeLine; decide), fun p0 hp0 => h p0 hp0 (Same.upd hp0)⟩
theorem cat_end {Q : VK} {z : Int} {ys : List Int} {p0 r3 : Addr} {H0 H1 : Hp} (m : Made (upd H0 p0 (.lst [V.int z])) H1 r3 ys) (hl : ys.length ≤ 900) (q : ∀ H2 r, Made H1 H2 r (z :: ys) → Q (.ref r) H2) : rCat (.ref p0) (.ref r3) H1 Q :=
  ⟨p0, r3, _, _, rfl, rfl, m.same _ _ upd_same, m.is, Nat.le_of_lt (small1000 (by rw [List.length_map]; show 1 + ys.length ≤ 1000; omega)), fun r hr => q _ r (Made.one (z :: ys) hr rfl)⟩
theorem rt_lst {D : Ends} {ar : TA} (h : ar σ H fun xs H1 => xs.length ≤ sizeLine ∧ ∀ p, H1 p = none → D.rt (.ref p) (upd H1 p (.lst xs))) : tRet (tLst ar) D σ H := h
theorem c_int {z : Int} : ∀ Q : VK, Q (.int z) H → tC (V.int z) σ H Q := fun _ q => q
end
end Pf

end
section
set_option Elab.async false
set_option linter.all false
set_option maxRecDepth 100000
set_option maxHeartbeats 4000000
namespace Pf
open PySem PySem.Spec PyProof.Rows L2
open My (wt kw anyW selfW nextW laterW NN row alike tf asInts kindsS fldsS WF WFy WFf callC stepN refuse refuse2 refuseL putX crossW togW restL restW soonW)
open Kqp1 (order place frac)
section
variable {P : Program} {w : World} {K : PySem.W.Frag} {mg : Str → Option Value} {base : Heap} {a : Ad}
theorem sc_answer_share : FnScope ["garden", "told", "refusal", "plants"] ["garden", "told"] (defScope s_answer_share) := ⟨rfl, rfl, rfl, by decide +kernel, rfl, by decide +kernel, by decide +kernel⟩
theorem ok_answer_share (T : Txt K mg a) : FnOk P w K mg base CX0 4 a.f_answer_share a.d_answer_share ["garden", "told"] (spAns K a.C_Garden 4) := by
  refine T.F_answer_share.ok sc_answer_share (fun vs H Q E h => ?_) (fun cdv A outer st H vs Q E hr h => ?_)
  · obtain ⟨g, l, t, fs, s, ts, rfl, _⟩ := h
    rfl
  · obtain ⟨g, l, t, fs, s, ts, rfl, hA, ht, hT, hs, q⟩ := h
    obtain ⟨f, i, j, rfl⟩ : ∃ f i j, ts = [f, i, j] := My.ln3 (hT.len (by decide) (show My.counts[4]? = some ((3 : Nat) : Int) from rfl))
    obtain ⟨y, rfl⟩ : ∃ y, s = some y := by
      cases s with
      | none => exact absurd rfl (hs.resolve_left (by decide))
      | some y => exact ⟨y, rfl⟩
    refine ⟨_, (pss_cons (ps_set (i := 2) sc_answer_share.nd rfl (by first | exact Or.inl rfl | exact Or.inr rfl) (pe_call (ok_shares_refusal T) (hr.mono (by decide)) rfl T.m_shares_refusal T.F_shares_refusal.kp T.b_shares_refusal .nil pass0 (pa_cons (pv 0) (pa_cons (pe_slice sl_list (pv 1) po_none (po_some pe_int)) (pa_cons (pe_slice sl_list (pv 1) (po_some pe_int) po_none) pa_nil))))) (pss_cons (ps_if (pt_cmpR op_ne (pv 2) pe_int (nomark _)) (pss_one (ps_ret (pe_lst (pa_cons (pv 2) pa_nil)))) pss_nil) (pss_cons (ps_set (i := 3) sc_answer_share.nd rfl (by first | exact Or.inl rfl | exact Or.inr rfl) (pe_ix ix_list (pe_fld (pv 0) rfl) (pe_ix ix_list (pv 1) pe_int (fun _ _ => rfl)) (fun _ _ => rfl))) (pss_one (ps_ret (pe_op op_cat (pe_lst (pa_cons pe_int pa_nil)) (pe_call (ok_share_of_pair T) (hr.mono (by decide)) rfl T.m_share_of_pair T.F_share_of_pair.kp T.b_share_of_pair .nil pass0 (pa_cons (pe_fld (pv 0) rfl) (pa_cons (pv 3) (pa_cons (pe_ix ix_list (pv 1) pe_int (fun _ _ => rfl)) (pa_cons (pe_ix ix_list (pv 1) pe_int (fun _ _ => rfl)) pa_nil))))))))))), ?_⟩
    try dsimp only [cxOf]
    refine sq_ref1 (us := [f]) (ks := [i, j]) rfl rfl (fun _ => rfl) hA ht rfl rfl (by show 2 ≤ 60; decide) (fun c H1 r m => ?_) (fun c H1 s01 => ?_)
    · exact ro_end hA m (by rw [My.step_share, My.refuse_tell (asked := [i, j]) c _ _ rfl]; rfl) q
    obtain ⟨x, hx, h0, hno, hall⟩ := My.refuse_ok (show refuse y f [i, j] = 0 from c)
    have hA1 := hA.same s01
    obtain ⟨cc, hF⟩ := hA1.fld (K := K) hx h0
    have ht1 := s01.seq ht
    refine sq_field T rfl rfl hA1 ht1 rfl hF.at_ ?_
    refine rt_cat c_int fun p0 hp0 s2 => ar_kinds T rfl (hA1.same s2) (ar_var rfl (ar_told rfl (s2.seq ht1) rfl (ar_told rfl (s2.seq ht1) rfl (ar_nil ?_))))
    refine ⟨y.kinds, cc, _, i, j, rfl, hF.wts.same s2, hall i (by simp), hall j (by simp), hF.p0, (Int.lt_of_le_of_lt hF.top (by decide)), fun H3 r3 m3 => ?_⟩
    exact cat_end m3 (by show 2 ≤ 900; decide) fun H4 r m4 => ro_end hA (m4.before ((s01.trans s2).trans m3.same)) (by rw [My.step_share, My.fieldAt_ok hx h0, hno, My.share_num hF.wts.two hF.wts.four hF.wf h0]; rfl) q
theorem sc_answer_kind : FnScope ["garden", "told", "refusal", "plants"] ["garden", "told"] (defScope s_answer_kind) := ⟨rfl, rfl, rfl, by decide +kernel, rfl, by decide +kernel, by decide +kernel⟩
theorem ok_answer_kind (T : Txt K mg a) : FnOk P w K mg base CX0 4 a.f_answer_kind a.d_answer_kind ["garden", "told"] (spAns K a.C_Garden 5) := by
  refine T.F_answer_kind.ok sc_answer_kind (fun vs H Q E h => ?_) (fun cdv A outer st H vs Q E hr h => ?_)
  · obtain ⟨g, l, t, fs, s, ts, rfl, _⟩ := h
    rfl
  · obtain ⟨g, l, t, fs, s, ts, rfl, hA, ht, hT, hs, q⟩ := h
    obtain ⟨f, i, rfl⟩ : ∃ f i, ts = [f, i] := My.ln2 (hT.len (by decide) (show My.counts[5]? = some ((2 : Nat) : Int) from rfl))
    obtain ⟨y, rfl⟩ : ∃ y, s = some y := by
      cases s with
      | none => exact absurd rfl (hs.resolve_left (by decide))
      | some y => exact ⟨y, rfl⟩
    refine ⟨_, (pss_cons (ps_set (i := 2) sc_answer_kind.nd rfl (by first | exact Or.inl rfl | exact Or.inr rfl) (pe_call (ok_shares_refusal T) (hr.mono (by decide)) rfl T.m_shares_refusal T.F_shares_refusal.kp T.b_shares_refusal .nil pass0 (pa_cons (pv 0) (pa_cons (pe_slice sl_list (pv 1) po_none (po_some pe_int)) (pa_cons (pe_slice sl_list (pv 1) (po_some pe_int) po_none) pa_nil))))) (pss_cons (ps_if (pt_cmpR op_ne (pv 2) pe_int (nomark _)) (pss_one (ps_ret (pe_lst (pa_cons (pv 2) pa_nil)))) pss_nil) (pss_cons (ps_set (i := 3) sc_answer_kind.nd rfl (by first | exact Or.inl rfl | exact Or.inr rfl) (pe_ix ix_list (pe_fld (pv 0) rfl) (pe_ix ix_list (pv 1) pe_int (fun _ _ => rfl)) (fun _ _ => rfl))) (pss_one (ps_ret (pe_op op_cat (pe_lst (pa_cons pe_int pa_nil)) (pe_call (ok_share_of_kind T) (hr.mono (by decide)) rfl T.m_share_of_kind T.F_share_of_kind.kp T.b_share_of_kind .nil pass0 (pa_cons (pe_fld (pv 0) rfl) (pa_cons (pv 3) (pa_cons (pe_ix ix_list (pv 1) pe_int (fun _ _ => rfl)) pa_nil)))))))))), ?_⟩
    try dsimp only [cxOf]
    refine sq_ref1 (us := [f]) (ks := [i]) rfl rfl (fun _ => rfl) hA ht rfl rfl (by show 1 ≤ 60; decide) (fun c H1 r m => ?_) (fun c H1 s01 => ?_)
    · exact ro_end hA m (by rw [My.step_kind, My.refuse_tell (asked := [i]) c _ _ rfl]; rfl) q
    obtain ⟨x, hx, h0, hno, hall⟩ := My.refuse_ok (show refuse y f [i] = 0 from c)
    have hA1 := hA.same s01
    obtain ⟨cc, hF⟩ := hA1.fld (K := K) hx h0
    have ht1 := s01.seq ht
    refine sq_field T rfl rfl hA1 ht1 rfl hF.at_ ?_
    refine rt_cat c_int fun p0 hp0 s2 => ar_kinds T rfl (hA1.same s2) (ar_var rfl (ar_told rfl (s2.seq ht1) rfl (ar_nil ?_)))
    refine ⟨y.kinds, cc, _, i, rfl, hF.wts.same s2, hall i (by simp), hF.p0, (Int.lt_of_le_of_lt hF.top (by decide)), fun H3 r3 m3 => ?_⟩
    exact cat_end m3 (by show 2 ≤ 900; decide) fun H4 r m4 => ro_end hA (m4.before ((s01.trans s2).trans m3.same)) (by rw [My.step_kind, My.fieldAt_ok hx h0, hno, My.kind_num hF.wts.two hF.wts.four hF.wf h0 (hall i (by simp))]; rfl) q
theorem sc_answer_next : FnScope ["garden", "told", "refusal", "children"] ["garden", "told"] (defScope s_answer_next) := ⟨rfl, rfl, rfl, by decide +kernel, rfl, by decide +kernel, by decide +kernel⟩
theorem ok_answer_next (T : Txt K mg a) : FnOk P w K mg base CX0 5 a.f_answer_next a.d_answer_next ["garden", "told"] (spAns K a.C_Garden 6) := by
  refine T.F_answer_next.ok sc_answer_next (fun vs H Q E h => ?_) (fun cdv A outer st H vs Q E hr h => ?_)
  · obtain ⟨g, l, t, fs, s, ts, rfl, _⟩ := h
    rfl
  · obtain ⟨g, l, t, fs, s, ts, rfl, hA, ht, hT, hs, q⟩ := h
    obtain ⟨f, i, j, rfl⟩ : ∃ f i j, ts = [f, i, j] := My.ln3 (hT.len (by decide) (show My.counts[6]? = some ((3 : Nat) : Int) from rfl))
    obtain ⟨y, rfl⟩ : ∃ y, s = some y := by
      cases s with
      | none => exact absurd rfl (hs.resolve_left (by decide))
      | some y => exact ⟨y, rfl⟩
    refine ⟨_, (pss_cons (ps_set (i := 2) sc_answer_next.nd rfl (by first | exact Or.inl rfl | exact Or.inr rfl) (pe_call (ok_shares_refusal T) (hr.mono (by decide)) rfl T.m_shares_refusal T.F_shares_refusal.kp T.b_shares_refusal .nil pass0 (pa_cons (pv 0) (pa_cons (pe_slice sl_list (pv 1) po_none (po_some pe_int)) (pa_cons (pe_slice sl_list (pv 1) (po_some pe_int) po_none) pa_nil))))) (pss_cons (ps_if (pt_cmpR op_ne (pv 2) pe_int (nomark _)) (pss_one (ps_ret (pe_lst (pa_cons (pv 2) pa_nil)))) pss_nil) (pss_cons (ps_set (i := 3) sc_answer_next.nd rfl (by first | exact Or.inl rfl | exact Or.inr rfl) (pe_call (ok_weights_by_any T) (hr.mono (by decide)) rfl T.m_weights_by_any T.F_weights_by_any.kp T.b_weights_by_any .nil pass0 (pa_cons (pe_fld (pv 0) rfl) (pa_cons (pe_ix ix_list (pe_fld (pv 0) rfl) (pe_ix ix_list (pv 1) pe_int (fun _ _ => rfl)) (fun _ _ => rfl)) pa_nil)))) (pss_one (ps_ret (pe_op op_cat (pe_lst (pa_cons pe_int pa_nil)) (pe_call (ok_share_of_pair T) (hr.mono (by decide)) rfl T.m_share_of_pair T.F_share_of_pair.kp T.b_share_of_pair .nil pass0 (pa_cons (pe_fld (pv 0) rfl) (pa_cons (pv 3) (pa_cons (pe_ix ix_list (pv 1) pe_int (fun _ _ => rfl)) (pa_cons (pe_ix ix_list (pv 1) pe_int (fun _ _ => rfl)) pa_nil))))))))))), ?_⟩
    try dsimp only [cxOf]
    refine sq_ref1 (us := [f]) (ks := [i, j]) rfl rfl (fun _ => rfl) hA ht rfl rfl (by show 2 ≤ 60; decide) (fun c H1 r m => ?_) (fun c H1 s01 => ?_)
    · exact ro_end hA m (by rw [My.step_next, My.refuse_tell (asked := [i, j]) c _ _ rfl]; rfl) q
    obtain ⟨x, hx, h0, hno, hall⟩ := My.refuse_ok (show refuse y f [i, j] = 0 from c)
    have hA1 := hA.same s01
    obtain ⟨cc, hF⟩ := hA1.fld (K := K) hx h0
    have ht1 := s01.seq ht
    refine sq_call (ar_kinds T rfl hA1 (ar_field T rfl rfl hA1 ht1 rfl hF.at_ (ar_nil ?_)))
    refine ⟨y.kinds, cc, _, rfl, hF.wts, (NN.asInts x.pairs), (Int.lt_of_le_of_lt hF.top (by decide)), fun H2 d md => ?_⟩
    refine rt_cat c_int fun p0 hp0 s2 => ar_kinds T rfl (hA1.same (md.same.trans s2)) (ar_var rfl (ar_told rfl ((md.same.trans s2).seq ht1) rfl (ar_told rfl ((md.same.trans s2).seq ht1) rfl (ar_nil ?_))))
    have b1 : (anyW y.kinds (asInts x.pairs)).sum < 2 ^ 249 := by
      rw [My.any_sum hF.wts.two hF.wts.four _ hF.wts.len]
      exact Int.lt_trans (My.sq_lt (NN.sum (NN.asInts x.pairs)) (Int.lt_of_le_of_lt hF.top (by decide))) (by decide)
    refine ⟨y.kinds, d, _, i, j, rfl, (Wts.of md hF.wts.two hF.wts.four (My.any_len _ _)).same s2, hall i (by simp), hall j (by simp), My.any_pos hF.wts.two hF.wts.four hF.wts.len hF.p0, b1, fun H3 r3 m3 => ?_⟩
    exact cat_end m3 (by show 2 ≤ 900; decide) fun H4 r m4 => ro_end hA (m4.before (((s01.trans md.same).trans s2).trans m3.same)) (by rw [My.step_next, My.fieldAt_ok hx h0, hno, My.next_num hF.wts.two hF.wts.four hF.wf h0 (hall i (by simp)) (hall j (by simp))]; rfl) q
theorem sc_answer_mixed : FnScope ["garden", "told", "refusal"] ["garden", "told"] (defScope s_answer_mixed) := ⟨rfl, rfl, rfl, by decide +kernel, rfl, by decide +kernel, by decide +kernel⟩
theorem ok_answer_mixed (T : Txt K mg a) : FnOk P w K mg base CX0 4 a.f_answer_mixed a.d_answer_mixed ["garden", "told"] (spAns K a.C_Garden 8) := by
  refine T.F_answer_mixed.ok sc_answer_mixed (fun vs H Q E h => ?_) (fun cdv A outer st H vs Q E hr h => ?_)
  · obtain ⟨g, l, t, fs, s, ts, rfl, _⟩ := h
    rfl
  · obtain ⟨g, l, t, fs, s, ts, rfl, hA, ht, hT, hs, q⟩ := h
    obtain ⟨f, rfl⟩ : ∃ f, ts = [f] := My.ln1 (hT.len (by decide) (show My.counts[8]? = some ((1 : Nat) : Int) from rfl))
    obtain ⟨y, rfl⟩ : ∃ y, s = some y := by
      cases s with
      | none => exact absurd rfl (hs.resolve_left (by decide))
      | some y => exact ⟨y, rfl⟩
    refine ⟨_, (pss_cons (ps_set (i := 2) sc_answer_mixed.nd rfl (by first | exact Or.inl rfl | exact Or.inr rfl) (pe_call (ok_shares_refusal T) (hr.mono (by decide)) rfl T.m_shares_refusal T.F_shares_refusal.kp T.b_shares_refusal .nil pass0 (pa_cons (pv 0) (pa_cons (pe_slice sl_list (pv 1) po_none (po_some pe_int)) (pa_cons (pe_lst pa_nil) pa_nil))))) (pss_cons (ps_if (pt_cmpR op_ne (pv 2) pe_int (nomark _)) (pss_one (ps_ret (pe_lst (pa_cons (pv 2) pa_nil)))) pss_nil) (pss_one (ps_ret (pe_op op_cat (pe_lst (pa_cons pe_int pa_nil)) (pe_call (ok_share_mixed T) (hr.mono (by decide)) rfl T.m_share_mixed T.F_share_mixed.kp T.b_share_mixed .nil pass0 (pa_cons (pe_fld (pv 0) rfl) (pa_cons (pe_ix ix_list (pe_fld (pv 0) rfl) (pe_ix ix_list (pv 1) pe_int (fun _ _ => rfl)) (fun _ _ => rfl)) pa_nil)))))))), ?_⟩
    try dsimp only [cxOf]
    refine sq_ref0 (us := [f]) rfl rfl (fun _ => rfl) hA ht rfl (fun c H1 r m => ?_) (fun c H1 s01 => ?_)
    · exact ro_end hA m (by rw [My.step_mixed, My.refuse_tell (asked := []) c _ _ rfl]; rfl) q
    obtain ⟨x, hx, h0, hno, hall⟩ := My.refuse_ok (show refuse y f [] = 0 from c)
    have hA1 := hA.same s01
    obtain ⟨cc, hF⟩ := hA1.fld (K := K) hx h0
    have ht1 := s01.seq ht
    refine rt_cat c_int fun p0 hp0 s2 => ar_kinds T rfl (hA1.same s2) (ar_field T rfl rfl (hA1.same s2) (s2.seq ht1) rfl hF.at_ (ar_nil ?_))
    refine ⟨y.kinds, cc, _, rfl, hF.wts.same s2, hF.p0, (Int.lt_of_le_of_lt hF.top (by decide)), fun H3 r3 m3 => ?_⟩
    exact cat_end m3 (by show 2 ≤ 900; decide) fun H4 r m4 => ro_end hA (m4.before ((s01.trans s2).trans m3.same)) (by rw [My.step_mixed, My.fieldAt_ok hx h0, hno, My.mixed_num hF.wts.two hF.wts.four hF.wf h0]; rfl) q
theorem sc_answer_expected : FnScope ["garden", "told", "refusal"] ["garden", "told"] (defScope s_answer_expected) := ⟨rfl, rfl, rfl, by decide +kernel, rfl, by decide +kernel, by decide +kernel⟩
theorem ok_answer_expected (T : Txt K mg a) : FnOk P w K mg base CX0 6 a.f_answer_expected a.d_answer_expected ["garden", "told"] (spAns K a.C_Garden 9) := by
  refine T.F_answer_expected.ok sc_answer_expected (fun vs H Q E h => ?_) (fun cdv A outer st H vs Q E hr h => ?_)
  · obtain ⟨g, l, t, fs, s, ts, rfl, _⟩ := h
    rfl
  · obtain ⟨g, l, t, fs, s, ts, rfl, hA, ht, hT, hs, q⟩ := h
    obtain ⟨f, rfl⟩ : ∃ f, ts = [f] := My.ln1 (hT.len (by decide) (show My.counts[9]? = some ((1 : Nat) : Int) from rfl))
    obtain ⟨y, rfl⟩ : ∃ y, s = some y := by
      cases s with
      | none => exact absurd rfl (hs.resolve_left (by decide))
      | some y => exact ⟨y, rfl⟩
    refine ⟨_, (pss_cons (ps_set (i := 2) sc_answer_expected.nd rfl (by first | exact Or.inl rfl | exact Or.inr rfl) (pe_call (ok_shares_refusal T) (hr.mono (by decide)) rfl T.m_shares_refusal T.F_shares_refusal.kp T.b_shares_refusal .nil pass0 (pa_cons (pv 0) (pa_cons (pe_slice sl_list (pv 1) po_none (po_some pe_int)) (pa_cons (pe_lst pa_nil) pa_nil))))) (pss_cons (ps_if (pt_cmpR op_ne (pv 2) pe_int (nomark _)) (pss_one (ps_ret (pe_lst (pa_cons (pv 2) pa_nil)))) pss_nil) (pss_one (ps_ret (pe_op op_cat (pe_lst (pa_cons pe_int pa_nil)) (pe_call (ok_share_expected T) (hr.mono (by decide)) rfl T.m_share_expected T.F_share_expected.kp T.b_share_expected .nil pass0 (pa_cons (pe_fld (pv 0) rfl) (pa_cons (pe_ix ix_list (pe_fld (pv 0) rfl) (pe_ix ix_list (pv 1) pe_int (fun _ _ => rfl)) (fun _ _ => rfl)) pa_nil)))))))), ?_⟩
    try dsimp only [cxOf]
    refine sq_ref0 (us := [f]) rfl rfl (fun _ => rfl) hA ht rfl (fun c H1 r m => ?_) (fun c H1 s01 => ?_)
    · exact ro_end hA m (by rw [My.step_expected, My.refuse_tell (asked := []) c _ _ rfl]; rfl) q
    obtain ⟨x, hx, h0, hno, hall⟩ := My.refuse_ok (show refuse y f [] = 0 from c)
    have hA1 := hA.same s01
    obtain ⟨cc, hF⟩ := hA1.fld (K := K) hx h0
    have ht1 := s01.seq ht
    refine rt_cat c_int fun p0 hp0 s2 => ar_kinds T rfl (hA1.same s2) (ar_field T rfl rfl (hA1.same s2) (s2.seq ht1) rfl hF.at_ (ar_nil ?_))
    refine ⟨y.kinds, cc, _, rfl, hF.wts.same s2, (NN.asInts x.pairs), hF.p0, (Int.lt_of_le_of_lt hF.top (by decide)), fun H3 r3 m3 => ?_⟩
    exact cat_end m3 (by show 2 ≤ 900; decide) fun H4 r m4 => ro_end hA (m4.before ((s01.trans s2).trans m3.same)) (by rw [My.step_expected, My.fieldAt_ok hx h0, hno, My.expected_num hF.wts.two hF.wts.four hF.wf h0]; rfl) q
theorem sc_answer_after : FnScope ["garden", "told", "s", "n", "refusal", "later"] ["garden", "told"] (defScope s_answer_after) := ⟨rfl, rfl, rfl, by decide +kernel, rfl, by decide +kernel, by decide +kernel⟩
theorem ok_answer_after (T : Txt K mg a) : FnOk P w K mg base CX0 7 a.f_answer_after a.d_answer_after ["garden", "told"] (spAns K a.C_Garden 7) := by
  refine T.F_answer_after.ok sc_answer_after (fun vs H Q E h => ?_) (fun cdv A outer st H vs Q E hr h => ?_)
  · obtain ⟨g, l, t, fs, s, ts, rfl, _⟩ := h
    rfl
  · obtain ⟨g, l, t, fs, s, ts, rfl, hA, ht, hT, hs, q⟩ := h
    obtain ⟨f, s', n, i, j, rfl⟩ : ∃ f s' n i j, ts = [f, s', n, i, j] := My.ln5 (hT.len (by decide) (show My.counts[7]? = some ((5 : Nat) : Int) from rfl))
    obtain ⟨y, rfl⟩ : ∃ y, s = some y := by
      cases s with
      | none => exact absurd rfl (hs.resolve_left (by decide))
      | some y => exact ⟨y, rfl⟩
    refine ⟨_, (pss_cons (ps_set (i := 2) sc_answer_after.nd rfl (by first | exact Or.inl rfl | exact Or.inr rfl) (pe_ix ix_list (pv 1) pe_int (fun _ _ => rfl))) (pss_cons (ps_set (i := 3) sc_answer_after.nd rfl (by first | exact Or.inl rfl | exact Or.inr rfl) (pe_ix ix_list (pv 1) pe_int (fun _ _ => rfl))) (pss_cons (ps_set (i := 4) sc_answer_after.nd rfl (by first | exact Or.inl rfl | exact Or.inr rfl) (pe_call (ok_shares_refusal T) (hr.mono (by decide)) rfl T.m_shares_refusal T.F_shares_refusal.kp T.b_shares_refusal .nil pass0 (pa_cons (pv 0) (pa_cons (pe_slice sl_list (pv 1) po_none (po_some pe_int)) (pa_cons (pe_slice sl_list (pv 1) (po_some pe_int) po_none) pa_nil))))) (pss_cons (ps_if (pt_cmpR op_ne (pv 4) pe_int (nomark _)) (pss_one (ps_ret (pe_lst (pa_cons (pv 4) pa_nil)))) pss_nil) (pss_cons (ps_if (PW.pt (pw_or (pt_cmpR op_gt (pv 2) (pe_const rfl T.c_MOST_OF_HUNDRED) (nomark _)) (pw_or1 (pt_cmpR op_gt (pv 3) (pe_const rfl T.c_MOST_GENERATIONS) (nomark _))))) (pss_one (ps_ret (pe_lst (pa_cons (pe_const rfl T.c_WRONG) pa_nil)))) pss_nil) (pss_cons (ps_set (i := 5) sc_answer_after.nd rfl (by first | exact Or.inl rfl | exact Or.inr rfl) (pe_call (ok_later_weights T) (hr.mono (by decide)) rfl T.m_later_weights T.F_later_weights.kp T.b_later_weights .nil pass0 (pa_cons (pe_fld (pv 0) rfl) (pa_cons (pe_ix ix_list (pe_fld (pv 0) rfl) (pe_ix ix_list (pv 1) pe_int (fun _ _ => rfl)) (fun _ _ => rfl)) (pa_cons (pv 2) (pa_cons (pv 3) pa_nil)))))) (pss_one (ps_ret (pe_op op_cat (pe_lst (pa_cons pe_int pa_nil)) (pe_call (ok_share_of_pair T) (hr.mono (by decide)) rfl T.m_share_of_pair T.F_share_of_pair.kp T.b_share_of_pair .nil pass0 (pa_cons (pe_fld (pv 0) rfl) (pa_cons (pv 5) (pa_cons (pe_ix ix_list (pv 1) pe_int (fun _ _ => rfl)) (pa_cons (pe_ix ix_list (pv 1) pe_int (fun _ _ => rfl)) pa_nil)))))))))))))), ?_⟩
    try dsimp only [cxOf]
    refine sq_told rfl ht rfl (sq_told rfl ht rfl ?_)
    refine sq_ref1 (us := [f]) (ks := [i, j]) rfl rfl (fun _ => rfl) hA ht rfl rfl (by show 2 ≤ 60; decide) (fun c H1 r m => ?_) (fun c H1 s01 => ?_)
    · exact ro_end hA m (by rw [My.step_after, My.refuse_tell (asked := [i, j]) c _ _ rfl]; rfl) q
    obtain ⟨x, hx, h0, hno, hall⟩ := My.refuse_ok (show refuse y f [i, j] = 0 from c)
    have hA1 := hA.same s01
    obtain ⟨cc, hF⟩ := hA1.fld (K := K) hx h0
    have ht1 := s01.seq ht
    refine ⟨_, rfl, _, _, rfl, rfl, _, rfl, ?_⟩
    have bad : (100 < s' ∨ 3 < n) → ∀ r, H1 r = none → Q (.ref r) (upd H1 r (.lst [V.int (-22)])) := fun hb r hr => by
      refine ro_end hA ((Made.one [-22] hr rfl).before s01) ?_ q
      rw [My.step_after, My.fieldAt_ok hx h0, hno, if_neg (by decide), if_pos hb]
      rfl
    refine ite2 (fun c1 => ?_) (fun c1 => ?_)
    · exact ⟨(by show 1 ≤ sizeLine; decide), fun r hr => bad (.inl (Int.ofNat_lt.mp (of_decide_eq_true c1))) r hr⟩
    refine ⟨_, rfl, _, _, rfl, rfl, _, rfl, ?_⟩
    refine ite2 (fun c2 => ?_) (fun c2 => ?_)
    · exact ⟨(by show 1 ≤ sizeLine; decide), fun r hr => bad (.inr (Int.ofNat_lt.mp (of_decide_eq_true c2))) r hr⟩
    have h100 : s' ≤ 100 := Nat.le_of_not_lt fun z => c1 (decide_eq_true (Int.ofNat_lt.mpr z))
    have h3 : n ≤ 3 := Nat.le_of_not_lt fun z => c2 (decide_eq_true (Int.ofNat_lt.mpr z))
    have z0 : (0 : Int) ≤ (s' : Int) := Int.natCast_nonneg s'
    have z1 : (s' : Int) ≤ 100 := Int.ofNat_le.mpr h100
    refine sq_call (ar_kinds T rfl hA1 (ar_field T rfl rfl hA1 ht1 rfl hF.at_ (ar_var rfl (ar_var rfl (ar_nil ?_)))))
    refine ⟨y.kinds, cc, _, s', n, rfl, hF.wts, (NN.asInts x.pairs), hF.top, h100, h3, fun H2 d md => ?_⟩
    refine rt_cat c_int fun p0 hp0 s2 => ar_kinds T rfl (hA1.same (md.same.trans s2)) (ar_var rfl (ar_told rfl ((md.same.trans s2).seq ht1) rfl (ar_told rfl ((md.same.trans s2).seq ht1) rfl (ar_nil ?_))))
    refine ⟨y.kinds, d, _, i, j, rfl, (Wts.of md hF.wts.two hF.wts.four (My.later_len y.kinds (s' : Int) n hF.wts.len)).same s2, hall i (by simp), hall j (by simp), My.later_pos hF.wts.two hF.wts.four z0 z1 hF.wts.len hF.p0 n, Int.lt_trans (My.later_sum hF.wts.two hF.wts.four z0 z1 hF.wts.len (NN.asInts x.pairs) hF.top n h3) (by decide), fun H3 r3 m3 => ?_⟩
    exact cat_end m3 (by show 2 ≤ 900; decide) fun H4 r m4 => ro_end hA (m4.before (((s01.trans md.same).trans s2).trans m3.same)) (by rw [My.step_after, My.fieldAt_ok hx h0, hno, if_neg (by decide), if_neg (fun z => z.elim (fun z => Nat.not_lt_of_le h100 z) fun z => Nat.not_lt_of_le h3 z), My.after_num hF.wts.two hF.wts.four hF.wf h0 h100]; rfl) q
end
end Pf

end
section
set_option Elab.async false
set_option linter.all false
set_option maxRecDepth 100000
set_option maxHeartbeats 4000000
namespace Pf
open PySem PySem.Spec PyProof.Rows L2
open My (wt kw anyW selfW nextW laterW NN row alike tf asInts kindsS fldsS WF WFy WFf callC stepN refuse refuse2 putX)
open Kqp1 (order place frac)
noncomputable def spInit (C : Addr) : Sp := fun vs H Q _ => ∃ (g dx : Addr), vs = [.ref g] ∧ H g = some (.ins C dx []) ∧ ∀ (H' : Hp) (l : Addr), H l = none → At C H' g l [] none → (∀ b o, H b = some o → b ≠ g → H' b = some o) → Q .non H'
noncomputable def spChRef (K : PySem.W.Frag) (C : Addr) : Sp := fun vs H Q _ => ∃ (g l t : Addr) (fs : List Addr) (y : Kqp1.State) (f n : Nat) (ts : List Nat), vs = [.ref g, .int f, .ref t, .int n] ∧ At C H g l fs (some y) ∧ SqL K H t ((asInts ts).map V.int) ∧ ts.length ≤ 60 ∧
  ∀ H', Same H H' → Q (.int (refuse2 y f ts n)) H'
/-- one field changed at one place -/
theorem At.put {C : Addr} {H H' : Hp} {g l c : Addr} {fs : List Addr} {y : Kqp1.State} {f p v : Nat} {x : Kqp1.Field} (h : At C H g l fs (some y)) (hx : y.fields[f]? = some x) (hc : fs[f]? = some c) (hv : v ≤ 100)
    (e : H' c = some (.lst ((asInts (x.pairs.set p v)).map V.int))) (kp : ∀ b o, H b = some o → b ≠ c → H' b = some o) : At C H' g l fs (some { y with fields := y.fields.set f (putX x p v) }) := by
  obtain ⟨dx, hg⟩ := h.ins
  have mc : c ∈ fs := List.mem_of_getElem? hc
  obtain ⟨z, _, hcc⟩ := h.at_ f c hc
  have nlc : l ≠ c := fun z => h.ln (z ▸ mc)
  have ngc : g ≠ c := ne_of hg hcc (by intro z; cases z)
  refine ⟨⟨dx, kp _ _ hg ngc⟩, kp _ _ h.lst nlc, h.nd, ?_, fun j b hb => ?_, fun y' ey => ?_, h.ln⟩
  · show fs.length = (y.fields.set f _).length
    rw [List.length_set]
    exact h.len
  · show ∃ f', (y.fields.set f (putX x p v))[j]? = some f' ∧ _
    by_cases hj : j = f
    · subst hj
      have : b = c := Option.some.inj (hb.symm.trans hc)
      subst this
      exact ⟨putX x p v, List.getElem?_set_self (List.getElem?_eq_some_iff.mp hx).1, e⟩
    · obtain ⟨f', h1, h2⟩ := h.at_ j b hb
      have nb : b ≠ c := fun q => hj (nd_ix h.nd hb (by rw [q]; exact hc))
      exact ⟨f', by rw [List.getElem?_set_ne (fun q => hj q.symm)]; exact h1, kp _ _ h2 nb⟩
  · cases ey
    exact My.wf_put (h.wf y rfl) hx hv
theorem foot_none {C : Addr} {H : Hp} {g l : Addr} {fs : List Addr} {s : Option Kqp1.State} (hA : At C H g l fs s) {r : Addr} (hr : H r = none) : r ∉ g :: l :: fs := fun z => by
  obtain ⟨o, ho⟩ := hA.here r z
  rw [hr] at ho
  cases ho
section
variable {P : Program} {w : World} {K : PySem.W.Frag} {mg : Str → Option Value} {base : Heap} {a : Ad}
theorem sc_Garden_init : FnScope ["self"] ["self"] (defScope s_Garden_init) := ⟨rfl, rfl, rfl, by decide +kernel, rfl, by decide +kernel, by decide +kernel⟩
theorem ok_Garden_init (T : Txt K mg a) : FnOk P w K mg base CX0 1 a.f_Garden_init a.d_Garden_init ["self"] (spInit a.C_Garden) := by
  refine T.F_Garden_init.ok sc_Garden_init (fun vs H Q E h => ?_) (fun cdv A outer st H vs Q E hr h => ?_)
  · obtain ⟨g, dx, rfl, _⟩ := h
    rfl
  · obtain ⟨g, dx, rfl, hg, q⟩ := h
    refine ⟨_, (pss_cons (ps_fld (pv 0) pe_int rfl) (pss_one (ps_fld (pv 0) (pe_lst pa_nil) rfl))), ?_⟩
    try dsimp only [cxOf]
    refine ⟨_, rfl, g, a.C_Garden, dx, [], rfl, hg, T.cl_Garden, T.no_kinds, (by decide), ?_⟩
    refine ⟨(by show 0 ≤ sizeLine; decide), fun l hl => ?_⟩
    have ngl : l ≠ g := fun z => by rw [z, upd_same] at hl; cases hl
    have hl0 : H l = none := by rw [upd_ne ngl] at hl; exact hl
    refine ⟨_, rfl, g, a.C_Garden, dx, _, rfl, (by rw [upd_ne ngl.symm, upd_same]), T.cl_Garden, T.no_fields, (by decide), ?_⟩
    refine q _ l hl0 ⟨⟨dx, upd_same⟩, by rw [upd_ne ngl, upd_same]; rfl, List.nodup_nil, rfl, fun j c hc => (by simp at hc), fun y e => (by cases e), (by simp)⟩ fun b o e hb => ?_
    rw [upd_ne hb, upd_ne (ne_of_none e hl0), upd_ne hb]
    exact e
theorem sc_answer_start : FnScope ["garden", "told", "kinds"] ["garden", "told"] (defScope s_answer_start) := ⟨rfl, rfl, rfl, by decide +kernel, rfl, by decide +kernel, by decide +kernel⟩
theorem ok_answer_start (T : Txt K mg a) : FnOk P w K mg base CX0 1 a.f_answer_start a.d_answer_start ["garden", "told"] (spAns K a.C_Garden 0) := by
  refine T.F_answer_start.ok sc_answer_start (fun vs H Q E h => ?_) (fun cdv A outer st H vs Q E hr h => ?_)
  · obtain ⟨g, l, t, fs, s, ts, rfl, _⟩ := h
    rfl
  · obtain ⟨g, l, t, fs, s, ts, rfl, hA, ht, hT, hs, q⟩ := h
    obtain ⟨k, rfl⟩ : ∃ k, ts = [k] := by
      have := hT.len (by decide) (show My.counts[0]? = some ((1 : Nat) : Int) from rfl)
      exact My.ln1 this
    refine ⟨_, (pss_cons (ps_set (i := 2) sc_answer_start.nd rfl (by first | exact Or.inl rfl | exact Or.inr rfl) (pe_ix ix_list (pv 1) pe_int (fun _ _ => rfl))) (pss_cons (ps_if (PW.pt (pw_or (pt_cmpR op_lt (pv 2) (pe_const rfl T.c_FEWEST_KINDS) (nomark _)) (pw_or1 (pt_cmpR op_gt (pv 2) (pe_const rfl T.c_MOST_KINDS) (nomark _))))) (pss_one (ps_ret (pe_lst (pa_cons (pe_const rfl T.c_WRONG) pa_nil)))) pss_nil) (pss_cons (ps_fld (pv 0) (pv 2) rfl) (pss_cons (ps_fld (pv 0) (pe_lst pa_nil) rfl) (pss_one (ps_ret (pe_lst (pa_cons pe_int pa_nil)))))))), ?_⟩
    try dsimp only [cxOf]
    obtain ⟨dx, hg⟩ := hA.ins
    refine ⟨_, rfl, t, _, _, _, rfl, rfl, ht, rfl, ?_⟩
    have bad : (k < 2 ∨ 4 < k) → ∀ r, H r = none → Q (.ref r) (upd H r (.lst [V.int (-22)])) := fun hb r hr => by
      refine ro_end hA (Made.one [-22] hr rfl) ?_ q
      rw [My.step_start, if_pos hb]
    refine ⟨_, rfl, _, _, rfl, rfl, _, rfl, ?_⟩
    refine ite2 (fun c1 => ?_) (fun c1 => ?_)
    · have c1' : (k : Int) < 2 := of_decide_eq_true c1
      exact ⟨(by show 1 ≤ sizeLine; decide), fun r hr => bad (.inl (by omega)) r hr⟩
    have c1' : ¬ (k : Int) < 2 := fun z => c1 (decide_eq_true z)
    refine ⟨_, rfl, _, _, rfl, rfl, _, rfl, ?_⟩
    refine ite2 (fun c2 => ?_) (fun c2 => ?_)
    · have c2' : (4 : Int) < (k : Int) := of_decide_eq_true c2
      exact ⟨(by show 1 ≤ sizeLine; decide), fun r hr => bad (.inr (by omega)) r hr⟩
    have c2' : ¬ (4 : Int) < (k : Int) := fun z => c2 (decide_eq_true z)
    have hk : ¬ (k < 2 ∨ 4 < k) := by omega
    -- garden.kinds = kinds; garden.fields = []; return [0]
    refine ⟨_, rfl, _, rfl, g, a.C_Garden, dx, _, rfl, hg, T.cl_Garden, T.no_kinds, (by show 2 < 1000; decide), ?_⟩
    refine ⟨(by show 0 ≤ sizeLine; decide), fun l2 hl2 => ?_⟩
    have n1 : l2 ≠ g := fun z => by rw [z, upd_same] at hl2; cases hl2
    have hl0 : H l2 = none := by rw [upd_ne n1] at hl2; exact hl2
    refine ⟨_, rfl, g, a.C_Garden, dx, _, rfl, (by rw [upd_ne n1.symm, upd_same]), T.cl_Garden, T.no_fields, (by show 2 < 1000; decide), ?_⟩
    refine ⟨(by show 1 ≤ sizeLine; decide), fun r hr => ?_⟩
    have n2 : r ≠ g := fun z => by rw [z, upd_same] at hr; cases hr
    have n3 : r ≠ l2 := fun z => by rw [z, upd_ne n1, upd_same] at hr; cases hr
    have hr0 : H r = none := by rw [upd_ne n2, upd_ne n3, upd_ne n2] at hr; exact hr
    rw [My.step_start, if_neg hk] at q
    refine q _ r l2 [] ⟨⟨dx, ?_⟩, ?_, List.nodup_nil, rfl, fun j c hc => (by simp at hc), My.wf_start hk, (by simp)⟩ upd_same ⟨fun b o e hb => ?_, fun b hb => ?_, hr0, ?_⟩
    · rw [upd_ne n2.symm, upd_same]
      rfl
    · rw [upd_ne n3.symm, upd_ne n1, upd_same]
      rfl
    · have b1 : b ≠ g := fun z => hb (z ▸ List.mem_cons_self)
      rw [upd_ne (ne_of_none e hr0), upd_ne b1, upd_ne (ne_of_none e hl0), upd_ne b1]
      exact e
    · rcases List.mem_cons.mp hb with z | z
      · exact .inl (z ▸ List.mem_cons_self)
      · have : b = l2 := by simpa using z
        exact .inr (this ▸ hl0)
    · simp [n2, n3]
theorem sc_change_refusal : FnScope ["garden", "f", "asked_kinds", "n"] ["garden", "f", "asked_kinds", "n"] (defScope s_change_refusal) := ⟨rfl, rfl, rfl, by decide +kernel, rfl, by decide +kernel, by decide +kernel⟩
theorem ok_change_refusal (T : Txt K mg a) : FnOk P w K mg base CX0 2 a.f_change_refusal a.d_change_refusal ["garden", "f", "asked_kinds", "n"] (spChRef K a.C_Garden) := by
  refine T.F_change_refusal.ok sc_change_refusal (fun vs H Q E h => ?_) (fun cdv A outer st H vs Q E hr h => ?_)
  · obtain ⟨g, l, t, fs, y, f, n, ts, rfl, _⟩ := h
    rfl
  · obtain ⟨g, l, t, fs, y, f, n, ts, rfl, hA, ht, h60, q⟩ := h
    refine ⟨_, (pss_cons (ps_if (pt_val (pe_call (ok_is_no_field T) (hr.mono (by decide)) rfl T.m_is_no_field T.F_is_no_field.kp T.b_is_no_field .nil pass0 (pa_cons (pv 0) (pa_cons (pv 1) pa_nil)))) (pss_one (ps_ret (pe_const rfl T.c_NO_FIELD))) pss_nil) (pss_cons (ps_if (PW.pt (pw_or (pt_val (pe_call (ok_is_no_kind T) (hr.mono (by decide)) rfl T.m_is_no_kind T.F_is_no_kind.kp T.b_is_no_kind .nil pass0 (pa_cons (pv 0) (pa_cons (pv 2) pa_nil)))) (pw_or1 (pt_cmpR op_eq (pv 3) pe_int (nomark _))))) (pss_one (ps_ret (pe_const rfl T.c_WRONG))) pss_nil) (pss_one (ps_ret pe_int)))), ?_⟩
    try dsimp only [cxOf]
    refine ⟨_, rfl, _, rfl, g, l, fs, some y, f, rfl, hA, _, rfl, ?_⟩
    unfold refuse2 at q
    refine ite2 (fun c => ?_) (fun c => ?_)
    · have c' : y.fields.length ≤ f := of_decide_eq_true c
      have e : y.fields[f]? = none := List.getElem?_eq_none c'
      rw [e] at q
      exact q H (Same.refl H)
    have c' : f < y.fields.length := Nat.lt_of_not_le fun z => c (decide_eq_true z)
    obtain ⟨x, hx⟩ : ∃ x, y.fields[f]? = some x := ⟨_, List.getElem?_eq_getElem c'⟩
    rw [hx] at q
    dsimp only at q
    refine ⟨_, rfl, _, rfl, g, l, t, fs, some y, ts, rfl, hA, ht, h60, fun H1 s1 => ⟨_, rfl, ?_⟩⟩
    refine ite2 (fun e => ?_) (fun e => ?_)
    · rw [if_pos (.inl e)] at q
      exact q H1 s1
    refine ⟨_, rfl, rfl, _, rfl, ?_⟩
    refine ite2 (fun d => ?_) (fun d => ?_)
    · have d1 : (n : Int) = 0 := V.int.inj (of_decide_eq_true d)
      rw [if_pos (.inr (by omega))] at q
      exact q H1 s1
    · have d1 : ¬ n = 0 := fun z => d (decide_eq_true (by rw [z]; rfl))
      rw [if_neg (fun z => z.elim e d1)] at q
      exact q H1 s1
end
end Pf

end
section
set_option Elab.async false
set_option linter.all false
set_option maxRecDepth 100000
set_option maxHeartbeats 4000000
namespace Pf
open PySem PySem.Spec PyProof.Rows L2
open My (wt kw anyW selfW nextW laterW NN row alike tf asInts kindsS fldsS WF WFy WFf callC stepN refuse refuse2 putX)
open Kqp1 (order place frac)
theorem ixN_nat {n j : Nat} (h : j < n) : ixN n (j : Int) = some j := by
  unfold ixN
  rw [if_pos (by omega), if_pos (by omega)]
  rfl
theorem at_set {W : List Int} {j : Nat} {v : Int} (h : j < W.length) : atI ((W.map V.int).set j (V.int v)) (j : Int) = some (V.int v) := by
  refine atI_nat ?_
  rw [List.getElem?_set_self (by rw [List.length_map]; exact h)]
theorem map_set' {W : List Int} {j : Nat} {v : Int} : (W.map V.int).set j (V.int v) = (W.set j v).map V.int := by
  rw [List.map_set]
theorem sq_ref2 {K : PySem.W.Frag} {a : Ad} {σ : L2.St} {H : Hp} {g l t : Addr} {fs : List Addr} {ts : List Nat} {k n : Nat} {u : TS} {D : Ends} {y : Kqp1.State} {f m : Nat} {ks : List Nat} {i0 i1 i2 : Int} (h0 : σ[0]? = some (some (.ref g))) (h1 : σ[1]? = some (some (.ref t))) (hm : σ[k]? = some (some (.int m))) (hn : ∀ v : Option V, (σ.set n v)[n]? = some v) (hA : At a.C_Garden H g l fs (some y)) (ht : SqL K H t ((asInts ts).map V.int))
    (hf : atI ((asInts ts).map V.int) i0 = some (V.int f)) (hk : cutV ((asInts ts).map V.int) (some i1) (some i2) = (asInts ks).map V.int) (h60 : ks.length ≤ 60) (no : refuse2 y f ks m ≠ 0 → ∀ H2 p, Made H H2 p [refuse2 y f ks m] → D.rt (.ref p) H2) (yes : refuse2 y f ks m = 0 → ∀ H2, Same H H2 → u D (σ.set n (some (.int 0))) H2) :
    tSeq (tAsg (tCall (spChRef K a.C_Garden) [] E0 (tCons (tVar 0) (tCons (tOp (rIxL K) (tVar 1) (tC (V.int i0))) (tCons (tSl (rSlL K) (tVar 1) (tPart (tC (V.int i1))) (tPart (tC (V.int i2)))) (tCons (tVar k) tNil))))) (gName n))
      (tSeq (tIfS (tTest (tOp rNe (tVar n) (tC (V.int 0)))) (tRet (tLst (tCons (tVar n) tNil))) tNext) u) D σ H := by
  refine ⟨_, h0, _, h1, t, _, _, _, rfl, rfl, ht, hf, _, h1, _, rfl, _, rfl, t, _, rfl, ht, fun p1 hp1 => ?_⟩
  rw [hk]
  have s1 : Same H (upd H p1 (.lst ((asInts ks).map V.int))) := Same.upd hp1
  exact ⟨_, hm, g, l, p1, fs, y, f, m, ks, rfl, hA.same s1, SqL.of upd_same, h60, fun H1 s2 => rf_end (Q := D.rt) (s1.trans s2) hn no yes⟩
section
variable {P : Program} {w : World} {K : PySem.W.Frag} {mg : Str → Option Value} {base : Heap} {a : Ad}
theorem sc_answer_put : FnScope ["garden", "told", "n", "refusal", "plants", "place"] ["garden", "told"] (defScope s_answer_put) := ⟨rfl, rfl, rfl, by decide +kernel, rfl, by decide +kernel, by decide +kernel⟩
theorem ok_answer_put (T : Txt K mg a) : FnOk P w K mg base CX0 3 a.f_answer_put a.d_answer_put ["garden", "told"] (spAns K a.C_Garden 2) := by
  refine T.F_answer_put.ok sc_answer_put (fun vs H Q E h => ?_) (fun cdv A outer st H vs Q E hr h => ?_)
  · obtain ⟨g, l, t, fs, s, ts, rfl, _⟩ := h
    rfl
  · obtain ⟨g, l, t, fs, s, ts, rfl, hA, ht, hT, hs, q⟩ := h
    obtain ⟨f, i, j, n, rfl⟩ : ∃ f i j n, ts = [f, i, j, n] := by
      have := hT.len (by decide) (show My.counts[2]? = some ((4 : Nat) : Int) from rfl)
      exact My.ln4 this
    obtain ⟨y, rfl⟩ : ∃ y, s = some y := by
      cases s with
      | none => exact absurd rfl (hs.resolve_left (by decide))
      | some y => exact ⟨y, rfl⟩
    refine ⟨_, (pss_cons (ps_set (i := 2) sc_answer_put.nd rfl (by first | exact Or.inl rfl | exact Or.inr rfl) (pe_ix ix_list (pv 1) pe_int (fun _ _ => rfl))) (pss_cons (ps_set (i := 3) sc_answer_put.nd rfl (by first | exact Or.inl rfl | exact Or.inr rfl) (pe_call (ok_change_refusal T) (hr.mono (by decide)) rfl T.m_change_refusal T.F_change_refusal.kp T.b_change_refusal .nil pass0 (pa_cons (pv 0) (pa_cons (pe_ix ix_list (pv 1) pe_int (fun _ _ => rfl)) (pa_cons (pe_slice sl_list (pv 1) (po_some pe_int) (po_some pe_int)) (pa_cons (pv 2) pa_nil)))))) (pss_cons (ps_if (pt_cmpR op_ne (pv 3) pe_int (nomark _)) (pss_one (ps_ret (pe_lst (pa_cons (pv 3) pa_nil)))) pss_nil) (pss_cons (ps_set (i := 4) sc_answer_put.nd rfl (by first | exact Or.inl rfl | exact Or.inr rfl) (pe_ix ix_list (pe_fld (pv 0) rfl) (pe_ix ix_list (pv 1) pe_int (fun _ _ => rfl)) (fun _ _ => rfl))) (pss_cons (ps_set (i := 5) sc_answer_put.nd rfl (by first | exact Or.inl rfl | exact Or.inr rfl) (pe_call (ok_pair_place T) (hr.mono (by decide)) rfl T.m_pair_place T.F_pair_place.kp T.b_pair_place .nil pass0 (pa_cons (pe_fld (pv 0) rfl) (pa_cons (pe_ix ix_list (pv 1) pe_int (fun _ _ => rfl)) (pa_cons (pe_ix ix_list (pv 1) pe_int (fun _ _ => rfl)) pa_nil))))) (pss_cons (ps_if (pt_cmpR op_gt (pe_op op_add (pe_ix ix_list (pv 4) (pv 5) (fun _ _ => rfl)) (pv 2)) (pe_const rfl T.c_MOST_OF_A_PAIR) (nomark _)) (pss_one (ps_ret (pe_lst (pa_cons (pe_const rfl T.c_WRONG) pa_nil)))) pss_nil) (pss_cons (ps_asg (pe_op op_add (pe_ix ix_list (pv 4) (pv 5) (fun _ _ => rfl)) (pv 2)) (pg_sub (pv 4) (pv 5) set_list)) (pss_one (ps_ret (pe_lst (pa_cons (pe_ix ix_list (pv 4) (pv 5) (fun _ _ => rfl)) pa_nil))))))))))), ?_⟩
    try dsimp only [cxOf]
    refine sq_told rfl ht rfl ?_
    refine sq_ref2 (ks := [i, j]) rfl rfl rfl (fun _ => rfl) hA ht rfl rfl (by show 2 ≤ 60; decide) (fun c H1 r m => ?_) (fun c H1 s01 => ?_)
    · exact ro_end hA m (by rw [My.step_put, if_pos c]) q
    obtain ⟨x, hx, hn0, hno, hall⟩ := My.refuse2_ok c
    have hA1 := hA.same s01
    obtain ⟨cc, hc, hcc⟩ := hA1.field (j := f) (f := x) hx
    have ht1 := s01.seq ht
    have W := hA.wf y rfl
    have X := W.at hx
    have hi : i < y.kinds := hall i (by simp)
    have hj : j < y.kinds := hall j (by simp)
    have lp : place y.kinds i j < (asInts x.pairs).length := by
      unfold asInts
      rw [List.length_map, X.len]
      exact My.place_lt W.two W.four hi hj
    have em : (asInts x.pairs).getD (place y.kinds i j) 0 = (Kqp1.many x i j : Int) := by
      rw [My.many_eq, X.kinds]
      rfl
    have hstep := My.step_put y f i j n
    rw [if_neg (by rw [c]; decide), hx] at hstep
    dsimp only at hstep
    -- plants, place
    refine sq_field T rfl rfl hA1 ht1 rfl hc ?_
    refine sq_call (ar_kinds T rfl hA1 (ar_told rfl ht1 rfl (ar_told rfl ht1 rfl (ar_nil ?_))))
    refine ⟨y.kinds, i, j, rfl, W.two, W.four, hi, hj, ?_⟩
    -- if plants[place] + n > MOST_OF_A_PAIR
    refine ⟨_, rfl, _, rfl, cc, _, _, _, rfl, rfl, SqL.of hcc, at_int lp, _, rfl, _, _, rfl, rfl, _, _, rfl, rfl, _, rfl, ?_⟩
    rw [em]
    refine ite2 (fun d => ?_) (fun d => ?_)
    · have d1 : (100 : Int) < (Kqp1.many x i j : Int) + (n : Int) := of_decide_eq_true d
      refine ⟨(by show 1 ≤ sizeLine; decide), fun r hr => ?_⟩
      refine ro_end hA ((Made.one [-22] hr rfl).before s01) ?_ q
      rw [hstep, if_pos (by omega)]
    have d1 : ¬ (100 : Int) < (Kqp1.many x i j : Int) + (n : Int) := fun z => d (decide_eq_true z)
    rw [if_neg (by omega)] at hstep
    -- plants[place] = plants[place] + n
    refine ⟨_, rfl, _, rfl, cc, _, _, _, rfl, rfl, SqL.of hcc, at_int lp, _, rfl, _, _, rfl, rfl, _, rfl, _, rfl, cc, _, _, _, rfl, rfl, hcc, ixN_nat (by rw [List.length_map]; exact lp), ?_⟩
    rw [em]
    have ev : (Kqp1.many x i j : Int) + (n : Int) = ((Kqp1.many x i j + n : Nat) : Int) := by omega
    -- return [plants[place]]
    refine ⟨_, rfl, _, rfl, cc, _, _, _, rfl, rfl, SqL.of upd_same, at_set lp, (by show 1 ≤ sizeLine; decide), fun r hr => ?_⟩
    rw [hstep] at q
    have n1 : r ≠ cc := fun z => by rw [z, upd_same] at hr; cases hr
    have hr1 : H1 r = none := by rw [upd_ne n1] at hr; exact hr
    have hr0 : H r = none := s01.free hr1
    refine q _ r l fs (hA1.put (p := place y.kinds i j) (v := Kqp1.many x i j + n) hx hc (by omega) ?_ fun b o e hb => ?_) ?_ ⟨fun b o e hb => ?_, fun b hb => .inl hb, hr0, foot_none hA hr0⟩
    · rw [upd_ne n1.symm, upd_same, My.asInts_set, ← map_set']
      show some (HO.lst ((List.map V.int (asInts x.pairs)).set _ (V.int ((Kqp1.many x i j : Int) + (n : Int))))) = _
      rw [ev]
    · rw [upd_ne (ne_of_none e hr1), upd_ne hb]
      exact e
    · rw [upd_same]
      show some (HO.lst [V.int ((Kqp1.many x i j : Int) + (n : Int))]) = _
      rw [ev]
      rfl
    · have b1 : b ≠ cc := fun z => hb (z ▸ List.mem_cons_of_mem _ (List.mem_cons_of_mem _ (List.mem_of_getElem? hc)))
      rw [upd_ne (ne_of_none e hr0), upd_ne b1]
      exact s01 _ _ e
theorem sc_answer_take : FnScope ["garden", "told", "n", "refusal", "plants", "place"] ["garden", "told"] (defScope s_answer_take) := ⟨rfl, rfl, rfl, by decide +kernel, rfl, by decide +kernel, by decide +kernel⟩
theorem ok_answer_take (T : Txt K mg a) : FnOk P w K mg base CX0 3 a.f_answer_take a.d_answer_take ["garden", "told"] (spAns K a.C_Garden 3) := by
  refine T.F_answer_take.ok sc_answer_take (fun vs H Q E h => ?_) (fun cdv A outer st H vs Q E hr h => ?_)
  · obtain ⟨g, l, t, fs, s, ts, rfl, _⟩ := h
    rfl
  · obtain ⟨g, l, t, fs, s, ts, rfl, hA, ht, hT, hs, q⟩ := h
    obtain ⟨f, i, j, n, rfl⟩ : ∃ f i j n, ts = [f, i, j, n] := by
      have := hT.len (by decide) (show My.counts[3]? = some ((4 : Nat) : Int) from rfl)
      exact My.ln4 this
    obtain ⟨y, rfl⟩ : ∃ y, s = some y := by
      cases s with
      | none => exact absurd rfl (hs.resolve_left (by decide))
      | some y => exact ⟨y, rfl⟩
    refine ⟨_, (pss_cons (ps_set (i := 2) sc_answer_take.nd rfl (by first | exact Or.inl rfl | exact Or.inr rfl) (pe_ix ix_list (pv 1) pe_int (fun _ _ => rfl))) (pss_cons (ps_set (i := 3) sc_answer_take.nd rfl (by first | exact Or.inl rfl | exact Or.inr rfl) (pe_call (ok_change_refusal T) (hr.mono (by decide)) rfl T.m_change_refusal T.F_change_refusal.kp T.b_change_refusal .nil pass0 (pa_cons (pv 0) (pa_cons (pe_ix ix_list (pv 1) pe_int (fun _ _ => rfl)) (pa_cons (pe_slice sl_list (pv 1) (po_some pe_int) (po_some pe_int)) (pa_cons (pv 2) pa_nil)))))) (pss_cons (ps_if (pt_cmpR op_ne (pv 3) pe_int (nomark _)) (pss_one (ps_ret (pe_lst (pa_cons (pv 3) pa_nil)))) pss_nil) (pss_cons (ps_set (i := 4) sc_answer_take.nd rfl (by first | exact Or.inl rfl | exact Or.inr rfl) (pe_ix ix_list (pe_fld (pv 0) rfl) (pe_ix ix_list (pv 1) pe_int (fun _ _ => rfl)) (fun _ _ => rfl))) (pss_cons (ps_set (i := 5) sc_answer_take.nd rfl (by first | exact Or.inl rfl | exact Or.inr rfl) (pe_call (ok_pair_place T) (hr.mono (by decide)) rfl T.m_pair_place T.F_pair_place.kp T.b_pair_place .nil pass0 (pa_cons (pe_fld (pv 0) rfl) (pa_cons (pe_ix ix_list (pv 1) pe_int (fun _ _ => rfl)) (pa_cons (pe_ix ix_list (pv 1) pe_int (fun _ _ => rfl)) pa_nil))))) (pss_cons (ps_if (pt_cmpR op_lt (pe_ix ix_list (pv 4) (pv 5) (fun _ _ => rfl)) (pv 2) (nomark _)) (pss_one (ps_ret (pe_lst (pa_cons (pe_const rfl T.c_TOO_FEW) pa_nil)))) pss_nil) (pss_cons (ps_asg (pe_op op_sub (pe_ix ix_list (pv 4) (pv 5) (fun _ _ => rfl)) (pv 2)) (pg_sub (pv 4) (pv 5) set_list)) (pss_one (ps_ret (pe_lst (pa_cons (pe_ix ix_list (pv 4) (pv 5) (fun _ _ => rfl)) pa_nil))))))))))), ?_⟩
    try dsimp only [cxOf]
    refine sq_told rfl ht rfl ?_
    refine sq_ref2 (ks := [i, j]) rfl rfl rfl (fun _ => rfl) hA ht rfl rfl (by show 2 ≤ 60; decide) (fun c H1 r m => ?_) (fun c H1 s01 => ?_)
    · exact ro_end hA m (by rw [My.step_take, if_pos c]) q
    obtain ⟨x, hx, hn0, hno, hall⟩ := My.refuse2_ok c
    have hA1 := hA.same s01
    obtain ⟨cc, hc, hcc⟩ := hA1.field (j := f) (f := x) hx
    have ht1 := s01.seq ht
    have W := hA.wf y rfl
    have X := W.at hx
    have hi : i < y.kinds := hall i (by simp)
    have hj : j < y.kinds := hall j (by simp)
    have lp : place y.kinds i j < (asInts x.pairs).length := by
      unfold asInts
      rw [List.length_map, X.len]
      exact My.place_lt W.two W.four hi hj
    have em : (asInts x.pairs).getD (place y.kinds i j) 0 = (Kqp1.many x i j : Int) := by
      rw [My.many_eq, X.kinds]
      rfl
    have h100 : Kqp1.many x i j ≤ 100 := by
      have e2 := em
      rw [My.ints_getD] at e2
      have : x.pairs.getD (place y.kinds i j) 0 ≤ 100 := by
        rw [List.getD_eq_getElem?_getD]
        cases e3 : x.pairs[place y.kinds i j]? with
        | none => exact Nat.zero_le _
        | some v => exact X.top v (List.mem_of_getElem? e3)
      omega
    have hstep := My.step_take y f i j n
    rw [if_neg (by rw [c]; decide), hx] at hstep
    dsimp only at hstep
    refine sq_field T rfl rfl hA1 ht1 rfl hc ?_
    refine sq_call (ar_kinds T rfl hA1 (ar_told rfl ht1 rfl (ar_told rfl ht1 rfl (ar_nil ?_))))
    refine ⟨y.kinds, i, j, rfl, W.two, W.four, hi, hj, ?_⟩
    refine ⟨_, rfl, _, rfl, cc, _, _, _, rfl, rfl, SqL.of hcc, at_int lp, _, rfl, _, _, rfl, rfl, _, rfl, ?_⟩
    rw [em]
    refine ite2 (fun d => ?_) (fun d => ?_)
    · have d1 : (Kqp1.many x i j : Int) < (n : Int) := of_decide_eq_true d
      refine ⟨(by show 1 ≤ sizeLine; decide), fun r hr => ?_⟩
      refine ro_end hA ((Made.one [-12] hr rfl).before s01) ?_ q
      rw [hstep, if_pos (by omega)]
    have d1 : ¬ (Kqp1.many x i j : Int) < (n : Int) := fun z => d (decide_eq_true z)
    rw [if_neg (by omega)] at hstep
    refine ⟨_, rfl, _, rfl, cc, _, _, _, rfl, rfl, SqL.of hcc, at_int lp, _, rfl, _, _, rfl, rfl, _, rfl, _, rfl, cc, _, _, _, rfl, rfl, hcc, ixN_nat (by rw [List.length_map]; exact lp), ?_⟩
    rw [em]
    have ev : (Kqp1.many x i j : Int) - (n : Int) = ((Kqp1.many x i j - n : Nat) : Int) := by omega
    refine ⟨_, rfl, _, rfl, cc, _, _, _, rfl, rfl, SqL.of upd_same, at_set lp, (by show 1 ≤ sizeLine; decide), fun r hr => ?_⟩
    rw [hstep] at q
    have n1 : r ≠ cc := fun z => by rw [z, upd_same] at hr; cases hr
    have hr1 : H1 r = none := by rw [upd_ne n1] at hr; exact hr
    have hr0 : H r = none := s01.free hr1
    refine q _ r l fs (hA1.put (p := place y.kinds i j) (v := Kqp1.many x i j - n) hx hc (by omega) ?_ fun b o e hb => ?_) ?_ ⟨fun b o e hb => ?_, fun b hb => .inl hb, hr0, foot_none hA hr0⟩
    · rw [upd_ne n1.symm, upd_same, My.asInts_set, ← map_set']
      show some (HO.lst ((List.map V.int (asInts x.pairs)).set _ (V.int ((Kqp1.many x i j : Int) - (n : Int))))) = _
      rw [ev]
    · rw [upd_ne (ne_of_none e hr1), upd_ne hb]
      exact e
    · rw [upd_same]
      show some (HO.lst [V.int ((Kqp1.many x i j : Int) - (n : Int))]) = _
      rw [ev]
      rfl
    · have b1 : b ≠ cc := fun z => hb (z ▸ List.mem_cons_of_mem _ (List.mem_cons_of_mem _ (List.mem_of_getElem? hc)))
      rw [upd_ne (ne_of_none e hr0), upd_ne b1]
      exact s01 _ _ e
end
end Pf

end
section
set_option Elab.async false
set_option linter.all false
set_option maxRecDepth 100000
set_option maxHeartbeats 4000000
namespace Pf
open PySem PySem.Spec PyProof.Rows L2
open My (wt kw anyW selfW nextW laterW NN row alike tf asInts kindsS fldsS WF WFy WFf callC stepN refuse refuse2 putX)
open Kqp1 (order place frac)
noncomputable def spBegin (K : PySem.W.Frag) : Sp := fun vs H Q _ => ∃ (c : Addr) (L : List Int) (n : Nat), vs = [.ref c, .int n] ∧ SqL K H c (L.map V.int) ∧ n < L.length ∧ Q (.int (if L.getD n 0 = 1 then (n : Int) + 2 else (n : Int) + 1)) H
noncomputable def spTold (K : PySem.W.Frag) : Sp := fun vs H Q _ => ∃ (c : Addr) (L : List Int) (n p : Nat), vs = [.ref c, .int n] ∧ SqL K H c (L.map V.int) ∧ n < L.length ∧ L.getD n 0 = (p : Int) ∧ p < 20 ∧ (p = 1 → n + 1 < L.length) ∧ Q (.int (if p = 1 then L.getD (n + 1) 0 else My.counts.getD p 0)) H
/-- a new field -/
theorem At.more {C : Addr} {H H' : Hp} {g l u : Addr} {fs : List Addr} {y : Kqp1.State} {ts : List Nat} (h : At C H g l fs (some y)) (hw : WFy { y with fields := y.fields ++ [⟨y.kinds, ts⟩] }) (hu : H u = none)
    (e : H' u = some (.lst ((asInts ts).map V.int))) (el : H' l = some (.lst (fs.map V.ref ++ [V.ref u]))) (kp : ∀ b o, H b = some o → b ≠ l → H' b = some o) : At C H' g l (fs ++ [u]) (some { y with fields := y.fields ++ [⟨y.kinds, ts⟩] }) := by
  obtain ⟨dx, hg⟩ := h.ins
  have ngl : g ≠ l := ne_of hg h.lst (by intro z; cases z)
  have nu := foot_none h hu
  refine ⟨⟨dx, kp _ _ hg ngl⟩, by rw [el, List.map_append]; rfl, ?_, ?_, fun j b hb => ?_, fun y' ey => by cases ey; exact hw, ?_⟩
  · exact nd_snoc h.nd fun z => nu (List.mem_cons_of_mem _ (List.mem_cons_of_mem _ z))
  · show (fs ++ [u]).length = (y.fields ++ [_]).length
    rw [List.length_append, List.length_append]
    have : fs.length = y.fields.length := h.len
    simp [this]
  · show ∃ f', (y.fields ++ [⟨y.kinds, ts⟩])[j]? = some f' ∧ _
    have hl : fs.length = y.fields.length := h.len
    rcases Nat.lt_or_ge j fs.length with hj | hj
    · rw [List.getElem?_append_left hj] at hb
      obtain ⟨f', h1, h2⟩ := h.at_ j b hb
      have nb : b ≠ l := fun z => h.ln (z ▸ List.mem_of_getElem? hb)
      exact ⟨f', by rw [List.getElem?_append_left (by omega)]; exact h1, kp _ _ h2 nb⟩
    · rw [List.getElem?_append_right hj] at hb
      have e0 : j - fs.length = 0 := by
        have := (List.getElem?_eq_some_iff.mp hb).1
        simp at this
        omega
      rw [e0] at hb
      have : u = b := Option.some.inj hb
      subst this
      refine ⟨⟨y.kinds, ts⟩, ?_, e⟩
      rw [List.getElem?_append_right (by omega), show j - y.fields.length = 0 by omega]
      rfl
  · intro z
    rcases List.mem_append.mp z with z | z
    · exact h.ln z
    · have : l = u := by simpa using z
      rw [← this, h.lst] at hu
      cases hu
section
variable {P : Program} {w : World} {K : PySem.W.Frag} {mg : Str → Option Value} {base : Heap} {a : Ad}
theorem sc_answer_field : FnScope ["garden", "told"] ["garden", "told"] (defScope s_answer_field) := ⟨rfl, rfl, rfl, by decide +kernel, rfl, by decide +kernel, by decide +kernel⟩
theorem ok_answer_field (T : Txt K mg a) : FnOk P w K mg base CX0 2 a.f_answer_field a.d_answer_field ["garden", "told"] (spAns K a.C_Garden 1) := by
  refine T.F_answer_field.ok sc_answer_field (fun vs H Q E h => ?_) (fun cdv A outer st H vs Q E hr h => ?_)
  · obtain ⟨g, l, t, fs, s, ts, rfl, _⟩ := h
    rfl
  · obtain ⟨g, l, t, fs, s, ts, rfl, hA, ht, hT, hs, q⟩ := h
    obtain ⟨y, rfl⟩ : ∃ y, s = some y := by
      cases s with
      | none => exact absurd rfl (hs.resolve_left (by decide))
      | some y => exact ⟨y, rfl⟩
    refine ⟨_, (pss_cons (ps_if (PW.pt (pw_or (pt_cmpR op_ne (pe_callB call_len_seq (by rfl) T.n_len PySem.boot_len (pa_cons (pv 1) pa_nil)) (pe_call (ok_pair_count T) (hr.mono (by decide)) rfl T.m_pair_count T.F_pair_count.kp T.b_pair_count .nil pass0 (pa_cons (pe_fld (pv 0) rfl) pa_nil)) (nomark _)) (pw_or1 (pt_cmpR op_gt (pe_callB (cr_max rfl) (by rfl) T.n_max PyProof.Rows.boot_max (pa_cons (pv 1) pa_nil)) (pe_const rfl T.c_MOST_OF_A_PAIR) (nomark _))))) (pss_one (ps_ret (pe_lst (pa_cons (pe_const rfl T.c_WRONG) pa_nil)))) pss_nil) (pss_cons (ps_if (pt_cmpR op_eq (pe_callB call_len_seq (by rfl) T.n_len PySem.boot_len (pa_cons (pe_fld (pv 0) rfl) pa_nil)) (pe_const rfl T.c_MOST_FIELDS) (nomark _)) (pss_one (ps_ret (pe_lst (pa_cons (pe_const rfl T.c_FULL) pa_nil)))) pss_nil) (pss_cons (ps_expr (pe_bm PySem.F.plainAttrs_list PySem.F.slot_list_append PySem.F.type_list_append mt_append (pe_fld (pv 0) rfl) (pa_cons (pe_callTy call_list_of (by rfl) T.n_list PyProof.Rows.boot_list (pa_cons (pv 1) pa_nil)) pa_nil))) (pss_one (ps_ret (pe_lst (pa_cons (pe_op op_sub (pe_callB call_len_seq (by rfl) T.n_len PySem.boot_len (pa_cons (pe_fld (pv 0) rfl) pa_nil)) pe_int) pa_nil))))))), ?_⟩
    try dsimp only [cxOf]
    obtain ⟨dx, hg⟩ := hA.ins
    have W := hA.wf y rfl
    have el : ((asInts ts).map V.int).length = ts.length := by
      unfold asInts
      rw [List.length_map, List.length_map]
    have bad : (ts.length ≠ (order y.kinds).length ∨ ts.any (fun n => decide (100 < n)) = true) → ∀ r, H r = none → Q (.ref r) (upd H r (.lst [V.int (-22)])) := fun hb r hr => by
      refine ro_end hA (Made.one [-22] hr rfl) ?_ q
      rw [My.step_field, if_pos hb]
    refine ⟨_, rfl, t, _, rfl, .inl ht, _, rfl, g, a.C_Garden, dx, _, _, rfl, hg, T.cl_Garden, T.no_kinds, gf_kinds _ _, y.kinds, rfl, W.two, W.four, rfl, _, rfl, ?_⟩
    rw [el]
    refine ite2 (fun c1 => ?_) (fun c1 => ?_)
    · have c1' : ts.length ≠ (order y.kinds).length := fun z => by
        rw [z] at c1
        simp at c1
      exact ⟨(by show 1 ≤ sizeLine; decide), fun r hr => bad (.inl c1') r hr⟩
    have c1' : ts.length = (order y.kinds).length := by
      rcases Nat.decEq ts.length (order y.kinds).length with z | z
      · exfalso
        refine c1 ?_
        rw [Bool.not_eq_true', decide_eq_false_iff_not]
        intro e
        have := V.int.inj e
        omega
      · exact z
    have hlen3 : 3 ≤ (order y.kinds).length := by
      rcases My.kcases W.two W.four with e | e | e <;> rw [e] <;> decide
    have el2 : (asInts ts).length = ts.length := by
      unfold asInts
      rw [List.length_map]
    refine ⟨_, rfl, t, asInts ts, rfl, ht, by omega, fun m hm hle => ?_⟩
    refine ⟨_, _, rfl, rfl, _, rfl, ?_⟩
    refine ite2 (fun c2 => ?_) (fun c2 => ?_)
    · have c2' : (100 : Int) < m := of_decide_eq_true c2
      obtain ⟨n, hn, en⟩ := List.mem_map.mp hm
      refine ⟨(by show 1 ≤ sizeLine; decide), fun r hr => bad (.inr (List.any_eq_true.mpr ⟨n, hn, decide_eq_true ?_⟩)) r hr⟩
      omega
    have c2' : ¬ (100 : Int) < m := fun z => c2 (decide_eq_true z)
    have htop : ∀ n ∈ ts, n ≤ 100 := fun n hn => by
      have := hle (n : Int) (List.mem_map.mpr ⟨n, hn, rfl⟩)
      omega
    have hgood : ¬ (ts.length ≠ (order y.kinds).length ∨ ts.any (fun n => decide (100 < n)) = true) := by
      rintro (z | z)
      · exact z c1'
      · obtain ⟨n, hn, hn2⟩ := List.any_eq_true.mp z
        have := of_decide_eq_true hn2
        have := htop n hn
        omega
    have hlf : fs.length = y.fields.length := hA.len
    have hstep := My.step_field y ts
    rw [if_neg hgood] at hstep
    -- if len(garden.fields) == MOST_FIELDS
    refine ⟨_, rfl, g, a.C_Garden, dx, _, _, rfl, hg, T.cl_Garden, T.no_fields, gf_fields _ _, l, _, rfl, .inl (SqL.of hA.lst), rfl, _, rfl, ?_⟩
    rw [List.length_map, hlf]
    refine ite2 (fun c3 => ?_) (fun c3 => ?_)
    · have c3' : (y.fields.length : Int) = 6 := V.int.inj (of_decide_eq_true c3)
      refine ⟨(by show 1 ≤ sizeLine; decide), fun r hr => ?_⟩
      refine ro_end hA (Made.one [-28] hr rfl) ?_ q
      rw [hstep, if_pos (by omega)]
    have c3' : ¬ (y.fields.length : Int) = 6 := fun z => c3 (decide_eq_true (by rw [z]))
    have h6 : y.fields.length < 6 := by have := W.six; omega
    rw [if_neg (by omega)] at hstep
    -- garden.fields.append(list(told))
    refine ⟨_, rfl, g, a.C_Garden, dx, _, _, rfl, hg, T.cl_Garden, T.no_fields, gf_fields _ _, .inl ⟨rfl, _, SqL.of hA.lst⟩, _, rfl, t, _, rfl, .inl ht, fun u hu => ?_⟩
    have nlu : l ≠ u := ne_of_none hA.lst hu
    have ngu : g ≠ u := ne_of_none hg hu
    have ngl : g ≠ l := ne_of hg hA.lst (by intro z; cases z)
    refine ⟨l, _, _, rfl, rfl, (by rw [upd_ne nlu]; exact hA.lst), small1000 (by rw [List.length_map]; omega), ?_⟩
    -- return [len(garden.fields) - 1]
    refine ⟨_, rfl, g, a.C_Garden, dx, _, _, rfl, (by rw [upd_ne ngl, upd_ne ngu]; exact hg), T.cl_Garden, T.no_fields, gf_fields _ _, l, _, rfl, .inl (SqL.of upd_same), _, _, rfl, rfl, (by show 1 ≤ sizeLine; decide), fun r hr => ?_⟩
    rw [hstep] at q
    have n1 : r ≠ l := fun z => by rw [z, upd_same] at hr; cases hr
    have n2 : r ≠ u := fun z => by rw [z, upd_ne nlu.symm, upd_same] at hr; cases hr
    have hr0 : H r = none := by rw [upd_ne n1, upd_ne n2] at hr; exact hr
    refine q _ r l (fs ++ [u]) (hA.more (u := u) (My.wf_field W c1' htop h6) hu ?_ ?_ fun b o e hb => ?_) ?_ ⟨fun b o e hb => ?_, fun b hb => ?_, hr0, ?_⟩
    · rw [upd_ne n2.symm, upd_ne nlu.symm, upd_same]
    · rw [upd_ne n1.symm, upd_same]
    · rw [upd_ne (ne_of_none e hr0), upd_ne hb, upd_ne (ne_of_none e hu)]
      exact e
    · rw [upd_same]
      show some (HO.lst [V.int (((List.map V.ref fs ++ [V.ref u]).length : Int) - 1)]) = some (HO.lst [V.int (y.fields.length : Int)])
      rw [List.length_append, List.length_map, hlf]
      congr 4
      simp
    · have b1 : b ≠ l := fun z => hb (z ▸ List.mem_cons_of_mem _ List.mem_cons_self)
      rw [upd_ne (ne_of_none e hr0), upd_ne b1, upd_ne (ne_of_none e hu)]
      exact e
    · rcases List.mem_cons.mp hb with z | z
      · exact .inl (z ▸ List.mem_cons_self)
      rcases List.mem_cons.mp z with z | z
      · exact .inl (z ▸ List.mem_cons_of_mem _ List.mem_cons_self)
      rcases List.mem_append.mp z with z | z
      · exact .inl (List.mem_cons_of_mem _ (List.mem_cons_of_mem _ z))
      · have : b = u := by simpa using z
        exact .inr (this ▸ hu)
    · have := foot_none hA hr0
      intro z
      rcases List.mem_cons.mp z with z | z
      · exact this (z ▸ List.mem_cons_self)
      rcases List.mem_cons.mp z with z | z
      · exact n1 z
      rcases List.mem_append.mp z with z | z
      · exact this (List.mem_cons_of_mem _ (List.mem_cons_of_mem _ z))
      · exact n2 (by simpa using z)
theorem sc_told_begin : FnScope ["calls", "place"] ["calls", "place"] (defScope s_told_begin) := ⟨rfl, rfl, rfl, by decide +kernel, rfl, by decide +kernel, by decide +kernel⟩
theorem ok_told_begin (T : Txt K mg a) : FnOk P w K mg base CX0 1 a.f_told_begin a.d_told_begin ["calls", "place"] (spBegin K) := by
  refine T.F_told_begin.ok sc_told_begin (fun vs H Q E h => ?_) (fun cdv A outer st H vs Q E hr h => ?_)
  · obtain ⟨c, L, n, rfl, _⟩ := h
    rfl
  · obtain ⟨c, L, n, rfl, hL, hn, q⟩ := h
    refine ⟨_, (pss_cons (ps_if (pt_cmpR op_eq (pe_ix ix_list (pv 0) (pv 1) (fun _ _ => rfl)) (pe_const rfl T.c_FIELD) (nomark _)) (pss_one (ps_ret (pe_op op_add (pv 1) pe_int))) pss_nil) (pss_one (ps_ret (pe_op op_add (pv 1) pe_int)))), ?_⟩
    try dsimp only [cxOf]
    refine ⟨_, rfl, _, rfl, c, _, _, _, rfl, rfl, hL, at_int hn, rfl, _, rfl, ?_⟩
    refine ite2 (fun d => ?_) (fun d => ?_)
    · have d1 : L.getD n 0 = 1 := V.int.inj (of_decide_eq_true d)
      rw [if_pos d1] at q
      exact ⟨_, rfl, _, _, rfl, rfl, q⟩
    · have d1 : ¬ L.getD n 0 = 1 := fun z => d (decide_eq_true (by rw [z]))
      rw [if_neg d1] at q
      exact ⟨_, rfl, _, _, rfl, rfl, q⟩
theorem sc_told_count : FnScope ["calls", "place"] ["calls", "place"] (defScope s_told_count) := ⟨rfl, rfl, rfl, by decide +kernel, rfl, by decide +kernel, by decide +kernel⟩
theorem ok_told_count (T : Txt K mg a) : FnOk P w K mg base CX0 1 a.f_told_count a.d_told_count ["calls", "place"] (spTold K) := by
  refine T.F_told_count.ok sc_told_count (fun vs H Q E h => ?_) (fun cdv A outer st H vs Q E hr h => ?_)
  · obtain ⟨c, L, n, p, rfl, _⟩ := h
    rfl
  · obtain ⟨c, L, n, p, rfl, hL, hn, hp, h20, h1, q⟩ := h
    refine ⟨_, (pss_cons (ps_if (pt_cmpR op_eq (pe_ix ix_list (pv 0) (pv 1) (fun _ _ => rfl)) (pe_const rfl T.c_FIELD) (nomark _)) (pss_one (ps_ret (pe_ix ix_list (pv 0) (pe_op op_add (pv 1) pe_int) (fun _ _ => rfl)))) pss_nil) (pss_one (ps_ret (pe_ix ix_tup (pe_glob (v := V.ref a.t_TOLD_COUNTS) rfl T.t_TOLD_COUNTS rfl) (pe_ix ix_list (pv 0) (pv 1) (fun _ _ => rfl)) (fun _ _ => rfl))))), ?_⟩
    try dsimp only [cxOf]
    refine ⟨_, rfl, _, rfl, c, _, _, _, rfl, rfl, hL, at_int hn, rfl, _, rfl, ?_⟩
    rw [hp]
    refine ite2 (fun d => ?_) (fun d => ?_)
    · have d1 : (p : Int) = 1 := V.int.inj (of_decide_eq_true d)
      have d2 : p = 1 := by omega
      rw [if_pos d2] at q
      have e : (n : Int) + 1 = ((n + 1 : Nat) : Int) := by omega
      refine ⟨_, rfl, _, rfl, _, _, rfl, rfl, c, _, _, _, rfl, rfl, hL, ?_, q⟩
      rw [e]
      exact at_int (h1 d2)
    · have d1 : ¬ (p : Int) = 1 := fun z => d (decide_eq_true (by rw [z]))
      rw [if_neg (by omega)] at q
      refine ⟨_, rfl, _, rfl, c, _, _, _, rfl, rfl, hL, at_int hn, ?_⟩
      rw [hp]
      exact ⟨a.t_TOLD_COUNTS, _, _, _, rfl, rfl, T.q_TOLD_COUNTS _, at_int (W := My.counts) h20, q⟩
end
end Pf

end
section
set_option Elab.async false
set_option linter.all false
set_option maxRecDepth 100000
set_option maxHeartbeats 4000000
namespace Pf
open PySem PySem.Spec PyProof.Rows L2
open My (wt kw anyW selfW nextW laterW NN row alike tf asInts kindsS fldsS WF WFy WFf callC stepN refuse refuse2 refuseL putX crossW togW restL restW soonW)
open Kqp1 (order place frac)
theorem order_ten {k : Nat} (h2 : 2 ≤ k) (h4 : k ≤ 4) : (order k).length ≤ 10 := by rcases My.kcases h2 h4 with rfl | rfl | rfl <;> decide
theorem cross_nums {k : Nat} {W V : List Int} (h2 : 2 ≤ k) (h4 : k ≤ 4) (lW : W.length = (order k).length) (lV : V.length = (order k).length) (pW : 0 < W.sum) (pV : 0 < V.sum) (tW : W.sum ≤ 1000) (tV : V.sum ≤ 1000) : 0 < (crossW k W V).sum ∧ (crossW k W V).sum ≤ 4000000 := by
  rw [My.cross_sum h2 h4 W V lW lV]
  refine ⟨Int.mul_pos (by omega) pV, ?_⟩
  have : 4 * W.sum * V.sum ≤ 4 * W.sum * 1000 := Int.mul_le_mul_of_nonneg_left tV (by omega)
  omega
theorem any_small {k : Nat} {W : List Int} (h2 : 2 ≤ k) (h4 : k ≤ 4) (lW : W.length = (order k).length) (pW : 0 < W.sum) (tW : W.sum ≤ 4000000) : (anyW k W).sum < 2 ^ 100 := by
  rw [My.any_sum h2 h4 W lW]
  have : 4 * W.sum * W.sum ≤ 4 * W.sum * 4000000 := Int.mul_le_mul_of_nonneg_left tW (by omega)
  omega
theorem lack_nums {k : Nat} {W : List Int} (h2 : 2 ≤ k) (h4 : k ≤ 4) (lW : W.length = (order k).length) (nW : NN W) (pW : 0 < W.sum) (tW : W.sum ≤ 1000) :
    (frac (W.sum - alike k W) W.sum.toNat).num.natAbs < 2 ^ 250 ∧ ((frac (W.sum - alike k W) W.sum.toNat).den : Int).natAbs < 2 ^ 250 ∧ (frac ((anyW k W).sum - alike k (anyW k W)) (anyW k W).sum.toNat).num.natAbs < 2 ^ 250 ∧ ((frac ((anyW k W).sum - alike k (anyW k W)) (anyW k W).sum.toNat).den : Int).natAbs < 2 ^ 250 ∧
    (¬ (frac ((anyW k W).sum - alike k (anyW k W)) (anyW k W).sum.toNat).num = 0 →
      0 < (frac ((anyW k W).sum - alike k (anyW k W)) (anyW k W).sum.toNat).num * ((frac (W.sum - alike k W) W.sum.toNat).den : Int) ∧ (frac ((anyW k W).sum - alike k (anyW k W)) (anyW k W).sum.toNat).num * ((frac (W.sum - alike k W) W.sum.toNat).den : Int) < 2 ^ 249 ∧
      Kqp1.sub ⟨1, 1⟩ (Kqp1.div (frac (W.sum - alike k W) W.sum.toNat) (frac ((anyW k W).sum - alike k (anyW k W)) (anyW k W).sum.toNat)) = frac ((frac ((anyW k W).sum - alike k (anyW k W)) (anyW k W).sum.toNat).num * ((frac (W.sum - alike k W) W.sum.toNat).den : Int) - (frac (W.sum - alike k W) W.sum.toNat).num * ((frac ((anyW k W).sum - alike k (anyW k W)) (anyW k W).sum.toNat).den : Int)) ((frac ((anyW k W).sum - alike k (anyW k W)) (anyW k W).sum.toNat).num * ((frac (W.sum - alike k W) W.sum.toNat).den : Int)).toNat) := by
  have hmn := My.mixed_nn h2 h4 lW nW
  have han := My.alike_nn k nW
  have hEn := My.mixed_nn h2 h4 (My.any_len k W) (nW.any (k := k))
  have haE := My.alike_nn k (nW.any (k := k))
  have pA := My.any_pos h2 h4 lW pW
  have qA := any_small h2 h4 lW pW (Int.le_trans tW (by decide))
  have hT : 0 < W.sum.toNat := by omega
  have hS : 0 < (anyW k W).sum.toNat := by omega
  obtain ⟨m0, m1, m2⟩ := My.frac_small hmn hT
  obtain ⟨e0, e1, e2⟩ := My.frac_small hEn hS
  have dM := My.den_pos (W.sum - alike k W) hT
  have lk := My.lack_num (W.sum - alike k W) ((anyW k W).sum - alike k (anyW k W)) hT hS
  generalize frac (W.sum - alike k W) W.sum.toNat = M at *
  generalize frac ((anyW k W).sum - alike k (anyW k W)) (anyW k W).sum.toNat = X at *
  refine ⟨by omega, by omega, by omega, by omega, fun c => ⟨Int.mul_pos (by omega) (by omega), ?_, lk (by omega)⟩⟩
  have : X.num * (M.den : Int) ≤ X.num * 1000 := Int.mul_le_mul_of_nonneg_left (by omega) e0
  omega
section
variable {P : Program} {w : World} {K : PySem.W.Frag} {mg : Str → Option Value} {base : Heap} {a : Ad}
theorem sc_answer_lack : FnScope ["garden", "told", "refusal", "plants", "expected"] ["garden", "told"] (defScope s_answer_lack) := ⟨rfl, rfl, rfl, by decide +kernel, rfl, by decide +kernel, by decide +kernel⟩
theorem ok_answer_lack (T : Txt K mg a) : FnOk P w K mg base CX0 6 a.f_answer_lack a.d_answer_lack ["garden", "told"] (spAns K a.C_Garden 10) := by
  refine T.F_answer_lack.ok sc_answer_lack (fun vs H Q E h => ?_) (fun cdv A outer st H vs Q E hr h => ?_)
  · obtain ⟨g, l, t, fs, s, ts, rfl, _⟩ := h
    rfl
  · obtain ⟨g, l, t, fs, s, ts, rfl, hA, ht, hT, hs, q⟩ := h
    obtain ⟨f, rfl⟩ : ∃ f, ts = [f] := My.ln1 (hT.len (by decide) (show My.counts[10]? = some ((1 : Nat) : Int) from rfl))
    obtain ⟨y, rfl⟩ : ∃ y, s = some y := by
      cases s with
      | none => exact absurd rfl (hs.resolve_left (by decide))
      | some y => exact ⟨y, rfl⟩
    refine ⟨_, (pss_cons (ps_set (i := 2) sc_answer_lack.nd rfl (by first | exact Or.inl rfl | exact Or.inr rfl) (pe_call (ok_shares_refusal T) (hr.mono (by decide)) rfl T.m_shares_refusal T.F_shares_refusal.kp T.b_shares_refusal .nil pass0 (pa_cons (pv 0) (pa_cons (pe_slice sl_list (pv 1) po_none (po_some pe_int)) (pa_cons (pe_lst pa_nil) pa_nil))))) (pss_cons (ps_if (pt_cmpR op_ne (pv 2) pe_int (nomark _)) (pss_one (ps_ret (pe_lst (pa_cons (pv 2) pa_nil)))) pss_nil) (pss_cons (ps_set (i := 3) sc_answer_lack.nd rfl (by first | exact Or.inl rfl | exact Or.inr rfl) (pe_ix ix_list (pe_fld (pv 0) rfl) (pe_ix ix_list (pv 1) pe_int (fun _ _ => rfl)) (fun _ _ => rfl))) (pss_cons (ps_set (i := 4) sc_answer_lack.nd rfl (by first | exact Or.inl rfl | exact Or.inr rfl) (pe_call (ok_share_expected T) (hr.mono (by decide)) rfl T.m_share_expected T.F_share_expected.kp T.b_share_expected .nil pass0 (pa_cons (pe_fld (pv 0) rfl) (pa_cons (pv 3) pa_nil)))) (pss_cons (ps_if (pt_cmpR op_eq (pe_ix ix_list (pv 4) pe_int (fun _ _ => rfl)) pe_int (nomark _)) (pss_one (ps_ret (pe_lst (pa_cons (pe_const rfl T.c_NO_ANSWER) pa_nil)))) pss_nil) (pss_one (ps_ret (pe_op op_cat (pe_lst (pa_cons pe_int pa_nil)) (pe_call (ok_lack_of_mixed T) (hr.mono (by decide)) rfl T.m_lack_of_mixed T.F_lack_of_mixed.kp T.b_lack_of_mixed .nil pass0 (pa_cons (pe_call (ok_share_mixed T) (hr.mono (by decide)) rfl T.m_share_mixed T.F_share_mixed.kp T.b_share_mixed .nil pass0 (pa_cons (pe_fld (pv 0) rfl) (pa_cons (pv 3) pa_nil))) (pa_cons (pv 4) pa_nil))))))))))), ?_⟩
    try dsimp only [cxOf]
    refine sq_ref0 (us := [f]) rfl rfl (fun _ => rfl) hA ht rfl (fun c H1 r m => ?_) (fun c H1 s01 => ?_)
    · exact ro_end hA m (by rw [My.step_lack, My.refuse_tell (asked := []) c _ _ rfl]; rfl) q
    obtain ⟨x, hx, h0, hno, hall⟩ := My.refuse_ok (show refuse y f [] = 0 from c)
    have hA1 := hA.same s01
    obtain ⟨cc, hF⟩ := hA1.fld (K := K) hx h0
    have ht1 := s01.seq ht
    refine sq_field T rfl rfl hA1 ht1 rfl hF.at_ ?_
    refine sq_call (ar_kinds T rfl hA1 (ar_var rfl (ar_nil ?_)))
    refine ⟨y.kinds, cc, _, rfl, hF.wts, (NN.asInts x.pairs), hF.p0, (Int.lt_of_le_of_lt hF.top (by decide)), fun H2 e mE => ?_⟩
    have nt := lack_nums hF.wts.two hF.wts.four hF.wts.len (NN.asInts x.pairs) hF.p0 hF.top
    have eM := My.mixed_num hF.wts.two hF.wts.four hF.wf h0
    have eE := My.expected_num hF.wts.two hF.wts.four hF.wf h0
    generalize eM' : frac ((asInts x.pairs).sum - alike y.kinds (asInts x.pairs)) (asInts x.pairs).sum.toNat = M at *
    generalize eX' : frac ((anyW y.kinds (asInts x.pairs)).sum - alike y.kinds (anyW y.kinds (asInts x.pairs))) (anyW y.kinds (asInts x.pairs)).sum.toNat = X at *
    obtain ⟨b1, b2, b3, b4, nt⟩ := nt
    refine ⟨_, rfl, e, _, _, _, rfl, rfl, mE.sq, rfl, rfl, _, rfl, ?_⟩
    refine ite2 (fun c1 => ?_) (fun c1 => ?_)
    · refine ⟨(by show 1 ≤ sizeLine; decide), fun r hr => ro_end hA ((Made.one [-33] hr rfl).before (s01.trans mE.same)) ?_ q⟩
      rw [My.step_lack, My.fieldAt_ok hx h0, hno, if_neg (by decide), if_pos (by rw [eE]; exact V.int.inj (of_decide_eq_true c1))]
      rfl
    have c1' : ¬ X.num = 0 := fun z => c1 (decide_eq_true (congrArg V.int z))
    obtain ⟨hw, hw2, lk⟩ := nt c1'
    refine rt_cat c_int fun p0 hp0 s2 => ar_cons (ev_call (ar_kinds T rfl (hA1.same (mE.same.trans s2)) (ar_var rfl (ar_nil ?_))))
    refine ⟨y.kinds, cc, _, rfl, hF.wts.same (mE.same.trans s2), hF.p0, (Int.lt_of_le_of_lt hF.top (by decide)), fun H3 d mM => ?_⟩
    rw [eM'] at mM
    refine ar_var rfl (ar_nil ?_)
    refine ⟨d, e, M.num, M.den, X.num, X.den, rfl, mM.sq, SqL.of ((s2.trans mM.same) _ _ mE.is), b1, b2, b3, b4, hw, hw2, fun H4 r4 m4 => ?_⟩
    exact cat_end (m4.before mM.same) (by show 2 ≤ 900; decide) fun H5 r m5 => ro_end hA (m5.before ((s01.trans mE.same).trans ((s2.trans mM.same).trans m4.same))) (by rw [My.step_lack, My.fieldAt_ok hx h0, hno, if_neg (by decide), if_neg (by rw [eE]; exact c1'), eM, eE, lk]; rfl) q
theorem sc_answer_rest : FnScope ["garden", "told", "refusal"] ["garden", "told"] (defScope s_answer_rest) := ⟨rfl, rfl, rfl, by decide +kernel, rfl, by decide +kernel, by decide +kernel⟩
theorem ok_answer_rest (T : Txt K mg a) : FnOk P w K mg base CX0 6 a.f_answer_rest a.d_answer_rest ["garden", "told"] (spAns K a.C_Garden 11) := by
  refine T.F_answer_rest.ok sc_answer_rest (fun vs H Q E h => ?_) (fun cdv A outer st H vs Q E hr h => ?_)
  · obtain ⟨g, l, t, fs, s, ts, rfl, _⟩ := h
    rfl
  · obtain ⟨g, l, t, fs, s, ts, rfl, hA, ht, hT, hs, q⟩ := h
    obtain ⟨f, rfl⟩ : ∃ f, ts = [f] := My.ln1 (hT.len (by decide) (show My.counts[11]? = some ((1 : Nat) : Int) from rfl))
    obtain ⟨y, rfl⟩ : ∃ y, s = some y := by
      cases s with
      | none => exact absurd rfl (hs.resolve_left (by decide))
      | some y => exact ⟨y, rfl⟩
    refine ⟨_, (pss_cons (ps_set (i := 2) sc_answer_rest.nd rfl (by first | exact Or.inl rfl | exact Or.inr rfl) (pe_call (ok_shares_refusal T) (hr.mono (by decide)) rfl T.m_shares_refusal T.F_shares_refusal.kp T.b_shares_refusal .nil pass0 (pa_cons (pv 0) (pa_cons (pe_slice sl_list (pv 1) po_none (po_some pe_int)) (pa_cons (pe_lst pa_nil) pa_nil))))) (pss_cons (ps_if (pt_cmpR op_ne (pv 2) pe_int (nomark _)) (pss_one (ps_ret (pe_lst (pa_cons (pv 2) pa_nil)))) pss_nil) (pss_one (ps_ret (pe_lst (pa_cons (pe_call (ok_one_if T) (hr.mono (by decide)) rfl T.m_one_if T.F_one_if.kp T.b_one_if .nil pass0 (pa_cons (pe_call (ok_is_at_rest T) (hr.mono (by decide)) rfl T.m_is_at_rest T.F_is_at_rest.kp T.b_is_at_rest .nil pass0 (pa_cons (pe_fld (pv 0) rfl) (pa_cons (pe_ix ix_list (pe_fld (pv 0) rfl) (pe_ix ix_list (pv 1) pe_int (fun _ _ => rfl)) (fun _ _ => rfl)) pa_nil))) pa_nil)) pa_nil)))))), ?_⟩
    try dsimp only [cxOf]
    refine sq_ref0 (us := [f]) rfl rfl (fun _ => rfl) hA ht rfl (fun c H1 r m => ?_) (fun c H1 s01 => ?_)
    · exact ro_end hA m (by rw [My.step_rest, My.refuse_tell (asked := []) c _ _ rfl]; rfl) q
    obtain ⟨x, hx, h0, hno, hall⟩ := My.refuse_ok (show refuse y f [] = 0 from c)
    have hA1 := hA.same s01
    obtain ⟨cc, hF⟩ := hA1.fld (K := K) hx h0
    have ht1 := s01.seq ht
    refine rt_lst (ar_cons (ev_call (ar_cons (ev_call (ar_kinds T rfl hA1 (ar_field T rfl rfl hA1 ht1 rfl hF.at_ (ar_nil ?_)))))))
    refine ⟨y.kinds, cc, _, rfl, hF.wts, (NN.asInts x.pairs), (Int.lt_of_le_of_lt hF.top (by decide)), fun H2 s2 => ?_⟩
    refine ⟨_, rfl, (by show 1 ≤ sizeLine; decide), fun r hr => ?_⟩
    exact ro_end hA ((Made.one [if restW y.kinds (asInts x.pairs) = true then 1 else 0] hr rfl).before (s01.trans s2)) (by rw [My.step_rest, My.fieldAt_ok hx h0, hno, if_neg (by decide), My.rest_field hF.wts.two hF.wts.four hF.wf h0]; rfl) q
theorem sc_answer_soon : FnScope ["garden", "told", "n", "refusal", "found"] ["garden", "told"] (defScope s_answer_soon) := ⟨rfl, rfl, rfl, by decide +kernel, rfl, by decide +kernel, by decide +kernel⟩
theorem ok_answer_soon (T : Txt K mg a) : FnOk P w K mg base CX0 7 a.f_answer_soon a.d_answer_soon ["garden", "told"] (spAns K a.C_Garden 12) := by
  refine T.F_answer_soon.ok sc_answer_soon (fun vs H Q E h => ?_) (fun cdv A outer st H vs Q E hr h => ?_)
  · obtain ⟨g, l, t, fs, s, ts, rfl, _⟩ := h
    rfl
  · obtain ⟨g, l, t, fs, s, ts, rfl, hA, ht, hT, hs, q⟩ := h
    obtain ⟨f, n, rfl⟩ : ∃ f n, ts = [f, n] := My.ln2 (hT.len (by decide) (show My.counts[12]? = some ((2 : Nat) : Int) from rfl))
    obtain ⟨y, rfl⟩ : ∃ y, s = some y := by
      cases s with
      | none => exact absurd rfl (hs.resolve_left (by decide))
      | some y => exact ⟨y, rfl⟩
    refine ⟨_, (pss_cons (ps_set (i := 2) sc_answer_soon.nd rfl (by first | exact Or.inl rfl | exact Or.inr rfl) (pe_ix ix_list (pv 1) pe_int (fun _ _ => rfl))) (pss_cons (ps_set (i := 3) sc_answer_soon.nd rfl (by first | exact Or.inl rfl | exact Or.inr rfl) (pe_call (ok_shares_refusal T) (hr.mono (by decide)) rfl T.m_shares_refusal T.F_shares_refusal.kp T.b_shares_refusal .nil pass0 (pa_cons (pv 0) (pa_cons (pe_slice sl_list (pv 1) po_none (po_some pe_int)) (pa_cons (pe_lst pa_nil) pa_nil))))) (pss_cons (ps_if (pt_cmpR op_ne (pv 3) pe_int (nomark _)) (pss_one (ps_ret (pe_lst (pa_cons (pv 3) pa_nil)))) pss_nil) (pss_cons (ps_if (pt_cmpR op_gt (pv 2) (pe_const rfl T.c_MOST_GENERATIONS) (nomark _)) (pss_one (ps_ret (pe_lst (pa_cons (pe_const rfl T.c_WRONG) pa_nil)))) pss_nil) (pss_cons (ps_set (i := 4) sc_answer_soon.nd rfl (by first | exact Or.inl rfl | exact Or.inr rfl) (pe_call (ok_generations_to_rest T) (hr.mono (by decide)) rfl T.m_generations_to_rest T.F_generations_to_rest.kp T.b_generations_to_rest .nil pass0 (pa_cons (pe_fld (pv 0) rfl) (pa_cons (pe_ix ix_list (pe_fld (pv 0) rfl) (pe_ix ix_list (pv 1) pe_int (fun _ _ => rfl)) (fun _ _ => rfl)) (pa_cons (pv 2) pa_nil))))) (pss_cons (ps_if (pt_cmpR op_isN (pv 4) pe_non (nomark _)) (pss_one (ps_ret (pe_lst (pa_cons (pe_const rfl T.c_NO_ANSWER) pa_nil)))) pss_nil) (pss_one (ps_ret (pe_lst (pa_cons (pv 4) pa_nil)))))))))), ?_⟩
    try dsimp only [cxOf]
    refine sq_told rfl ht rfl ?_
    refine sq_ref0 (us := [f]) rfl rfl (fun _ => rfl) hA ht rfl (fun c H1 r m => ?_) (fun c H1 s01 => ?_)
    · exact ro_end hA m (by rw [My.step_soon, My.refuse_tell (asked := []) c _ _ rfl]; rfl) q
    obtain ⟨x, hx, h0, hno, hall⟩ := My.refuse_ok (show refuse y f [] = 0 from c)
    have hA1 := hA.same s01
    obtain ⟨cc, hF⟩ := hA1.fld (K := K) hx h0
    have ht1 := s01.seq ht
    refine ⟨_, rfl, _, _, rfl, rfl, _, rfl, ?_⟩
    refine ite2 (fun c2 => ?_) (fun c2 => ?_)
    · refine ⟨(by show 1 ≤ sizeLine; decide), fun r hr => ro_end hA ((Made.one [-22] hr rfl).before s01) ?_ q⟩
      rw [My.step_soon, My.fieldAt_ok hx h0, hno, if_neg (by decide), if_pos (Int.ofNat_lt.mp (of_decide_eq_true c2))]
      rfl
    have h3 : ¬ 3 < n := fun z => c2 (decide_eq_true (Int.ofNat_lt.mpr z))
    refine sq_call (ar_kinds T rfl hA1 (ar_field T rfl rfl hA1 ht1 rfl hF.at_ (ar_var rfl (ar_nil ?_))))
    refine ⟨y.kinds, cc, _, n, rfl, hF.wts, (NN.asInts x.pairs), hF.p0, hF.top, Nat.le_of_not_lt h3, fun H2 s2 => ?_⟩
    refine ⟨_, rfl, rfl, _, rfl, ?_⟩
    have e := My.soon_field hF.wts.two hF.wts.four hF.wf h0 n
    cases hS : soonW y.kinds (asInts x.pairs) n with
    | none =>
      rw [hS] at e
      refine ite2 (fun c3 => ?_) (fun c3 => absurd (decide_eq_true rfl) c3)
      refine ⟨(by show 1 ≤ sizeLine; decide), fun r hr => ro_end hA ((Made.one [-33] hr rfl).before (s01.trans s2)) ?_ q⟩
      rw [My.step_soon, My.fieldAt_ok hx h0, hno, if_neg (by decide), if_neg h3, e]
      rfl
    | some j =>
      rw [hS] at e
      refine ite2 (fun c3 => V.noConfusion (of_decide_eq_true c3)) (fun c3 => ?_)
      refine ⟨_, rfl, (by show 1 ≤ sizeLine; decide), fun r hr => ro_end hA ((Made.one [(j : Int)] hr rfl).before (s01.trans s2)) ?_ q⟩
      rw [My.step_soon, My.fieldAt_ok hx h0, hno, if_neg (by decide), if_neg h3, e]
      rfl
theorem sc_answer_together : FnScope ["garden", "told", "refusal", "plants"] ["garden", "told"] (defScope s_answer_together) := ⟨rfl, rfl, rfl, by decide +kernel, rfl, by decide +kernel, by decide +kernel⟩
theorem ok_answer_together (T : Txt K mg a) : FnOk P w K mg base CX0 6 a.f_answer_together a.d_answer_together ["garden", "told"] (spAns K a.C_Garden 13) := by
  refine T.F_answer_together.ok sc_answer_together (fun vs H Q E h => ?_) (fun cdv A outer st H vs Q E hr h => ?_)
  · obtain ⟨g, l, t, fs, s, ts, rfl, _⟩ := h
    rfl
  · obtain ⟨g, l, t, fs, s, ts, rfl, hA, ht, hT, hs, q⟩ := h
    obtain ⟨f, f', rfl⟩ : ∃ f f', ts = [f, f'] := My.ln2 (hT.len (by decide) (show My.counts[13]? = some ((2 : Nat) : Int) from rfl))
    obtain ⟨y, rfl⟩ : ∃ y, s = some y := by
      cases s with
      | none => exact absurd rfl (hs.resolve_left (by decide))
      | some y => exact ⟨y, rfl⟩
    refine ⟨_, (pss_cons (ps_set (i := 2) sc_answer_together.nd rfl (by first | exact Or.inl rfl | exact Or.inr rfl) (pe_call (ok_shares_refusal T) (hr.mono (by decide)) rfl T.m_shares_refusal T.F_shares_refusal.kp T.b_shares_refusal .nil pass0 (pa_cons (pv 0) (pa_cons (pe_slice sl_list (pv 1) po_none (po_some pe_int)) (pa_cons (pe_lst pa_nil) pa_nil))))) (pss_cons (ps_if (pt_cmpR op_ne (pv 2) pe_int (nomark _)) (pss_one (ps_ret (pe_lst (pa_cons (pv 2) pa_nil)))) pss_nil) (pss_cons (ps_set (i := 3) sc_answer_together.nd rfl (by first | exact Or.inl rfl | exact Or.inr rfl) (pe_call (ok_weights_together T) (hr.mono (by decide)) rfl T.m_weights_together T.F_weights_together.kp T.b_weights_together .nil pass0 (pa_cons (pe_ix ix_list (pe_fld (pv 0) rfl) (pe_ix ix_list (pv 1) pe_int (fun _ _ => rfl)) (fun _ _ => rfl)) (pa_cons (pe_ix ix_list (pe_fld (pv 0) rfl) (pe_ix ix_list (pv 1) pe_int (fun _ _ => rfl)) (fun _ _ => rfl)) pa_nil)))) (pss_one (ps_ret (pe_op op_cat (pe_op op_cat (pe_lst (pa_cons pe_int pa_nil)) (pe_call (ok_share_expected T) (hr.mono (by decide)) rfl T.m_share_expected T.F_share_expected.kp T.b_share_expected .nil pass0 (pa_cons (pe_fld (pv 0) rfl) (pa_cons (pv 3) pa_nil)))) (pe_call (ok_share_mixed T) (hr.mono (by decide)) rfl T.m_share_mixed T.F_share_mixed.kp T.b_share_mixed .nil pass0 (pa_cons (pe_fld (pv 0) rfl) (pa_cons (pv 3) pa_nil))))))))), ?_⟩
    try dsimp only [cxOf]
    refine sq_ref0 (us := [f, f']) rfl rfl (fun _ => rfl) hA ht rfl (fun c H1 r m => ?_) (fun c H1 s01 => ?_)
    · exact ro_end hA m (by rw [My.step_together, My.refuse_tell2 c]) q
    obtain ⟨x, z, hx, h0, hz, k0, hno, hall⟩ := My.refuse_ok2 c
    have hA1 := hA.same s01
    obtain ⟨cc, hF⟩ := hA1.fld (K := K) hx h0
    obtain ⟨cd, hG⟩ := hA1.fld (K := K) hz k0
    have ht1 := s01.seq ht
    refine sq_call (ar_field T rfl rfl hA1 ht1 rfl hF.at_ (ar_field T rfl rfl hA1 ht1 rfl hG.at_ (ar_nil ?_)))
    refine ⟨cc, cd, _, _, rfl, hF.wts.sq, hG.wts.sq, hF.wts.len.trans hG.wts.len.symm, (by rw [hF.wts.len]; exact order_ten hF.wts.two hF.wts.four), fun H2 d md => ?_⟩
    have eT := My.tog_s hF.wts.two hF.wts.four hF.wf hG.wf h0 k0
    have lT := My.tog_l hF.wts.two hF.wts.four hF.wf hG.wf h0 k0
    have nT := (NN.asInts x.pairs).tog (NN.asInts z.pairs)
    have e1 := My.tog_expected hF.wts.two hF.wts.four hF.wf hG.wf h0 k0
    have e2 := My.tog_mixed hF.wts.two hF.wts.four hF.wf hG.wf h0 k0
    generalize togW (asInts x.pairs) (asInts z.pairs) = U at *
    have pU : 0 < U.sum := by rw [eT]; exact Int.add_pos hF.p0 hG.p0
    have bU : U.sum < 2 ^ 100 := by rw [eT]; exact Int.lt_of_le_of_lt (Int.add_le_add hF.top hG.top) (by decide)
    refine ⟨(by show 1 ≤ sizeLine; decide), fun p0 hp0 => ?_⟩
    have s2 : Same H1 (upd H2 p0 (.lst [V.int 0])) := md.same.trans (Same.upd hp0)
    have w2 : Wts K (upd H2 p0 (.lst [V.int 0])) y.kinds d U := (Wts.of md hF.wts.two hF.wts.four lT).same (Same.upd hp0)
    refine ev_call (ar_kinds T rfl (hA1.same s2) (ar_var rfl (ar_nil ?_)))
    refine ⟨y.kinds, d, _, rfl, w2, nT, pU, bU, fun H3 r3 m3 => ?_⟩
    refine ⟨p0, r3, _, _, rfl, rfl, m3.same _ _ upd_same, m3.is, (by show 3 ≤ sizeLine; decide), fun p1 hp1 => ?_⟩
    have s4 : Same H3 (upd H3 p1 (.lst ([V.int 0] ++ (tf (frac ((anyW y.kinds U).sum - alike y.kinds (anyW y.kinds U)) (anyW y.kinds U).sum.toNat)).map V.int))) := Same.upd hp1
    refine ev_call (ar_kinds T rfl (hA1.same ((s2.trans m3.same).trans s4)) (ar_var rfl (ar_nil ?_)))
    refine ⟨y.kinds, d, _, rfl, (w2.same m3.same).same s4, pU, Int.lt_trans bU (by decide), fun H4 r4 m4 => ?_⟩
    refine ⟨p1, r4, _, _, rfl, rfl, m4.same _ _ upd_same, m4.is, small5, fun r hr => ?_⟩
    exact ro_end hA ((Made.one (0 :: (tf (frac ((anyW y.kinds U).sum - alike y.kinds (anyW y.kinds U)) (anyW y.kinds U).sum.toNat) ++ tf (frac (U.sum - alike y.kinds U) U.sum.toNat))) hr rfl).before (s01.trans (((s2.trans m3.same).trans s4).trans m4.same))) (by rw [My.step_together, My.fieldAt_ok hx h0, My.no_any, if_neg (by decide), My.fieldAt_ok hz k0, e1, e2]; rfl) q
theorem sc_answer_cross : FnScope ["garden", "told", "refusal", "children"] ["garden", "told"] (defScope s_answer_cross) := ⟨rfl, rfl, rfl, by decide +kernel, rfl, by decide +kernel, by decide +kernel⟩
theorem ok_answer_cross (T : Txt K mg a) : FnOk P w K mg base CX0 4 a.f_answer_cross a.d_answer_cross ["garden", "told"] (spAns K a.C_Garden 14) := by
  refine T.F_answer_cross.ok sc_answer_cross (fun vs H Q E h => ?_) (fun cdv A outer st H vs Q E hr h => ?_)
  · obtain ⟨g, l, t, fs, s, ts, rfl, _⟩ := h
    rfl
  · obtain ⟨g, l, t, fs, s, ts, rfl, hA, ht, hT, hs, q⟩ := h
    obtain ⟨f, f', i, j, rfl⟩ : ∃ f f' i j, ts = [f, f', i, j] := My.ln4 (hT.len (by decide) (show My.counts[14]? = some ((4 : Nat) : Int) from rfl))
    obtain ⟨y, rfl⟩ : ∃ y, s = some y := by
      cases s with
      | none => exact absurd rfl (hs.resolve_left (by decide))
      | some y => exact ⟨y, rfl⟩
    refine ⟨_, (pss_cons (ps_set (i := 2) sc_answer_cross.nd rfl (by first | exact Or.inl rfl | exact Or.inr rfl) (pe_call (ok_shares_refusal T) (hr.mono (by decide)) rfl T.m_shares_refusal T.F_shares_refusal.kp T.b_shares_refusal .nil pass0 (pa_cons (pv 0) (pa_cons (pe_slice sl_list (pv 1) po_none (po_some pe_int)) (pa_cons (pe_slice sl_list (pv 1) (po_some pe_int) po_none) pa_nil))))) (pss_cons (ps_if (pt_cmpR op_ne (pv 2) pe_int (nomark _)) (pss_one (ps_ret (pe_lst (pa_cons (pv 2) pa_nil)))) pss_nil) (pss_cons (ps_set (i := 3) sc_answer_cross.nd rfl (by first | exact Or.inl rfl | exact Or.inr rfl) (pe_call (ok_weights_crossed T) (hr.mono (by decide)) rfl T.m_weights_crossed T.F_weights_crossed.kp T.b_weights_crossed .nil pass0 (pa_cons (pe_fld (pv 0) rfl) (pa_cons (pe_ix ix_list (pe_fld (pv 0) rfl) (pe_ix ix_list (pv 1) pe_int (fun _ _ => rfl)) (fun _ _ => rfl)) (pa_cons (pe_ix ix_list (pe_fld (pv 0) rfl) (pe_ix ix_list (pv 1) pe_int (fun _ _ => rfl)) (fun _ _ => rfl)) pa_nil))))) (pss_one (ps_ret (pe_op op_cat (pe_lst (pa_cons pe_int pa_nil)) (pe_call (ok_share_of_pair T) (hr.mono (by decide)) rfl T.m_share_of_pair T.F_share_of_pair.kp T.b_share_of_pair .nil pass0 (pa_cons (pe_fld (pv 0) rfl) (pa_cons (pv 3) (pa_cons (pe_ix ix_list (pv 1) pe_int (fun _ _ => rfl)) (pa_cons (pe_ix ix_list (pv 1) pe_int (fun _ _ => rfl)) pa_nil))))))))))), ?_⟩
    try dsimp only [cxOf]
    refine sq_ref1 (us := [f, f']) (ks := [i, j]) rfl rfl (fun _ => rfl) hA ht rfl rfl (by show 2 ≤ 60; decide) (fun c H1 r m => ?_) (fun c H1 s01 => ?_)
    · exact ro_end hA m (by rw [My.step_cross, My.refuse_tell2 c]) q
    obtain ⟨x, z, hx, h0, hz, k0, hno, hall⟩ := My.refuse_ok2 c
    have hA1 := hA.same s01
    obtain ⟨cc, hF⟩ := hA1.fld (K := K) hx h0
    obtain ⟨cd, hG⟩ := hA1.fld (K := K) hz k0
    have ht1 := s01.seq ht
    refine sq_call (ar_kinds T rfl hA1 (ar_field T rfl rfl hA1 ht1 rfl hF.at_ (ar_field T rfl rfl hA1 ht1 rfl hG.at_ (ar_nil ?_))))
    refine ⟨y.kinds, cc, cd, _, _, rfl, hF.wts, hG.wts, (NN.asInts x.pairs), (NN.asInts z.pairs), (Int.lt_of_le_of_lt hF.top (by decide)), (Int.lt_of_le_of_lt hG.top (by decide)), fun H2 d md => ?_⟩
    obtain ⟨pC, tC'⟩ := cross_nums hF.wts.two hF.wts.four hF.wts.len hG.wts.len hF.p0 hG.p0 hF.top hG.top
    refine rt_cat c_int fun p0 hp0 s2 => ar_kinds T rfl (hA1.same (md.same.trans s2)) (ar_var rfl (ar_told rfl ((md.same.trans s2).seq ht1) rfl (ar_told rfl ((md.same.trans s2).seq ht1) rfl (ar_nil ?_))))
    refine ⟨y.kinds, d, _, i, j, rfl, (Wts.of md hF.wts.two hF.wts.four (My.cross_len _ _ _)).same s2, hall i (by simp), hall j (by simp), pC, Int.lt_of_le_of_lt tC' (by decide), fun H3 r3 m3 => ?_⟩
    exact cat_end m3 (by show 2 ≤ 900; decide) fun H4 r m4 => ro_end hA (m4.before (((s01.trans md.same).trans s2).trans m3.same)) (by rw [My.step_cross, My.fieldAt_ok hx h0, My.no_any, if_neg (by decide), My.fieldAt_ok hz k0, hno, if_neg (by decide), My.cross_pair hF.wts.two hF.wts.four hF.wf hG.wf h0 k0]; rfl) q
theorem sc_answer_cross_next : FnScope ["garden", "told", "refusal", "children", "behind"] ["garden", "told"] (defScope s_answer_cross_next) := ⟨rfl, rfl, rfl, by decide +kernel, rfl, by decide +kernel, by decide +kernel⟩
theorem ok_answer_cross_next (T : Txt K mg a) : FnOk P w K mg base CX0 6 a.f_answer_cross_next a.d_answer_cross_next ["garden", "told"] (spAns K a.C_Garden 15) := by
  refine T.F_answer_cross_next.ok sc_answer_cross_next (fun vs H Q E h => ?_) (fun cdv A outer st H vs Q E hr h => ?_)
  · obtain ⟨g, l, t, fs, s, ts, rfl, _⟩ := h
    rfl
  · obtain ⟨g, l, t, fs, s, ts, rfl, hA, ht, hT, hs, q⟩ := h
    obtain ⟨f, f', rfl⟩ : ∃ f f', ts = [f, f'] := My.ln2 (hT.len (by decide) (show My.counts[15]? = some ((2 : Nat) : Int) from rfl))
    obtain ⟨y, rfl⟩ : ∃ y, s = some y := by
      cases s with
      | none => exact absurd rfl (hs.resolve_left (by decide))
      | some y => exact ⟨y, rfl⟩
    refine ⟨_, (pss_cons (ps_set (i := 2) sc_answer_cross_next.nd rfl (by first | exact Or.inl rfl | exact Or.inr rfl) (pe_call (ok_shares_refusal T) (hr.mono (by decide)) rfl T.m_shares_refusal T.F_shares_refusal.kp T.b_shares_refusal .nil pass0 (pa_cons (pv 0) (pa_cons (pe_slice sl_list (pv 1) po_none (po_some pe_int)) (pa_cons (pe_lst pa_nil) pa_nil))))) (pss_cons (ps_if (pt_cmpR op_ne (pv 2) pe_int (nomark _)) (pss_one (ps_ret (pe_lst (pa_cons (pv 2) pa_nil)))) pss_nil) (pss_cons (ps_set (i := 3) sc_answer_cross_next.nd rfl (by first | exact Or.inl rfl | exact Or.inr rfl) (pe_call (ok_weights_crossed T) (hr.mono (by decide)) rfl T.m_weights_crossed T.F_weights_crossed.kp T.b_weights_crossed .nil pass0 (pa_cons (pe_fld (pv 0) rfl) (pa_cons (pe_ix ix_list (pe_fld (pv 0) rfl) (pe_ix ix_list (pv 1) pe_int (fun _ _ => rfl)) (fun _ _ => rfl)) (pa_cons (pe_ix ix_list (pe_fld (pv 0) rfl) (pe_ix ix_list (pv 1) pe_int (fun _ _ => rfl)) (fun _ _ => rfl)) pa_nil))))) (pss_cons (ps_set (i := 4) sc_answer_cross_next.nd rfl (by first | exact Or.inl rfl | exact Or.inr rfl) (pe_call (ok_weights_by_any T) (hr.mono (by decide)) rfl T.m_weights_by_any T.F_weights_by_any.kp T.b_weights_by_any .nil pass0 (pa_cons (pe_fld (pv 0) rfl) (pa_cons (pv 3) pa_nil)))) (pss_one (ps_ret (pe_lst (pa_cons (pe_call (ok_one_if T) (hr.mono (by decide)) rfl T.m_one_if T.F_one_if.kp T.b_one_if .nil pass0 (pa_cons (pe_call (ok_is_at_rest T) (hr.mono (by decide)) rfl T.m_is_at_rest T.F_is_at_rest.kp T.b_is_at_rest .nil pass0 (pa_cons (pe_fld (pv 0) rfl) (pa_cons (pv 3) pa_nil))) pa_nil)) (pa_cons (pe_call (ok_one_if T) (hr.mono (by decide)) rfl T.m_one_if T.F_one_if.kp T.b_one_if .nil pass0 (pa_cons (pe_call (ok_is_at_rest T) (hr.mono (by decide)) rfl T.m_is_at_rest T.F_is_at_rest.kp T.b_is_at_rest .nil pass0 (pa_cons (pe_fld (pv 0) rfl) (pa_cons (pv 4) pa_nil))) pa_nil)) pa_nil))))))))), ?_⟩
    try dsimp only [cxOf]
    refine sq_ref0 (us := [f, f']) rfl rfl (fun _ => rfl) hA ht rfl (fun c H1 r m => ?_) (fun c H1 s01 => ?_)
    · exact ro_end hA m (by rw [My.step_crossNext, My.refuse_tell2 c]) q
    obtain ⟨x, z, hx, h0, hz, k0, hno, hall⟩ := My.refuse_ok2 c
    have hA1 := hA.same s01
    obtain ⟨cc, hF⟩ := hA1.fld (K := K) hx h0
    obtain ⟨cd, hG⟩ := hA1.fld (K := K) hz k0
    have ht1 := s01.seq ht
    refine sq_call (ar_kinds T rfl hA1 (ar_field T rfl rfl hA1 ht1 rfl hF.at_ (ar_field T rfl rfl hA1 ht1 rfl hG.at_ (ar_nil ?_))))
    refine ⟨y.kinds, cc, cd, _, _, rfl, hF.wts, hG.wts, (NN.asInts x.pairs), (NN.asInts z.pairs), (Int.lt_of_le_of_lt hF.top (by decide)), (Int.lt_of_le_of_lt hG.top (by decide)), fun H2 d md => ?_⟩
    obtain ⟨pC, tC'⟩ := cross_nums hF.wts.two hF.wts.four hF.wts.len hG.wts.len hF.p0 hG.p0 hF.top hG.top
    obtain ⟨e1, e2⟩ := My.crossNext_num hF.wts.two hF.wts.four hF.wf hG.wf h0 k0
    have lC := My.cross_len y.kinds (asInts x.pairs) (asInts z.pairs)
    have nC : NN (crossW y.kinds (asInts x.pairs) (asInts z.pairs)) := (NN.asInts x.pairs).cross (NN.asInts z.pairs)
    generalize crossW y.kinds (asInts x.pairs) (asInts z.pairs) = U at *
    have qA := any_small hF.wts.two hF.wts.four lC pC tC'
    have wd : Wts K H2 y.kinds d U := Wts.of md hF.wts.two hF.wts.four lC
    refine sq_call (ar_kinds T rfl (hA1.same md.same) (ar_var rfl (ar_nil ?_)))
    refine ⟨y.kinds, d, _, rfl, wd, nC, Int.lt_of_le_of_lt tC' (by decide), fun H3 b mb => ?_⟩
    refine rt_lst (ar_cons (ev_call (ar_cons (ev_call (ar_kinds T rfl (hA1.same (md.same.trans mb.same)) (ar_var rfl (ar_nil ?_)))))))
    refine ⟨y.kinds, d, _, rfl, wd.same mb.same, nC, Int.lt_of_le_of_lt tC' (by decide), fun H4 s4 => ?_⟩
    refine ⟨_, rfl, ?_⟩
    refine ar_cons (ev_call (ar_cons (ev_call (ar_kinds T rfl (hA1.same ((md.same.trans mb.same).trans s4)) (ar_var rfl (ar_nil ?_))))))
    refine ⟨y.kinds, b, _, rfl, (Wts.of mb hF.wts.two hF.wts.four (My.any_len y.kinds U)).same s4, nC.any, qA, fun H5 s5 => ?_⟩
    refine ⟨_, rfl, (by show 2 ≤ sizeLine; decide), fun r hr => ?_⟩
    exact ro_end hA ((Made.one [if restW y.kinds U = true then 1 else 0, if restW y.kinds (anyW y.kinds U) = true then 1 else 0] hr rfl).before (s01.trans (((md.same.trans mb.same).trans s4).trans s5))) (by rw [My.step_crossNext, My.fieldAt_ok hx h0, My.no_any, if_neg (by decide), My.fieldAt_ok hz k0, e1, e2]; rfl) q
theorem sc_answer_rarest : FnScope ["garden", "told", "refusal", "plants", "i"] ["garden", "told"] (defScope s_answer_rarest) := ⟨rfl, rfl, rfl, by decide +kernel, rfl, by decide +kernel, by decide +kernel⟩
theorem ok_answer_rarest (T : Txt K mg a) : FnOk P w K mg base CX0 4 a.f_answer_rarest a.d_answer_rarest ["garden", "told"] (spAns K a.C_Garden 16) := by
  refine T.F_answer_rarest.ok sc_answer_rarest (fun vs H Q E h => ?_) (fun cdv A outer st H vs Q E hr h => ?_)
  · obtain ⟨g, l, t, fs, s, ts, rfl, _⟩ := h
    rfl
  · obtain ⟨g, l, t, fs, s, ts, rfl, hA, ht, hT, hs, q⟩ := h
    obtain ⟨f, rfl⟩ : ∃ f, ts = [f] := My.ln1 (hT.len (by decide) (show My.counts[16]? = some ((1 : Nat) : Int) from rfl))
    obtain ⟨y, rfl⟩ : ∃ y, s = some y := by
      cases s with
      | none => exact absurd rfl (hs.resolve_left (by decide))
      | some y => exact ⟨y, rfl⟩
    refine ⟨_, (pss_cons (ps_set (i := 2) sc_answer_rarest.nd rfl (by first | exact Or.inl rfl | exact Or.inr rfl) (pe_call (ok_shares_refusal T) (hr.mono (by decide)) rfl T.m_shares_refusal T.F_shares_refusal.kp T.b_shares_refusal .nil pass0 (pa_cons (pv 0) (pa_cons (pe_slice sl_list (pv 1) po_none (po_some pe_int)) (pa_cons (pe_lst pa_nil) pa_nil))))) (pss_cons (ps_if (pt_cmpR op_ne (pv 2) pe_int (nomark _)) (pss_one (ps_ret (pe_lst (pa_cons (pv 2) pa_nil)))) pss_nil) (pss_cons (ps_set (i := 3) sc_answer_rarest.nd rfl (by first | exact Or.inl rfl | exact Or.inr rfl) (pe_ix ix_list (pe_fld (pv 0) rfl) (pe_ix ix_list (pv 1) pe_int (fun _ _ => rfl)) (fun _ _ => rfl))) (pss_cons (ps_set (i := 4) sc_answer_rarest.nd rfl (by first | exact Or.inl rfl | exact Or.inr rfl) (pe_call (ok_rarest_kind T) (hr.mono (by decide)) rfl T.m_rarest_kind T.F_rarest_kind.kp T.b_rarest_kind .nil pass0 (pa_cons (pe_fld (pv 0) rfl) (pa_cons (pv 3) pa_nil)))) (pss_one (ps_ret (pe_op op_cat (pe_lst (pa_cons (pv 4) pa_nil)) (pe_call (ok_share_of_kind T) (hr.mono (by decide)) rfl T.m_share_of_kind T.F_share_of_kind.kp T.b_share_of_kind .nil pass0 (pa_cons (pe_fld (pv 0) rfl) (pa_cons (pv 3) (pa_cons (pv 4) pa_nil))))))))))), ?_⟩
    try dsimp only [cxOf]
    refine sq_ref0 (us := [f]) rfl rfl (fun _ => rfl) hA ht rfl (fun c H1 r m => ?_) (fun c H1 s01 => ?_)
    · exact ro_end hA m (by rw [My.step_rarest, My.refuse_tell (asked := []) c _ _ rfl]; rfl) q
    obtain ⟨x, hx, h0, hno, hall⟩ := My.refuse_ok (show refuse y f [] = 0 from c)
    have hA1 := hA.same s01
    obtain ⟨cc, hF⟩ := hA1.fld (K := K) hx h0
    have ht1 := s01.seq ht
    refine sq_field T rfl rfl hA1 ht1 rfl hF.at_ ?_
    refine sq_call (ar_kinds T rfl hA1 (ar_var rfl (ar_nil ?_)))
    refine ⟨y.kinds, cc, _, rfl, hF.wts, fun H2 j s2 hj hf => ?_⟩
    refine rt_cat (z := (j : Nat)) (fun Q q => ⟨_, rfl, q⟩) fun p0 hp0 s3 => ar_kinds T rfl (hA1.same (s2.trans s3)) (ar_var rfl (ar_var rfl (ar_nil ?_)))
    refine ⟨y.kinds, cc, _, j, rfl, hF.wts.same (s2.trans s3), hj, hF.p0, (Int.lt_of_le_of_lt hF.top (by decide)), fun H3 r3 m3 => ?_⟩
    exact cat_end m3 (by show 2 ≤ 900; decide) fun H4 r m4 => ro_end hA (m4.before (((s01.trans s2).trans s3).trans m3.same)) (by rw [My.step_rarest, My.fieldAt_ok hx h0, hno, if_neg (by decide), My.rarest_num hF.wts.two hF.wts.four hF.wf h0, hf, Option.getD_some, My.kind_num hF.wts.two hF.wts.four hF.wf h0 hj]; rfl) q
theorem sc_answer_size : FnScope ["garden", "told"] ["garden", "told"] (defScope s_answer_size) := ⟨rfl, rfl, rfl, by decide +kernel, rfl, by decide +kernel, by decide +kernel⟩
theorem ok_answer_size (T : Txt K mg a) : FnOk P w K mg base CX0 2 a.f_answer_size a.d_answer_size ["garden", "told"] (spAns K a.C_Garden 17) := by
  refine T.F_answer_size.ok sc_answer_size (fun vs H Q E h => ?_) (fun cdv A outer st H vs Q E hr h => ?_)
  · obtain ⟨g, l, t, fs, s, ts, rfl, _⟩ := h
    rfl
  · obtain ⟨g, l, t, fs, s, ts, rfl, hA, ht, hT, hs, q⟩ := h
    obtain ⟨f, rfl⟩ : ∃ f, ts = [f] := My.ln1 (hT.len (by decide) (show My.counts[17]? = some ((1 : Nat) : Int) from rfl))
    obtain ⟨y, rfl⟩ : ∃ y, s = some y := by
      cases s with
      | none => exact absurd rfl (hs.resolve_left (by decide))
      | some y => exact ⟨y, rfl⟩
    refine ⟨_, (pss_cons (ps_if (pt_val (pe_call (ok_is_no_field T) (hr.mono (by decide)) rfl T.m_is_no_field T.F_is_no_field.kp T.b_is_no_field .nil pass0 (pa_cons (pv 0) (pa_cons (pe_ix ix_list (pv 1) pe_int (fun _ _ => rfl)) pa_nil)))) (pss_one (ps_ret (pe_lst (pa_cons (pe_const rfl T.c_NO_FIELD) pa_nil)))) pss_nil) (pss_one (ps_ret (pe_lst (pa_cons (pe_callB (cr_sum rfl) (by rfl) T.n_sum PyProof.Rows.boot_sum (pa_cons (pe_ix ix_list (pe_fld (pv 0) rfl) (pe_ix ix_list (pv 1) pe_int (fun _ _ => rfl)) (fun _ _ => rfl)) pa_nil)) pa_nil))))), ?_⟩
    try dsimp only [cxOf]
    refine ⟨_, rfl, _, rfl, t, _, _, _, rfl, rfl, ht, rfl, g, l, fs, some y, f, rfl, hA, _, rfl, ?_⟩
    refine ite2 (fun c => ?_) (fun c => ?_)
    · refine ⟨(by show 1 ≤ sizeLine; decide), fun r hr => ro_end hA (Made.one [-2] hr rfl) ?_ q⟩
      rw [My.step_size, List.getElem?_eq_none (show y.fields.length ≤ f from of_decide_eq_true c)]
    have c' : f < y.fields.length := Nat.lt_of_not_le fun z => c (decide_eq_true z)
    obtain ⟨x, hx⟩ : ∃ x, y.fields[f]? = some x := ⟨_, List.getElem?_eq_getElem c'⟩
    obtain ⟨cc, hc, hcc⟩ := hA.field (j := f) (f := x) hx
    obtain ⟨dx, hg⟩ := hA.ins
    exact ⟨_, rfl, g, a.C_Garden, dx, _, _, rfl, hg, T.cl_Garden, T.no_fields, gf_fields _ _, _, rfl, t, _, _, _, rfl, rfl, ht, rfl, l, _, _, _, rfl, rfl, SqL.of hA.lst, refs_at hc, cc, _, rfl, SqL.of hcc, (by show 1 ≤ sizeLine; decide), fun r hr => ro_end hA (Made.one [(asInts x.pairs).sum] hr rfl) (by rw [My.step_size, hx, ← My.size_eq]) q⟩
theorem sc_answer_half : FnScope ["garden", "told", "s", "n"] ["garden", "told"] (defScope s_answer_half) := ⟨rfl, rfl, rfl, by decide +kernel, rfl, by decide +kernel, by decide +kernel⟩
theorem ok_answer_half (T : Txt K mg a) : FnOk P w K mg base CX0 4 a.f_answer_half a.d_answer_half ["garden", "told"] (spAns K a.C_Garden 18) := by
  refine T.F_answer_half.ok sc_answer_half (fun vs H Q E h => ?_) (fun cdv A outer st H vs Q E hr h => ?_)
  · obtain ⟨g, l, t, fs, s, ts, rfl, _⟩ := h
    rfl
  · obtain ⟨g, l, t, fs, s, ts, rfl, hA, ht, hT, hs, q⟩ := h
    obtain ⟨s', n, rfl⟩ : ∃ s' n, ts = [s', n] := My.ln2 (hT.len (by decide) (show My.counts[18]? = some ((2 : Nat) : Int) from rfl))
    obtain ⟨y, rfl⟩ : ∃ y, s = some y := by
      cases s with
      | none => exact absurd rfl (hs.resolve_left (by decide))
      | some y => exact ⟨y, rfl⟩
    refine ⟨_, (pss_cons (ps_set (i := 2) sc_answer_half.nd rfl (by first | exact Or.inl rfl | exact Or.inr rfl) (pe_ix ix_list (pv 1) pe_int (fun _ _ => rfl))) (pss_cons (ps_set (i := 3) sc_answer_half.nd rfl (by first | exact Or.inl rfl | exact Or.inr rfl) (pe_ix ix_list (pv 1) pe_int (fun _ _ => rfl))) (pss_cons (ps_if (PW.pt (pw_or (pt_cmpR op_gt (pv 2) (pe_const rfl T.c_MOST_OF_HUNDRED) (nomark _)) (pw_or1 (pt_cmpR op_gt (pv 3) (pe_const rfl T.c_MOST_HALVES) (nomark _))))) (pss_one (ps_ret (pe_lst (pa_cons (pe_const rfl T.c_WRONG) pa_nil)))) pss_nil) (pss_one (ps_ret (pe_op op_cat (pe_lst (pa_cons pe_int pa_nil)) (pe_call (ok_left_by_halves T) (hr.mono (by decide)) rfl T.m_left_by_halves T.F_left_by_halves.kp T.b_left_by_halves .nil pass0 (pa_cons (pv 2) (pa_cons (pv 3) pa_nil))))))))), ?_⟩
    try dsimp only [cxOf]
    refine sq_told rfl ht rfl (sq_told rfl ht rfl ?_)
    refine ⟨_, rfl, _, _, rfl, rfl, _, rfl, ?_⟩
    have bad : (100 < s' ∨ 10 < n) → ∀ r, H r = none → Q (.ref r) (upd H r (.lst [V.int (-22)])) := fun hb r hr => by
      refine ro_end hA (Made.one [-22] hr rfl) ?_ q
      rw [My.step_half, if_pos hb]
    refine ite2 (fun c1 => ?_) (fun c1 => ?_)
    · exact ⟨(by show 1 ≤ sizeLine; decide), fun r hr => bad (.inl (Int.ofNat_lt.mp (of_decide_eq_true c1))) r hr⟩
    refine ⟨_, rfl, _, _, rfl, rfl, _, rfl, ?_⟩
    refine ite2 (fun c2 => ?_) (fun c2 => ?_)
    · exact ⟨(by show 1 ≤ sizeLine; decide), fun r hr => bad (.inr (Int.ofNat_lt.mp (of_decide_eq_true c2))) r hr⟩
    have h100 : s' ≤ 100 := Nat.le_of_not_lt fun z => c1 (decide_eq_true (Int.ofNat_lt.mpr z))
    have h10 : n ≤ 10 := Nat.le_of_not_lt fun z => c2 (decide_eq_true (Int.ofNat_lt.mpr z))
    refine rt_cat c_int fun p0 hp0 s2 => ar_var rfl (ar_var rfl (ar_nil ?_))
    refine ⟨s', n, rfl, h100, h10, fun H3 r3 m3 => ?_⟩
    exact cat_end m3 (by show 2 ≤ 900; decide) fun H4 r m4 => ro_end hA (m4.before (s2.trans m3.same)) (by rw [My.step_half, if_neg (fun z => z.elim (fun z => Nat.not_lt_of_le h100 z) fun z => Nat.not_lt_of_le h10 z)]) q
theorem sc_answer_state : FnScope ["garden", "told"] ["garden", "told"] (defScope s_answer_state) := ⟨rfl, rfl, rfl, by decide +kernel, rfl, by decide +kernel, by decide +kernel⟩
theorem ok_answer_state (T : Txt K mg a) : FnOk P w K mg base CX0 1 a.f_answer_state a.d_answer_state ["garden", "told"] (spAns K a.C_Garden 19) := by
  refine T.F_answer_state.ok sc_answer_state (fun vs H Q E h => ?_) (fun cdv A outer st H vs Q E hr h => ?_)
  · obtain ⟨g, l, t, fs, s, ts, rfl, _⟩ := h
    rfl
  · obtain ⟨g, l, t, fs, s, ts, rfl, hA, ht, hT, hs, q⟩ := h
    obtain rfl : ts = [] := My.ln0 (hT.len (by decide) (show My.counts[19]? = some ((0 : Nat) : Int) from rfl))
    obtain ⟨y, rfl⟩ : ∃ y, s = some y := by
      cases s with
      | none => exact absurd rfl (hs.resolve_left (by decide))
      | some y => exact ⟨y, rfl⟩
    refine ⟨_, (pss_one (ps_ret (pe_lst (pa_cons (pe_fld (pv 0) rfl) (pa_cons (pe_callB call_len_seq (by rfl) T.n_len PySem.boot_len (pa_cons (pe_fld (pv 0) rfl) pa_nil)) pa_nil))))), ?_⟩
    try dsimp only [cxOf]
    obtain ⟨dx, hg⟩ := hA.ins
    refine ⟨_, rfl, g, a.C_Garden, dx, _, _, rfl, hg, T.cl_Garden, T.no_kinds, gf_kinds _ _, _, rfl, g, a.C_Garden, dx, _, _, rfl, hg, T.cl_Garden, T.no_fields, gf_fields _ _, l, _, rfl, .inl (SqL.of hA.lst), (by show 2 ≤ sizeLine; decide), fun r hr => ?_⟩
    have e : ((fs.map V.ref).length : Int) = (y.fields.length : Int) := by
      rw [List.length_map, hA.len]
      rfl
    rw [e]
    exact ro_end hA (Made.one [(y.kinds : Int), (y.fields.length : Int)] hr rfl) (by rw [My.step_state]) q
end
end Pf

end
section
set_option Elab.async false
set_option linter.all false
set_option maxRecDepth 100000
set_option maxHeartbeats 4000000
namespace Pf
open PySem PySem.Spec PyProof.Rows L2
open My (wt kw anyW selfW nextW laterW NN row alike tf asInts kindsS fldsS WF WFy WFf callC stepN refuse refuse2 putX)
open Kqp1 (order place frac)
/-- as many calls as are written -/
noncomputable def LIM : Nat := 20
noncomputable def spOf (K : PySem.W.Frag) (C : Addr) : Sp := fun vs H Q _ => ∃ (g l t : Addr) (fs : List Addr) (s : Option Kqp1.State) (p : Nat) (ts : List Nat), vs = [.ref g, .int p, .ref t] ∧ At C H g l fs s ∧ SqL K H t ((asInts ts).map V.int) ∧ Told p ts ∧ p < LIM ∧
  ∀ (H' : Hp) (r l' : Addr) (fs' : List Addr), At C H' g l' fs' (stepN s p ts).1 → H' r = some (.lst ((stepN s p ts).2.map V.int)) → Frm H H' (g :: l :: fs) (g :: l' :: fs') r → Q (.ref r) H'
section
variable {P : Program} {w : World} {K : PySem.W.Frag} {mg : Str → Option Value} {base : Heap} {a : Ad}
theorem dsp (T : Txt K mg a) {p : Nat} (hp : p < 20) : ∃ f k fd, k ≤ 7 ∧ atI [V.ref a.f_answer_start, V.ref a.f_answer_field, V.ref a.f_answer_put, V.ref a.f_answer_take, V.ref a.f_answer_share, V.ref a.f_answer_kind, V.ref a.f_answer_next, V.ref a.f_answer_after, V.ref a.f_answer_mixed, V.ref a.f_answer_expected, V.ref a.f_answer_lack, V.ref a.f_answer_rest, V.ref a.f_answer_soon, V.ref a.f_answer_together, V.ref a.f_answer_cross, V.ref a.f_answer_cross_next, V.ref a.f_answer_rarest, V.ref a.f_answer_size, V.ref a.f_answer_half, V.ref a.f_answer_state] (p : Int) = some (V.ref f) ∧ PySem.W.keepIn K (.ref f) = true ∧ FnOk P w K mg base CX0 k f fd ["garden", "told"] (spAns K a.C_Garden p) ∧ Binds K fd ["garden", "told"] [] :=
  My.below20 (fun p => ∃ f k fd, k ≤ 7 ∧ atI [V.ref a.f_answer_start, V.ref a.f_answer_field, V.ref a.f_answer_put, V.ref a.f_answer_take, V.ref a.f_answer_share, V.ref a.f_answer_kind, V.ref a.f_answer_next, V.ref a.f_answer_after, V.ref a.f_answer_mixed, V.ref a.f_answer_expected, V.ref a.f_answer_lack, V.ref a.f_answer_rest, V.ref a.f_answer_soon, V.ref a.f_answer_together, V.ref a.f_answer_cross, V.ref a.f_answer_cross_next, V.ref a.f_answer_rarest, V.ref a.f_answer_size, V.ref a.f_answer_half, V.ref a.f_answer_state] (p : Int) = some (V.ref f) ∧ PySem.W.keepIn K (.ref f) = true ∧ FnOk P w K mg base CX0 k f fd ["garden", "told"] (spAns K a.C_Garden p) ∧ Binds K fd ["garden", "told"] [])
    ⟨_, 1, _, (by decide), rfl, T.F_answer_start.kp, ok_answer_start T, T.b_answer_start⟩
    ⟨_, 2, _, (by decide), rfl, T.F_answer_field.kp, ok_answer_field T, T.b_answer_field⟩
    ⟨_, 3, _, (by decide), rfl, T.F_answer_put.kp, ok_answer_put T, T.b_answer_put⟩
    ⟨_, 3, _, (by decide), rfl, T.F_answer_take.kp, ok_answer_take T, T.b_answer_take⟩
    ⟨_, 4, _, (by decide), rfl, T.F_answer_share.kp, ok_answer_share T, T.b_answer_share⟩
    ⟨_, 4, _, (by decide), rfl, T.F_answer_kind.kp, ok_answer_kind T, T.b_answer_kind⟩
    ⟨_, 5, _, (by decide), rfl, T.F_answer_next.kp, ok_answer_next T, T.b_answer_next⟩
    ⟨_, 7, _, (by decide), rfl, T.F_answer_after.kp, ok_answer_after T, T.b_answer_after⟩
    ⟨_, 4, _, (by decide), rfl, T.F_answer_mixed.kp, ok_answer_mixed T, T.b_answer_mixed⟩
    ⟨_, 6, _, (by decide), rfl, T.F_answer_expected.kp, ok_answer_expected T, T.b_answer_expected⟩
    ⟨_, 6, _, (by decide), rfl, T.F_answer_lack.kp, ok_answer_lack T, T.b_answer_lack⟩
    ⟨_, 6, _, (by decide), rfl, T.F_answer_rest.kp, ok_answer_rest T, T.b_answer_rest⟩
    ⟨_, 7, _, (by decide), rfl, T.F_answer_soon.kp, ok_answer_soon T, T.b_answer_soon⟩
    ⟨_, 6, _, (by decide), rfl, T.F_answer_together.kp, ok_answer_together T, T.b_answer_together⟩
    ⟨_, 4, _, (by decide), rfl, T.F_answer_cross.kp, ok_answer_cross T, T.b_answer_cross⟩
    ⟨_, 6, _, (by decide), rfl, T.F_answer_cross_next.kp, ok_answer_cross_next T, T.b_answer_cross_next⟩
    ⟨_, 4, _, (by decide), rfl, T.F_answer_rarest.kp, ok_answer_rarest T, T.b_answer_rarest⟩
    ⟨_, 2, _, (by decide), rfl, T.F_answer_size.kp, ok_answer_size T, T.b_answer_size⟩
    ⟨_, 4, _, (by decide), rfl, T.F_answer_half.kp, ok_answer_half T, T.b_answer_half⟩
    ⟨_, 1, _, (by decide), rfl, T.F_answer_state.kp, ok_answer_state T, T.b_answer_state⟩
    hp
theorem sc_answer_of : FnScope ["garden", "number", "told", "answerer"] ["garden", "number", "told"] (defScope s_answer_of) := ⟨rfl, rfl, rfl, by decide +kernel, rfl, by decide +kernel, by decide +kernel⟩
theorem ok_answer_of (T : Txt K mg a) : FnOk P w K mg base CX0 8 a.f_answer_of a.d_answer_of ["garden", "number", "told"] (spOf K a.C_Garden) := by
  refine T.F_answer_of.ok sc_answer_of (fun vs H Q E h => ?_) (fun cdv A outer st H vs Q E hr h => ?_)
  · obtain ⟨g, l, t, fs, s, p, ts, rfl, _⟩ := h
    rfl
  · obtain ⟨g, l, t, fs, s, p, ts, rfl, hA, ht, hT, hp, q⟩ := h
    refine ⟨_, (pss_cons (ps_if (PW.pt (pw_and (pt_cmpR op_eq (pe_fld (pv 0) rfl) pe_int (nomark _)) (pw_and1 (pt_cmpR op_ne (pv 1) (pe_const rfl T.c_START) (nomark _))))) (pss_one (ps_ret (pe_lst (pa_cons (pe_const rfl T.c_NOT_STARTED) pa_nil)))) pss_nil) (pss_cons (ps_set (i := 3) sc_answer_of.nd rfl (by first | exact Or.inl rfl | exact Or.inr rfl) (pe_ix ix_tup (pe_glob (v := V.ref a.t_ANSWERERS) rfl T.t_ANSWERERS rfl) (pv 1) (fun _ _ => rfl))) (pss_one (ps_ret (pe_callL 3 (pa_cons (pv 0) (pa_cons (pv 2) pa_nil))))))), ?_⟩
    try dsimp only [cxOf]
    obtain ⟨dx, hg⟩ := hA.ins
    have hp20 : p < 20 := Nat.lt_of_lt_of_le hp (by decide)
    have hk : s ≠ none → ¬ (kindsS s : Int) = 0 := fun h e => by
      cases s with
      | none => exact h rfl
      | some y =>
        have := (hA.wf y rfl).two
        have e : (y.kinds : Int) = 0 := e
        omega
    refine ⟨_, rfl, g, a.C_Garden, dx, _, _, rfl, hg, T.cl_Garden, T.no_kinds, gf_kinds _ _, rfl, _, rfl, ?_⟩
    refine ite2 (fun c1 => ?_) (fun c1 => ?_)
    · have c1' : (kindsS s : Int) = 0 := V.int.inj (of_decide_eq_true c1)
      have hs : s = none := by
        cases s with
        | none => rfl
        | some y => exact absurd c1' (hk (fun z => nomatch z))
      refine ⟨_, rfl, rfl, _, rfl, ?_⟩
      refine ite2 (fun c2 => ?_) (fun c2 => ?_)
      · have c2' : p ≠ 0 := fun z => by
          subst z
          revert c2
          decide
        refine ⟨(by show 1 ≤ sizeLine; decide), fun r hr => ?_⟩
        subst hs
        exact ro_end hA (Made.one [-11] hr rfl) (My.none_step hp20 c2' hT.2) q
      · have c2' : p = 0 := by
          rcases Nat.eq_zero_or_pos p with z | z
          · exact z
          · exfalso
            refine c2 ?_
            rw [Bool.not_eq_true', decide_eq_false_iff_not]
            intro e
            have := V.int.inj e
            omega
        subst c2'
        have hs : (0 : Nat) = 0 ∨ s ≠ none := .inl rfl
        obtain ⟨f, k, fd, hk7, hat, kp, F, hb⟩ := dsp (P := P) (w := w) (base := base) T (p := 0) (by decide)
        refine ⟨_, rfl, a.t_ANSWERERS, _, _, _, rfl, rfl, T.q_ANSWERERS _, hat, _, rfl, kp, _, rfl, _, rfl, _, _, _, _, F, hr.mono hk7, hb, g, l, t, fs, s, ts, rfl, hA, ht, hT, hs, q⟩
    · have hs' : s ≠ none := fun z => by
        subst z
        exact c1 (decide_eq_true rfl)
      have hs : p = 0 ∨ s ≠ none := .inr hs'
      obtain ⟨f, k, fd, hk7, hat, kp, F, hb⟩ := dsp (P := P) (w := w) (base := base) T hp20
      refine ⟨_, rfl, a.t_ANSWERERS, _, _, _, rfl, rfl, T.q_ANSWERERS _, hat, _, rfl, kp, _, rfl, _, rfl, _, _, _, _, F, hr.mono hk7, hb, g, l, t, fs, s, ts, rfl, hA, ht, hT, hs, q⟩
end
end Pf

end
section
set_option Elab.async false
set_option linter.all false
set_option maxRecDepth 100000
set_option maxHeartbeats 4000000
namespace Pf
open PySem PySem.Spec PyProof.Rows L2
open My (wt kw anyW selfW nextW laterW NN row alike tf asInts kindsS fldsS WF WFy WFf callC stepN refuse refuse2 putX OneCall Asked stateAfter)
open Kqp1 (order place frac)
noncomputable abbrev stp := Kqp1Neutral.step
noncomputable abbrev st0 := Kqp1Neutral.start
noncomputable def spAnswers (K : PySem.W.Frag) : Sp := fun vs H Q _ => ∃ (c : Addr) (L : List Int) (raw : List (List (List Int))), vs = [.ref c] ∧ SqL K H c (L.map V.int) ∧ NN L ∧ Asked L raw ∧ (∀ c ∈ raw, ∀ p told, OneCall c p told → p < LIM ∧ told.length ≤ 60) ∧
  ∀ (H' : Hp) (r : Addr), H' r = some (.lst ((PyKqp1.answers L).map V.int)) → Q (.ref r) H'
theorem At.out {C : Addr} {H : Hp} {g l d : Addr} {fs : List Addr} {s : Option Kqp1.State} {o : HO} (h : At C H g l fs s) (hd : d ∉ g :: l :: fs) : At C (upd H d o) g l fs s := by
  obtain ⟨dx, hg⟩ := h.ins
  have n1 : g ≠ d := fun z => hd (z ▸ List.mem_cons_self)
  have n2 : l ≠ d := fun z => hd (z ▸ List.mem_cons_of_mem _ List.mem_cons_self)
  refine ⟨⟨dx, by rw [upd_ne n1]; exact hg⟩, by rw [upd_ne n2]; exact h.lst, h.nd, h.len, fun j c hc => ?_, h.wf, h.ln⟩
  obtain ⟨f, h1, h2⟩ := h.at_ j c hc
  have n3 : c ≠ d := fun z => hd (z ▸ List.mem_cons_of_mem _ (List.mem_cons_of_mem _ (List.mem_of_getElem? hc)))
  exact ⟨f, h1, by rw [upd_ne n3]; exact h2⟩
/-- a call's numbers, cut out of the list -/
theorem cut_told {pre hd told post : List Int} {b e : Int} (hb : b = ((pre.length + hd.length : Nat) : Int)) (he : e = ((pre.length + hd.length + told.length : Nat) : Int)) :
    cutV ((pre ++ (hd ++ (told ++ post))).map V.int) (some b) (some e) = told.map V.int := by
  subst hb he
  unfold cutV
  rw [HT.sIx_nat, HT.sIx_nat]
  have l1 : ((pre ++ (hd ++ (told ++ post))).map V.int).length = pre.length + hd.length + told.length + post.length := by
    simp only [List.length_map, List.length_append]
    omega
  rw [l1, Nat.min_eq_left (by omega), Nat.min_eq_left (by omega), show pre.length + hd.length + told.length - (pre.length + hd.length) = told.length by omega]
  rw [← List.map_drop, ← List.map_take]
  congr 1
  have : pre ++ (hd ++ (told ++ post)) = (pre ++ hd) ++ (told ++ post) := by simp
  rw [this, show pre.length + hd.length = (pre ++ hd).length by rw [List.length_append]]
  exact My.cut_mid _ _ _
theorem getD_mid (pre post : List Int) (v : Int) : (pre ++ v :: post).getD pre.length 0 = v := by
  rw [List.getD_eq_getElem?_getD, List.getElem?_append_right (Nat.le_refl _), Nat.sub_self]
  rfl
theorem getD_mid1 (pre post : List Int) (u v : Int) : (pre ++ u :: v :: post).getD (pre.length + 1) 0 = v := by
  rw [List.getD_eq_getElem?_getD, List.getElem?_append_right (by omega), show pre.length + 1 - pre.length = 1 by omega]
  rfl
theorem small6 {n : Nat} (h : n ≤ 2000) : n < sizeLine := Nat.lt_of_le_of_lt h (by decide)
section
variable {P : Program} {w : World} {K : PySem.W.Frag} {mg : Str → Option Value} {base : Heap} {a : Ad}
theorem sc_answers : FnScope ["calls", "garden", "given", "place", "begin", "end", "answer"] ["calls"] (defScope s_answers) := ⟨rfl, rfl, rfl, by decide +kernel, rfl, by decide +kernel, by decide +kernel⟩
theorem ok_answers (T : Txt K mg a) : FnOk P w K mg base CX0 9 a.f_answers a.d_answers ["calls"] (spAnswers K) := by
  refine T.F_answers.ok sc_answers (fun vs H Q E h => ?_) (fun cdv A outer st H vs Q E hr h => ?_)
  · obtain ⟨c, L, raw, rfl, _⟩ := h
    rfl
  · obtain ⟨c, L, raw, rfl, hL, hN, hR, hlim, q⟩ := h
    refine ⟨_, (pss_cons (ps_set (i := 1) sc_answers.nd rfl (by first | exact Or.inl rfl | exact Or.inr rfl) (pe_make0 T.M_Garden (ok_Garden_init T) (hr.mono (by decide)) rfl T.m_Garden T.b_Garden_init .nil pass0)) (pss_cons (ps_set (i := 2) sc_answers.nd rfl (by first | exact Or.inl rfl | exact Or.inr rfl) (pe_lst pa_nil)) (pss_cons (ps_set (i := 3) sc_answers.nd rfl (by first | exact Or.inl rfl | exact Or.inr rfl) pe_int) (pss_cons (ps_while PassesOwn.never (pt_cmpR op_lt (pv 3) (pe_callB call_len_seq (by rfl) T.n_len PySem.boot_len (pa_cons (pv 0) pa_nil)) (nomark _)) (pss_cons (ps_set (i := 4) sc_answers.nd rfl (by first | exact Or.inl rfl | exact Or.inr rfl) (pe_call (ok_told_begin T) (hr.mono (by decide)) rfl T.m_told_begin T.F_told_begin.kp T.b_told_begin .nil pass0 (pa_cons (pv 0) (pa_cons (pv 3) pa_nil)))) (pss_cons (ps_set (i := 5) sc_answers.nd rfl (by first | exact Or.inl rfl | exact Or.inr rfl) (pe_op op_add (pv 4) (pe_call (ok_told_count T) (hr.mono (by decide)) rfl T.m_told_count T.F_told_count.kp T.b_told_count .nil pass0 (pa_cons (pv 0) (pa_cons (pv 3) pa_nil))))) (pss_cons (ps_set (i := 6) sc_answers.nd rfl (by first | exact Or.inl rfl | exact Or.inr rfl) (pe_call (ok_answer_of T) (hr.mono (by decide)) rfl T.m_answer_of T.F_answer_of.kp T.b_answer_of .nil pass0 (pa_cons (pv 1) (pa_cons (pe_ix ix_list (pv 0) (pv 3) (fun _ _ => rfl)) (pa_cons (pe_slice sl_list (pv 0) (po_some (pv 4)) (po_some (pv 5))) pa_nil))))) (pss_cons (ps_expr (pe_bm PySem.F.plainAttrs_list PySem.F.slot_list_append PySem.F.type_list_append mt_append (pv 2) (pa_cons (pe_callB call_len_seq (by rfl) T.n_len PySem.boot_len (pa_cons (pv 6) pa_nil)) pa_nil))) (pss_cons (ps_expr (pe_bm PySem.F.plainAttrs_list PySem.F.slot_list_extend PySem.F.type_list_extend mt_extend (pv 2) (pa_cons (pv 6) pa_nil))) (pss_one (ps_set (i := 3) sc_answers.nd rfl (by first | exact Or.inl rfl | exact Or.inr rfl) (pv 5))))))))) (pss_one (ps_ret (pv 2))))))), ?_⟩
    try dsimp only [cxOf]
    -- garden = Garden()
    intro g dx ng nd nex
    refine ⟨g, dx, rfl, upd_same, fun H1 l hl hA1 kp1 => ⟨rfl, ?_⟩⟩
    have s1 : Same H H1 := Same.made ng nd kp1
    have hl0 : H l = none := by
      cases z : H l with
      | none => rfl
      | some o =>
        have n1 := ne_of_none z ng
        have n2 := ne_of_none z nd
        rw [upd_ne n1, upd_ne n2, z] at hl
        cases hl
    -- given = []; place = 0
    refine ⟨(by show 0 ≤ sizeLine; decide), fun d hd => ?_⟩
    have hd0 : H d = none := s1.free hd
    refine while_by (fun σ H' => ∃ (done rest : List (List (List Int))) (l : Addr) (fs : List Addr) (v4 v5 v6 : Option V), raw = done ++ rest ∧ σ = [some (.ref c), some (.ref g), some (.ref d), some (.int ((PyFlat.put done).length : Nat)), v4, v5, v6] ∧
        Same H H' ∧ At a.C_Garden H' g l fs (stateAfter stp st0 done) ∧ (∀ b ∈ g :: l :: fs, H b = none) ∧ d ∉ g :: l :: fs ∧ H' d = some (.lst ((PyFlat.told (PyFlat.played stp st0 done)).map V.int)))
      (fun σ _ => match σ with | [_, _, _, some (.int z), _, _, _] => L.length - z.toNat | _ => 0) ?_ ?_ ?_
    · refine ⟨[], raw, l, [], none, none, none, rfl, rfl, s1.trans (Same.upd hd), (hA1.same (Same.upd hd)), fun b hb => ?_, foot_none hA1 hd, upd_same⟩
      rcases List.mem_cons.mp hb with z | z
      · exact z ▸ ng
      · have : b = l := by simpa using z
        exact this ▸ hl0
    · rintro σ H' ⟨done, rest, l, fs, v4, v5, v6, hraw, rfl, sH, hA, hfr, hdf, hd'⟩
      have hLc := sH.seq hL
      refine ⟨_, rfl, _, rfl, c, _, rfl, .inl hLc, _, _, rfl, rfl, _, rfl, ?_⟩
      rw [List.length_map]
      have eL : L = PyFlat.put done ++ PyFlat.put rest := by rw [hR.is, hraw, My.put_append]
      refine ite2 (fun cnd => ?_) (fun cnd => ?_)
      · have cnd' : ((PyFlat.put done).length : Int) < (L.length : Int) := of_decide_eq_true cnd
        -- the next call
        obtain ⟨cl, rest', rfl⟩ : ∃ cl rest', rest = cl :: rest' := by
          cases rest with
          | nil =>
            rw [eL] at cnd'
            simp [PyFlat.put] at cnd'
          | cons cl rest' => exact ⟨cl, rest', rfl⟩
        have mcl : cl ∈ raw := by rw [hraw]; exact List.mem_append_right _ List.mem_cons_self
        obtain ⟨p, told, hOne⟩ := hR.ok cl mcl
        obtain ⟨hpl, h60⟩ := hlim cl mcl p told hOne
        have e1 := My.put1_of hOne
        have eL2 : L = PyFlat.put done ++ ((p : Int) :: ((if p = 1 then [(told.length : Int)] else []) ++ told) ++ PyFlat.put rest') := by
          rw [eL, ← e1]
          rfl
        generalize hpre : PyFlat.put done = pre at *
        generalize hpost : PyFlat.put rest' = post at *
        have hnT : NN told := fun v hv => hN v (by rw [eL2]; simp [hv])
        obtain ⟨ecl, hcnt⟩ := My.one_callC hOne hnT
        have at0 : L.getD pre.length 0 = (p : Int) := by
          rw [eL2]
          exact getD_mid _ _ _
        have lt0 : pre.length < L.length := by omega
        have hp20 : p < 20 := hOne.lt
        have begE : (if L.getD pre.length 0 = 1 then (pre.length : Int) + 2 else (pre.length : Int) + 1) = ((pre.length + ((p : Int) :: (if p = 1 then [(told.length : Int)] else [])).length : Nat) : Int) := by
          rw [at0]
          by_cases z : p = 1
          · rw [if_pos (by omega), if_pos z]
            simp
          · rw [if_neg (by omega), if_neg z]
            simp
        have cntE : (if p = 1 then L.getD (pre.length + 1) 0 else My.counts.getD p 0) = (told.length : Int) := by
          by_cases z : p = 1
          · rw [if_pos z, eL2, if_pos z]
            exact getD_mid1 _ _ _ _
          · rw [if_neg z, List.getD_eq_getElem?_getD]
            rcases hOne.form with ⟨y, _⟩ | ⟨_, _, y⟩
            · exact absurd y z
            · rw [y]
              rfl
        have lt1 : p = 1 → pre.length + 1 < L.length := fun z => by
          rw [eL2, if_pos z]
          simp
        -- begin, end
        refine ⟨_, rfl, _, rfl, c, L, pre.length, rfl, hLc, lt0, ?_⟩
        refine ⟨_, rfl, _, rfl, _, rfl, c, L, pre.length, p, rfl, hLc, lt0, at0, hp20, lt1, _, _, rfl, rfl, ?_⟩
        rw [begE, cntE]
        -- answer = answer_of(garden, calls[place], calls[begin:end])
        refine ⟨_, rfl, _, rfl, _, rfl, c, _, _, _, rfl, rfl, hLc, at_int lt0, _, rfl, _, rfl, _, rfl, _, rfl, _, rfl, c, _, rfl, hLc, fun t htn => ?_⟩
        have eC : cutV (L.map V.int) (some ((pre.length + ((p : Int) :: (if p = 1 then [(told.length : Int)] else [])).length : Nat) : Int)) (some (((pre.length + ((p : Int) :: (if p = 1 then [(told.length : Int)] else [])).length : Nat) : Int) + (told.length : Int))) = (asInts (told.map Int.toNat)).map V.int := by
          rw [My.ints_toNat told hnT]
          have := cut_told (pre := pre) (hd := (p : Int) :: (if p = 1 then [(told.length : Int)] else [])) (told := told) (post := post) (b := ((pre.length + ((p : Int) :: (if p = 1 then [(told.length : Int)] else [])).length : Nat) : Int)) (e := ((pre.length + ((p : Int) :: (if p = 1 then [(told.length : Int)] else [])).length : Nat) : Int) + (told.length : Int)) rfl (by omega)
          rw [← this]
          congr 2
          rw [eL2]
          simp
        rw [at0]
        have s2 : Same H' (upd H' t (.lst (cutV (L.map V.int) (some ((pre.length + ((p : Int) :: (if p = 1 then [(told.length : Int)] else [])).length : Nat) : Int)) (some (((pre.length + ((p : Int) :: (if p = 1 then [(told.length : Int)] else [])).length : Nat) : Int) + (told.length : Int)))))) := Same.upd htn
        refine ⟨g, l, t, fs, _, p, told.map Int.toNat, rfl, hA.same s2, SqL.of (by rw [upd_same, eC]), ⟨by rw [List.length_map]; exact h60, hcnt⟩, hpl, fun H2 r l' fs' hA2 hr2 F => ?_⟩
        have est : stepN (stateAfter stp st0 done) p (told.map Int.toNat) = stp (stateAfter stp st0 done) cl := by
          unfold stepN
          rw [← ecl]
        rw [est] at hA2 hr2
        rw [← My.state_snoc] at hA2
        have hd2 : H2 d = some (.lst ((PyFlat.told (PyFlat.played stp st0 done)).map V.int)) := F.kp _ _ (s2 _ _ hd') hdf
        have hdn : d ∉ g :: l' :: fs' := fun z => (F.new d z).elim hdf fun e => by
          rw [s2 _ _ hd'] at e
          cases e
        have nrd : r ≠ d := fun z => by
          have := F.rn
          rw [z, s2 _ _ hd'] at this
          cases this
        have sH2 : Same H H2 := fun b o e => F.kp b o (s2 b o (sH b o e)) fun hb => by
          rw [hfr b hb] at e
          cases e
        have hl5 : (stp (stateAfter stp st0 done) cl).2.length ≤ 5 := My.step_len _ _
        have hfew : done.length + 1 ≤ 200 := by
          have := hR.few
          rw [hraw, List.length_append, List.length_cons] at this
          omega
        have hglen : (PyFlat.told (PyFlat.played stp st0 done)).length ≤ 1200 := My.given_len done st0 (n := 200) (by omega)
        -- given.append(len(answer))
        refine ⟨_, rfl, .inl ⟨rfl, _, SqL.of hd2⟩, _, rfl, r, _, rfl, .inl (SqL.of hr2), d, _, _, rfl, rfl, hd2, small6 (by rw [List.length_map]; omega), ?_⟩
        -- given.extend(answer)
        refine ⟨_, rfl, .inl ⟨rfl, _, SqL.of upd_same⟩, _, rfl, d, r, _, _, rfl, rfl, upd_same, (by rw [upd_ne nrd]; exact hr2), Nat.le_of_lt (small6 (by rw [List.length_append, List.length_map, List.length_map]; simp; omega)), ?_⟩
        -- place = end
        refine ⟨_, rfl, ?_⟩
        have ehl : (PyFlat.put (done ++ [cl])).length = pre.length + ((p : Int) :: (if p = 1 then [(told.length : Int)] else [])).length + told.length := by
          rw [My.put_append, hpre]
          show (pre ++ (PyFlat.put1 cl ++ [])).length = _
          rw [e1]
          simp
          omega
        have eE : ((pre.length + ((p : Int) :: (if p = 1 then [(told.length : Int)] else [])).length : Nat) : Int) + (told.length : Int) = ((PyFlat.put (done ++ [cl])).length : Nat) := by
          rw [ehl]
          omega
        refine ⟨⟨done ++ [cl], rest', l', fs', some (V.int ((pre.length + ((p : Int) :: (if p = 1 then [(told.length : Int)] else [])).length : Nat) : Int)), some (V.int (((pre.length + ((p : Int) :: (if p = 1 then [(told.length : Int)] else [])).length : Nat) : Int) + (told.length : Int))), some (V.ref r), ?_, ?_, ?_, ?_, ?_, hdn, ?_⟩, ?_⟩
        · rw [hraw]
          simp
        · rw [← eE]
          rfl
        · intro b o e
          have nb := ne_of_none e hd0
          rw [upd_ne nb, upd_ne nb]
          exact sH2 b o e
        · exact (hA2.out hdn).out hdn
        · intro b hb
          rcases F.new b hb with z | z
          · exact hfr b z
          · exact (sH.trans s2).free z
        · rw [upd_same, My.played_snoc, My.told_snoc, List.map_append, List.map_cons]
          simp
        · show L.length - (((pre.length + ((p : Int) :: (if p = 1 then [(told.length : Int)] else [])).length : Nat) : Int) + (told.length : Int)).toNat < L.length - ((pre.length : Nat) : Int).toNat
          have : 1 ≤ ((p : Int) :: (if p = 1 then [(told.length : Int)] else [])).length := by simp
          omega
      · -- return given
        have cnd' : ¬ ((PyFlat.put done).length : Int) < (L.length : Int) := fun z => cnd (decide_eq_true z)
        have er : rest = [] := by
          cases rest with
          | nil => rfl
          | cons cl rest' =>
            exfalso
            have mcl : cl ∈ raw := by rw [hraw]; exact List.mem_append_right _ List.mem_cons_self
            obtain ⟨p, told, hOne⟩ := hR.ok cl mcl
            have e1 := My.put1_of hOne
            have : PyFlat.put (cl :: rest') = PyFlat.put1 cl ++ PyFlat.put rest' := rfl
            rw [eL, this, e1] at cnd'
            simp at cnd'
            omega
        subst er
        rw [List.append_nil] at hraw
        subst hraw
        refine ⟨_, rfl, q H' d ?_⟩
        rw [hd', hR.ans]
    · intro σ H' Q1 Q2 hm h
      obtain ⟨v, e, v2, e2, p, ys, e3, hq, i, j, e4, e5, k, e6, h⟩ := h
      exact ⟨v, e, v2, e2, p, ys, e3, hq, i, j, e4, e5, k, e6, hm _ _ h⟩
end
end Pf

end
section
set_option Elab.async false
set_option linter.all false
set_option maxRecDepth 100000
set_option maxHeartbeats 4000000
namespace Pf
open PySem PySem.Spec PyProof.Rows L2
theorem txt_mk {K : PySem.W.Frag} {h : Heap} {mg : Str → Option Value} (X : K.In h) (G : h.Ns mainGlobals mg)
    {C_Garden : Addr}
    {f_common_divisor : Addr} {od_common_divisor an_common_divisor : Option Addr} {sl_common_divisor : Array (Option Value)} {oc_common_divisor kV_common_divisor dc_common_divisor pm_common_divisor cd_common_divisor ct_common_divisor : Value}
    {f_fraction : Addr} {od_fraction an_fraction : Option Addr} {sl_fraction : Array (Option Value)} {oc_fraction kV_fraction dc_fraction pm_fraction cd_fraction ct_fraction : Value}
    {f_pair_count : Addr} {od_pair_count an_pair_count : Option Addr} {sl_pair_count : Array (Option Value)} {oc_pair_count kV_pair_count dc_pair_count pm_pair_count cd_pair_count ct_pair_count : Value}
    {f_pair_place : Addr} {od_pair_place an_pair_place : Option Addr} {sl_pair_place : Array (Option Value)} {oc_pair_place kV_pair_place dc_pair_place pm_pair_place cd_pair_place ct_pair_place : Value}
    {f_kind_weights : Addr} {od_kind_weights an_kind_weights : Option Addr} {sl_kind_weights : Array (Option Value)} {oc_kind_weights kV_kind_weights dc_kind_weights pm_kind_weights cd_kind_weights ct_kind_weights : Value}
    {f_weights_crossed : Addr} {od_weights_crossed an_weights_crossed : Option Addr} {sl_weights_crossed : Array (Option Value)} {oc_weights_crossed kV_weights_crossed dc_weights_crossed pm_weights_crossed cd_weights_crossed ct_weights_crossed : Value}
    {f_weights_by_any : Addr} {od_weights_by_any an_weights_by_any : Option Addr} {sl_weights_by_any : Array (Option Value)} {oc_weights_by_any kV_weights_by_any dc_weights_by_any pm_weights_by_any cd_weights_by_any ct_weights_by_any : Value}
    {f_weights_by_themselves : Addr} {od_weights_by_themselves an_weights_by_themselves : Option Addr} {sl_weights_by_themselves : Array (Option Value)} {oc_weights_by_themselves kV_weights_by_themselves dc_weights_by_themselves pm_weights_by_themselves cd_weights_by_themselves ct_weights_by_themselves : Value}
    {f_next_weights : Addr} {od_next_weights an_next_weights : Option Addr} {sl_next_weights : Array (Option Value)} {oc_next_weights kV_next_weights dc_next_weights pm_next_weights cd_next_weights ct_next_weights : Value}
    {f_later_weights : Addr} {od_later_weights an_later_weights : Option Addr} {sl_later_weights : Array (Option Value)} {oc_later_weights kV_later_weights dc_later_weights pm_later_weights cd_later_weights ct_later_weights : Value}
    {f_weights_together : Addr} {od_weights_together an_weights_together : Option Addr} {sl_weights_together : Array (Option Value)} {oc_weights_together kV_weights_together dc_weights_together pm_weights_together cd_weights_together ct_weights_together : Value}
    {f_is_at_rest : Addr} {od_is_at_rest an_is_at_rest : Option Addr} {sl_is_at_rest : Array (Option Value)} {oc_is_at_rest kV_is_at_rest dc_is_at_rest pm_is_at_rest cd_is_at_rest ct_is_at_rest : Value}
    {f_generations_to_rest : Addr} {od_generations_to_rest an_generations_to_rest : Option Addr} {sl_generations_to_rest : Array (Option Value)} {oc_generations_to_rest kV_generations_to_rest dc_generations_to_rest pm_generations_to_rest cd_generations_to_rest ct_generations_to_rest : Value}
    {f_share_of_pair : Addr} {od_share_of_pair an_share_of_pair : Option Addr} {sl_share_of_pair : Array (Option Value)} {oc_share_of_pair kV_share_of_pair dc_share_of_pair pm_share_of_pair cd_share_of_pair ct_share_of_pair : Value}
    {f_share_of_kind : Addr} {od_share_of_kind an_share_of_kind : Option Addr} {sl_share_of_kind : Array (Option Value)} {oc_share_of_kind kV_share_of_kind dc_share_of_kind pm_share_of_kind cd_share_of_kind ct_share_of_kind : Value}
    {f_share_mixed : Addr} {od_share_mixed an_share_mixed : Option Addr} {sl_share_mixed : Array (Option Value)} {oc_share_mixed kV_share_mixed dc_share_mixed pm_share_mixed cd_share_mixed ct_share_mixed : Value}
    {f_share_expected : Addr} {od_share_expected an_share_expected : Option Addr} {sl_share_expected : Array (Option Value)} {oc_share_expected kV_share_expected dc_share_expected pm_share_expected cd_share_expected ct_share_expected : Value}
    {f_lack_of_mixed : Addr} {od_lack_of_mixed an_lack_of_mixed : Option Addr} {sl_lack_of_mixed : Array (Option Value)} {oc_lack_of_mixed kV_lack_of_mixed dc_lack_of_mixed pm_lack_of_mixed cd_lack_of_mixed ct_lack_of_mixed : Value}
    {f_rarest_kind : Addr} {od_rarest_kind an_rarest_kind : Option Addr} {sl_rarest_kind : Array (Option Value)} {oc_rarest_kind kV_rarest_kind dc_rarest_kind pm_rarest_kind cd_rarest_kind ct_rarest_kind : Value}
    {f_left_by_halves : Addr} {od_left_by_halves an_left_by_halves : Option Addr} {sl_left_by_halves : Array (Option Value)} {oc_left_by_halves kV_left_by_halves dc_left_by_halves pm_left_by_halves cd_left_by_halves ct_left_by_halves : Value}
    {f_Garden_init : Addr} {od_Garden_init an_Garden_init : Option Addr} {sl_Garden_init : Array (Option Value)} {oc_Garden_init kV_Garden_init dc_Garden_init pm_Garden_init cd_Garden_init ct_Garden_init : Value}
    {f_is_no_field : Addr} {od_is_no_field an_is_no_field : Option Addr} {sl_is_no_field : Array (Option Value)} {oc_is_no_field kV_is_no_field dc_is_no_field pm_is_no_field cd_is_no_field ct_is_no_field : Value}
    {f_is_no_kind : Addr} {od_is_no_kind an_is_no_kind : Option Addr} {sl_is_no_kind : Array (Option Value)} {oc_is_no_kind kV_is_no_kind dc_is_no_kind pm_is_no_kind cd_is_no_kind ct_is_no_kind : Value}
    {f_shares_refusal : Addr} {od_shares_refusal an_shares_refusal : Option Addr} {sl_shares_refusal : Array (Option Value)} {oc_shares_refusal kV_shares_refusal dc_shares_refusal pm_shares_refusal cd_shares_refusal ct_shares_refusal : Value}
    {f_change_refusal : Addr} {od_change_refusal an_change_refusal : Option Addr} {sl_change_refusal : Array (Option Value)} {oc_change_refusal kV_change_refusal dc_change_refusal pm_change_refusal cd_change_refusal ct_change_refusal : Value}
    {f_one_if : Addr} {od_one_if an_one_if : Option Addr} {sl_one_if : Array (Option Value)} {oc_one_if kV_one_if dc_one_if pm_one_if cd_one_if ct_one_if : Value}
    {f_answer_start : Addr} {od_answer_start an_answer_start : Option Addr} {sl_answer_start : Array (Option Value)} {oc_answer_start kV_answer_start dc_answer_start pm_answer_start cd_answer_start ct_answer_start : Value}
    {f_answer_field : Addr} {od_answer_field an_answer_field : Option Addr} {sl_answer_field : Array (Option Value)} {oc_answer_field kV_answer_field dc_answer_field pm_answer_field cd_answer_field ct_answer_field : Value}
    {f_answer_put : Addr} {od_answer_put an_answer_put : Option Addr} {sl_answer_put : Array (Option Value)} {oc_answer_put kV_answer_put dc_answer_put pm_answer_put cd_answer_put ct_answer_put : Value}
    {f_answer_take : Addr} {od_answer_take an_answer_take : Option Addr} {sl_answer_take : Array (Option Value)} {oc_answer_take kV_answer_take dc_answer_take pm_answer_take cd_answer_take ct_answer_take : Value}
    {f_answer_share : Addr} {od_answer_share an_answer_share : Option Addr} {sl_answer_share : Array (Option Value)} {oc_answer_share kV_answer_share dc_answer_share pm_answer_share cd_answer_share ct_answer_share : Value}
    {f_answer_kind : Addr} {od_answer_kind an_answer_kind : Option Addr} {sl_answer_kind : Array (Option Value)} {oc_answer_kind kV_answer_kind dc_answer_kind pm_answer_kind cd_answer_kind ct_answer_kind : Value}
    {f_answer_next : Addr} {od_answer_next an_answer_next : Option Addr} {sl_answer_next : Array (Option Value)} {oc_answer_next kV_answer_next dc_answer_next pm_answer_next cd_answer_next ct_answer_next : Value}
    {f_answer_after : Addr} {od_answer_after an_answer_after : Option Addr} {sl_answer_after : Array (Option Value)} {oc_answer_after kV_answer_after dc_answer_after pm_answer_after cd_answer_after ct_answer_after : Value}
    {f_answer_mixed : Addr} {od_answer_mixed an_answer_mixed : Option Addr} {sl_answer_mixed : Array (Option Value)} {oc_answer_mixed kV_answer_mixed dc_answer_mixed pm_answer_mixed cd_answer_mixed ct_answer_mixed : Value}
    {f_answer_expected : Addr} {od_answer_expected an_answer_expected : Option Addr} {sl_answer_expected : Array (Option Value)} {oc_answer_expected kV_answer_expected dc_answer_expected pm_answer_expected cd_answer_expected ct_answer_expected : Value}
    {f_answer_lack : Addr} {od_answer_lack an_answer_lack : Option Addr} {sl_answer_lack : Array (Option Value)} {oc_answer_lack kV_answer_lack dc_answer_lack pm_answer_lack cd_answer_lack ct_answer_lack : Value}
    {f_answer_rest : Addr} {od_answer_rest an_answer_rest : Option Addr} {sl_answer_rest : Array (Option Value)} {oc_answer_rest kV_answer_rest dc_answer_rest pm_answer_rest cd_answer_rest ct_answer_rest : Value}
    {f_answer_soon : Addr} {od_answer_soon an_answer_soon : Option Addr} {sl_answer_soon : Array (Option Value)} {oc_answer_soon kV_answer_soon dc_answer_soon pm_answer_soon cd_answer_soon ct_answer_soon : Value}
    {f_answer_together : Addr} {od_answer_together an_answer_together : Option Addr} {sl_answer_together : Array (Option Value)} {oc_answer_together kV_answer_together dc_answer_together pm_answer_together cd_answer_together ct_answer_together : Value}
    {f_answer_cross : Addr} {od_answer_cross an_answer_cross : Option Addr} {sl_answer_cross : Array (Option Value)} {oc_answer_cross kV_answer_cross dc_answer_cross pm_answer_cross cd_answer_cross ct_answer_cross : Value}
    {f_answer_cross_next : Addr} {od_answer_cross_next an_answer_cross_next : Option Addr} {sl_answer_cross_next : Array (Option Value)} {oc_answer_cross_next kV_answer_cross_next dc_answer_cross_next pm_answer_cross_next cd_answer_cross_next ct_answer_cross_next : Value}
    {f_answer_rarest : Addr} {od_answer_rarest an_answer_rarest : Option Addr} {sl_answer_rarest : Array (Option Value)} {oc_answer_rarest kV_answer_rarest dc_answer_rarest pm_answer_rarest cd_answer_rarest ct_answer_rarest : Value}
    {f_answer_size : Addr} {od_answer_size an_answer_size : Option Addr} {sl_answer_size : Array (Option Value)} {oc_answer_size kV_answer_size dc_answer_size pm_answer_size cd_answer_size ct_answer_size : Value}
    {f_answer_half : Addr} {od_answer_half an_answer_half : Option Addr} {sl_answer_half : Array (Option Value)} {oc_answer_half kV_answer_half dc_answer_half pm_answer_half cd_answer_half ct_answer_half : Value}
    {f_answer_state : Addr} {od_answer_state an_answer_state : Option Addr} {sl_answer_state : Array (Option Value)} {oc_answer_state kV_answer_state dc_answer_state pm_answer_state cd_answer_state ct_answer_state : Value}
    {f_answer_of : Addr} {od_answer_of an_answer_of : Option Addr} {sl_answer_of : Array (Option Value)} {oc_answer_of kV_answer_of dc_answer_of pm_answer_of cd_answer_of ct_answer_of : Value}
    {f_told_begin : Addr} {od_told_begin an_told_begin : Option Addr} {sl_told_begin : Array (Option Value)} {oc_told_begin kV_told_begin dc_told_begin pm_told_begin cd_told_begin ct_told_begin : Value}
    {f_told_count : Addr} {od_told_count an_told_count : Option Addr} {sl_told_count : Array (Option Value)} {oc_told_count kV_told_count dc_told_count pm_told_count cd_told_count ct_told_count : Value}
    {f_answers : Addr} {od_answers an_answers : Option Addr} {sl_answers : Array (Option Value)} {oc_answers kV_answers dc_answers pm_answers cd_answers ct_answers : Value}
    {tk_HUNDRED : Tok}
    {tk_NO_FIELD : Tok}
    {tk_NO_PLANTS : Tok}
    {tk_NOT_STARTED : Tok}
    {tk_TOO_FEW : Tok}
    {tk_WRONG : Tok}
    {tk_FULL : Tok}
    {tk_NO_ANSWER : Tok}
    {tk_FEWEST_KINDS : Tok}
    {tk_MOST_KINDS : Tok}
    {tk_MOST_FIELDS : Tok}
    {tk_MOST_OF_A_PAIR : Tok}
    {tk_MOST_OF_HUNDRED : Tok}
    {tk_MOST_GENERATIONS : Tok}
    {tk_MOST_HALVES : Tok}
    {tk_START : Tok}
    {tk_FIELD : Tok}
    {t_TOLD_COUNTS : Addr} {od_TOLD_COUNTS : Option Addr} {sl_TOLD_COUNTS : Array (Option Value)} {n_TOLD_COUNTS : Nat}
    {tk_TOLD_COUNTS_0 tk_TOLD_COUNTS_1 tk_TOLD_COUNTS_2 tk_TOLD_COUNTS_3 tk_TOLD_COUNTS_4 tk_TOLD_COUNTS_5 tk_TOLD_COUNTS_6 tk_TOLD_COUNTS_7 tk_TOLD_COUNTS_8 tk_TOLD_COUNTS_9 tk_TOLD_COUNTS_10 tk_TOLD_COUNTS_11 tk_TOLD_COUNTS_12 tk_TOLD_COUNTS_13 tk_TOLD_COUNTS_14 tk_TOLD_COUNTS_15 tk_TOLD_COUNTS_16 tk_TOLD_COUNTS_17 tk_TOLD_COUNTS_18 tk_TOLD_COUNTS_19 : Tok}
    {t_ANSWERERS : Addr} {od_ANSWERERS : Option Addr} {sl_ANSWERERS : Array (Option Value)} {n_ANSWERERS : Nat}
    (ha_Garden : PySem.W.nsIn K mainGlobals "Garden" = some (some (.ref C_Garden)))
    (ha_common_divisor : PySem.W.nsIn K mainGlobals "common_divisor" = some (some (.ref f_common_divisor)))
    (hl_common_divisor : K.lookup f_common_divisor = some ⟨oc_common_divisor, od_common_divisor, .func (PySem.W.fnOf "common_divisor" "common_divisor" (defArgs s_common_divisor) (defBody s_common_divisor) (defScope s_common_divisor) .none kV_common_divisor dc_common_divisor pm_common_divisor an_common_divisor cd_common_divisor ct_common_divisor), sl_common_divisor⟩)
    (hc_common_divisor : PySem.W.codeIn K cd_common_divisor "common_divisor" = true)
    (hk_common_divisor : PySem.W.keepIn K (.ref f_common_divisor) = true)
    (ha_fraction : PySem.W.nsIn K mainGlobals "fraction" = some (some (.ref f_fraction)))
    (hl_fraction : K.lookup f_fraction = some ⟨oc_fraction, od_fraction, .func (PySem.W.fnOf "fraction" "fraction" (defArgs s_fraction) (defBody s_fraction) (defScope s_fraction) .none kV_fraction dc_fraction pm_fraction an_fraction cd_fraction ct_fraction), sl_fraction⟩)
    (hc_fraction : PySem.W.codeIn K cd_fraction "fraction" = true)
    (hk_fraction : PySem.W.keepIn K (.ref f_fraction) = true)
    (ha_pair_count : PySem.W.nsIn K mainGlobals "pair_count" = some (some (.ref f_pair_count)))
    (hl_pair_count : K.lookup f_pair_count = some ⟨oc_pair_count, od_pair_count, .func (PySem.W.fnOf "pair_count" "pair_count" (defArgs s_pair_count) (defBody s_pair_count) (defScope s_pair_count) .none kV_pair_count dc_pair_count pm_pair_count an_pair_count cd_pair_count ct_pair_count), sl_pair_count⟩)
    (hc_pair_count : PySem.W.codeIn K cd_pair_count "pair_count" = true)
    (hk_pair_count : PySem.W.keepIn K (.ref f_pair_count) = true)
    (ha_pair_place : PySem.W.nsIn K mainGlobals "pair_place" = some (some (.ref f_pair_place)))
    (hl_pair_place : K.lookup f_pair_place = some ⟨oc_pair_place, od_pair_place, .func (PySem.W.fnOf "pair_place" "pair_place" (defArgs s_pair_place) (defBody s_pair_place) (defScope s_pair_place) .none kV_pair_place dc_pair_place pm_pair_place an_pair_place cd_pair_place ct_pair_place), sl_pair_place⟩)
    (hc_pair_place : PySem.W.codeIn K cd_pair_place "pair_place" = true)
    (hk_pair_place : PySem.W.keepIn K (.ref f_pair_place) = true)
    (ha_kind_weights : PySem.W.nsIn K mainGlobals "kind_weights" = some (some (.ref f_kind_weights)))
    (hl_kind_weights : K.lookup f_kind_weights = some ⟨oc_kind_weights, od_kind_weights, .func (PySem.W.fnOf "kind_weights" "kind_weights" (defArgs s_kind_weights) (defBody s_kind_weights) (defScope s_kind_weights) .none kV_kind_weights dc_kind_weights pm_kind_weights an_kind_weights cd_kind_weights ct_kind_weights), sl_kind_weights⟩)
    (hc_kind_weights : PySem.W.codeIn K cd_kind_weights "kind_weights" = true)
    (hk_kind_weights : PySem.W.keepIn K (.ref f_kind_weights) = true)
    (ha_weights_crossed : PySem.W.nsIn K mainGlobals "weights_crossed" = some (some (.ref f_weights_crossed)))
    (hl_weights_crossed : K.lookup f_weights_crossed = some ⟨oc_weights_crossed, od_weights_crossed, .func (PySem.W.fnOf "weights_crossed" "weights_crossed" (defArgs s_weights_crossed) (defBody s_weights_crossed) (defScope s_weights_crossed) .none kV_weights_crossed dc_weights_crossed pm_weights_crossed an_weights_crossed cd_weights_crossed ct_weights_crossed), sl_weights_crossed⟩)
    (hc_weights_crossed : PySem.W.codeIn K cd_weights_crossed "weights_crossed" = true)
    (hk_weights_crossed : PySem.W.keepIn K (.ref f_weights_crossed) = true)
    (ha_weights_by_any : PySem.W.nsIn K mainGlobals "weights_by_any" = some (some (.ref f_weights_by_any)))
    (hl_weights_by_any : K.lookup f_weights_by_any = some ⟨oc_weights_by_any, od_weights_by_any, .func (PySem.W.fnOf "weights_by_any" "weights_by_any" (defArgs s_weights_by_any) (defBody s_weights_by_any) (defScope s_weights_by_any) .none kV_weights_by_any dc_weights_by_any pm_weights_by_any an_weights_by_any cd_weights_by_any ct_weights_by_any), sl_weights_by_any⟩)
    (hc_weights_by_any : PySem.W.codeIn K cd_weights_by_any "weights_by_any" = true)
    (hk_weights_by_any : PySem.W.keepIn K (.ref f_weights_by_any) = true)
    (ha_weights_by_themselves : PySem.W.nsIn K mainGlobals "weights_by_themselves" = some (some (.ref f_weights_by_themselves)))
    (hl_weights_by_themselves : K.lookup f_weights_by_themselves = some ⟨oc_weights_by_themselves, od_weights_by_themselves, .func (PySem.W.fnOf "weights_by_themselves" "weights_by_themselves" (defArgs s_weights_by_themselves) (defBody s_weights_by_themselves) (defScope s_weights_by_themselves) .none kV_weights_by_themselves dc_weights_by_themselves pm_weights_by_themselves an_weights_by_themselves cd_weights_by_themselves ct_weights_by_themselves), sl_weights_by_themselves⟩)
    (hc_weights_by_themselves : PySem.W.codeIn K cd_weights_by_themselves "weights_by_themselves" = true)
    (hk_weights_by_themselves : PySem.W.keepIn K (.ref f_weights_by_themselves) = true)
    (ha_next_weights : PySem.W.nsIn K mainGlobals "next_weights" = some (some (.ref f_next_weights)))
    (hl_next_weights : K.lookup f_next_weights = some ⟨oc_next_weights, od_next_weights, .func (PySem.W.fnOf "next_weights" "next_weights" (defArgs s_next_weights) (defBody s_next_weights) (defScope s_next_weights) .none kV_next_weights dc_next_weights pm_next_weights an_next_weights cd_next_weights ct_next_weights), sl_next_weights⟩)
    (hc_next_weights : PySem.W.codeIn K cd_next_weights "next_weights" = true)
    (hk_next_weights : PySem.W.keepIn K (.ref f_next_weights) = true)
    (ha_later_weights : PySem.W.nsIn K mainGlobals "later_weights" = some (some (.ref f_later_weights)))
    (hl_later_weights : K.lookup f_later_weights = some ⟨oc_later_weights, od_later_weights, .func (PySem.W.fnOf "later_weights" "later_weights" (defArgs s_later_weights) (defBody s_later_weights) (defScope s_later_weights) .none kV_later_weights dc_later_weights pm_later_weights an_later_weights cd_later_weights ct_later_weights), sl_later_weights⟩)
    (hc_later_weights : PySem.W.codeIn K cd_later_weights "later_weights" = true)
    (hk_later_weights : PySem.W.keepIn K (.ref f_later_weights) = true)
    (ha_weights_together : PySem.W.nsIn K mainGlobals "weights_together" = some (some (.ref f_weights_together)))
    (hl_weights_together : K.lookup f_weights_together = some ⟨oc_weights_together, od_weights_together, .func (PySem.W.fnOf "weights_together" "weights_together" (defArgs s_weights_together) (defBody s_weights_together) (defScope s_weights_together) .none kV_weights_together dc_weights_together pm_weights_together an_weights_together cd_weights_together ct_weights_together), sl_weights_together⟩)
    (hc_weights_together : PySem.W.codeIn K cd_weights_together "weights_together" = true)
    (hk_weights_together : PySem.W.keepIn K (.ref f_weights_together) = true)
    (ha_is_at_rest : PySem.W.nsIn K mainGlobals "is_at_rest" = some (some (.ref f_is_at_rest)))
    (hl_is_at_rest : K.lookup f_is_at_rest = some ⟨oc_is_at_rest, od_is_at_rest, .func (PySem.W.fnOf "is_at_rest" "is_at_rest" (defArgs s_is_at_rest) (defBody s_is_at_rest) (defScope s_is_at_rest) .none kV_is_at_rest dc_is_at_rest pm_is_at_rest an_is_at_rest cd_is_at_rest ct_is_at_rest), sl_is_at_rest⟩)
    (hc_is_at_rest : PySem.W.codeIn K cd_is_at_rest "is_at_rest" = true)
    (hk_is_at_rest : PySem.W.keepIn K (.ref f_is_at_rest) = true)
    (ha_generations_to_rest : PySem.W.nsIn K mainGlobals "generations_to_rest" = some (some (.ref f_generations_to_rest)))
    (hl_generations_to_rest : K.lookup f_generations_to_rest = some ⟨oc_generations_to_rest, od_generations_to_rest, .func (PySem.W.fnOf "generations_to_rest" "generations_to_rest" (defArgs s_generations_to_rest) (defBody s_generations_to_rest) (defScope s_generations_to_rest) .none kV_generations_to_rest dc_generations_to_rest pm_generations_to_rest an_generations_to_rest cd_generations_to_rest ct_generations_to_rest), sl_generations_to_rest⟩)
    (hc_generations_to_rest : PySem.W.codeIn K cd_generations_to_rest "generations_to_rest" = true)
    (hk_generations_to_rest : PySem.W.keepIn K (.ref f_generations_to_rest) = true)
    (ha_share_of_pair : PySem.W.nsIn K mainGlobals "share_of_pair" = some (some (.ref f_share_of_pair)))
    (hl_share_of_pair : K.lookup f_share_of_pair = some ⟨oc_share_of_pair, od_share_of_pair, .func (PySem.W.fnOf "share_of_pair" "share_of_pair" (defArgs s_share_of_pair) (defBody s_share_of_pair) (defScope s_share_of_pair) .none kV_share_of_pair dc_share_of_pair pm_share_of_pair an_share_of_pair cd_share_of_pair ct_share_of_pair), sl_share_of_pair⟩)
    (hc_share_of_pair : PySem.W.codeIn K cd_share_of_pair "share_of_pair" = true)
    (hk_share_of_pair : PySem.W.keepIn K (.ref f_share_of_pair) = true)
    (ha_share_of_kind : PySem.W.nsIn K mainGlobals "share_of_kind" = some (some (.ref f_share_of_kind)))
    (hl_share_of_kind : K.lookup f_share_of_kind = some ⟨oc_share_of_kind, od_share_of_kind, .func (PySem.W.fnOf "share_of_kind" "share_of_kind" (defArgs s_share_of_kind) (defBody s_share_of_kind) (defScope s_share_of_kind) .none kV_share_of_kind dc_share_of_kind pm_share_of_kind an_share_of_kind cd_share_of_kind ct_share_of_kind), sl_share_of_kind⟩)
    (hc_share_of_kind : PySem.W.codeIn K cd_share_of_kind "share_of_kind" = true)
    (hk_share_of_kind : PySem.W.keepIn K (.ref f_share_of_kind) = true)
    (ha_share_mixed : PySem.W.nsIn K mainGlobals "share_mixed" = some (some (.ref f_share_mixed)))
    (hl_share_mixed : K.lookup f_share_mixed = some ⟨oc_share_mixed, od_share_mixed, .func (PySem.W.fnOf "share_mixed" "share_mixed" (defArgs s_share_mixed) (defBody s_share_mixed) (defScope s_share_mixed) .none kV_share_mixed dc_share_mixed pm_share_mixed an_share_mixed cd_share_mixed ct_share_mixed), sl_share_mixed⟩)
    (hc_share_mixed : PySem.W.codeIn K cd_share_mixed "share_mixed" = true)
    (hk_share_mixed : PySem.W.keepIn K (.ref f_share_mixed) = true)
    (ha_share_expected : PySem.W.nsIn K mainGlobals "share_expected" = some (some (.ref f_share_expected)))
    (hl_share_expected : K.lookup f_share_expected = some ⟨oc_share_expected, od_share_expected, .func (PySem.W.fnOf "share_expected" "share_expected" (defArgs s_share_expected) (defBody s_share_expected) (defScope s_share_expected) .none kV_share_expected dc_share_expected pm_share_expected an_share_expected cd_share_expected ct_share_expected), sl_share_expected⟩)
    (hc_share_expected : PySem.W.codeIn K cd_share_expected "share_expected" = true)
    (hk_share_expected : PySem.W.keepIn K (.ref f_share_expected) = true)
    (ha_lack_of_mixed : PySem.W.nsIn K mainGlobals "lack_of_mixed" = some (some (.ref f_lack_of_mixed)))
    (hl_lack_of_mixed : K.lookup f_lack_of_mixed = some ⟨oc_lack_of_mixed, od_lack_of_mixed, .func (PySem.W.fnOf "lack_of_mixed" "lack_of_mixed" (defArgs s_lack_of_mixed) (defBody s_lack_of_mixed) (defScope s_lack_of_mixed) .none kV_lack_of_mixed dc_lack_of_mixed pm_lack_of_mixed an_lack_of_mixed cd_lack_of_mixed ct_lack_of_mixed), sl_lack_of_mixed⟩)
    (hc_lack_of_mixed : PySem.W.codeIn K cd_lack_of_mixed "lack_of_mixed" = true)
    (hk_lack_of_mixed : PySem.W.keepIn K (.ref f_lack_of_mixed) = true)
    (ha_rarest_kind : PySem.W.nsIn K mainGlobals "rarest_kind" = some (some (.ref f_rarest_kind)))
    (hl_rarest_kind : K.lookup f_rarest_kind = some ⟨oc_rarest_kind, od_rarest_kind, .func (PySem.W.fnOf "rarest_kind" "rarest_kind" (defArgs s_rarest_kind) (defBody s_rarest_kind) (defScope s_rarest_kind) .none kV_rarest_kind dc_rarest_kind pm_rarest_kind an_rarest_kind cd_rarest_kind ct_rarest_kind), sl_rarest_kind⟩)
    (hc_rarest_kind : PySem.W.codeIn K cd_rarest_kind "rarest_kind" = true)
    (hk_rarest_kind : PySem.W.keepIn K (.ref f_rarest_kind) = true)
    (ha_left_by_halves : PySem.W.nsIn K mainGlobals "left_by_halves" = some (some (.ref f_left_by_halves)))
    (hl_left_by_halves : K.lookup f_left_by_halves = some ⟨oc_left_by_halves, od_left_by_halves, .func (PySem.W.fnOf "left_by_halves" "left_by_halves" (defArgs s_left_by_halves) (defBody s_left_by_halves) (defScope s_left_by_halves) .none kV_left_by_halves dc_left_by_halves pm_left_by_halves an_left_by_halves cd_left_by_halves ct_left_by_halves), sl_left_by_halves⟩)
    (hc_left_by_halves : PySem.W.codeIn K cd_left_by_halves "left_by_halves" = true)
    (hk_left_by_halves : PySem.W.keepIn K (.ref f_left_by_halves) = true)
    (ha_Garden_init : PySem.W.findIn K (.ref C_Garden) "__init__" = some (some (.ref f_Garden_init)))
    (hl_Garden_init : K.lookup f_Garden_init = some ⟨oc_Garden_init, od_Garden_init, .func (PySem.W.fnOf "__init__" "Garden.__init__" (defArgs s_Garden_init) (defBody s_Garden_init) (defScope s_Garden_init) .none kV_Garden_init dc_Garden_init pm_Garden_init an_Garden_init cd_Garden_init ct_Garden_init), sl_Garden_init⟩)
    (hc_Garden_init : PySem.W.codeIn K cd_Garden_init "Garden.__init__" = true)
    (hk_Garden_init : PySem.W.keepIn K (.ref f_Garden_init) = true)
    (hi_Garden_init : PySem.W.isFn K (.ref f_Garden_init) = true)
    (ha_is_no_field : PySem.W.nsIn K mainGlobals "is_no_field" = some (some (.ref f_is_no_field)))
    (hl_is_no_field : K.lookup f_is_no_field = some ⟨oc_is_no_field, od_is_no_field, .func (PySem.W.fnOf "is_no_field" "is_no_field" (defArgs s_is_no_field) (defBody s_is_no_field) (defScope s_is_no_field) .none kV_is_no_field dc_is_no_field pm_is_no_field an_is_no_field cd_is_no_field ct_is_no_field), sl_is_no_field⟩)
    (hc_is_no_field : PySem.W.codeIn K cd_is_no_field "is_no_field" = true)
    (hk_is_no_field : PySem.W.keepIn K (.ref f_is_no_field) = true)
    (ha_is_no_kind : PySem.W.nsIn K mainGlobals "is_no_kind" = some (some (.ref f_is_no_kind)))
    (hl_is_no_kind : K.lookup f_is_no_kind = some ⟨oc_is_no_kind, od_is_no_kind, .func (PySem.W.fnOf "is_no_kind" "is_no_kind" (defArgs s_is_no_kind) (defBody s_is_no_kind) (defScope s_is_no_kind) .none kV_is_no_kind dc_is_no_kind pm_is_no_kind an_is_no_kind cd_is_no_kind ct_is_no_kind), sl_is_no_kind⟩)
    (hc_is_no_kind : PySem.W.codeIn K cd_is_no_kind "is_no_kind" = true)
    (hk_is_no_kind : PySem.W.keepIn K (.ref f_is_no_kind) = true)
    (ha_shares_refusal : PySem.W.nsIn K mainGlobals "shares_refusal" = some (some (.ref f_shares_refusal)))
    (hl_shares_refusal : K.lookup f_shares_refusal = some ⟨oc_shares_refusal, od_shares_refusal, .func (PySem.W.fnOf "shares_refusal" "shares_refusal" (defArgs s_shares_refusal) (defBody s_shares_refusal) (defScope s_shares_refusal) .none kV_shares_refusal dc_shares_refusal pm_shares_refusal an_shares_refusal cd_shares_refusal ct_shares_refusal), sl_shares_refusal⟩)
    (hc_shares_refusal : PySem.W.codeIn K cd_shares_refusal "shares_refusal" = true)
    (hk_shares_refusal : PySem.W.keepIn K (.ref f_shares_refusal) = true)
    (ha_change_refusal : PySem.W.nsIn K mainGlobals "change_refusal" = some (some (.ref f_change_refusal)))
    (hl_change_refusal : K.lookup f_change_refusal = some ⟨oc_change_refusal, od_change_refusal, .func (PySem.W.fnOf "change_refusal" "change_refusal" (defArgs s_change_refusal) (defBody s_change_refusal) (defScope s_change_refusal) .none kV_change_refusal dc_change_refusal pm_change_refusal an_change_refusal cd_change_refusal ct_change_refusal), sl_change_refusal⟩)
    (hc_change_refusal : PySem.W.codeIn K cd_change_refusal "change_refusal" = true)
    (hk_change_refusal : PySem.W.keepIn K (.ref f_change_refusal) = true)
    (ha_one_if : PySem.W.nsIn K mainGlobals "one_if" = some (some (.ref f_one_if)))
    (hl_one_if : K.lookup f_one_if = some ⟨oc_one_if, od_one_if, .func (PySem.W.fnOf "one_if" "one_if" (defArgs s_one_if) (defBody s_one_if) (defScope s_one_if) .none kV_one_if dc_one_if pm_one_if an_one_if cd_one_if ct_one_if), sl_one_if⟩)
    (hc_one_if : PySem.W.codeIn K cd_one_if "one_if" = true)
    (hk_one_if : PySem.W.keepIn K (.ref f_one_if) = true)
    (ha_answer_start : PySem.W.nsIn K mainGlobals "answer_start" = some (some (.ref f_answer_start)))
    (hl_answer_start : K.lookup f_answer_start = some ⟨oc_answer_start, od_answer_start, .func (PySem.W.fnOf "answer_start" "answer_start" (defArgs s_answer_start) (defBody s_answer_start) (defScope s_answer_start) .none kV_answer_start dc_answer_start pm_answer_start an_answer_start cd_answer_start ct_answer_start), sl_answer_start⟩)
    (hc_answer_start : PySem.W.codeIn K cd_answer_start "answer_start" = true)
    (hk_answer_start : PySem.W.keepIn K (.ref f_answer_start) = true)
    (ha_answer_field : PySem.W.nsIn K mainGlobals "answer_field" = some (some (.ref f_answer_field)))
    (hl_answer_field : K.lookup f_answer_field = some ⟨oc_answer_field, od_answer_field, .func (PySem.W.fnOf "answer_field" "answer_field" (defArgs s_answer_field) (defBody s_answer_field) (defScope s_answer_field) .none kV_answer_field dc_answer_field pm_answer_field an_answer_field cd_answer_field ct_answer_field), sl_answer_field⟩)
    (hc_answer_field : PySem.W.codeIn K cd_answer_field "answer_field" = true)
    (hk_answer_field : PySem.W.keepIn K (.ref f_answer_field) = true)
    (ha_answer_put : PySem.W.nsIn K mainGlobals "answer_put" = some (some (.ref f_answer_put)))
    (hl_answer_put : K.lookup f_answer_put = some ⟨oc_answer_put, od_answer_put, .func (PySem.W.fnOf "answer_put" "answer_put" (defArgs s_answer_put) (defBody s_answer_put) (defScope s_answer_put) .none kV_answer_put dc_answer_put pm_answer_put an_answer_put cd_answer_put ct_answer_put), sl_answer_put⟩)
    (hc_answer_put : PySem.W.codeIn K cd_answer_put "answer_put" = true)
    (hk_answer_put : PySem.W.keepIn K (.ref f_answer_put) = true)
    (ha_answer_take : PySem.W.nsIn K mainGlobals "answer_take" = some (some (.ref f_answer_take)))
    (hl_answer_take : K.lookup f_answer_take = some ⟨oc_answer_take, od_answer_take, .func (PySem.W.fnOf "answer_take" "answer_take" (defArgs s_answer_take) (defBody s_answer_take) (defScope s_answer_take) .none kV_answer_take dc_answer_take pm_answer_take an_answer_take cd_answer_take ct_answer_take), sl_answer_take⟩)
    (hc_answer_take : PySem.W.codeIn K cd_answer_take "answer_take" = true)
    (hk_answer_take : PySem.W.keepIn K (.ref f_answer_take) = true)
    (ha_answer_share : PySem.W.nsIn K mainGlobals "answer_share" = some (some (.ref f_answer_share)))
    (hl_answer_share : K.lookup f_answer_share = some ⟨oc_answer_share, od_answer_share, .func (PySem.W.fnOf "answer_share" "answer_share" (defArgs s_answer_share) (defBody s_answer_share) (defScope s_answer_share) .none kV_answer_share dc_answer_share pm_answer_share an_answer_share cd_answer_share ct_answer_share), sl_answer_share⟩)
    (hc_answer_share : PySem.W.codeIn K cd_answer_share "answer_share" = true)
    (hk_answer_share : PySem.W.keepIn K (.ref f_answer_share) = true)
    (ha_answer_kind : PySem.W.nsIn K mainGlobals "answer_kind" = some (some (.ref f_answer_kind)))
    (hl_answer_kind : K.lookup f_answer_kind = some ⟨oc_answer_kind, od_answer_kind, .func (PySem.W.fnOf "answer_kind" "answer_kind" (defArgs s_answer_kind) (defBody s_answer_kind) (defScope s_answer_kind) .none kV_answer_kind dc_answer_kind pm_answer_kind an_answer_kind cd_answer_kind ct_answer_kind), sl_answer_kind⟩)
    (hc_answer_kind : PySem.W.codeIn K cd_answer_kind "answer_kind" = true)
    (hk_answer_kind : PySem.W.keepIn K (.ref f_answer_kind) = true)
    (ha_answer_next : PySem.W.nsIn K mainGlobals "answer_next" = some (some (.ref f_answer_next)))
    (hl_answer_next : K.lookup f_answer_next = some ⟨oc_answer_next, od_answer_next, .func (PySem.W.fnOf "answer_next" "answer_next" (defArgs s_answer_next) (defBody s_answer_next) (defScope s_answer_next) .none kV_answer_next dc_answer_next pm_answer_next an_answer_next cd_answer_next ct_answer_next), sl_answer_next⟩)
    (hc_answer_next : PySem.W.codeIn K cd_answer_next "answer_next" = true)
    (hk_answer_next : PySem.W.keepIn K (.ref f_answer_next) = true)
    (ha_answer_after : PySem.W.nsIn K mainGlobals "answer_after" = some (some (.ref f_answer_after)))
    (hl_answer_after : K.lookup f_answer_after = some ⟨oc_answer_after, od_answer_after, .func (PySem.W.fnOf "answer_after" "answer_after" (defArgs s_answer_after) (defBody s_answer_after) (defScope s_answer_after) .none kV_answer_after dc_answer_after pm_answer_after an_answer_after cd_answer_after ct_answer_after), sl_answer_after⟩)
    (hc_answer_after : PySem.W.codeIn K cd_answer_after "answer_after" = true)
    (hk_answer_after : PySem.W.keepIn K (.ref f_answer_after) = true)
    (ha_answer_mixed : PySem.W.nsIn K mainGlobals "answer_mixed" = some (some (.ref f_answer_mixed)))
    (hl_answer_mixed : K.lookup f_answer_mixed = some ⟨oc_answer_mixed, od_answer_mixed, .func (PySem.W.fnOf "answer_mixed" "answer_mixed" (defArgs s_answer_mixed) (defBody s_answer_mixed) (defScope s_answer_mixed) .none kV_answer_mixed dc_answer_mixed pm_answer_mixed an_answer_mixed cd_answer_mixed ct_answer_mixed), sl_answer_mixed⟩)
    (hc_answer_mixed : PySem.W.codeIn K cd_answer_mixed "answer_mixed" = true)
    (hk_answer_mixed : PySem.W.keepIn K (.ref f_answer_mixed) = true)
    (ha_answer_expected : PySem.W.nsIn K mainGlobals "answer_expected" = some (some (.ref f_answer_expected)))
    (hl_answer_expected : K.lookup f_answer_expected = some ⟨oc_answer_expected, od_answer_expected, .func (PySem.W.fnOf "answer_expected" "answer_expected" (defArgs s_answer_expected) (defBody s_answer_expected) (defScope s_answer_expected) .none kV_answer_expected dc_answer_expected pm_answer_expected an_answer_expected cd_answer_expected ct_answer_expected), sl_answer_expected⟩)
    (hc_answer_expected : PySem.W.codeIn K cd_answer_expected "answer_expected" = true)
    (hk_answer_expected : PySem.W.keepIn K (.ref f_answer_expected) = true)
    (ha_answer_lack : PySem.W.nsIn K mainGlobals "answer_lack" = some (some (.ref f_answer_lack)))
    (hl_answer_lack : K.lookup f_answer_lack = some ⟨oc_answer_lack, od_answer_lack, .func (PySem.W.fnOf "answer_lack" "answer_lack" (defArgs s_answer_lack) (defBody s_answer_lack) (defScope s_answer_lack) .none kV_answer_lack dc_answer_lack pm_answer_lack an_answer_lack cd_answer_lack ct_answer_lack), sl_answer_lack⟩)
    (hc_answer_lack : PySem.W.codeIn K cd_answer_lack "answer_lack" = true)
    (hk_answer_lack : PySem.W.keepIn K (.ref f_answer_lack) = true)
    (ha_answer_rest : PySem.W.nsIn K mainGlobals "answer_rest" = some (some (.ref f_answer_rest)))
    (hl_answer_rest : K.lookup f_answer_rest = some ⟨oc_answer_rest, od_answer_rest, .func (PySem.W.fnOf "answer_rest" "answer_rest" (defArgs s_answer_rest) (defBody s_answer_rest) (defScope s_answer_rest) .none kV_answer_rest dc_answer_rest pm_answer_rest an_answer_rest cd_answer_rest ct_answer_rest), sl_answer_rest⟩)
    (hc_answer_rest : PySem.W.codeIn K cd_answer_rest "answer_rest" = true)
    (hk_answer_rest : PySem.W.keepIn K (.ref f_answer_rest) = true)
    (ha_answer_soon : PySem.W.nsIn K mainGlobals "answer_soon" = some (some (.ref f_answer_soon)))
    (hl_answer_soon : K.lookup f_answer_soon = some ⟨oc_answer_soon, od_answer_soon, .func (PySem.W.fnOf "answer_soon" "answer_soon" (defArgs s_answer_soon) (defBody s_answer_soon) (defScope s_answer_soon) .none kV_answer_soon dc_answer_soon pm_answer_soon an_answer_soon cd_answer_soon ct_answer_soon), sl_answer_soon⟩)
    (hc_answer_soon : PySem.W.codeIn K cd_answer_soon "answer_soon" = true)
    (hk_answer_soon : PySem.W.keepIn K (.ref f_answer_soon) = true)
    (ha_answer_together : PySem.W.nsIn K mainGlobals "answer_together" = some (some (.ref f_answer_together)))
    (hl_answer_together : K.lookup f_answer_together = some ⟨oc_answer_together, od_answer_together, .func (PySem.W.fnOf "answer_together" "answer_together" (defArgs s_answer_together) (defBody s_answer_together) (defScope s_answer_together) .none kV_answer_together dc_answer_together pm_answer_together an_answer_together cd_answer_together ct_answer_together), sl_answer_together⟩)
    (hc_answer_together : PySem.W.codeIn K cd_answer_together "answer_together" = true)
    (hk_answer_together : PySem.W.keepIn K (.ref f_answer_together) = true)
    (ha_answer_cross : PySem.W.nsIn K mainGlobals "answer_cross" = some (some (.ref f_answer_cross)))
    (hl_answer_cross : K.lookup f_answer_cross = some ⟨oc_answer_cross, od_answer_cross, .func (PySem.W.fnOf "answer_cross" "answer_cross" (defArgs s_answer_cross) (defBody s_answer_cross) (defScope s_answer_cross) .none kV_answer_cross dc_answer_cross pm_answer_cross an_answer_cross cd_answer_cross ct_answer_cross), sl_answer_cross⟩)
    (hc_answer_cross : PySem.W.codeIn K cd_answer_cross "answer_cross" = true)
    (hk_answer_cross : PySem.W.keepIn K (.ref f_answer_cross) = true)
    (ha_answer_cross_next : PySem.W.nsIn K mainGlobals "answer_cross_next" = some (some (.ref f_answer_cross_next)))
    (hl_answer_cross_next : K.lookup f_answer_cross_next = some ⟨oc_answer_cross_next, od_answer_cross_next, .func (PySem.W.fnOf "answer_cross_next" "answer_cross_next" (defArgs s_answer_cross_next) (defBody s_answer_cross_next) (defScope s_answer_cross_next) .none kV_answer_cross_next dc_answer_cross_next pm_answer_cross_next an_answer_cross_next cd_answer_cross_next ct_answer_cross_next), sl_answer_cross_next⟩)
    (hc_answer_cross_next : PySem.W.codeIn K cd_answer_cross_next "answer_cross_next" = true)
    (hk_answer_cross_next : PySem.W.keepIn K (.ref f_answer_cross_next) = true)
    (ha_answer_rarest : PySem.W.nsIn K mainGlobals "answer_rarest" = some (some (.ref f_answer_rarest)))
    (hl_answer_rarest : K.lookup f_answer_rarest = some ⟨oc_answer_rarest, od_answer_rarest, .func (PySem.W.fnOf "answer_rarest" "answer_rarest" (defArgs s_answer_rarest) (defBody s_answer_rarest) (defScope s_answer_rarest) .none kV_answer_rarest dc_answer_rarest pm_answer_rarest an_answer_rarest cd_answer_rarest ct_answer_rarest), sl_answer_rarest⟩)
    (hc_answer_rarest : PySem.W.codeIn K cd_answer_rarest "answer_rarest" = true)
    (hk_answer_rarest : PySem.W.keepIn K (.ref f_answer_rarest) = true)
    (ha_answer_size : PySem.W.nsIn K mainGlobals "answer_size" = some (some (.ref f_answer_size)))
    (hl_answer_size : K.lookup f_answer_size = some ⟨oc_answer_size, od_answer_size, .func (PySem.W.fnOf "answer_size" "answer_size" (defArgs s_answer_size) (defBody s_answer_size) (defScope s_answer_size) .none kV_answer_size dc_answer_size pm_answer_size an_answer_size cd_answer_size ct_answer_size), sl_answer_size⟩)
    (hc_answer_size : PySem.W.codeIn K cd_answer_size "answer_size" = true)
    (hk_answer_size : PySem.W.keepIn K (.ref f_answer_size) = true)
    (ha_answer_half : PySem.W.nsIn K mainGlobals "answer_half" = some (some (.ref f_answer_half)))
    (hl_answer_half : K.lookup f_answer_half = some ⟨oc_answer_half, od_answer_half, .func (PySem.W.fnOf "answer_half" "answer_half" (defArgs s_answer_half) (defBody s_answer_half) (defScope s_answer_half) .none kV_answer_half dc_answer_half pm_answer_half an_answer_half cd_answer_half ct_answer_half), sl_answer_half⟩)
    (hc_answer_half : PySem.W.codeIn K cd_answer_half "answer_half" = true)
    (hk_answer_half : PySem.W.keepIn K (.ref f_answer_half) = true)
    (ha_answer_state : PySem.W.nsIn K mainGlobals "answer_state" = some (some (.ref f_answer_state)))
    (hl_answer_state : K.lookup f_answer_state = some ⟨oc_answer_state, od_answer_state, .func (PySem.W.fnOf "answer_state" "answer_state" (defArgs s_answer_state) (defBody s_answer_state) (defScope s_answer_state) .none kV_answer_state dc_answer_state pm_answer_state an_answer_state cd_answer_state ct_answer_state), sl_answer_state⟩)
    (hc_answer_state : PySem.W.codeIn K cd_answer_state "answer_state" = true)
    (hk_answer_state : PySem.W.keepIn K (.ref f_answer_state) = true)
    (ha_answer_of : PySem.W.nsIn K mainGlobals "answer_of" = some (some (.ref f_answer_of)))
    (hl_answer_of : K.lookup f_answer_of = some ⟨oc_answer_of, od_answer_of, .func (PySem.W.fnOf "answer_of" "answer_of" (defArgs s_answer_of) (defBody s_answer_of) (defScope s_answer_of) .none kV_answer_of dc_answer_of pm_answer_of an_answer_of cd_answer_of ct_answer_of), sl_answer_of⟩)
    (hc_answer_of : PySem.W.codeIn K cd_answer_of "answer_of" = true)
    (hk_answer_of : PySem.W.keepIn K (.ref f_answer_of) = true)
    (ha_told_begin : PySem.W.nsIn K mainGlobals "told_begin" = some (some (.ref f_told_begin)))
    (hl_told_begin : K.lookup f_told_begin = some ⟨oc_told_begin, od_told_begin, .func (PySem.W.fnOf "told_begin" "told_begin" (defArgs s_told_begin) (defBody s_told_begin) (defScope s_told_begin) .none kV_told_begin dc_told_begin pm_told_begin an_told_begin cd_told_begin ct_told_begin), sl_told_begin⟩)
    (hc_told_begin : PySem.W.codeIn K cd_told_begin "told_begin" = true)
    (hk_told_begin : PySem.W.keepIn K (.ref f_told_begin) = true)
    (ha_told_count : PySem.W.nsIn K mainGlobals "told_count" = some (some (.ref f_told_count)))
    (hl_told_count : K.lookup f_told_count = some ⟨oc_told_count, od_told_count, .func (PySem.W.fnOf "told_count" "told_count" (defArgs s_told_count) (defBody s_told_count) (defScope s_told_count) .none kV_told_count dc_told_count pm_told_count an_told_count cd_told_count ct_told_count), sl_told_count⟩)
    (hc_told_count : PySem.W.codeIn K cd_told_count "told_count" = true)
    (hk_told_count : PySem.W.keepIn K (.ref f_told_count) = true)
    (ha_answers : PySem.W.nsIn K mainGlobals "answers" = some (some (.ref f_answers)))
    (hl_answers : K.lookup f_answers = some ⟨oc_answers, od_answers, .func (PySem.W.fnOf "answers" "answers" (defArgs s_answers) (defBody s_answers) (defScope s_answers) .none kV_answers dc_answers pm_answers an_answers cd_answers ct_answers), sl_answers⟩)
    (hc_answers : PySem.W.codeIn K cd_answers "answers" = true)
    (hk_answers : PySem.W.keepIn K (.ref f_answers) = true)
    (hn_HUNDRED : PySem.W.nsIn K mainGlobals "HUNDRED" = some (some (.int (100) tk_HUNDRED)))
    (hn_NO_FIELD : PySem.W.nsIn K mainGlobals "NO_FIELD" = some (some (.int (-2) tk_NO_FIELD)))
    (hn_NO_PLANTS : PySem.W.nsIn K mainGlobals "NO_PLANTS" = some (some (.int (-6) tk_NO_PLANTS)))
    (hn_NOT_STARTED : PySem.W.nsIn K mainGlobals "NOT_STARTED" = some (some (.int (-11) tk_NOT_STARTED)))
    (hn_TOO_FEW : PySem.W.nsIn K mainGlobals "TOO_FEW" = some (some (.int (-12) tk_TOO_FEW)))
    (hn_WRONG : PySem.W.nsIn K mainGlobals "WRONG" = some (some (.int (-22) tk_WRONG)))
    (hn_FULL : PySem.W.nsIn K mainGlobals "FULL" = some (some (.int (-28) tk_FULL)))
    (hn_NO_ANSWER : PySem.W.nsIn K mainGlobals "NO_ANSWER" = some (some (.int (-33) tk_NO_ANSWER)))
    (hn_FEWEST_KINDS : PySem.W.nsIn K mainGlobals "FEWEST_KINDS" = some (some (.int (2) tk_FEWEST_KINDS)))
    (hn_MOST_KINDS : PySem.W.nsIn K mainGlobals "MOST_KINDS" = some (some (.int (4) tk_MOST_KINDS)))
    (hn_MOST_FIELDS : PySem.W.nsIn K mainGlobals "MOST_FIELDS" = some (some (.int (6) tk_MOST_FIELDS)))
    (hn_MOST_OF_A_PAIR : PySem.W.nsIn K mainGlobals "MOST_OF_A_PAIR" = some (some (.int (100) tk_MOST_OF_A_PAIR)))
    (hn_MOST_OF_HUNDRED : PySem.W.nsIn K mainGlobals "MOST_OF_HUNDRED" = some (some (.int (100) tk_MOST_OF_HUNDRED)))
    (hn_MOST_GENERATIONS : PySem.W.nsIn K mainGlobals "MOST_GENERATIONS" = some (some (.int (3) tk_MOST_GENERATIONS)))
    (hn_MOST_HALVES : PySem.W.nsIn K mainGlobals "MOST_HALVES" = some (some (.int (10) tk_MOST_HALVES)))
    (hn_START : PySem.W.nsIn K mainGlobals "START" = some (some (.int (0) tk_START)))
    (hn_FIELD : PySem.W.nsIn K mainGlobals "FIELD" = some (some (.int (1) tk_FIELD)))
    (ha_TOLD_COUNTS : PySem.W.nsIn K mainGlobals "TOLD_COUNTS" = some (some (.ref t_TOLD_COUNTS)))
    (hl_TOLD_COUNTS : K.lookup t_TOLD_COUNTS = some ⟨.type "tuple", od_TOLD_COUNTS, .seq #[Value.int 1 tk_TOLD_COUNTS_0, Value.int 0 tk_TOLD_COUNTS_1, Value.int 4 tk_TOLD_COUNTS_2, Value.int 4 tk_TOLD_COUNTS_3, Value.int 3 tk_TOLD_COUNTS_4, Value.int 2 tk_TOLD_COUNTS_5, Value.int 3 tk_TOLD_COUNTS_6, Value.int 5 tk_TOLD_COUNTS_7, Value.int 1 tk_TOLD_COUNTS_8, Value.int 1 tk_TOLD_COUNTS_9, Value.int 1 tk_TOLD_COUNTS_10, Value.int 1 tk_TOLD_COUNTS_11, Value.int 2 tk_TOLD_COUNTS_12, Value.int 2 tk_TOLD_COUNTS_13, Value.int 4 tk_TOLD_COUNTS_14, Value.int 2 tk_TOLD_COUNTS_15, Value.int 1 tk_TOLD_COUNTS_16, Value.int 1 tk_TOLD_COUNTS_17, Value.int 2 tk_TOLD_COUNTS_18, Value.int 0 tk_TOLD_COUNTS_19] n_TOLD_COUNTS, sl_TOLD_COUNTS⟩)
    (ha_ANSWERERS : PySem.W.nsIn K mainGlobals "ANSWERERS" = some (some (.ref t_ANSWERERS)))
    (hl_ANSWERERS : K.lookup t_ANSWERERS = some ⟨.type "tuple", od_ANSWERERS, .seq #[Value.ref f_answer_start, Value.ref f_answer_field, Value.ref f_answer_put, Value.ref f_answer_take, Value.ref f_answer_share, Value.ref f_answer_kind, Value.ref f_answer_next, Value.ref f_answer_after, Value.ref f_answer_mixed, Value.ref f_answer_expected, Value.ref f_answer_lack, Value.ref f_answer_rest, Value.ref f_answer_soon, Value.ref f_answer_together, Value.ref f_answer_cross, Value.ref f_answer_cross_next, Value.ref f_answer_rarest, Value.ref f_answer_size, Value.ref f_answer_half, Value.ref f_answer_state] n_ANSWERERS, sl_ANSWERERS⟩)
    (hz_len : PySem.W.nsIn K mainGlobals "len" = some none)
    (hz_sum : PySem.W.nsIn K mainGlobals "sum" = some none)
    (hz_any : PySem.W.nsIn K mainGlobals "any" = some none)
    (hz_all : PySem.W.nsIn K mainGlobals "all" = some none)
    (hz_min : PySem.W.nsIn K mainGlobals "min" = some none)
    (hz_max : PySem.W.nsIn K mainGlobals "max" = some none)
    (hz_list : PySem.W.nsIn K mainGlobals "list" = some none)
    (hz_range : PySem.W.nsIn K mainGlobals "range" = some none)
    (hz_zip : PySem.W.nsIn K mainGlobals "zip" = some none)
    (hpg_Garden : PySem.W.plainGet K C_Garden Str.empty = true)
    (hhd_Garden : PySem.W.hasDictIn K C_Garden = true)
    (hpo_Garden : PySem.W.plainOver K C_Garden = true)
    (hsa_Garden : PySem.W.findIn K (.ref C_Garden) "__setattr__" = some (some (.builtin "object.__setattr__")))
    (hmk_Garden : PySem.W.makesIn K C_Garden = true)
    (hkc_Garden : PySem.W.keepIn K (.ref C_Garden) = true)
    (hno_fields : PySem.W.findIn K (.ref C_Garden) "fields" = some none)
    (hno_kinds : PySem.W.findIn K (.ref C_Garden) "kinds" = some none)
    : ∃ a, Txt K mg a ∧ ∀ (s : Shared) (us : List Value), us.length = (["calls"] : List Str).length → BindsTo s a.d_answers ⟨us, []⟩ ((["calls"] : List Str).zip us) := by
  have F_common_divisor := fun_mk (st := s_common_divisor) hl_common_divisor hc_common_divisor hk_common_divisor
  have b_common_divisor := F_common_divisor.binds (ps := ["a", "b"]) fun _ _ _ _ _ _ us hl => by obtain ⟨_, _, rfl⟩ := My.ln2 hl; rfl
  have F_fraction := fun_mk (st := s_fraction) hl_fraction hc_fraction hk_fraction
  have b_fraction := F_fraction.binds (ps := ["upper", "lower"]) fun _ _ _ _ _ _ us hl => by obtain ⟨_, _, rfl⟩ := My.ln2 hl; rfl
  have F_pair_count := fun_mk (st := s_pair_count) hl_pair_count hc_pair_count hk_pair_count
  have b_pair_count := F_pair_count.binds (ps := ["kinds"]) fun _ _ _ _ _ _ us hl => by obtain ⟨_, rfl⟩ := My.ln1 hl; rfl
  have F_pair_place := fun_mk (st := s_pair_place) hl_pair_place hc_pair_place hk_pair_place
  have b_pair_place := F_pair_place.binds (ps := ["kinds", "i", "j"]) fun _ _ _ _ _ _ us hl => by obtain ⟨_, _, _, rfl⟩ := My.ln3 hl; rfl
  have F_kind_weights := fun_mk (st := s_kind_weights) hl_kind_weights hc_kind_weights hk_kind_weights
  have b_kind_weights := F_kind_weights.binds (ps := ["kinds", "weights"]) fun _ _ _ _ _ _ us hl => by obtain ⟨_, _, rfl⟩ := My.ln2 hl; rfl
  have F_weights_crossed := fun_mk (st := s_weights_crossed) hl_weights_crossed hc_weights_crossed hk_weights_crossed
  have b_weights_crossed := F_weights_crossed.binds (ps := ["kinds", "hers", "his"]) fun _ _ _ _ _ _ us hl => by obtain ⟨_, _, _, rfl⟩ := My.ln3 hl; rfl
  have F_weights_by_any := fun_mk (st := s_weights_by_any) hl_weights_by_any hc_weights_by_any hk_weights_by_any
  have b_weights_by_any := F_weights_by_any.binds (ps := ["kinds", "weights"]) fun _ _ _ _ _ _ us hl => by obtain ⟨_, _, rfl⟩ := My.ln2 hl; rfl
  have F_weights_by_themselves := fun_mk (st := s_weights_by_themselves) hl_weights_by_themselves hc_weights_by_themselves hk_weights_by_themselves
  have b_weights_by_themselves := F_weights_by_themselves.binds (ps := ["kinds", "weights"]) fun _ _ _ _ _ _ us hl => by obtain ⟨_, _, rfl⟩ := My.ln2 hl; rfl
  have F_next_weights := fun_mk (st := s_next_weights) hl_next_weights hc_next_weights hk_next_weights
  have b_next_weights := F_next_weights.binds (ps := ["kinds", "weights", "s"]) fun _ _ _ _ _ _ us hl => by obtain ⟨_, _, _, rfl⟩ := My.ln3 hl; rfl
  have F_later_weights := fun_mk (st := s_later_weights) hl_later_weights hc_later_weights hk_later_weights
  have b_later_weights := F_later_weights.binds (ps := ["kinds", "weights", "s", "n"]) fun _ _ _ _ _ _ us hl => by obtain ⟨_, _, _, _, rfl⟩ := My.ln4 hl; rfl
  have F_weights_together := fun_mk (st := s_weights_together) hl_weights_together hc_weights_together hk_weights_together
  have b_weights_together := F_weights_together.binds (ps := ["one", "other"]) fun _ _ _ _ _ _ us hl => by obtain ⟨_, _, rfl⟩ := My.ln2 hl; rfl
  have F_is_at_rest := fun_mk (st := s_is_at_rest) hl_is_at_rest hc_is_at_rest hk_is_at_rest
  have b_is_at_rest := F_is_at_rest.binds (ps := ["kinds", "weights"]) fun _ _ _ _ _ _ us hl => by obtain ⟨_, _, rfl⟩ := My.ln2 hl; rfl
  have F_generations_to_rest := fun_mk (st := s_generations_to_rest) hl_generations_to_rest hc_generations_to_rest hk_generations_to_rest
  have b_generations_to_rest := F_generations_to_rest.binds (ps := ["kinds", "weights", "n"]) fun _ _ _ _ _ _ us hl => by obtain ⟨_, _, _, rfl⟩ := My.ln3 hl; rfl
  have F_share_of_pair := fun_mk (st := s_share_of_pair) hl_share_of_pair hc_share_of_pair hk_share_of_pair
  have b_share_of_pair := F_share_of_pair.binds (ps := ["kinds", "weights", "i", "j"]) fun _ _ _ _ _ _ us hl => by obtain ⟨_, _, _, _, rfl⟩ := My.ln4 hl; rfl
  have F_share_of_kind := fun_mk (st := s_share_of_kind) hl_share_of_kind hc_share_of_kind hk_share_of_kind
  have b_share_of_kind := F_share_of_kind.binds (ps := ["kinds", "weights", "i"]) fun _ _ _ _ _ _ us hl => by obtain ⟨_, _, _, rfl⟩ := My.ln3 hl; rfl
  have F_share_mixed := fun_mk (st := s_share_mixed) hl_share_mixed hc_share_mixed hk_share_mixed
  have b_share_mixed := F_share_mixed.binds (ps := ["kinds", "weights"]) fun _ _ _ _ _ _ us hl => by obtain ⟨_, _, rfl⟩ := My.ln2 hl; rfl
  have F_share_expected := fun_mk (st := s_share_expected) hl_share_expected hc_share_expected hk_share_expected
  have b_share_expected := F_share_expected.binds (ps := ["kinds", "weights"]) fun _ _ _ _ _ _ us hl => by obtain ⟨_, _, rfl⟩ := My.ln2 hl; rfl
  have F_lack_of_mixed := fun_mk (st := s_lack_of_mixed) hl_lack_of_mixed hc_lack_of_mixed hk_lack_of_mixed
  have b_lack_of_mixed := F_lack_of_mixed.binds (ps := ["mixed", "expected"]) fun _ _ _ _ _ _ us hl => by obtain ⟨_, _, rfl⟩ := My.ln2 hl; rfl
  have F_rarest_kind := fun_mk (st := s_rarest_kind) hl_rarest_kind hc_rarest_kind hk_rarest_kind
  have b_rarest_kind := F_rarest_kind.binds (ps := ["kinds", "weights"]) fun _ _ _ _ _ _ us hl => by obtain ⟨_, _, rfl⟩ := My.ln2 hl; rfl
  have F_left_by_halves := fun_mk (st := s_left_by_halves) hl_left_by_halves hc_left_by_halves hk_left_by_halves
  have b_left_by_halves := F_left_by_halves.binds (ps := ["s", "n"]) fun _ _ _ _ _ _ us hl => by obtain ⟨_, _, rfl⟩ := My.ln2 hl; rfl
  have F_Garden_init := fun_mk (st := s_Garden_init) hl_Garden_init hc_Garden_init hk_Garden_init
  have b_Garden_init := F_Garden_init.binds (ps := ["self"]) fun _ _ _ _ _ _ us hl => by obtain ⟨_, rfl⟩ := My.ln1 hl; rfl
  have F_is_no_field := fun_mk (st := s_is_no_field) hl_is_no_field hc_is_no_field hk_is_no_field
  have b_is_no_field := F_is_no_field.binds (ps := ["garden", "f"]) fun _ _ _ _ _ _ us hl => by obtain ⟨_, _, rfl⟩ := My.ln2 hl; rfl
  have F_is_no_kind := fun_mk (st := s_is_no_kind) hl_is_no_kind hc_is_no_kind hk_is_no_kind
  have b_is_no_kind := F_is_no_kind.binds (ps := ["garden", "asked_kinds"]) fun _ _ _ _ _ _ us hl => by obtain ⟨_, _, rfl⟩ := My.ln2 hl; rfl
  have F_shares_refusal := fun_mk (st := s_shares_refusal) hl_shares_refusal hc_shares_refusal hk_shares_refusal
  have b_shares_refusal := F_shares_refusal.binds (ps := ["garden", "asked_fields", "asked_kinds"]) fun _ _ _ _ _ _ us hl => by obtain ⟨_, _, _, rfl⟩ := My.ln3 hl; rfl
  have F_change_refusal := fun_mk (st := s_change_refusal) hl_change_refusal hc_change_refusal hk_change_refusal
  have b_change_refusal := F_change_refusal.binds (ps := ["garden", "f", "asked_kinds", "n"]) fun _ _ _ _ _ _ us hl => by obtain ⟨_, _, _, _, rfl⟩ := My.ln4 hl; rfl
  have F_one_if := fun_mk (st := s_one_if) hl_one_if hc_one_if hk_one_if
  have b_one_if := F_one_if.binds (ps := ["holds"]) fun _ _ _ _ _ _ us hl => by obtain ⟨_, rfl⟩ := My.ln1 hl; rfl
  have F_answer_start := fun_mk (st := s_answer_start) hl_answer_start hc_answer_start hk_answer_start
  have b_answer_start := F_answer_start.binds (ps := ["garden", "told"]) fun _ _ _ _ _ _ us hl => by obtain ⟨_, _, rfl⟩ := My.ln2 hl; rfl
  have F_answer_field := fun_mk (st := s_answer_field) hl_answer_field hc_answer_field hk_answer_field
  have b_answer_field := F_answer_field.binds (ps := ["garden", "told"]) fun _ _ _ _ _ _ us hl => by obtain ⟨_, _, rfl⟩ := My.ln2 hl; rfl
  have F_answer_put := fun_mk (st := s_answer_put) hl_answer_put hc_answer_put hk_answer_put
  have b_answer_put := F_answer_put.binds (ps := ["garden", "told"]) fun _ _ _ _ _ _ us hl => by obtain ⟨_, _, rfl⟩ := My.ln2 hl; rfl
  have F_answer_take := fun_mk (st := s_answer_take) hl_answer_take hc_answer_take hk_answer_take
  have b_answer_take := F_answer_take.binds (ps := ["garden", "told"]) fun _ _ _ _ _ _ us hl => by obtain ⟨_, _, rfl⟩ := My.ln2 hl; rfl
  have F_answer_share := fun_mk (st := s_answer_share) hl_answer_share hc_answer_share hk_answer_share
  have b_answer_share := F_answer_share.binds (ps := ["garden", "told"]) fun _ _ _ _ _ _ us hl => by obtain ⟨_, _, rfl⟩ := My.ln2 hl; rfl
  have F_answer_kind := fun_mk (st := s_answer_kind) hl_answer_kind hc_answer_kind hk_answer_kind
  have b_answer_kind := F_answer_kind.binds (ps := ["garden", "told"]) fun _ _ _ _ _ _ us hl => by obtain ⟨_, _, rfl⟩ := My.ln2 hl; rfl
  have F_answer_next := fun_mk (st := s_answer_next) hl_answer_next hc_answer_next hk_answer_next
  have b_answer_next := F_answer_next.binds (ps := ["garden", "told"]) fun _ _ _ _ _ _ us hl => by obtain ⟨_, _, rfl⟩ := My.ln2 hl; rfl
  have F_answer_after := fun_mk (st := s_answer_after) hl_answer_after hc_answer_after hk_answer_after
  have b_answer_after := F_answer_after.binds (ps := ["garden", "told"]) fun _ _ _ _ _ _ us hl => by obtain ⟨_, _, rfl⟩ := My.ln2 hl; rfl
  have F_answer_mixed := fun_mk (st := s_answer_mixed) hl_answer_mixed hc_answer_mixed hk_answer_mixed
  have b_answer_mixed := F_answer_mixed.binds (ps := ["garden", "told"]) fun _ _ _ _ _ _ us hl => by obtain ⟨_, _, rfl⟩ := My.ln2 hl; rfl
  have F_answer_expected := fun_mk (st := s_answer_expected) hl_answer_expected hc_answer_expected hk_answer_expected
  have b_answer_expected := F_answer_expected.binds (ps := ["garden", "told"]) fun _ _ _ _ _ _ us hl => by obtain ⟨_, _, rfl⟩ := My.ln2 hl; rfl
  have F_answer_lack := fun_mk (st := s_answer_lack) hl_answer_lack hc_answer_lack hk_answer_lack
  have b_answer_lack := F_answer_lack.binds (ps := ["garden", "told"]) fun _ _ _ _ _ _ us hl => by obtain ⟨_, _, rfl⟩ := My.ln2 hl; rfl
  have F_answer_rest := fun_mk (st := s_answer_rest) hl_answer_rest hc_answer_rest hk_answer_rest
  have b_answer_rest := F_answer_rest.binds (ps := ["garden", "told"]) fun _ _ _ _ _ _ us hl => by obtain ⟨_, _, rfl⟩ := My.ln2 hl; rfl
  have F_answer_soon := fun_mk (st := s_answer_soon) hl_answer_soon hc_answer_soon hk_answer_soon
  have b_answer_soon := F_answer_soon.binds (ps := ["garden", "told"]) fun _ _ _ _ _ _ us hl => by obtain ⟨_, _, rfl⟩ := My.ln2 hl; rfl
  have F_answer_together := fun_mk (st := s_answer_together) hl_answer_together hc_answer_together hk_answer_together
  have b_answer_together := F_answer_together.binds (ps := ["garden", "told"]) fun _ _ _ _ _ _ us hl => by obtain ⟨_, _, rfl⟩ := My.ln2 hl; rfl
  have F_answer_cross := fun_mk (st := s_answer_cross) hl_answer_cross hc_answer_cross hk_answer_cross
  have b_answer_cross := F_answer_cross.binds (ps := ["garden", "told"]) fun _ _ _ _ _ _ us hl => by obtain ⟨_, _, rfl⟩ := My.ln2 hl; rfl
  have F_answer_cross_next := fun_mk (st := s_answer_cross_next) hl_answer_cross_next hc_answer_cross_next hk_answer_cross_next
  have b_answer_cross_next := F_answer_cross_next.binds (ps := ["garden", "told"]) fun _ _ _ _ _ _ us hl => by obtain ⟨_, _, rfl⟩ := My.ln2 hl; rfl
  have F_answer_rarest := fun_mk (st := s_answer_rarest) hl_answer_rarest hc_answer_rarest hk_answer_rarest
  have b_answer_rarest := F_answer_rarest.binds (ps := ["garden", "told"]) fun _ _ _ _ _ _ us hl => by obtain ⟨_, _, rfl⟩ := My.ln2 hl; rfl
  have F_answer_size := fun_mk (st := s_answer_size) hl_answer_size hc_answer_size hk_answer_size
  have b_answer_size := F_answer_size.binds (ps := ["garden", "told"]) fun _ _ _ _ _ _ us hl => by obtain ⟨_, _, rfl⟩ := My.ln2 hl; rfl
  have F_answer_half := fun_mk (st := s_answer_half) hl_answer_half hc_answer_half hk_answer_half
  have b_answer_half := F_answer_half.binds (ps := ["garden", "told"]) fun _ _ _ _ _ _ us hl => by obtain ⟨_, _, rfl⟩ := My.ln2 hl; rfl
  have F_answer_state := fun_mk (st := s_answer_state) hl_answer_state hc_answer_state hk_answer_state
  have b_answer_state := F_answer_state.binds (ps := ["garden", "told"]) fun _ _ _ _ _ _ us hl => by obtain ⟨_, _, rfl⟩ := My.ln2 hl; rfl
  have F_answer_of := fun_mk (st := s_answer_of) hl_answer_of hc_answer_of hk_answer_of
  have b_answer_of := F_answer_of.binds (ps := ["garden", "number", "told"]) fun _ _ _ _ _ _ us hl => by obtain ⟨_, _, _, rfl⟩ := My.ln3 hl; rfl
  have F_told_begin := fun_mk (st := s_told_begin) hl_told_begin hc_told_begin hk_told_begin
  have b_told_begin := F_told_begin.binds (ps := ["calls", "place"]) fun _ _ _ _ _ _ us hl => by obtain ⟨_, _, rfl⟩ := My.ln2 hl; rfl
  have F_told_count := fun_mk (st := s_told_count) hl_told_count hc_told_count hk_told_count
  have b_told_count := F_told_count.binds (ps := ["calls", "place"]) fun _ _ _ _ _ _ us hl => by obtain ⟨_, _, rfl⟩ := My.ln2 hl; rfl
  have F_answers := fun_mk (st := s_answers) hl_answers hc_answers hk_answers
  have b_answers := F_answers.binds (ps := ["calls"]) fun _ _ _ _ _ _ us hl => by obtain ⟨_, rfl⟩ := My.ln1 hl; rfl
  exact ⟨⟨f_common_divisor, PySem.W.fnOf "common_divisor" "common_divisor" (defArgs s_common_divisor) (defBody s_common_divisor) (defScope s_common_divisor) .none kV_common_divisor dc_common_divisor pm_common_divisor an_common_divisor cd_common_divisor ct_common_divisor, f_fraction, PySem.W.fnOf "fraction" "fraction" (defArgs s_fraction) (defBody s_fraction) (defScope s_fraction) .none kV_fraction dc_fraction pm_fraction an_fraction cd_fraction ct_fraction, f_pair_count, PySem.W.fnOf "pair_count" "pair_count" (defArgs s_pair_count) (defBody s_pair_count) (defScope s_pair_count) .none kV_pair_count dc_pair_count pm_pair_count an_pair_count cd_pair_count ct_pair_count, f_pair_place, PySem.W.fnOf "pair_place" "pair_place" (defArgs s_pair_place) (defBody s_pair_place) (defScope s_pair_place) .none kV_pair_place dc_pair_place pm_pair_place an_pair_place cd_pair_place ct_pair_place, f_kind_weights, PySem.W.fnOf "kind_weights" "kind_weights" (defArgs s_kind_weights) (defBody s_kind_weights) (defScope s_kind_weights) .none kV_kind_weights dc_kind_weights pm_kind_weights an_kind_weights cd_kind_weights ct_kind_weights, f_weights_crossed, PySem.W.fnOf "weights_crossed" "weights_crossed" (defArgs s_weights_crossed) (defBody s_weights_crossed) (defScope s_weights_crossed) .none kV_weights_crossed dc_weights_crossed pm_weights_crossed an_weights_crossed cd_weights_crossed ct_weights_crossed, f_weights_by_any, PySem.W.fnOf "weights_by_any" "weights_by_any" (defArgs s_weights_by_any) (defBody s_weights_by_any) (defScope s_weights_by_any) .none kV_weights_by_any dc_weights_by_any pm_weights_by_any an_weights_by_any cd_weights_by_any ct_weights_by_any, f_weights_by_themselves, PySem.W.fnOf "weights_by_themselves" "weights_by_themselves" (defArgs s_weights_by_themselves) (defBody s_weights_by_themselves) (defScope s_weights_by_themselves) .none kV_weights_by_themselves dc_weights_by_themselves pm_weights_by_themselves an_weights_by_themselves cd_weights_by_themselves ct_weights_by_themselves, f_next_weights, PySem.W.fnOf "next_weights" "next_weights" (defArgs s_next_weights) (defBody s_next_weights) (defScope s_next_weights) .none kV_next_weights dc_next_weights pm_next_weights an_next_weights cd_next_weights ct_next_weights, f_later_weights, PySem.W.fnOf "later_weights" "later_weights" (defArgs s_later_weights) (defBody s_later_weights) (defScope s_later_weights) .none kV_later_weights dc_later_weights pm_later_weights an_later_weights cd_later_weights ct_later_weights, f_weights_together, PySem.W.fnOf "weights_together" "weights_together" (defArgs s_weights_together) (defBody s_weights_together) (defScope s_weights_together) .none kV_weights_together dc_weights_together pm_weights_together an_weights_together cd_weights_together ct_weights_together, f_is_at_rest, PySem.W.fnOf "is_at_rest" "is_at_rest" (defArgs s_is_at_rest) (defBody s_is_at_rest) (defScope s_is_at_rest) .none kV_is_at_rest dc_is_at_rest pm_is_at_rest an_is_at_rest cd_is_at_rest ct_is_at_rest, f_generations_to_rest, PySem.W.fnOf "generations_to_rest" "generations_to_rest" (defArgs s_generations_to_rest) (defBody s_generations_to_rest) (defScope s_generations_to_rest) .none kV_generations_to_rest dc_generations_to_rest pm_generations_to_rest an_generations_to_rest cd_generations_to_rest ct_generations_to_rest, f_share_of_pair, PySem.W.fnOf "share_of_pair" "share_of_pair" (defArgs s_share_of_pair) (defBody s_share_of_pair) (defScope s_share_of_pair) .none kV_share_of_pair dc_share_of_pair pm_share_of_pair an_share_of_pair cd_share_of_pair ct_share_of_pair, f_share_of_kind, PySem.W.fnOf "share_of_kind" "share_of_kind" (defArgs s_share_of_kind) (defBody s_share_of_kind) (defScope s_share_of_kind) .none kV_share_of_kind dc_share_of_kind pm_share_of_kind an_share_of_kind cd_share_of_kind ct_share_of_kind, f_share_mixed, PySem.W.fnOf "share_mixed" "share_mixed" (defArgs s_share_mixed) (defBody s_share_mixed) (defScope s_share_mixed) .none kV_share_mixed dc_share_mixed pm_share_mixed an_share_mixed cd_share_mixed ct_share_mixed, f_share_expected, PySem.W.fnOf "share_expected" "share_expected" (defArgs s_share_expected) (defBody s_share_expected) (defScope s_share_expected) .none kV_share_expected dc_share_expected pm_share_expected an_share_expected cd_share_expected ct_share_expected, f_lack_of_mixed, PySem.W.fnOf "lack_of_mixed" "lack_of_mixed" (defArgs s_lack_of_mixed) (defBody s_lack_of_mixed) (defScope s_lack_of_mixed) .none kV_lack_of_mixed dc_lack_of_mixed pm_lack_of_mixed an_lack_of_mixed cd_lack_of_mixed ct_lack_of_mixed, f_rarest_kind, PySem.W.fnOf "rarest_kind" "rarest_kind" (defArgs s_rarest_kind) (defBody s_rarest_kind) (defScope s_rarest_kind) .none kV_rarest_kind dc_rarest_kind pm_rarest_kind an_rarest_kind cd_rarest_kind ct_rarest_kind, f_left_by_halves, PySem.W.fnOf "left_by_halves" "left_by_halves" (defArgs s_left_by_halves) (defBody s_left_by_halves) (defScope s_left_by_halves) .none kV_left_by_halves dc_left_by_halves pm_left_by_halves an_left_by_halves cd_left_by_halves ct_left_by_halves, f_Garden_init, PySem.W.fnOf "__init__" "Garden.__init__" (defArgs s_Garden_init) (defBody s_Garden_init) (defScope s_Garden_init) .none kV_Garden_init dc_Garden_init pm_Garden_init an_Garden_init cd_Garden_init ct_Garden_init, f_is_no_field, PySem.W.fnOf "is_no_field" "is_no_field" (defArgs s_is_no_field) (defBody s_is_no_field) (defScope s_is_no_field) .none kV_is_no_field dc_is_no_field pm_is_no_field an_is_no_field cd_is_no_field ct_is_no_field, f_is_no_kind, PySem.W.fnOf "is_no_kind" "is_no_kind" (defArgs s_is_no_kind) (defBody s_is_no_kind) (defScope s_is_no_kind) .none kV_is_no_kind dc_is_no_kind pm_is_no_kind an_is_no_kind cd_is_no_kind ct_is_no_kind, f_shares_refusal, PySem.W.fnOf "shares_refusal" "shares_refusal" (defArgs s_shares_refusal) (defBody s_shares_refusal) (defScope s_shares_refusal) .none kV_shares_refusal dc_shares_refusal pm_shares_refusal an_shares_refusal cd_shares_refusal ct_shares_refusal, f_change_refusal, PySem.W.fnOf "change_refusal" "change_refusal" (defArgs s_change_refusal) (defBody s_change_refusal) (defScope s_change_refusal) .none kV_change_refusal dc_change_refusal pm_change_refusal an_change_refusal cd_change_refusal ct_change_refusal, f_one_if, PySem.W.fnOf "one_if" "one_if" (defArgs s_one_if) (defBody s_one_if) (defScope s_one_if) .none kV_one_if dc_one_if pm_one_if an_one_if cd_one_if ct_one_if, f_answer_start, PySem.W.fnOf "answer_start" "answer_start" (defArgs s_answer_start) (defBody s_answer_start) (defScope s_answer_start) .none kV_answer_start dc_answer_start pm_answer_start an_answer_start cd_answer_start ct_answer_start, f_answer_field, PySem.W.fnOf "answer_field" "answer_field" (defArgs s_answer_field) (defBody s_answer_field) (defScope s_answer_field) .none kV_answer_field dc_answer_field pm_answer_field an_answer_field cd_answer_field ct_answer_field, f_answer_put, PySem.W.fnOf "answer_put" "answer_put" (defArgs s_answer_put) (defBody s_answer_put) (defScope s_answer_put) .none kV_answer_put dc_answer_put pm_answer_put an_answer_put cd_answer_put ct_answer_put, f_answer_take, PySem.W.fnOf "answer_take" "answer_take" (defArgs s_answer_take) (defBody s_answer_take) (defScope s_answer_take) .none kV_answer_take dc_answer_take pm_answer_take an_answer_take cd_answer_take ct_answer_take, f_answer_share, PySem.W.fnOf "answer_share" "answer_share" (defArgs s_answer_share) (defBody s_answer_share) (defScope s_answer_share) .none kV_answer_share dc_answer_share pm_answer_share an_answer_share cd_answer_share ct_answer_share, f_answer_kind, PySem.W.fnOf "answer_kind" "answer_kind" (defArgs s_answer_kind) (defBody s_answer_kind) (defScope s_answer_kind) .none kV_answer_kind dc_answer_kind pm_answer_kind an_answer_kind cd_answer_kind ct_answer_kind, f_answer_next, PySem.W.fnOf "answer_next" "answer_next" (defArgs s_answer_next) (defBody s_answer_next) (defScope s_answer_next) .none kV_answer_next dc_answer_next pm_answer_next an_answer_next cd_answer_next ct_answer_next, f_answer_after, PySem.W.fnOf "answer_after" "answer_after" (defArgs s_answer_after) (defBody s_answer_after) (defScope s_answer_after) .none kV_answer_after dc_answer_after pm_answer_after an_answer_after cd_answer_after ct_answer_after, f_answer_mixed, PySem.W.fnOf "answer_mixed" "answer_mixed" (defArgs s_answer_mixed) (defBody s_answer_mixed) (defScope s_answer_mixed) .none kV_answer_mixed dc_answer_mixed pm_answer_mixed an_answer_mixed cd_answer_mixed ct_answer_mixed, f_answer_expected, PySem.W.fnOf "answer_expected" "answer_expected" (defArgs s_answer_expected) (defBody s_answer_expected) (defScope s_answer_expected) .none kV_answer_expected dc_answer_expected pm_answer_expected an_answer_expected cd_answer_expected ct_answer_expected, f_answer_lack, PySem.W.fnOf "answer_lack" "answer_lack" (defArgs s_answer_lack) (defBody s_answer_lack) (defScope s_answer_lack) .none kV_answer_lack dc_answer_lack pm_answer_lack an_answer_lack cd_answer_lack ct_answer_lack, f_answer_rest, PySem.W.fnOf "answer_rest" "answer_rest" (defArgs s_answer_rest) (defBody s_answer_rest) (defScope s_answer_rest) .none kV_answer_rest dc_answer_rest pm_answer_rest an_answer_rest cd_answer_rest ct_answer_rest, f_answer_soon, PySem.W.fnOf "answer_soon" "answer_soon" (defArgs s_answer_soon) (defBody s_answer_soon) (defScope s_answer_soon) .none kV_answer_soon dc_answer_soon pm_answer_soon an_answer_soon cd_answer_soon ct_answer_soon, f_answer_together, PySem.W.fnOf "answer_together" "answer_together" (defArgs s_answer_together) (defBody s_answer_together) (defScope s_answer_together) .none kV_answer_together dc_answer_together pm_answer_together an_answer_together cd_answer_together ct_answer_together, f_answer_cross, PySem.W.fnOf "answer_cross" "answer_cross" (defArgs s_answer_cross) (defBody s_answer_cross) (defScope s_answer_cross) .none kV_answer_cross dc_answer_cross pm_answer_cross an_answer_cross cd_answer_cross ct_answer_cross, f_answer_cross_next, PySem.W.fnOf "answer_cross_next" "answer_cross_next" (defArgs s_answer_cross_next) (defBody s_answer_cross_next) (defScope s_answer_cross_next) .none kV_answer_cross_next dc_answer_cross_next pm_answer_cross_next an_answer_cross_next cd_answer_cross_next ct_answer_cross_next, f_answer_rarest, PySem.W.fnOf "answer_rarest" "answer_rarest" (defArgs s_answer_rarest) (defBody s_answer_rarest) (defScope s_answer_rarest) .none kV_answer_rarest dc_answer_rarest pm_answer_rarest an_answer_rarest cd_answer_rarest ct_answer_rarest, f_answer_size, PySem.W.fnOf "answer_size" "answer_size" (defArgs s_answer_size) (defBody s_answer_size) (defScope s_answer_size) .none kV_answer_size dc_answer_size pm_answer_size an_answer_size cd_answer_size ct_answer_size, f_answer_half, PySem.W.fnOf "answer_half" "answer_half" (defArgs s_answer_half) (defBody s_answer_half) (defScope s_answer_half) .none kV_answer_half dc_answer_half pm_answer_half an_answer_half cd_answer_half ct_answer_half, f_answer_state, PySem.W.fnOf "answer_state" "answer_state" (defArgs s_answer_state) (defBody s_answer_state) (defScope s_answer_state) .none kV_answer_state dc_answer_state pm_answer_state an_answer_state cd_answer_state ct_answer_state, f_answer_of, PySem.W.fnOf "answer_of" "answer_of" (defArgs s_answer_of) (defBody s_answer_of) (defScope s_answer_of) .none kV_answer_of dc_answer_of pm_answer_of an_answer_of cd_answer_of ct_answer_of, f_told_begin, PySem.W.fnOf "told_begin" "told_begin" (defArgs s_told_begin) (defBody s_told_begin) (defScope s_told_begin) .none kV_told_begin dc_told_begin pm_told_begin an_told_begin cd_told_begin ct_told_begin, f_told_count, PySem.W.fnOf "told_count" "told_count" (defArgs s_told_count) (defBody s_told_count) (defScope s_told_count) .none kV_told_count dc_told_count pm_told_count an_told_count cd_told_count ct_told_count, f_answers, PySem.W.fnOf "answers" "answers" (defArgs s_answers) (defBody s_answers) (defScope s_answers) .none kV_answers dc_answers pm_answers an_answers cd_answers ct_answers, C_Garden, t_TOLD_COUNTS, t_ANSWERERS⟩, ⟨F_common_divisor,
    b_common_divisor,
    PySem.W.mg_of X G ha_common_divisor,
    F_fraction,
    b_fraction,
    PySem.W.mg_of X G ha_fraction,
    F_pair_count,
    b_pair_count,
    PySem.W.mg_of X G ha_pair_count,
    F_pair_place,
    b_pair_place,
    PySem.W.mg_of X G ha_pair_place,
    F_kind_weights,
    b_kind_weights,
    PySem.W.mg_of X G ha_kind_weights,
    F_weights_crossed,
    b_weights_crossed,
    PySem.W.mg_of X G ha_weights_crossed,
    F_weights_by_any,
    b_weights_by_any,
    PySem.W.mg_of X G ha_weights_by_any,
    F_weights_by_themselves,
    b_weights_by_themselves,
    PySem.W.mg_of X G ha_weights_by_themselves,
    F_next_weights,
    b_next_weights,
    PySem.W.mg_of X G ha_next_weights,
    F_later_weights,
    b_later_weights,
    PySem.W.mg_of X G ha_later_weights,
    F_weights_together,
    b_weights_together,
    PySem.W.mg_of X G ha_weights_together,
    F_is_at_rest,
    b_is_at_rest,
    PySem.W.mg_of X G ha_is_at_rest,
    F_generations_to_rest,
    b_generations_to_rest,
    PySem.W.mg_of X G ha_generations_to_rest,
    F_share_of_pair,
    b_share_of_pair,
    PySem.W.mg_of X G ha_share_of_pair,
    F_share_of_kind,
    b_share_of_kind,
    PySem.W.mg_of X G ha_share_of_kind,
    F_share_mixed,
    b_share_mixed,
    PySem.W.mg_of X G ha_share_mixed,
    F_share_expected,
    b_share_expected,
    PySem.W.mg_of X G ha_share_expected,
    F_lack_of_mixed,
    b_lack_of_mixed,
    PySem.W.mg_of X G ha_lack_of_mixed,
    F_rarest_kind,
    b_rarest_kind,
    PySem.W.mg_of X G ha_rarest_kind,
    F_left_by_halves,
    b_left_by_halves,
    PySem.W.mg_of X G ha_left_by_halves,
    F_Garden_init,
    b_Garden_init,
    F_is_no_field,
    b_is_no_field,
    PySem.W.mg_of X G ha_is_no_field,
    F_is_no_kind,
    b_is_no_kind,
    PySem.W.mg_of X G ha_is_no_kind,
    F_shares_refusal,
    b_shares_refusal,
    PySem.W.mg_of X G ha_shares_refusal,
    F_change_refusal,
    b_change_refusal,
    PySem.W.mg_of X G ha_change_refusal,
    F_one_if,
    b_one_if,
    PySem.W.mg_of X G ha_one_if,
    F_answer_start,
    b_answer_start,
    PySem.W.mg_of X G ha_answer_start,
    F_answer_field,
    b_answer_field,
    PySem.W.mg_of X G ha_answer_field,
    F_answer_put,
    b_answer_put,
    PySem.W.mg_of X G ha_answer_put,
    F_answer_take,
    b_answer_take,
    PySem.W.mg_of X G ha_answer_take,
    F_answer_share,
    b_answer_share,
    PySem.W.mg_of X G ha_answer_share,
    F_answer_kind,
    b_answer_kind,
    PySem.W.mg_of X G ha_answer_kind,
    F_answer_next,
    b_answer_next,
    PySem.W.mg_of X G ha_answer_next,
    F_answer_after,
    b_answer_after,
    PySem.W.mg_of X G ha_answer_after,
    F_answer_mixed,
    b_answer_mixed,
    PySem.W.mg_of X G ha_answer_mixed,
    F_answer_expected,
    b_answer_expected,
    PySem.W.mg_of X G ha_answer_expected,
    F_answer_lack,
    b_answer_lack,
    PySem.W.mg_of X G ha_answer_lack,
    F_answer_rest,
    b_answer_rest,
    PySem.W.mg_of X G ha_answer_rest,
    F_answer_soon,
    b_answer_soon,
    PySem.W.mg_of X G ha_answer_soon,
    F_answer_together,
    b_answer_together,
    PySem.W.mg_of X G ha_answer_together,
    F_answer_cross,
    b_answer_cross,
    PySem.W.mg_of X G ha_answer_cross,
    F_answer_cross_next,
    b_answer_cross_next,
    PySem.W.mg_of X G ha_answer_cross_next,
    F_answer_rarest,
    b_answer_rarest,
    PySem.W.mg_of X G ha_answer_rarest,
    F_answer_size,
    b_answer_size,
    PySem.W.mg_of X G ha_answer_size,
    F_answer_half,
    b_answer_half,
    PySem.W.mg_of X G ha_answer_half,
    F_answer_state,
    b_answer_state,
    PySem.W.mg_of X G ha_answer_state,
    F_answer_of,
    b_answer_of,
    PySem.W.mg_of X G ha_answer_of,
    F_told_begin,
    b_told_begin,
    PySem.W.mg_of X G ha_told_begin,
    F_told_count,
    b_told_count,
    PySem.W.mg_of X G ha_told_count,
    F_answers,
    b_answers,
    PySem.W.mg_of X G ha_answers,
    ⟨_, PySem.W.mg_of X G hn_HUNDRED⟩,
    ⟨_, PySem.W.mg_of X G hn_NO_FIELD⟩,
    ⟨_, PySem.W.mg_of X G hn_NO_PLANTS⟩,
    ⟨_, PySem.W.mg_of X G hn_NOT_STARTED⟩,
    ⟨_, PySem.W.mg_of X G hn_TOO_FEW⟩,
    ⟨_, PySem.W.mg_of X G hn_WRONG⟩,
    ⟨_, PySem.W.mg_of X G hn_FULL⟩,
    ⟨_, PySem.W.mg_of X G hn_NO_ANSWER⟩,
    ⟨_, PySem.W.mg_of X G hn_FEWEST_KINDS⟩,
    ⟨_, PySem.W.mg_of X G hn_MOST_KINDS⟩,
    ⟨_, PySem.W.mg_of X G hn_MOST_FIELDS⟩,
    ⟨_, PySem.W.mg_of X G hn_MOST_OF_A_PAIR⟩,
    ⟨_, PySem.W.mg_of X G hn_MOST_OF_HUNDRED⟩,
    ⟨_, PySem.W.mg_of X G hn_MOST_GENERATIONS⟩,
    ⟨_, PySem.W.mg_of X G hn_MOST_HALVES⟩,
    ⟨_, PySem.W.mg_of X G hn_START⟩,
    ⟨_, PySem.W.mg_of X G hn_FIELD⟩,
    PySem.W.mg_of X G ha_TOLD_COUNTS,
    fun H => .inr ⟨_, _, _, hl_TOLD_COUNTS, rfl, rfl, (by show 20 ≤ sizeLine; decide), (.cons ⟨_, rfl⟩ (.cons ⟨_, rfl⟩ (.cons ⟨_, rfl⟩ (.cons ⟨_, rfl⟩ (.cons ⟨_, rfl⟩ (.cons ⟨_, rfl⟩ (.cons ⟨_, rfl⟩ (.cons ⟨_, rfl⟩ (.cons ⟨_, rfl⟩ (.cons ⟨_, rfl⟩ (.cons ⟨_, rfl⟩ (.cons ⟨_, rfl⟩ (.cons ⟨_, rfl⟩ (.cons ⟨_, rfl⟩ (.cons ⟨_, rfl⟩ (.cons ⟨_, rfl⟩ (.cons ⟨_, rfl⟩ (.cons ⟨_, rfl⟩ (.cons ⟨_, rfl⟩ (.cons ⟨_, rfl⟩ (.nil)))))))))))))))))))))⟩,
    PySem.W.mg_of X G ha_ANSWERERS,
    fun H => .inr ⟨_, _, _, hl_ANSWERERS, rfl, rfl, (by show 20 ≤ sizeLine; decide), (.cons rfl (.cons rfl (.cons rfl (.cons rfl (.cons rfl (.cons rfl (.cons rfl (.cons rfl (.cons rfl (.cons rfl (.cons rfl (.cons rfl (.cons rfl (.cons rfl (.cons rfl (.cons rfl (.cons rfl (.cons rfl (.cons rfl (.cons rfl (.nil)))))))))))))))))))))⟩,
    PySem.W.mg_none_of X G hz_len,
    PySem.W.mg_none_of X G hz_sum,
    PySem.W.mg_none_of X G hz_any,
    PySem.W.mg_none_of X G hz_all,
    PySem.W.mg_none_of X G hz_min,
    PySem.W.mg_none_of X G hz_max,
    PySem.W.mg_none_of X G hz_list,
    PySem.W.mg_none_of X G hz_range,
    PySem.W.mg_none_of X G hz_zip,
    PySem.W.mg_of X G ha_Garden,
    ⟨hmk_Garden, ha_Garden_init, hi_Garden_init, hkc_Garden⟩,
    ⟨hpg_Garden, hhd_Garden, hpo_Garden, hsa_Garden⟩,
    hno_fields,
    hno_kinds⟩, fun s us hu => by obtain ⟨_, rfl⟩ := My.ln1 hu; exact .of_eq rfl⟩
end Pf

end
set_option Elab.async false
set_option linter.all false
open PySem PySem.W PyProof.Rows
noncomputable def PySem.W.Fast.tw16995784648474596472 : PySem.Program := PySem.Challenge.pw_restsquares_s01_answers
theorem PySem.W.Fast.te16995784648474596472 : PySem.Challenge.pw_restsquares_s01_answers = PySem.W.Fast.tw16995784648474596472 := rfl
noncomputable def PySem.W.Fast.tw1712573688229254929 : PySem.Params → PySem.W.Frag := Pf.myK
theorem PySem.W.Fast.te1712573688229254929 : Pf.myK = PySem.W.Fast.tw1712573688229254929 := rfl
set_option maxRecDepth 100000 in
set_option maxHeartbeats 0 in
theorem PySem.Challenge.cw_restsquares_s01_answers_holds : PySem.Challenge.rw_restsquares_s01_answers.Holds := by
  w_on; o_headS (PySem.W.kHook Pf.myK Pf.myAs (fun _ => by kernel_rfl)); (case hw => exact ⟨[.list [.int 19]], by decide +kernel, by decide +kernel⟩)
  k_fillS
  refine L2.walk_specK (r := PySem.Challenge.rw_restsquares_s01_answers) (k := 9) (CX := L2.CX0) (ps := ["calls"]) (sp := Pf.spAnswers) (by decide +kernel) rfl rfl ⟨rfl, by decide, by decide⟩ (fun w h Y => PySem.W.kIn_of Y) ?F ?S (fun _ _ _ _ z => z)
  case F =>
    intro w mg fa h Y KX G hmg
    have T : ∃ a, Pf.Txt (L2.KOf KX) mg a ∧ ∀ (s : Shared) (us : List Value), us.length = (["calls"] : List Str).length → BindsTo s a.d_answers ⟨us, []⟩ ((["calls"] : List Str).zip us) := by
      dsimp only [L2.KOf]
      refine' Pf.txt_mk KX G ?ha_Garden ?ha_common_divisor ?hl_common_divisor ?hc_common_divisor ?hk_common_divisor ?ha_fraction ?hl_fraction ?hc_fraction ?hk_fraction ?ha_pair_count ?hl_pair_count ?hc_pair_count ?hk_pair_count ?ha_pair_place ?hl_pair_place ?hc_pair_place ?hk_pair_place ?ha_kind_weights ?hl_kind_weights ?hc_kind_weights ?hk_kind_weights ?ha_weights_crossed ?hl_weights_crossed ?hc_weights_crossed ?hk_weights_crossed ?ha_weights_by_any ?hl_weights_by_any ?hc_weights_by_any ?hk_weights_by_any ?ha_weights_by_themselves ?hl_weights_by_themselves ?hc_weights_by_themselves ?hk_weights_by_themselves ?ha_next_weights ?hl_next_weights ?hc_next_weights ?hk_next_weights ?ha_later_weights ?hl_later_weights ?hc_later_weights ?hk_later_weights ?ha_weights_together ?hl_weights_together ?hc_weights_together ?hk_weights_together ?ha_is_at_rest ?hl_is_at_rest ?hc_is_at_rest ?hk_is_at_rest ?ha_generations_to_rest ?hl_generations_to_rest ?hc_generations_to_rest ?hk_generations_to_rest ?ha_share_of_pair ?hl_share_of_pair ?hc_share_of_pair ?hk_share_of_pair ?ha_share_of_kind ?hl_share_of_kind ?hc_share_of_kind ?hk_share_of_kind ?ha_share_mixed ?hl_share_mixed ?hc_share_mixed ?hk_share_mixed ?ha_share_expected ?hl_share_expected ?hc_share_expected ?hk_share_expected ?ha_lack_of_mixed ?hl_lack_of_mixed ?hc_lack_of_mixed ?hk_lack_of_mixed ?ha_rarest_kind ?hl_rarest_kind ?hc_rarest_kind ?hk_rarest_kind ?ha_left_by_halves ?hl_left_by_halves ?hc_left_by_halves ?hk_left_by_halves ?ha_Garden_init ?hl_Garden_init ?hc_Garden_init ?hk_Garden_init ?hi_Garden_init ?ha_is_no_field ?hl_is_no_field ?hc_is_no_field ?hk_is_no_field ?ha_is_no_kind ?hl_is_no_kind ?hc_is_no_kind ?hk_is_no_kind ?ha_shares_refusal ?hl_shares_refusal ?hc_shares_refusal ?hk_shares_refusal ?ha_change_refusal ?hl_change_refusal ?hc_change_refusal ?hk_change_refusal ?ha_one_if ?hl_one_if ?hc_one_if ?hk_one_if ?ha_answer_start ?hl_answer_start ?hc_answer_start ?hk_answer_start ?ha_answer_field ?hl_answer_field ?hc_answer_field ?hk_answer_field ?ha_answer_put ?hl_answer_put ?hc_answer_put ?hk_answer_put ?ha_answer_take ?hl_answer_take ?hc_answer_take ?hk_answer_take ?ha_answer_share ?hl_answer_share ?hc_answer_share ?hk_answer_share ?ha_answer_kind ?hl_answer_kind ?hc_answer_kind ?hk_answer_kind ?ha_answer_next ?hl_answer_next ?hc_answer_next ?hk_answer_next ?ha_answer_after ?hl_answer_after ?hc_answer_after ?hk_answer_after ?ha_answer_mixed ?hl_answer_mixed ?hc_answer_mixed ?hk_answer_mixed ?ha_answer_expected ?hl_answer_expected ?hc_answer_expected ?hk_answer_expected ?ha_answer_lack ?hl_answer_lack ?hc_answer_lack ?hk_answer_lack ?ha_answer_rest ?hl_answer_rest ?hc_answer_rest ?hk_answer_rest ?ha_answer_soon ?hl_answer_soon ?hc_answer_soon ?hk_answer_soon ?ha_answer_together ?hl_answer_together ?hc_answer_together ?hk_answer_together ?ha_answer_cross ?hl_answer_cross ?hc_answer_cross ?hk_answer_cross ?ha_answer_cross_next ?hl_answer_cross_next ?hc_answer_cross_next ?hk_answer_cross_next ?ha_answer_rarest ?hl_answer_rarest ?hc_answer_rarest ?hk_answer_rarest ?ha_answer_size ?hl_answer_size ?hc_answer_size ?hk_answer_size ?ha_answer_half ?hl_answer_half ?hc_answer_half ?hk_answer_half ?ha_answer_state ?hl_answer_state ?hc_answer_state ?hk_answer_state ?ha_answer_of ?hl_answer_of ?hc_answer_of ?hk_answer_of ?ha_told_begin ?hl_told_begin ?hc_told_begin ?hk_told_begin ?ha_told_count ?hl_told_count ?hc_told_count ?hk_told_count ?ha_answers ?hl_answers ?hc_answers ?hk_answers ?hn_HUNDRED ?hn_NO_FIELD ?hn_NO_PLANTS ?hn_NOT_STARTED ?hn_TOO_FEW ?hn_WRONG ?hn_FULL ?hn_NO_ANSWER ?hn_FEWEST_KINDS ?hn_MOST_KINDS ?hn_MOST_FIELDS ?hn_MOST_OF_A_PAIR ?hn_MOST_OF_HUNDRED ?hn_MOST_GENERATIONS ?hn_MOST_HALVES ?hn_START ?hn_FIELD ?ha_TOLD_COUNTS ?hl_TOLD_COUNTS ?ha_ANSWERERS ?hl_ANSWERERS ?hz_len ?hz_sum ?hz_any ?hz_all ?hz_min ?hz_max ?hz_list ?hz_range ?hz_zip ?hpg_Garden ?hhd_Garden ?hpo_Garden ?hsa_Garden ?hmk_Garden ?hkc_Garden ?hno_fields ?hno_kinds
      (case ha_Garden => k_is)
      (case ha_common_divisor => k_is)
      (case hl_common_divisor => k_is)
      (case hc_common_divisor => k_is)
      (case hk_common_divisor => k_is)
      (case ha_fraction => k_is)
      (case hl_fraction => k_is)
      (case hc_fraction => k_is)
      (case hk_fraction => k_is)
      (case ha_pair_count => k_is)
      (case hl_pair_count => k_is)
      (case hc_pair_count => k_is)
      (case hk_pair_count => k_is)
      (case ha_pair_place => k_is)
      (case hl_pair_place => k_is)
      (case hc_pair_place => k_is)
      (case hk_pair_place => k_is)
      (case ha_kind_weights => k_is)
      (case hl_kind_weights => k_is)
      (case hc_kind_weights => k_is)
      (case hk_kind_weights => k_is)
      (case ha_weights_crossed => k_is)
      (case hl_weights_crossed => k_is)
      (case hc_weights_crossed => k_is)
      (case hk_weights_crossed => k_is)
      (case ha_weights_by_any => k_is)
      (case hl_weights_by_any => k_is)
      (case hc_weights_by_any => k_is)
      (case hk_weights_by_any => k_is)
      (case ha_weights_by_themselves => k_is)
      (case hl_weights_by_themselves => k_is)
      (case hc_weights_by_themselves => k_is)
      (case hk_weights_by_themselves => k_is)
      (case ha_next_weights => k_is)
      (case hl_next_weights => k_is)
      (case hc_next_weights => k_is)
      (case hk_next_weights => k_is)
      (case ha_later_weights => k_is)
      (case hl_later_weights => k_is)
      (case hc_later_weights => k_is)
      (case hk_later_weights => k_is)
      (case ha_weights_together => k_is)
      (case hl_weights_together => k_is)
      (case hc_weights_together => k_is)
      (case hk_weights_together => k_is)
      (case ha_is_at_rest => k_is)
      (case hl_is_at_rest => k_is)
      (case hc_is_at_rest => k_is)
      (case hk_is_at_rest => k_is)
      (case ha_generations_to_rest => k_is)
      (case hl_generations_to_rest => k_is)
      (case hc_generations_to_rest => k_is)
      (case hk_generations_to_rest => k_is)
      (case ha_share_of_pair => k_is)
      (case hl_share_of_pair => k_is)
      (case hc_share_of_pair => k_is)
      (case hk_share_of_pair => k_is)
      (case ha_share_of_kind => k_is)
      (case hl_share_of_kind => k_is)
      (case hc_share_of_kind => k_is)
      (case hk_share_of_kind => k_is)
      (case ha_share_mixed => k_is)
      (case hl_share_mixed => k_is)
      (case hc_share_mixed => k_is)
      (case hk_share_mixed => k_is)
      (case ha_share_expected => k_is)
      (case hl_share_expected => k_is)
      (case hc_share_expected => k_is)
      (case hk_share_expected => k_is)
      (case ha_lack_of_mixed => k_is)
      (case hl_lack_of_mixed => k_is)
      (case hc_lack_of_mixed => k_is)
      (case hk_lack_of_mixed => k_is)
      (case ha_rarest_kind => k_is)
      (case hl_rarest_kind => k_is)
      (case hc_rarest_kind => k_is)
      (case hk_rarest_kind => k_is)
      (case ha_left_by_halves => k_is)
      (case hl_left_by_halves => k_is)
      (case hc_left_by_halves => k_is)
      (case hk_left_by_halves => k_is)
      (case ha_Garden_init => k_is)
      (case hl_Garden_init => k_is)
      (case hc_Garden_init => k_is)
      (case hk_Garden_init => k_is)
      (case hi_Garden_init => k_is)
      (case ha_is_no_field => k_is)
      (case hl_is_no_field => k_is)
      (case hc_is_no_field => k_is)
      (case hk_is_no_field => k_is)
      (case ha_is_no_kind => k_is)
      (case hl_is_no_kind => k_is)
      (case hc_is_no_kind => k_is)
      (case hk_is_no_kind => k_is)
      (case ha_shares_refusal => k_is)
      (case hl_shares_refusal => k_is)
      (case hc_shares_refusal => k_is)
      (case hk_shares_refusal => k_is)
      (case ha_change_refusal => k_is)
      (case hl_change_refusal => k_is)
      (case hc_change_refusal => k_is)
      (case hk_change_refusal => k_is)
      (case ha_one_if => k_is)
      (case hl_one_if => k_is)
      (case hc_one_if => k_is)
      (case hk_one_if => k_is)
      (case ha_answer_start => k_is)
      (case hl_answer_start => k_is)
      (case hc_answer_start => k_is)
      (case hk_answer_start => k_is)
      (case ha_answer_field => k_is)
      (case hl_answer_field => k_is)
      (case hc_answer_field => k_is)
      (case hk_answer_field => k_is)
      (case ha_answer_put => k_is)
      (case hl_answer_put => k_is)
      (case hc_answer_put => k_is)
      (case hk_answer_put => k_is)
      (case ha_answer_take => k_is)
      (case hl_answer_take => k_is)
      (case hc_answer_take => k_is)
      (case hk_answer_take => k_is)
      (case ha_answer_share => k_is)
      (case hl_answer_share => k_is)
      (case hc_answer_share => k_is)
      (case hk_answer_share => k_is)
      (case ha_answer_kind => k_is)
      (case hl_answer_kind => k_is)
      (case hc_answer_kind => k_is)
      (case hk_answer_kind => k_is)
      (case ha_answer_next => k_is)
      (case hl_answer_next => k_is)
      (case hc_answer_next => k_is)
      (case hk_answer_next => k_is)
      (case ha_answer_after => k_is)
      (case hl_answer_after => k_is)
      (case hc_answer_after => k_is)
      (case hk_answer_after => k_is)
      (case ha_answer_mixed => k_is)
      (case hl_answer_mixed => k_is)
      (case hc_answer_mixed => k_is)
      (case hk_answer_mixed => k_is)
      (case ha_answer_expected => k_is)
      (case hl_answer_expected => k_is)
      (case hc_answer_expected => k_is)
      (case hk_answer_expected => k_is)
      (case ha_answer_lack => k_is)
      (case hl_answer_lack => k_is)
      (case hc_answer_lack => k_is)
      (case hk_answer_lack => k_is)
      (case ha_answer_rest => k_is)
      (case hl_answer_rest => k_is)
      (case hc_answer_rest => k_is)
      (case hk_answer_rest => k_is)
      (case ha_answer_soon => k_is)
      (case hl_answer_soon => k_is)
      (case hc_answer_soon => k_is)
      (case hk_answer_soon => k_is)
      (case ha_answer_together => k_is)
      (case hl_answer_together => k_is)
      (case hc_answer_together => k_is)
      (case hk_answer_together => k_is)
      (case ha_answer_cross => k_is)
      (case hl_answer_cross => k_is)
      (case hc_answer_cross => k_is)
      (case hk_answer_cross => k_is)
      (case ha_answer_cross_next => k_is)
      (case hl_answer_cross_next => k_is)
      (case hc_answer_cross_next => k_is)
      (case hk_answer_cross_next => k_is)
      (case ha_answer_rarest => k_is)
      (case hl_answer_rarest => k_is)
      (case hc_answer_rarest => k_is)
      (case hk_answer_rarest => k_is)
      (case ha_answer_size => k_is)
      (case hl_answer_size => k_is)
      (case hc_answer_size => k_is)
      (case hk_answer_size => k_is)
      (case ha_answer_half => k_is)
      (case hl_answer_half => k_is)
      (case hc_answer_half => k_is)
      (case hk_answer_half => k_is)
      (case ha_answer_state => k_is)
      (case hl_answer_state => k_is)
      (case hc_answer_state => k_is)
      (case hk_answer_state => k_is)
      (case ha_answer_of => k_is)
      (case hl_answer_of => k_is)
      (case hc_answer_of => k_is)
      (case hk_answer_of => k_is)
      (case ha_told_begin => k_is)
      (case hl_told_begin => k_is)
      (case hc_told_begin => k_is)
      (case hk_told_begin => k_is)
      (case ha_told_count => k_is)
      (case hl_told_count => k_is)
      (case hc_told_count => k_is)
      (case hk_told_count => k_is)
      (case ha_answers => k_is)
      (case hl_answers => k_is)
      (case hc_answers => k_is)
      (case hk_answers => k_is)
      (case hn_HUNDRED => k_is)
      (case hn_NO_FIELD => k_is)
      (case hn_NO_PLANTS => k_is)
      (case hn_NOT_STARTED => k_is)
      (case hn_TOO_FEW => k_is)
      (case hn_WRONG => k_is)
      (case hn_FULL => k_is)
      (case hn_NO_ANSWER => k_is)
      (case hn_FEWEST_KINDS => k_is)
      (case hn_MOST_KINDS => k_is)
      (case hn_MOST_FIELDS => k_is)
      (case hn_MOST_OF_A_PAIR => k_is)
      (case hn_MOST_OF_HUNDRED => k_is)
      (case hn_MOST_GENERATIONS => k_is)
      (case hn_MOST_HALVES => k_is)
      (case hn_START => k_is)
      (case hn_FIELD => k_is)
      (case ha_TOLD_COUNTS => k_is)
      (case hl_TOLD_COUNTS => k_is)
      (case ha_ANSWERERS => k_is)
      (case hl_ANSWERERS => k_is)
      (case hz_len => k_is)
      (case hz_sum => k_is)
      (case hz_any => k_is)
      (case hz_all => k_is)
      (case hz_min => k_is)
      (case hz_max => k_is)
      (case hz_list => k_is)
      (case hz_range => k_is)
      (case hz_zip => k_is)
      (case hpg_Garden => k_is)
      (case hhd_Garden => k_is)
      (case hpo_Garden => k_is)
      (case hsa_Garden => k_is)
      (case hmk_Garden => k_is)
      (case hkc_Garden => k_is)
      (case hno_fields => k_is)
      (case hno_kinds => k_is)
    obtain ⟨a, T, hb⟩ := T
    have e0 := hmg.symm.trans T.m_answers
    cases e0
    exact ⟨a.d_answers, hb, fun base _ _ => Pf.ok_answers T⟩
  case S =>
    intro K H xs a hO hwi hask hx
    cases hx with
    | cons h1 h2 =>
      cases h2
      cases h1 with
      | lst hs ha =>
        have e := L2.ints_dw a.1 _ ha
        subst e
        have q : ((Codec.inLen 0 12400 a.1 && a.1.all (Codec.inInt 0 4294967295)) && true) = true := hwi
        rw [Bool.and_eq_true, Bool.and_eq_true] at q
        have hask' : PyKqp1.answers_asked a.1 = true := hask
        obtain ⟨raw, hR⟩ := My.asked_raw hask'
        refine ⟨_, a.1, raw, rfl, hs, fun v hv => ?_, hR, fun c hc p told hO => ⟨?_, My.asked_60 hask' hR c hc p told hO⟩, fun H' r hr => .lst (L2.SqL.of hr) (L2.dw_ints _)⟩
        · have := List.all_eq_true.mp q.1.2 v hv
          exact (Codec.inInt_iff.mp this).1
        · exact hO.lt


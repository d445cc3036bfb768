import PyProof.Rows.All
import Wide.All
import OpenK.AllK
import Wide.FinOn
import PyProof.EqAt
import PyProof.EqKinds
import PyProof.TupleCall
import KE.BitLaws
import Rc83Spec
import PyRc83
import PySem.Builtin.Int.W1All
import KE.OsHead
import Open.SpecLaws
import KE.KDictSum
import PyProof.Rows.SortShellAny
import PyProof.Rows.RuleM_int
import PyProof.DictUpdate
import KE.KLam
import KE.KNestM
import KE.KMinKey
import PyProof.Rows.CallKwBuiltin
import KE.OsGo
import PySem.Challenge.RW_learntpath_s01_answers
set_option genInjectivity false
set_option genSizeOf false
section
-- CHANGE: your row's module here, as the last of these rows
set_option Elab.async false
set_option linter.all false
set_option maxRecDepth 100000
/-! THE HAND LAYER, for ints, bools, texts, own classes, lists, tuples, dicts, comprehensions, walks over dicts, enumerate, zip, reversed, texts, calls, loops. Paste it whole ahead of your own text; what your proof does not reach may be deleted. -/
namespace L2
open PySem PySem.Spec PyProof.Rows

/-- a key: an int or a str -/
noncomputable abbrev Key := Sum Int Str
noncomputable def keyIs : Key → Value → Bool
  | .inl k, v => Value.isInt k v
  | .inr x, v => Value.isStrOf x v
noncomputable def keyH (w : World) : Key → Int
  | .inl k => hashInt k
  | .inr x => hashStr w x
theorem keyIs_shape : ∀ {k : Key} {v : Value}, keyIs k v = true → (∃ i t, k = Sum.inl i ∧ v = Value.int i t) ∨ (∃ x t, k = Sum.inr x ∧ v = Value.str x t)
  | .inl i, v, h => by
    obtain ⟨t, e⟩ := Value.isInt_shape (k := i) (v := v) h
    exact .inl ⟨i, t, rfl, e⟩
  | .inr x, v, h => by
    obtain ⟨t, e⟩ := Value.isStrOf_shape (x := x) (v := v) h
    exact .inr ⟨x, t, rfl, e⟩
theorem keyIs_int (i : Int) (t : Tok) : keyIs (.inl i) (.int i t) = true := by simp [keyIs, Value.isInt]
theorem keyIs_str (x : Str) (t : Tok) : keyIs (.inr x) (.str x t) = true := by simp [keyIs, Value.isStrOf]
theorem key_ll (a b : Int) : decide ((Sum.inl a : Key) = Sum.inl b) = (a == b) := by
  by_cases e : a = b
  · subst e; simp
  · have h : ¬ (Sum.inl a : Key) = Sum.inl b := fun q => e (Sum.inl.inj q)
    rw [decide_eq_false h]
    exact (beq_eq_false_iff_ne.mpr e).symm
theorem key_rr (a b : Str) : decide ((Sum.inr a : Key) = Sum.inr b) = decide (a = b) := by
  by_cases e : a = b
  · subst e; simp
  · have h : ¬ (Sum.inr a : Key) = Sum.inr b := fun q => e (Sum.inr.inj q)
    rw [decide_eq_false h, decide_eq_false e]
theorem key_lr (a : Int) (b : Str) : decide ((Sum.inl a : Key) = Sum.inr b) = false := decide_eq_false (fun q => nomatch q)
theorem key_rl (a : Str) (b : Int) : decide ((Sum.inr a : Key) = Sum.inl b) = false := decide_eq_false (fun q => nomatch q)

noncomputable def mixKind (prog : Program) (w : World) : PySem.KeyKind prog w Key where
  is := keyIs
  hash := keyH w
  inj := fun v a b ha hb => by
    rcases keyIs_shape ha with ⟨i, t, rfl, rfl⟩ | ⟨x, t, rfl, rfl⟩
    · rcases keyIs_shape hb with ⟨j, u, rfl, e⟩ | ⟨y, u, rfl, e⟩
      · injection e with e1 _; rw [e1]
      · exact nomatch e
    · rcases keyIs_shape hb with ⟨j, u, rfl, e⟩ | ⟨y, u, rfl, e⟩
      · exact nomatch e
      · injection e with e1 _; rw [e1]
  byValue := fun k v h => by
    rcases keyIs_shape h with ⟨i, t, rfl, rfl⟩ | ⟨x, t, rfl, rfl⟩ <;> rfl
  pyHash := fun hv h => by
    rcases keyIs_shape hv with ⟨i, t, rfl, rfl⟩ | ⟨x, t, rfl, rfl⟩
    · exact wpAny_pyHash_int h
    · exact wpAny_pyHash_str h
  eqBool := fun hu hv h => by
    rcases keyIs_shape hu with ⟨i, t, rfl, rfl⟩ | ⟨x, t, rfl, rfl⟩
    · rcases keyIs_shape hv with ⟨j, u, rfl, rfl⟩ | ⟨y, u, rfl, rfl⟩
      · rw [key_ll] at h; exact wpAny_eqBool_int h
      · rw [key_lr] at h; exact SeqAt.EqAt.int_str i t y u _ _ _ _ h
    · rcases keyIs_shape hv with ⟨j, u, rfl, rfl⟩ | ⟨y, u, rfl, rfl⟩
      · rw [key_rl] at h; exact SeqAt.EqAt.str_int x t j u _ _ _ _ h
      · rw [key_rr] at h; exact wpAny_eqBool_str h
  «strs» := fun k x t v h => by
    rcases keyIs_shape h with ⟨i, u, rfl, e⟩ | ⟨y, u, rfl, e⟩
    · exact nomatch e
    · injection e with e1 _
      subst e1
      cases v <;> rfl

theorem mixKind_int (prog : Program) (w : World) (i : Int) (t : Tok) : (mixKind prog w).is (.inl i) (.int i t) = true := keyIs_int i t
theorem mixKind_str (prog : Program) (w : World) (x : Str) (t : Tok) : (mixKind prog w).is (.inr x) (.str x t) = true := keyIs_str x t
end L2

namespace L2
open PySem PySem.Spec PyProof.Rows

set_option genInjectivity true
/-- a value, without the heap -/
inductive V where
  | non | bl (b : Bool) | int (i : Int) | str (x : Str) | byt (b : Array UInt8) | flt (b : UInt64) | ref (a : Addr) | ty (n : String)
  deriving DecidableEq

set_option genInjectivity false
noncomputable def RelV : V → Value → Prop
  | .non, u => u = Value.none
  | .bl b, u => u = Value.bool b
  | .int i, u => ∃ t, u = Value.int i t
  | .str x, u => ∃ t, u = Value.str x t
  | .byt b, u => ∃ t, u = Value.bytes b t
  | .flt b, u => ∃ t, u = Value.float b t
  | .ref a, u => u = Value.ref a
  | .ty n, u => u = Value.type n

noncomputable abbrev Vals : List V → List Value → Prop := Paired RelV
theorem Vals.length {xs : List V} {us : List Value} (r : Vals xs us) : xs.length = us.length := Paired.length r
theorem Vals.get : ∀ {xs : List V} {us : List Value} {i : Nat} {x : V}, Vals xs us → xs[i]? = some x → ∃ u, us[i]? = some u ∧ RelV x u
  | _, _, _, _, .nil, e => by simp at e
  | _, _, 0, _, .cons r _, e => by simp at e; subst e; exact ⟨_, rfl, r⟩
  | _, _, i + 1, x, .cons _ t, e => by
    obtain ⟨u, h1, h2⟩ := Vals.get (i := i) (x := x) t (by simpa using e)
    exact ⟨u, by simpa using h1, h2⟩
theorem Vals.append : ∀ {xs ys : List V} {us ws : List Value}, Vals xs us → Vals ys ws → Vals (xs ++ ys) (us ++ ws)
  | _, _, _, _, .nil, s => s
  | _, _, _, _, .cons r t, s => .cons r (Vals.append t s)
theorem Vals.take : ∀ {xs : List V} {us : List Value} (n : Nat), Vals xs us → Vals (xs.take n) (us.take n)
  | _, _, 0, _ => .nil
  | _, _, _ + 1, .nil => .nil
  | _, _, n + 1, .cons r t => .cons r (Vals.take n t)
theorem Vals.drop : ∀ {xs : List V} {us : List Value} (n : Nat), Vals xs us → Vals (xs.drop n) (us.drop n)
  | _, _, 0, r => r
  | _, _, _ + 1, .nil => .nil
  | _, _, n + 1, .cons _ t => Vals.drop n t
noncomputable def RelO : Option V → Option Value → Prop
  | some v, some u => RelV v u
  | none, none => True
  | _, _ => False
noncomputable def KV {κ : Type} : List (κ × V) → List (κ × Value) → Prop := Paired fun (p : κ × V) (q : κ × Value) => p.1 = q.1 ∧ RelV p.2 q.2

/-- a key of a dict (00_mix): an int or a text -/
noncomputable def kV : Key → V
  | .inl i => .int i
  | .inr x => .str x

/-- what stands at a tracked address -/
inductive HO where
  /-- a list -/
  | lst (xs : List V)
  /-- a tuple (never changes) -/
  | tup (xs : List V)
  /-- a dict whose keys are ints and texts; one whose keys are tuples of ints and texts (the empty one is both) -/
  | dK (kvs : List (Key × V)) | dT (kvs : List (List Key × V))
  /-- a set of ints: its members, its size -/
  | set (S : Int → Bool) (n : Nat)
  /-- an instance of the class at C, its dict at dx, its attributes -/
  | ins (C dx : Addr) (fs : List (Str × V))
  /-- the dict of the instance at x -/
  | own (x : Addr)
  /-- the dict of an exception -/
  | xd (fs : List (Str × V))
  /-- a bound method, f of x -/
  | met (f x : Addr)
  /-- a range object lo, lo + 1, .. below hi -/
  | rng (lo hi : Int)
  /-- a thing that is known to the object (the script; a dict while a loop walks it): read, never written while it is so -/
  | frz (o : Obj) (u : HO)
  /-- a code object's table -/
  | tbl (ps : Array Value)
  /-- any other thing, by what is true of its one object (a def of one's own: SetO a S n := HO.ext fun h => ..) -/
  | ext (φ : Heap → Prop)

noncomputable abbrev Hp := Addr → Option HO
noncomputable def upd (H : Hp) (a : Addr) (o : HO) : Hp := fun b => if b = a then some o else H b
theorem upd_same {H : Hp} {a : Addr} {o : HO} : upd H a o a = some o := by unfold upd; rw [if_pos rfl]
theorem upd_ne {H : Hp} {a b : Addr} {o : HO} (h : b ≠ a) : upd H a o b = H b := by unfold upd; rw [if_neg h]
theorem upd_upd {H : Hp} {a : Addr} {o u : HO} : upd (upd H a o) a u = upd H a u := by
  funext b; unfold upd; split <;> rfl
/-- two objects of different content stand apart -/
theorem ne_of {H : Hp} {a b : Addr} {o u : HO} (h : H a = some o) (h' : H b = some u) (d : o ≠ u) : a ≠ b := by
  intro e; subst e; rw [h] at h'; exact d (Option.some.inj h')
theorem ne_of_none {H : Hp} {a b : Addr} {o : HO} (h : H a = some o) (h' : H b = none) : a ≠ b := by
  intro e; subst e; rw [h] at h'; cases h'

section
variable (P : Program) (w : World)
noncomputable def ObjOk (H : Hp) (h : Heap) (a : Addr) : HO → Prop
  | .lst xs => xs.length ≤ sizeLine ∧ ∃ (its : List Value) (n : Nat), Vals xs its ∧ h.get? a = some { cls := .type "list", data := .seq its.toArray n }
  | .tup xs => xs.length ≤ sizeLine ∧ ∃ its : List Value, Vals xs its ∧ IsTup h a its.toArray
  | .dK kvs => kvs.length ≤ sizeLine ∧ (a == sysModules) = false ∧ ∃ vs, KV kvs vs ∧ h.DictOf (mixKind P w) a vs
  | .dT kvs => kvs.length ≤ sizeLine ∧ (a == sysModules) = false ∧ ∃ xs : List (List Key × Addr × Value),
      Paired (fun (p : List Key × V) (q : List Key × Addr × Value) => p.1 = q.1 ∧ H q.2.1 = some (.tup (p.1.map kV)) ∧ RelV p.2 q.2.2) kvs xs ∧
      ∃ o es ep, h.get? a = some o ∧ o.ExactDict ∧ o.data = .dict es ep ∧ es.toList = xs.map (entryOfKey (tupleKind (mixKind P w))) ∧ (xs.map (·.1)).Nodup
  | .set S n => h.SetOf (intKind P w) a S n
  | .ins C dx fs => H dx = some (.own a) ∧ fs.length ≤ 1000 ∧ dx ≠ a ∧ h.get? a = some (PySem.W.instObj C dx) ∧
      ∃ mA, h.Ns1 dx mA ∧ (∀ f, RelO (fs.lookup f) (mA f)) ∧ PySem.Within mA (fs.map (·.1))
  | .own _ => ∃ o, h.get? a = some o
  | .xd fs => ∃ mA, h.Ns1 a mA ∧ ∀ f, RelO (fs.lookup f) (mA f)
  | .rng lo hi => ∃ t u v, h.get? a = some { cls := .type "range", data := .fields #[.int lo t, .int hi u, .int 1 v] }
  | .frz o u => h.get? a = some o ∧ ObjOk H h a u
  | .tbl ps => h.get? a = some { cls := .none, data := .fields ps }
  | .met f x => h.get? a = some (PySem.W.methodObj (.ref f) (.ref x))
  | .ext φ => φ h ∧ (∃ o, h.get? a = some o) ∧ ∀ h1 h2 : Heap, φ h1 → (∀ o, h1.get? a = some o → h2.get? a = some o) → φ h2
/-- the abstract heap is held -/
noncomputable def HOk (H : Hp) (h : Heap) : Prop := ∀ a o, H a = some o → ObjOk P w H h a o
end

section
variable {P : Program} {w : World} {H H' : Hp} {h h' : Heap} {a : Addr} {o : HO}
theorem ObjOk.lt (x : ObjOk P w H h a o) : a < h.objs.size := by
  cases o with
  | lst xs => obtain ⟨_, _, _, _, e⟩ := x; exact Heap.lt_size e
  | tup xs => obtain ⟨_, _, _, p⟩ := x; exact p.lt
  | dK kvs => obtain ⟨_, _, _, _, o, _, _, e, _⟩ := x; exact Heap.lt_size e
  | dT kvs => obtain ⟨_, _, _, _, o, _, _, e, _⟩ := x; exact Heap.lt_size e
  | set S n => obtain ⟨o, _, _, _, e, _⟩ := x; exact Heap.lt_size e
  | ins C dx fs => obtain ⟨_, _, _, e, _⟩ := x; exact Heap.lt_size e
  | own y => obtain ⟨_, e⟩ := x; exact Heap.lt_size e
  | xd fs => obtain ⟨_, ⟨_, _, _, e, _⟩, _⟩ := x; exact Heap.lt_size e
  | rng lo hi => obtain ⟨_, _, _, e⟩ := x; exact Heap.lt_size e
  | frz ob u => obtain ⟨e, _⟩ := x; exact Heap.lt_size e
  | tbl ps => exact Heap.lt_size (show h.get? a = some _ from x)
  | met f y => exact Heap.lt_size (show h.get? a = some _ from x)
  | ext φ => obtain ⟨_, ⟨_, e⟩, _⟩ := x; exact Heap.lt_size e
theorem Paired.mapP {α β : Type} {F G : α → β → Prop} : ∀ {l₁ : List α} {l₂ : List β}, Paired F l₁ l₂ → (∀ a b, F a b → G a b) → Paired G l₁ l₂
  | _, _, .nil, _ => .nil
  | _, _, .cons r t, f => .cons (f _ _ r) (Paired.mapP t f)
/-- what an object's description leans on: its own object, its own dict, the tuples -/
theorem ObjOk.stay (x : ObjOk P w H h a o) (k : ∀ b u, (b = a ∨ H b = some (.own a)) → h.get? b = some u → h'.get? b = some u)
    (ho : ∀ b, H b = some (.own a) → H' b = some (.own a)) (ht : ∀ b xs, H b = some (.tup xs) → H' b = some (.tup xs)) : ObjOk P w H' h' a o := by
  induction o with
  | lst xs => obtain ⟨z, its, n, r, e⟩ := x; exact ⟨z, its, n, r, k _ _ (.inl rfl) e⟩
  | tup xs => obtain ⟨z, its, r, ob, e, c⟩ := x; exact ⟨z, its, r, ob, k _ _ (.inl rfl) e, c⟩
  | dK kvs => obtain ⟨z, y, vs, r, ob, es, ep, e, c⟩ := x; exact ⟨z, y, vs, r, ob, es, ep, k _ _ (.inl rfl) e, c⟩
  | dT kvs =>
    obtain ⟨z, y, xs, r, ob, es, ep, e, c⟩ := x
    exact ⟨z, y, xs, Paired.mapP r fun p q z => ⟨z.1, ht _ _ z.2.1, z.2.2⟩, ob, es, ep, k _ _ (.inl rfl) e, c⟩
  | set S n => obtain ⟨ob, es, ep, t, e, c⟩ := x; exact ⟨ob, es, ep, t, k _ _ (.inl rfl) e, c⟩
  | ins C dx fs =>
    obtain ⟨d, z, ne, e, mA, ⟨od, es, ep, e2, c⟩, r⟩ := x
    exact ⟨ho _ d, z, ne, k _ _ (.inl rfl) e, mA, ⟨od, es, ep, k _ _ (.inr d) e2, c⟩, r⟩
  | own y => obtain ⟨ob, e⟩ := x; exact ⟨ob, k _ _ (.inl rfl) e⟩
  | xd fs => obtain ⟨mA, ⟨od, es, ep, e, c⟩, r⟩ := x; exact ⟨mA, ⟨od, es, ep, k _ _ (.inl rfl) e, c⟩, r⟩
  | rng lo hi => obtain ⟨t, u, v, e⟩ := x; exact ⟨t, u, v, k _ _ (.inl rfl) e⟩
  | frz ob u ih => obtain ⟨e, q⟩ := x; exact ⟨k _ _ (.inl rfl) e, ih q⟩
  | tbl ps =>
    have e : h.get? a = some { cls := .none, data := .fields ps } := x
    show h'.get? a = some { cls := .none, data := .fields ps }
    exact k a _ (.inl rfl) e
  | met f y =>
    have e : h.get? a = some (PySem.W.methodObj (.ref f) (.ref y)) := x
    show h'.get? a = some (PySem.W.methodObj (.ref f) (.ref y))
    exact k a _ (.inl rfl) e
  | ext φ => obtain ⟨p, ⟨o, e⟩, st⟩ := x; exact ⟨st _ _ p fun o q => k _ _ (.inl rfl) q, ⟨o, k _ _ (.inl rfl) e⟩, st⟩
theorem HOk.lt (x : HOk P w H h) (e : H a = some o) : a < h.objs.size := (x a o e).lt
theorem HOk.fresh (x : HOk P w H h) (e : h.objs.size ≤ a) : H a = none := by
  cases q : H a with
  | none => rfl
  | some u => exact absurd (Nat.lt_of_lt_of_le (x.lt q) e) (Nat.lt_irrefl _)
/-- every object of the heap is kept -/
theorem HOk.kept (x : HOk P w H h) (k : ∀ b u, h.get? b = some u → h'.get? b = some u) : HOk P w H h' := fun a o e =>
  (x a o e).stay (fun b u _ q => k b u q) (fun _ q => q) fun _ _ q => q
/-- a new object is laid and tracked -/
theorem HOk.laid (x : HOk P w H h) (k : ∀ b u, h.get? b = some u → h'.get? b = some u) (hp : h.objs.size ≤ a) (new : ObjOk P w (upd H a o) h' a o) : HOk P w (upd H a o) h' := fun b u e => by
  have hn := x.fresh hp
  by_cases hb : b = a
  · subst hb; rw [upd_same] at e; cases e; exact new
  · rw [upd_ne hb] at e
    exact (x b u e).stay (fun c v _ q => k c v q) (fun c q => by rw [upd_ne (ne_of_none q hn)]; exact q) fun c xs q => by rw [upd_ne (ne_of_none q hn)]; exact q
end

/-- what may be read as u: it is u, or a known u -/
noncomputable def Rd (H : Hp) (a : Addr) (u : HO) : Prop := H a = some u ∨ ∃ o, H a = some (.frz o u)
theorem Rd.ok {P : Program} {w : World} {H : Hp} {h : Heap} {a : Addr} {u : HO} (r : Rd H a u) (x : HOk P w H h) : ObjOk P w H h a u := by
  rcases r with r | ⟨o, r⟩
  · exact x a u r
  · obtain ⟨_, q⟩ := x a _ r
    exact q
/-- what may be written -/
noncomputable def Mut : Option HO → Prop
  | some (.lst _) => True
  | some (.dK _) => True
  | some (.dT _) => True
  | some (.set _ _) => True
  | some (.ins _ _ _) => True
  | some (.ext _) => True
  | _ => False
section
variable {P : Program} {w : World} {H : Hp} {h h' : Heap} {x e : Addr} {o' : HO}
/-- the object at e is changed: x itself, or the dict of the instance x -/
theorem HOk.write (ok : HOk P w H h) (mu : Mut (H x)) (he : e = x ∨ H e = some (.own x)) (k : ∀ b u, b ≠ e → h.get? b = some u → h'.get? b = some u) (heo : ∃ u, h'.get? e = some u)
    (new : ObjOk P w (upd H x o') h' x o') : HOk P w (upd H x o') h' := fun b u q => by
  have nown : ∀ c y, H c = some (.own y) → c ≠ x := fun c y r z => by subst z; rw [r] at mu; exact mu
  have ntup : ∀ c xs, H c = some (.tup xs) → c ≠ x := fun c xs r z => by subst z; rw [r] at mu; exact mu
  by_cases hb : b = x
  · subst hb; rw [upd_same] at q; cases q; exact new
  · rw [upd_ne hb] at q
    by_cases hbe : b = e
    · have q' : H b = some (.own x) := by
        rcases he with z | z
        · exact absurd (hbe.trans z) hb
        · rw [hbe]; exact z
      rw [q] at q'; cases q'
      obtain ⟨v, hv⟩ := heo
      exact ⟨v, by rw [hbe]; exact hv⟩
    · refine (ok b u q).stay (fun c v hc r => k c v ?_ r) (fun c r => by rw [upd_ne (nown c b r)]; exact r) fun c xs r => by rw [upd_ne (ntup c xs r)]; exact r
      rcases hc with rfl | hc
      · exact hbe
      · rintro rfl
        rcases he with z | z
        · exact nown c b hc z
        · rw [hc] at z; cases z; exact hb rfl
end

/-! ### kept unless tracked; of the frames at fs (the callers') the slots may change (an exception that passes writes there); of the records at ex (iterators) nothing is said -/
structure Un (fs ex : List Addr) (H H' : Hp) (h h' : Heap) : Prop where
  keep : ∀ b o, h.get? b = some o → H b = none → b ∉ fs → b ∉ ex → h'.get? b = some o
  slot : ∀ b o, h.get? b = some o → H b = none → b ∈ fs → b ∉ ex → ∃ sl, h'.get? b = some { o with slots := sl }
  free : ∀ b o, h.get? b = some o → H b = none → b ∉ ex → H' b = none
  there : ∀ b o, h.get? b = some o → b ∉ ex → ∃ o', h'.get? b = some o'
  tups : ∀ b xs, H b = some (.tup xs) → H' b = some (.tup xs)
  frzs : ∀ b o u, H b = some (.frz o u) → H' b = some (.frz o u)
  tbls : ∀ b ps, H b = some (.tbl ps) → ∃ more, H' b = some (.tbl (ps ++ more))
section
variable {fs fs' ex ex' : List Addr} {H H1 H2 : Hp} {h h1 h2 h' : Heap} {a x e : Addr} {o : HO}
theorem Un.any (u : Un fs ex H H1 h h1) {b : Addr} {ob : Obj} (q : h.get? b = some ob) (n : H b = none) (hx : b ∉ ex) : ∃ sl, h1.get? b = some { ob with slots := sl } := by
  by_cases hb : b ∈ fs
  · exact u.slot b ob q n hb hx
  · exact ⟨ob.slots, u.keep b ob q n hb hx⟩
theorem Un.kept (k : ∀ b u, h.get? b = some u → h'.get? b = some u) : Un fs ex H H h h' :=
  ⟨fun b ob q _ _ _ => k b ob q, fun b ob q _ _ _ => ⟨ob.slots, k b ob q⟩, fun _ _ _ n _ => n, fun b ob q _ => ⟨ob, k b ob q⟩, fun _ _ q => q, fun _ _ _ q => q, fun _ ps q => ⟨#[], by rw [q]; simp⟩⟩
theorem Un.refl : Un fs ex H H h h := Un.kept fun _ _ q => q
theorem Un.laid (k : ∀ b u, h.get? b = some u → h'.get? b = some u) (hp : h.objs.size ≤ a) (hn : H a = none) : Un fs ex H (upd H a o) h h' where
  keep := fun b u q _ _ _ => k b u q
  slot := fun b u q _ _ _ => ⟨u.slots, k b u q⟩
  free := fun b u q n _ => by rw [upd_ne (Nat.ne_of_lt (Nat.lt_of_lt_of_le (Heap.lt_size q) hp))]; exact n
  there := fun b u q _ => ⟨u, k b u q⟩
  tups := fun b xs q => by rw [upd_ne (ne_of_none q hn)]; exact q
  frzs := fun b u xs q => by rw [upd_ne (ne_of_none q hn)]; exact q
  tbls := fun b ps q => ⟨#[], by rw [upd_ne (ne_of_none q hn), q]; simp⟩
theorem Un.write (mu : Mut (H x)) (he : e = x ∨ H e = some (.own x)) (k : ∀ b u, b ≠ e → h.get? b = some u → h'.get? b = some u) (heo : ∃ u, h'.get? e = some u) : Un fs ex H (upd H x o) h h' := by
  have hx : ∀ b, H b = none → b ≠ x := fun b n z => by subst z; rw [n] at mu; exact mu
  have hb : ∀ b, H b = none → b ≠ e := fun b n z => by
    subst z
    rcases he with r | r
    · exact hx b n r
    · rw [n] at r; cases r
  have hm : ∀ b u, H b = some u → ¬ Mut (some u) → b ≠ x := fun b u q nm z => by subst z; rw [q] at mu; exact nm mu
  refine ⟨fun b u q n _ _ => k b u (hb b n) q, fun b u q n _ _ => ⟨u.slots, k b u (hb b n) q⟩, fun b u q n _ => by rw [upd_ne (hx b n)]; exact n, fun b u q _ => ?_,
    fun b xs q => by rw [upd_ne (hm b _ q fun z => z)]; exact q, fun b u xs q => by rw [upd_ne (hm b _ q fun z => z)]; exact q, fun b ps q => ⟨#[], by rw [upd_ne (hm b _ q fun z => z), q]; simp⟩⟩
  by_cases hbe : b = e
  · subst hbe; exact heo
  · exact ⟨u, k b u hbe q⟩
end

/-! ### the heap without what is tracked -/
noncomputable def trk (h : Heap) (H : Hp) : List Addr := (List.range h.objs.size).filter fun a => (H a).isSome
noncomputable def hidT (h : Heap) (H : Hp) : Heap := PySem.W.hideAll h (trk h H)
theorem hidT_size (h : Heap) (H : Hp) : (hidT h H).objs.size = h.objs.size := PySem.W.hideAll_size _ _
theorem hidT_get {h : Heap} {H : Hp} {b : Addr} {o : Obj} (e : h.get? b = some o) (n : H b = none) : (hidT h H).get? b = some o :=
  PySem.W.hideAll_get _ e fun hm => by
    have q : (H b).isSome = true := (List.mem_filter.mp hm).2
    rw [n] at q; simp at q
theorem of_hidT {h : Heap} {H : Hp} {b : Addr} {o : Obj} (e : (hidT h H).get? b = some o) : h.get? b = some o ∧ H b = none := by
  have e' : h.get? b = some o := PySem.W.of_hideAll (trk h H) e
  refine ⟨e', ?_⟩
  cases q : H b with
  | none => rfl
  | some x =>
    have hm : b ∈ trk h H := List.mem_filter.mpr ⟨List.mem_range.mpr (Heap.lt_size e'), by simp [q]⟩
    have z : (hidT h H).get? b = none := PySem.W.hideAll_none (trk h H) hm
    rw [z] at e; cases e

/-! ### OpenK's ledger, filled with every new object but one -/
noncomputable def allNews (g h : Heap) (L : Addr) : List (Addr × Obj) := (List.range h.objs.size).filterMap fun a => if a = L ∨ (g.get? a).isSome = true then none else (h.get? a).map fun o => (a, o)
theorem mem_allNews {g h : Heap} {L a : Addr} {o : Obj} (h1 : a ≠ L) (h2 : g.get? a = none) (h3 : h.get? a = some o) : (a, o) ∈ allNews g h L :=
  List.mem_filterMap.mpr ⟨a, List.mem_range.mpr (Heap.lt_size h3), by simp [h1, h2, h3]⟩
theorem of_mem_allNews {g h : Heap} {L : Addr} {p : Addr × Obj} (hp : p ∈ allNews g h L) : p.1 ≠ L ∧ g.get? p.1 = none ∧ h.get? p.1 = some p.2 := by
  obtain ⟨b, _, e⟩ := List.mem_filterMap.mp hp
  split at e
  · cases e
  · rename_i hn
    cases q : h.get? b with
    | none => rw [q] at e; simp at e
    | some u =>
      rw [q] at e
      simp only [Option.map_some, Option.some.injEq] at e
      subst e
      refine ⟨fun z => hn (.inl z), ?_, q⟩
      show g.get? b = none
      cases r : g.get? b with
      | none => rfl
      | some v => exact (hn (.inr (by simp [r]))).elim
theorem news_all {g h : Heap} {L : Addr} : News g L h (allNews g h L) := fun p hp => let ⟨a, b, c⟩ := of_mem_allNews hp; ⟨c, a, b⟩
end L2

namespace L2
open PySem PySem.Spec PyProof.Rows

/-- the module's facts, over the base: the heap at the law's entry without what is tracked there -/
structure Mod (K : PySem.W.Frag) (mg : Str → Option Value) (base : Heap) : Prop where
  kin : K.In base
  glob : base.Ns mainGlobals mg
  blt : ∃ mb, base.Ns builtinsNs mb ∧ ∀ x : Str, x ≠ "__name__" → mb x = bootBuiltins x
  nolimit : base.NoLimit

/-- the context: a def's body (or a comprehension's block) running. base: fixed through the whole law; s₀, H₀: the entry; outer: the frames whose slots others may change (a def's callers); stack: all frames that run;
   ex: iterators that were made ahead of the entry and are walked here (a comprehension's); fn: the names whose cells were made at the entry (a def: all; a comprehension's block: its own); calm: not within an except suite; pn: pins that every state bears; xe: what is wanted of an exception that leaves the code -/
structure Cx where
  prog : Program
  w : World
  K : PySem.W.Frag
  mg : Str → Option Value
  base : Heap
  A : Around
  N : List Str
  s₀ : Shared
  H₀ : Hp
  env : Env
  outer : List Env
  stack : List Env
  ex : List Addr
  fn : Str → Bool
  calm : Bool
  pn : List (Addr × Obj)
  xe : Value → Shared → Prop
/-- the callers' frames -/
noncomputable def frs (l : List Env) : List Addr := l.filterMap (·.frame)
noncomputable abbrev Cx.fs (X : Cx) : List Addr := frs X.outer

noncomputable def Vis (sc : Scope) (x : Str) : Prop := sc.names.lookup x = some .local ∨ sc.names.lookup x = some .cell ∨ sc.names.lookup x = some .free
noncomputable def Loc (sc : Scope) (x : Str) : Prop := sc.names.lookup x = some .local ∨ sc.names.lookup x = some .cell
noncomputable def Look (env : Env) (h : Heap) (m : Str → Option Value) (x : Str) (u : Value) : Prop :=
  (env.kindOf x = some .local ∧ m x = some u) ∨ ((env.kindOf x = some .cell ∨ env.kindOf x = some .free) ∧ ∃ c, env.cells.lookup x = some c ∧ h.IsCell c (some u))

structure Cx.Ok (X : Cx) : Prop where
  mod : Mod X.K X.mg X.base
  kind : X.env.scope.kind = .function
  glob : X.env.globals = mainGlobals
  blt : X.env.builtins = builtinsNs
  above : X.s₀.heap.objs.size ≤ X.env.locals
  inj : ∀ x y c, X.env.cells.lookup x = some c → X.env.cells.lookup y = some c → x = y
  has : ∀ x, (X.env.kindOf x = some .cell ∨ X.env.kindOf x = some .free) → ∃ c, X.env.cells.lookup x = some c
  cab : ∀ x c, X.fn x = true → X.env.cells.lookup x = some c → X.s₀.heap.objs.size ≤ c
  hd : X.calm = true → X.A.handled = none
  frames : X.A.frames = some X.stack
  stk : X.stack = X.outer ∨ (X.stack = X.env :: X.outer ∧ X.env.frame = some X.env.locals)
  exf : ∀ b ∈ X.ex, b ≠ X.env.locals ∧ ∀ x c, X.env.cells.lookup x = some c → c ≠ b
  bs : ∀ b o, X.base.get? b = some o → X.s₀.heap.get? b = some o ∧ X.H₀ b = none
  bsz : X.base.objs.size ≤ X.s₀.heap.objs.size
  noex : ∀ b o, X.base.get? b = some o → b ∉ X.ex
  exfs : ∀ b ∈ X.ex, b ∉ X.fs
  funs : X.s₀.heap.FunFrames X.base X.outer
  frf : ∀ b ∈ X.fs, X.H₀ b = none

structure Inv (X : Cx) (pins : List (Addr × Obj)) (σ : List (Option V)) (H : Hp) (s : Shared) : Prop where
  ok : X.Ok
  os : s.os = X.s₀.os
  bare : AllBare s.gens
  base : Un X.fs X.ex X.H₀ H X.s₀.heap s.heap
  loc : ∃ m, s.heap.Ns X.env.locals m ∧ ∀ (i : Nat) (x : Str) (v : V), X.N[i]? = some x → σ[i]? = some (some v) → Vis X.env.scope x → ∃ u, RelV v u ∧ Look X.env s.heap m x u
  cell : ∀ x c, X.env.cells.lookup x = some c → ∃ v, s.heap.IsCell c v
  free : H X.env.locals = none
  freeC : ∀ x c, X.env.cells.lookup x = some c → H c = none
  pin : ∀ p ∈ X.pn ++ pins, s.heap.get? p.1 = some p.2 ∧ H p.1 = none ∧ p.1 ≠ X.env.locals ∧ p.1 ∉ X.fs ∧ ∀ v, p.2.data ≠ .cell v
  hok : HOk X.prog X.w H s.heap
  len : σ.length = X.N.length

section
variable {X : Cx} {pins : List (Addr × Obj)} {σ : List (Option V)} {H H' : Hp} {s : Shared} {h' : Heap}

theorem Cx.Ok.nofr (ok : X.Ok) {b : Addr} {o : Obj} (e : X.base.get? b = some o) : b ∉ X.fs := fun hb => by
  have := (ok.funs.mem hb).1
  rw [e] at this; cases this
theorem Inv.bs (I : Inv X pins σ H s) : ∀ b o, X.base.get? b = some o → s.heap.get? b = some o ∧ H b = none := fun b o e =>
  ⟨I.base.keep b o (I.ok.bs b o e).1 (I.ok.bs b o e).2 (I.ok.nofr e) (I.ok.noex b o e), I.base.free b o (I.ok.bs b o e).1 (I.ok.bs b o e).2 (I.ok.noex b o e)⟩
theorem Inv.bk (I : Inv X pins σ H s) : ∀ b o, X.base.get? b = some o → s.heap.get? b = some o := fun b o e => (I.bs b o e).1
theorem Inv.mod (I : Inv X pins σ H s) : Mod X.K X.mg X.base := I.ok.mod
theorem Inv.kIn (I : Inv X pins σ H s) : X.K.In s.heap := I.ok.mod.kin.keeps I.bk
theorem Inv.lt (I : Inv X pins σ H s) : X.env.locals < s.heap.objs.size := let ⟨_, hn, _⟩ := I.loc; hn.lt
theorem Inv.sz (I : Inv X pins σ H s) : X.s₀.heap.objs.size ≤ s.heap.objs.size := Nat.le_trans I.ok.above (Nat.le_of_lt I.lt)
theorem Inv.nofs (I : Inv X pins σ H s) {a : Addr} (h : s.heap.objs.size ≤ a) : a ∉ X.fs := fun hb => by
  obtain ⟨_, o, ho, _⟩ := I.ok.funs.mem hb
  exact absurd (Nat.lt_of_lt_of_le (Heap.lt_size ho) (Nat.le_trans I.sz h)) (Nat.lt_irrefl _)
theorem Inv.cne (I : Inv X pins σ H s) : ∀ x c, X.env.cells.lookup x = some c → c ≠ X.env.locals := fun x c e z => by
  obtain ⟨v, o, ho, hd⟩ := I.cell x c e
  obtain ⟨m, ⟨o', es, ep, ho', hd', _⟩, _⟩ := I.loc
  rw [z, ho'] at ho; cases ho; rw [hd'] at hd; cases hd
theorem Inv.funs (I : Inv X pins σ H s) : s.heap.FunFrames X.base X.outer := by
  have all : ∀ (l : List Env), (∀ b ∈ frs l, b ∈ X.fs) → X.s₀.heap.FunFrames X.base l → s.heap.FunFrames X.base l := by
    intro l
    induction l with
    | nil => intro _ _; trivial
    | cons env r ih =>
      intro hs hl
      obtain ⟨hk, ⟨L, o, hf, hn, ho, hd⟩, hr⟩ := hl
      have hL : L ∈ X.fs := hs L (by unfold frs; rw [List.filterMap_cons, hf]; exact List.mem_cons_self)
      obtain ⟨sl, e⟩ := I.base.slot L o ho (I.ok.frf L hL) hL fun z => I.ok.exfs L z hL
      exact ⟨hk, ⟨L, _, hf, hn, e, hd⟩, ih (fun b hb => hs b (by unfold frs; rw [List.filterMap_cons, hf]; exact List.mem_cons_of_mem _ hb)) hr⟩
  exact all X.outer (fun _ hb => hb) I.ok.funs

/-- the frames that run, for a call -/
theorem Inv.stack (I : Inv X pins σ H s) : s.heap.FunFrames X.base X.stack := by
  rcases I.ok.stk with e | ⟨e, hf⟩
  · rw [e]; exact I.funs
  · rw [e]
    obtain ⟨m, hn, _⟩ := I.loc
    refine .cons (by rw [I.ok.kind]; decide) hf hn ?_ I.funs
    exact Heap.get?_none_of_le (Nat.le_trans I.ok.bsz I.ok.above)
theorem Inv.stkSub (I : Inv X pins σ H s) : ∀ b ∈ frs X.stack, b ∈ X.env.locals :: X.fs := fun b hb => by
  rcases I.ok.stk with e | ⟨e, hf⟩
  · rw [e] at hb; exact List.mem_cons_of_mem _ hb
  · rw [e] at hb
    unfold frs at hb
    rw [List.filterMap_cons, hf] at hb
    exact hb
theorem Inv.stkFree (I : Inv X pins σ H s) : ∀ b ∈ frs X.stack, H b = none := fun b hb => by
  rcases List.mem_cons.mp (I.stkSub b hb) with e | hb
  · rw [e]; exact I.free
  · obtain ⟨_, o, ho, _⟩ := I.ok.funs.mem hb
    exact I.base.free b o ho (I.ok.frf b hb) fun z => I.ok.exfs b z hb

/-- THE STEP: the untracked objects but the frame and the records at ch are kept (the callers' frames up to slots), the frame's map is kept, the new abstract heap is held -/
theorem Inv.step {g' : Array GenState} {t' : Nat} {d' : Drawn} {ch : List Addr} (I : Inv X pins σ H s)
    (hch : ∀ b ∈ ch, (b ∈ X.ex ∨ X.s₀.heap.objs.size ≤ b) ∧ b ≠ X.env.locals ∧ (∀ x c, X.env.cells.lookup x = some c → c ≠ b) ∧ ∀ p ∈ X.pn ++ pins, p.1 ≠ b)
    (keep : ∀ b o, b ≠ X.env.locals → b ∉ X.fs → b ∉ ch → s.heap.get? b = some o → H b = none → h'.get? b = some o)
    (slot : ∀ b o, b ≠ X.env.locals → b ∈ X.fs → b ∉ ch → s.heap.get? b = some o → H b = none → ∃ sl, h'.get? b = some { o with slots := sl }) (free : ∀ b o, b ∉ ch → s.heap.get? b = some o → H b = none → H' b = none)
    (there : ∀ b o, b ∉ ch → s.heap.get? b = some o → ∃ o', h'.get? b = some o')
    (tups : ∀ b xs, H b = some (.tup xs) → H' b = some (.tup xs)) (frzs : ∀ b o u, H b = some (.frz o u) → H' b = some (.frz o u)) (tbls : ∀ b ps, H b = some (.tbl ps) → ∃ more, H' b = some (.tbl (ps ++ more)))
    (ns : ∀ m, s.heap.Ns X.env.locals m → h'.Ns X.env.locals m) (hok : HOk X.prog X.w H' h') (hg : AllBare g') :
    Inv X pins σ H' { s with heap := h', gens := g', drawn := d', toks := t' } := by
  have neL : ∀ b o, X.s₀.heap.get? b = some o → b ≠ X.env.locals := fun b o e => Nat.ne_of_lt (Nat.lt_of_lt_of_le (Heap.lt_size e) I.ok.above)
  have neC : ∀ b o, X.s₀.heap.get? b = some o → b ∉ X.ex → b ∉ ch := fun b o e hx hb => by
    rcases (hch b hb).1 with z | z
    · exact hx z
    · exact absurd (Nat.lt_of_lt_of_le (Heap.lt_size e) z) (Nat.lt_irrefl _)
  have cellK : ∀ x c, X.env.cells.lookup x = some c → ∀ v, s.heap.IsCell c v → h'.IsCell c v := fun x c e v ⟨o, ho, hd⟩ => by
    have nch : c ∉ ch := fun z => (hch c z).2.2.1 x c e rfl
    by_cases hc : c ∈ X.fs
    · obtain ⟨sl, q⟩ := slot c o (I.cne x c e) hc nch ho (I.freeC x c e)
      exact ⟨_, q, hd⟩
    · exact ⟨o, keep c o (I.cne x c e) hc nch ho (I.freeC x c e), hd⟩
  refine ⟨I.ok, I.os, hg, ⟨fun b o e n hb hx => ?_, fun b o e n hb hx => ?_, fun b o e n hx => ?_, fun b o e hx => ?_, fun b xs e => tups b xs (I.base.tups b xs e), fun b o xs e => frzs b o xs (I.base.frzs b o xs e), fun b ps e => ?_⟩, ?_, fun x c e => ?_, ?_, fun x c e => ?_, fun p hp => ?_, hok, I.len⟩
  · exact keep b o (neL b o e) hb (neC b o e hx) (I.base.keep b o e n hb hx) (I.base.free b o e n hx)
  · obtain ⟨sl, e1⟩ := I.base.slot b o e n hb hx
    obtain ⟨sl', e2⟩ := slot b _ (neL b o e) hb (neC b o e hx) e1 (I.base.free b o e n hx)
    exact ⟨sl', e2⟩
  · obtain ⟨o', e1⟩ := I.base.there b o e hx
    exact free b o' (neC b o e hx) e1 (I.base.free b o e n hx)
  · obtain ⟨o', e1⟩ := I.base.there b o e hx
    exact there b o' (neC b o e hx) e1
  · obtain ⟨m1, e1⟩ := I.base.tbls b ps e
    obtain ⟨m2, e2⟩ := tbls b _ e1
    exact ⟨m1 ++ m2, by rw [e2, Array.append_assoc]⟩
  · obtain ⟨m, hn, hl⟩ := I.loc
    refine ⟨m, ns m hn, fun i x v e1 e2 e3 => ?_⟩
    obtain ⟨u, r, l⟩ := hl i x v e1 e2 e3
    refine ⟨u, r, ?_⟩
    rcases l with l | ⟨k, c, e, z⟩
    · exact .inl l
    · exact .inr ⟨k, c, e, cellK x c e _ z⟩
  · obtain ⟨v, z⟩ := I.cell x c e
    exact ⟨v, cellK x c e v z⟩
  · obtain ⟨m, ⟨o, _, _, ho, _⟩, _⟩ := I.loc
    exact free _ o (fun z => (hch _ z).2.1 rfl) ho I.free
  · obtain ⟨v, o, ho, hd⟩ := I.cell x c e
    exact free c o (fun z => (hch c z).2.2.1 x c e rfl) ho (I.freeC x c e)
  · obtain ⟨e, n, ne, nf, d⟩ := I.pin p hp
    have nch : p.1 ∉ ch := fun z => (hch p.1 z).2.2.2 p hp rfl
    exact ⟨keep p.1 p.2 ne nf nch e n, free p.1 p.2 nch e n, ne, nf, d⟩
/-- .. where the frame's own object is kept too -/
theorem Inv.un {t' : Nat} (I : Inv X pins σ H s) (u : Un X.fs [] H H' s.heap h') (hok : HOk X.prog X.w H' h') : Inv X pins σ H' { s with heap := h', toks := t' } := by
  obtain ⟨m, ⟨o, es, ep, ho, r⟩, _⟩ := id I.loc
  obtain ⟨sl, hL⟩ := u.any ho I.free (by simp)
  exact I.step (g' := s.gens) (d' := s.drawn) (ch := []) (fun _ z => nomatch z) (fun b o _ hb _ e n => u.keep b o e n hb (by simp)) (fun b o _ hb _ e n => u.slot b o e n hb (by simp)) (fun b o _ e n => u.free b o e n (by simp)) (fun b o _ e => u.there b o e (by simp)) u.tups u.frzs u.tbls (fun m' hm => by
    obtain ⟨o', es', ep', ho', r'⟩ := hm
    rw [ho] at ho'; cases ho'
    exact ⟨_, es', ep', hL, r'⟩) hok I.bare
/-- behind a call (or a comprehension's block): the slots of this frame may have changed too, the records at ch may have turned -/
theorem Inv.call {g' : Array GenState} {t' : Nat} {d' : Drawn} {ch : List Addr} (I : Inv X pins σ H s) (u : Un (frs X.stack) ch H H' s.heap h') (hok : HOk X.prog X.w H' h') (hg : AllBare g')
    (hch : ∀ b ∈ ch, (b ∈ X.ex ∨ X.s₀.heap.objs.size ≤ b) ∧ b ≠ X.env.locals ∧ (∀ x c, X.env.cells.lookup x = some c → c ≠ b) ∧ ∀ p ∈ X.pn ++ pins, p.1 ≠ b) :
    Inv X pins σ H' { s with heap := h', gens := g', drawn := d', toks := t' } := by
  obtain ⟨m, ⟨o, es, ep, ho, r⟩, _⟩ := id I.loc
  obtain ⟨sl, hL⟩ := u.any ho I.free fun z => (hch _ z).2.1 rfl
  exact I.step (ch := ch) hch (fun b o hL hb hc e n => u.keep b o e n (fun z => (List.mem_cons.mp (I.stkSub b z)).elim hL hb) hc) (fun b o _ _ hc e n => u.any e n hc) (fun b o hc e n => u.free b o e n hc) (fun b o hc e => u.there b o e hc) u.tups u.frzs u.tbls (fun m' hm => by
    obtain ⟨o', es', ep', ho', r'⟩ := hm
    rw [ho] at ho'; cases ho'
    exact ⟨_, es', ep', hL, r'⟩) hok hg
/-- an untracked record of ours (an iterator) has turned -/
theorem Inv.turned {t' : Nat} {it : Addr} (I : Inv X pins σ H s) (k : ∀ b o, b ≠ it → s.heap.get? b = some o → h'.get? b = some o) (hn : H it = none) (hL : it ≠ X.env.locals)
    (h1 : it ∈ X.ex ∨ X.s₀.heap.objs.size ≤ it) (h2 : ∀ x c, X.env.cells.lookup x = some c → c ≠ it) (h3 : ∀ p ∈ X.pn ++ pins, p.1 ≠ it) : Inv X pins σ H { s with heap := h', toks := t' } := by
  have nit : ∀ b u, H b = some u → b ≠ it := fun b u e z => by rw [z, hn] at e; cases e
  refine I.step (g' := s.gens) (d' := s.drawn) (ch := [it]) (fun b hb => ?_) (fun b o _ _ hc e _ => k b o (fun z => hc (by simp [z])) e) (fun b o _ _ hc e _ => ⟨o.slots, k b o (fun z => hc (by simp [z])) e⟩) (fun _ _ _ _ n => n)
    (fun b o hc e => ⟨o, k b o (fun z => hc (by simp [z])) e⟩) (fun _ _ e => e) (fun _ _ _ e => e) (fun b ps e => ⟨#[], by rw [e]; simp⟩) (fun m hm => ?_) (fun b u e => ?_) I.bare
  · have e : b = it := by simpa using hb
    subst e
    exact ⟨h1, hL, h2, h3⟩
  · obtain ⟨o, es, ep, ho, r⟩ := hm
    exact ⟨o, es, ep, k _ o (Ne.symm hL) ho, r⟩
  · refine (I.hok b u e).stay (fun c v hc q => k c v ?_ q) (fun _ q => q) fun _ _ q => q
    rcases hc with z | z
    · rw [z]; exact nit b u e
    · exact nit c _ z
theorem Inv.tok (I : Inv X pins σ H s) (t : Nat) : Inv X pins σ H { s with toks := t } := I.un (h' := s.heap) (t' := t) Un.refl I.hok
/-- all objects kept -/
theorem Inv.kept {t' : Nat} (I : Inv X pins σ H s) (k : ∀ b u, s.heap.get? b = some u → h'.get? b = some u) : Inv X pins σ H { s with heap := h', toks := t' } := I.un (Un.kept k) (I.hok.kept k)
/-- a new object laid and tracked -/
theorem Inv.laid {a : Addr} {o : HO} {t' : Nat} (I : Inv X pins σ H s) (k : ∀ b u, s.heap.get? b = some u → h'.get? b = some u) (hp : s.heap.objs.size ≤ a) (new : ObjOk X.prog X.w (upd H a o) h' a o) :
    Inv X pins σ (upd H a o) { s with heap := h', toks := t' } := I.un (Un.laid k hp (I.hok.fresh hp)) (I.hok.laid k hp new)
/-- an object written -/
theorem Inv.write {x e : Addr} {o : HO} {t' : Nat} (I : Inv X pins σ H s) (mu : Mut (H x)) (he : e = x ∨ H e = some (.own x)) (k : ∀ b u, b ≠ e → s.heap.get? b = some u → h'.get? b = some u) (heo : ∃ u, h'.get? e = some u)
    (new : ObjOk X.prog X.w (upd H x o) h' x o) : Inv X pins σ (upd H x o) { s with heap := h', toks := t' } := I.un (Un.write mu he k heo) (I.hok.write mu he k heo new)
/-- forgetting slots, pins -/
theorem Inv.weak {σ' : List (Option V)} (I : Inv X pins σ H s) (hl : σ'.length = σ.length) (w : ∀ (i : Nat) v, σ'[i]? = some (some v) → σ[i]? = some (some v)) : Inv X pins σ' H s :=
  ⟨I.ok, I.os, I.bare, I.base, let ⟨m, hn, hl'⟩ := I.loc; ⟨m, hn, fun i x v e1 e2 e3 => hl' i x v e1 (w i v e2) e3⟩, I.cell, I.free, I.freeC, I.pin, I.hok, hl.trans I.len⟩
theorem Inv.pins_of {pins' : List (Addr × Obj)} (I : Inv X pins σ H s) (h : ∀ p ∈ pins', s.heap.get? p.1 = some p.2 ∧ H p.1 = none ∧ p.1 ≠ X.env.locals ∧ p.1 ∉ X.fs ∧ ∀ v, p.2.data ≠ .cell v) : Inv X pins' σ H s :=
  ⟨I.ok, I.os, I.bare, I.base, I.loc, I.cell, I.free, I.freeC, fun p hp => (List.mem_append.mp hp).elim (fun z => I.pin p (List.mem_append_left _ z)) (h p), I.hok, I.len⟩

theorem nodup_ix {N : List Str} (hN : N.Nodup) {i j : Nat} {x : Str} (a : N[i]? = some x) (b : N[j]? = some x) : i = j := by
  obtain ⟨h1, e1⟩ := List.getElem?_eq_some_iff.mp a
  obtain ⟨h2, e2⟩ := List.getElem?_eq_some_iff.mp b
  exact (List.getElem_inj hN).mp (e1.trans e2.symm)

/-- a name is stored; what changed -/
theorem store_ok2 {M : Model} {A : Around} {E : Value → Shared → Prop} {i : Nat} {x : Str} {v : V} {u : Value} {Q : Unit → Shared → Prop} (I : Inv X pins σ H s) (hN : X.N.Nodup) (hi : X.N[i]? = some x) (hx : Loc X.env.scope x) (r : RelV v u)
    (h : ∀ s', Inv X pins (σ.set i (some v)) H s' → (∃ a, Heap.SameBut a s.heap s'.heap ∧ (a = X.env.locals ∨ X.env.cells.lookup x = some a)) → Q () s') (hf : X.fn x = true ∨ X.env.scope.names.lookup x = some .local := by first | exact .inl rfl | exact .inr rfl | assumption) : wpAny M A (storeName X.env x u) Q E s := by
  obtain ⟨m, hn, hl⟩ := id I.loc
  have hcls : (X.env.scope.kind == .class || (X.env.scope.kind == .module && X.env.locals != X.env.globals)) = false := by rw [I.ok.kind]; rfl
  have hiσ : i < σ.length := by rw [I.len]; exact (List.getElem?_eq_some_iff.mp hi).1
  have cne := I.cne
  have tracked : ∀ {a : Addr} {h' : Heap}, (∃ o, s.heap.get? a = some o ∧ H a = none) → Heap.SameBut a s.heap h' → HOk X.prog X.w H h' := fun {a h'} ha hs b ob e => by
    obtain ⟨_, _, hfree⟩ := ha
    refine (I.hok b ob e).stay (fun c w' hc q => (hs.2 c ?_).trans q) (fun _ q => q) fun _ _ q => q
    rintro rfl
    rcases hc with rfl | hc
    · rw [hfree] at e; cases e
    · rw [hfree] at hc; cases hc
  rcases hx with hk | hk
  · refine wpAny_storeName_local hk hn (fun h' hn' hs => ?_) hcls
    obtain ⟨oL, _, _, hoL, _⟩ := id hn
    refine h _ ⟨I.ok, I.os, I.bare, ⟨fun b o e n hb hx => ?_, fun b o e n hb hx => ?_, I.base.free, fun b o e hx => ?_, I.base.tups, I.base.frzs, I.base.tbls⟩, ⟨_, hn', fun j y v' e1 e2 e3 => ?_⟩, fun y c e => ?_, I.free, I.freeC, fun p hp => ?_, tracked ⟨oL, hoL, I.free⟩ hs, by simpa using I.len⟩ ⟨_, hs, .inl rfl⟩
    · exact (hs.2 b (Nat.ne_of_lt (Nat.lt_of_lt_of_le (Heap.lt_size e) I.ok.above))).trans (I.base.keep b o e n hb hx)
    · obtain ⟨sl, e1⟩ := I.base.slot b o e n hb hx
      exact ⟨sl, (hs.2 b (Nat.ne_of_lt (Nat.lt_of_lt_of_le (Heap.lt_size e) I.ok.above))).trans e1⟩
    · obtain ⟨o', e1⟩ := I.base.there b o e hx
      exact ⟨o', (hs.2 b (Nat.ne_of_lt (Nat.lt_of_lt_of_le (Heap.lt_size e) I.ok.above))).trans e1⟩
    · by_cases hj : j = i
      · subst hj
        rw [hi] at e1; cases e1
        rw [List.getElem?_set_self hiσ] at e2
        cases e2
        exact ⟨u, r, .inl ⟨hk, by simp⟩⟩
      · rw [List.getElem?_set_ne (Ne.symm hj)] at e2
        obtain ⟨u', r', q⟩ := hl j y v' e1 e2 e3
        refine ⟨u', r', ?_⟩
        rcases q with ⟨k, e⟩ | ⟨k, c, e, z⟩
        · refine .inl ⟨k, ?_⟩
          have : y ≠ x := fun e => hj (nodup_ix hN e1 (e ▸ hi))
          simp [this, e]
        · exact .inr ⟨k, c, e, z.sameBut hs (cne y c e)⟩
    · obtain ⟨w', z⟩ := I.cell y c e
      exact ⟨w', z.sameBut hs (cne y c e)⟩
    · obtain ⟨e, n, ne, nf, d⟩ := I.pin p hp
      exact ⟨(hs.2 p.1 ne).trans e, n, ne, nf, d⟩
  · have hfn : X.fn x = true := by
      rcases hf with z | z
      · exact z
      · rw [z] at hk; cases hk
    obtain ⟨c, hc⟩ := I.ok.has x (.inl hk)
    obtain ⟨w', z⟩ := I.cell x c hc
    refine wpAny_storeName_cell I.ok.kind hk hc z (fun h' hc' hs => ?_)
    obtain ⟨oc, hoc, hocd⟩ := id z
    refine h { s with heap := h' } ⟨I.ok, I.os, I.bare, ⟨fun b o e n hb hx => ?_, fun b o e n hb hx => ?_, I.base.free, fun b o e hx => ?_, I.base.tups, I.base.frzs, I.base.tbls⟩, ⟨m, hn.sameBut hs (Ne.symm (cne x c hc)), fun j y v' e1 e2 e3 => ?_⟩, fun y c' e => ?_, I.free, I.freeC, fun p hp => ?_, tracked ⟨oc, hoc, I.freeC x c hc⟩ hs, by simpa using I.len⟩ ⟨c, hs, .inr hc⟩
    · exact (hs.2 b (Nat.ne_of_lt (Nat.lt_of_lt_of_le (Heap.lt_size e) (I.ok.cab x c hfn hc)))).trans (I.base.keep b o e n hb hx)
    · obtain ⟨sl, e1⟩ := I.base.slot b o e n hb hx
      exact ⟨sl, (hs.2 b (Nat.ne_of_lt (Nat.lt_of_lt_of_le (Heap.lt_size e) (I.ok.cab x c hfn hc)))).trans e1⟩
    · obtain ⟨o', e1⟩ := I.base.there b o e hx
      exact ⟨o', (hs.2 b (Nat.ne_of_lt (Nat.lt_of_lt_of_le (Heap.lt_size e) (I.ok.cab x c hfn hc)))).trans e1⟩
    · by_cases hj : j = i
      · subst hj
        rw [hi] at e1; cases e1
        rw [List.getElem?_set_self hiσ] at e2
        cases e2
        exact ⟨u, r, .inr ⟨.inl hk, c, hc, hc'⟩⟩
      · rw [List.getElem?_set_ne (Ne.symm hj)] at e2
        obtain ⟨u', r', q⟩ := hl j y v' e1 e2 e3
        refine ⟨u', r', ?_⟩
        rcases q with q | ⟨k, c', e, z'⟩
        · exact .inl q
        · refine .inr ⟨k, c', e, z'.sameBut hs ?_⟩
          rintro rfl
          exact hj (nodup_ix hN e1 (I.ok.inj _ _ _ e hc ▸ hi))
    · by_cases hcc : c' = c
      · subst hcc; exact ⟨_, hc'⟩
      · obtain ⟨w2, z2⟩ := I.cell y c' e
        exact ⟨w2, z2.sameBut hs hcc⟩
    · obtain ⟨e, n, ne, nf, d⟩ := I.pin p hp
      refine ⟨(hs.2 p.1 ?_).trans e, n, ne, nf, d⟩
      intro q
      rw [q, hoc] at e
      have q' : oc = p.2 := Option.some.inj e
      exact d w' (by rw [← q']; exact hocd)
theorem store_ok {M : Model} {A : Around} {E : Value → Shared → Prop} {i : Nat} {x : Str} {v : V} {u : Value} {Q : Unit → Shared → Prop} (I : Inv X pins σ H s) (hN : X.N.Nodup) (hi : X.N[i]? = some x) (hx : Loc X.env.scope x) (r : RelV v u)
    (h : ∀ s', Inv X pins (σ.set i (some v)) H s' → Q () s') (hf : X.fn x = true ∨ X.env.scope.names.lookup x = some .local := by first | exact .inl rfl | exact .inr rfl | assumption) : wpAny M A (storeName X.env x u) Q E s :=
  store_ok2 I hN hi hx r (fun s' I' _ => h s' I') hf
/-- behind a call or a block, the state as it is -/
theorem Inv.call' {s' : Shared} {ch : List Addr} (I : Inv X pins σ H s) (ho : s'.os = s.os) (u : Un (frs X.stack) ch H H' s.heap s'.heap) (hok : HOk X.prog X.w H' s'.heap) (hg : AllBare s'.gens)
    (hch : ∀ b ∈ ch, (b ∈ X.ex ∨ X.s₀.heap.objs.size ≤ b) ∧ b ≠ X.env.locals ∧ (∀ x c, X.env.cells.lookup x = some c → c ≠ b) ∧ ∀ p ∈ X.pn ++ pins, p.1 ≠ b) : Inv X pins σ H' s' := by
  obtain ⟨h', g', d', t', o'⟩ := s'
  have e : o' = s.os := ho
  subst e
  exact I.call (g' := g') (t' := t') (d' := d') u hok hg hch
end

/-! ### the judgements -/
/-- an exception: its class, its own dict's address (where it has one), the abstract heap behind it -/
noncomputable abbrev XK := Value → Option Addr → Hp → Prop
noncomputable abbrev St := List (Option V)
noncomputable abbrev VK := V → Hp → Prop
/-- an expression's reading; a test's; an argument list's -/
noncomputable abbrev TE := St → Hp → VK → Prop
noncomputable abbrev TT := St → Hp → (Bool → Hp → Prop) → Prop
noncomputable abbrev TA := St → Hp → (List V → Hp → Prop) → Prop
/-- what is wanted behind a statement -/
structure Ends where
  nx : St → Hp → Prop
  rt : VK
  bk : St → Hp → Prop := fun _ _ => False
  ct : St → Hp → Prop := fun _ _ => False
noncomputable abbrev TS := Ends → St → Hp → Prop

noncomputable def EP (X : Cx) (pins : List (Addr × Obj)) (σ : St) (Q : VK) (u : Value) (s' : Shared) : Prop := ∃ v H', Inv X pins σ H' s' ∧ RelV v u ∧ Q v H'
noncomputable def TP (X : Cx) (pins : List (Addr × Obj)) (σ : St) (Q : Bool → Hp → Prop) (b : Bool) (s' : Shared) : Prop := ∃ H', Inv X pins σ H' s' ∧ Q b H'
noncomputable def AP (X : Cx) (pins : List (Addr × Obj)) (σ : St) (Q : List V → Hp → Prop) (us : List Value) (s' : Shared) : Prop := ∃ vs H', Inv X pins σ H' s' ∧ Vals vs us ∧ Q vs H'
noncomputable def SP (X : Cx) (pins : List (Addr × Obj)) (D : Ends) (f : Flow) (s' : Shared) : Prop :=
  match f with
  | .next => ∃ σ' H', Inv X pins σ' H' s' ∧ D.nx σ' H'
  | .brk => ∃ σ' H', Inv X pins σ' H' s' ∧ D.bk σ' H'
  | .cont => ∃ σ' H', Inv X pins σ' H' s' ∧ D.ct σ' H'
  | .ret u => ∃ v σ' H', Inv X pins σ' H' s' ∧ RelV v u ∧ D.rt v H'

noncomputable def PE (X : Cx) (e : Expr) (t : TE) : Prop :=
  ∀ (pins : List (Addr × Obj)) (s : Shared) (σ : St) (H : Hp) (Q : VK), Inv X pins σ H s → t σ H Q → wpAny (model X.prog X.w) X.A (eval e X.env) (EP X pins σ Q) X.xe s
noncomputable def PT (X : Cx) (e : Expr) (t : TT) : Prop :=
  ∀ (pins : List (Addr × Obj)) (s : Shared) (σ : St) (H : Hp) (Q : Bool → Hp → Prop), Inv X pins σ H s → t σ H Q → wpAny (model X.prog X.w) X.A (isTrue e X.env (eval e X.env)) (TP X pins σ Q) X.xe s
/-- a test whatever its 'whole' is (and, or) -/
noncomputable def PW (X : Cx) (e : Expr) (t : TT) : Prop :=
  ∀ (whole : Sem Value) (pins : List (Addr × Obj)) (s : Shared) (σ : St) (H : Hp) (Q : Bool → Hp → Prop), Inv X pins σ H s → t σ H Q → wpAny (model X.prog X.w) X.A (isTrue e X.env whole) (TP X pins σ Q) X.xe s
theorem PW.pt {X : Cx} {e : Expr} {t : TT} (h : PW X e t) : PT X e t := h _
/-- an argument list (no star), from the left -/
noncomputable def PA (X : Cx) (es : List Expr) (t : TA) : Prop :=
  ∀ (pos : Pos) (pins : List (Addr × Obj)) (s : Shared) (σ : St) (H : Hp) (Q : List V → Hp → Prop), Inv X pins σ H s → t σ H Q → wpAny (model X.prog X.w) X.A (spliced (backTo pos (starEach es X.env))) (AP X pins σ Q) X.xe s
noncomputable def PS (X : Cx) (st : Stmt) (t : TS) : Prop :=
  ∀ (pins : List (Addr × Obj)) (s : Shared) (σ : St) (H : Hp) (D : Ends), Inv X pins σ H s → t D σ H → wpAny (model X.prog X.w) X.A (exec st X.env) (SP X pins D) X.xe s
noncomputable def PSs (X : Cx) (st : List Stmt) (t : TS) : Prop :=
  ∀ (pins : List (Addr × Obj)) (s : Shared) (σ : St) (H : Hp) (D : Ends), Inv X pins σ H s → t D σ H → wpAny (model X.prog X.w) X.A (execs st X.env) (SP X pins D) X.xe s
/-- weaken the end -/
theorem thn {α : Type} {t : Sem α} {Q Q' : α → Shared → Prop} {M : Model} {A : Around} {E : Value → Shared → Prop} {s : Shared} (h : wpAny M A t Q E s) (hQ : ∀ a s, Q a s → Q' a s) : wpAny M A t Q' E s := wpAny_mono h hQ fun _ _ x => x
end L2

namespace L2
open PySem PySem.Spec PyProof.Rows
section
variable {X : Cx}

/-! ### names and constants -/
noncomputable def tVar (i : Nat) : TE := fun σ H Q => ∃ v, σ[i]? = some (some v) ∧ Q v H
noncomputable def tC (v : V) : TE := fun _ H Q => Q v H
theorem pe_var {i : Nat} {x : Str} {pos : Pos} (hN : X.N[i]? = some x) (hv : Vis X.env.scope x) (hd : (x == ("__debug__" : Str)) = false := by decide) (hcd : (x == ("__classdict__" : Str)) = false := by decide) : PE X (.Name x pos) (tVar i) := by
  intro pins s σ H Q I h
  obtain ⟨v, e, h⟩ := h
  obtain ⟨m, hn, hl⟩ := I.loc
  obtain ⟨u, r, l⟩ := hl i x v hN e hv
  have fin : EP X pins σ Q u s := ⟨v, H, I, r, h⟩
  rcases l with ⟨hk, hm⟩ | ⟨hk, c, hc, hcell⟩
  · exact wpAny_Name (wpAny_loadName_local I.ok.kind hk hn hm fin) hd
  · rcases hk with hk | hk
    · exact wpAny_Name (wpAny_loadName_cell I.ok.kind hk hc hcell fin) hd
    · exact wpAny_Name (wpAny_loadName_free I.ok.kind hk hc hcell fin hcd) hd
theorem pe_int {i j pos} : PE X (.Constant (.int i) j pos) (tC (.int i)) := fun _ _ _ H _ I h => wpAny_Constant_int ⟨.int i, H, I.tok _, ⟨_, rfl⟩, h⟩
theorem pe_non {j pos} : PE X (.Constant .none j pos) (tC .non) := fun _ _ _ H _ I h => Constant_none ⟨.non, H, I, rfl, h⟩
/-- a global name of the def -/
noncomputable def Gl (X : Cx) (x : Str) : Prop := X.env.kindOf x = some .globalImplicit
theorem ld_glob {E : Value → Shared → Prop} {pins : List (Addr × Obj)} {s : Shared} {σ : St} {H : Hp} {x : Str} {u : Value} {pos : Pos} {Q : Value → Shared → Prop} (I : Inv X pins σ H s) (hg : Gl X x) (hm : X.mg x = some u) (h : Q u s)
    (hd : (x == ("__debug__" : Str)) = false := by decide) : wpAny (model X.prog X.w) X.A (eval (.Name x pos) X.env) Q E s :=
  Calls.Name_function_global I.ok.kind hg (Calls.loadGlobal_global (by rw [I.ok.glob]; exact I.mod.glob.keeps I.bk) hm h) hd
theorem ld_blt {E : Value → Shared → Prop} {pins : List (Addr × Obj)} {s : Shared} {σ : St} {H : Hp} {x : Str} {u : Value} {pos : Pos} {Q : Value → Shared → Prop} (I : Inv X pins σ H s) (hg : Gl X x) (hm : X.mg x = none) (hv : bootBuiltins x = some u) (h : Q u s)
    (hn : x ≠ "__name__" := by decide) (hd : (x == ("__debug__" : Str)) = false := by decide) : wpAny (model X.prog X.w) X.A (eval (.Name x pos) X.env) Q E s := by
  obtain ⟨mb, h1, h2⟩ := I.mod.blt
  exact Calls.Name_function_global I.ok.kind hg (Calls.loadGlobal_builtin (by rw [I.ok.glob]; exact I.mod.glob.keeps I.bk) hm (by rw [I.ok.blt]; exact h1.keeps I.bk) ((h2 x hn).trans hv) h) hd
/-- a module's constant, a class, a function, as a value -/
theorem pe_glob {x : Str} {v : V} {u : Value} {pos : Pos} (hg : Gl X x) (hm : X.mg x = some u) (r : RelV v u) (hd : (x == ("__debug__" : Str)) = false := by decide) : PE X (.Name x pos) (tC v) :=
  fun _ _ _ H _ I h => ld_glob I hg hm ⟨v, H, I, r, h⟩ hd
/-! ### arithmetic -/
variable {a b : Expr} {ta tb : TE} {pos : Pos}
/-! ### comparisons -/
noncomputable def PC (X : Cx) (op : CmpOp) (a b : Expr) (t : TE) : Prop :=
  ∀ (pins : List (Addr × Obj)) (s : Shared) (σ : St) (H : Hp) (Q : VK), Inv X pins σ H s → t σ H Q →
    wpAny (model X.prog X.w) X.A (eval a X.env) (fun v s₁ => wpAny (model X.prog X.w) X.A (eval b X.env) (fun u s₂ => wpAny (model X.prog X.w) X.A (compareOp op v u) (EP X pins σ Q) X.xe s₂) X.xe s₁) X.xe s
theorem nobehind (b : Expr) {op : CmpOp} (h : op ≠ .In) (h2 : op ≠ .NotIn) : behindInMarks op b = false := by
  have e1 : (op == CmpOp.In) = false := by cases op <;> first | rfl | exact absurd rfl h
  have e2 : (op == CmpOp.NotIn) = false := by cases op <;> first | rfl | exact absurd rfl h2
  cases b <;> simp [behindInMarks, e1, e2]
/-- is None -/
noncomputable def tIsN (ta : TE) : TE := fun σ H Q => ta σ H fun x H1 => Q (.bl (decide (x = .non))) H1
theorem RelV.none_iff {x : V} {v : Value} (r : RelV x v) : (v == Value.none) = decide (x = .non) := by
  cases x with
  | non => cases r; rfl
  | bl _ => cases r; rfl
  | int _ => obtain ⟨t, rfl⟩ := r; rfl
  | str _ => obtain ⟨t, rfl⟩ := r; rfl
  | byt _ => obtain ⟨t, rfl⟩ := r; rfl
  | flt _ => obtain ⟨t, rfl⟩ := r; rfl
  | ref _ => cases r; rfl
  | ty _ => cases r; rfl
theorem pc_isN {j pos'} (ha : PE X a ta) : PC X .Is a (.Constant .none j pos') (tIsN ta) := by
  intro pins s σ H Q I h
  refine thn (ha pins s σ H _ I h) fun v s1 ⟨x, H1, I1, r1, q1⟩ => ?_
  exact Constant_none (is_none_gen ⟨.bl _, H1, I1, by rw [r1.none_iff]; rfl, q1⟩)
/-- a comparison as a value, as a test -/
noncomputable def tB (t : TE) : TT := fun σ H Q => t σ H fun x H1 => ∃ c, x = .bl c ∧ Q c H1
theorem pt_cmp {op : CmpOp} {t : TE} (h : PC X op a b t) (h1 : behindInMarks op b = false := by first | exact nobehind _ (by decide) (by decide) | rfl) : PT X (.Compare a [op] [b] pos) (tB t) := by
  intro pins s σ H Q I hw
  refine wpAny_isTrue_Compare1 (thn (h pins s σ H _ I hw) fun v s1 h1 => thn h1 fun u s2 h2 => thn h2 fun c s3 ⟨x, H1, I1, r1, q1⟩ => ?_) h1
  obtain ⟨d, rfl, q⟩ := q1
  cases r1
  exact wpAny_truthy_bool ⟨H1, I1, q⟩
/-- an expression whose value is a bool, as a test -/
theorem pt_val {e : Expr} {t : TE} (h : PE X e t) (he : ∀ whole, isTrue e X.env whole = (do let v ← whole; standAt e.pos; holding [v] (truthy v)) := by intro _; rfl) : PT X e (tB t) := by
  intro pins s σ H Q I hw
  refine isTrue_plain (thn (h pins s σ H _ I hw) fun v s1 ⟨x, H1, I1, r1, q1⟩ => ?_) (he _)
  obtain ⟨d, rfl, q⟩ := q1
  cases r1
  exact wpAny_truthy_bool ⟨H1, I1, q⟩

/-! ### and, or, not -/
variable {tA tB' : TT} {rest : List Expr}
noncomputable def tAnd (t u : TT) : TT := fun σ H Q => t σ H fun c H1 => if c = true then u σ H1 Q else Q false H1
noncomputable def tOr (t u : TT) : TT := fun σ H Q => t σ H fun c H1 => if c = true then Q true H1 else u σ H1 Q
noncomputable def tNot (t : TT) : TT := fun σ H Q => t σ H fun c H1 => Q (!c) H1
theorem pw_and1 (ha : PT X a tA) : PW X (.BoolOp .And [a] pos) tA := by
  intro wh pins s σ H Q I h
  refine isTrue_and (thn (ha pins s σ H Q I h) fun c s1 e => ?_)
  cases c with
  | true => exact isTrue_and_nil e
  | false => exact e
theorem pw_or1 (ha : PT X a tA) : PW X (.BoolOp .Or [a] pos) tA := by
  intro wh pins s σ H Q I h
  refine isTrue_or (thn (ha pins s σ H Q I h) fun c s1 e => ?_)
  cases c with
  | false => exact isTrue_or_nil e
  | true => exact e
theorem pw_and (ha : PT X a tA) (hb : PW X (.BoolOp .And (b :: rest) pos) tB') : PW X (.BoolOp .And (a :: b :: rest) pos) (tAnd tA tB') := by
  intro wh pins s σ H Q I h
  refine isTrue_and (thn (ha pins s σ H _ I h) fun c s1 ⟨H1, I1, q1⟩ => ?_)
  cases c with
  | true => exact hb wh pins s1 σ H1 Q I1 q1
  | false => exact ⟨H1, I1, q1⟩
theorem pw_or (ha : PT X a tA) (hb : PW X (.BoolOp .Or (b :: rest) pos) tB') : PW X (.BoolOp .Or (a :: b :: rest) pos) (tOr tA tB') := by
  intro wh pins s σ H Q I h
  refine isTrue_or (thn (ha pins s σ H _ I h) fun c s1 ⟨H1, I1, q1⟩ => ?_)
  cases c with
  | true => exact ⟨H1, I1, q1⟩
  | false => exact hb wh pins s1 σ H1 Q I1 q1
theorem pt_not (ha : PT X a tA) : PT X (.UnaryOp .Not a pos) (tNot tA) := by
  intro pins s σ H Q I h
  exact isTrue_not (ha pins s σ H (fun c H1 => Q (!c) H1) I h)
/-- .. as values (bools) -/
noncomputable def tAndV (ta tb : TE) : TE := fun σ H Q => ta σ H fun x H1 => ∃ c, x = .bl c ∧ if c = true then tb σ H1 Q else Q (.bl false) H1
theorem pe_one {op} {t : TE} (h : PE X a t) : PE X (.BoolOp op [a] pos) t := fun pins s σ H Q I hw => BoolOp_one (h pins s σ H Q I hw)
theorem pe_and (ha : PE X a ta) (hb : PE X (.BoolOp .And (b :: rest) pos) tb) : PE X (.BoolOp .And (a :: b :: rest) pos) (tAndV ta tb) := by
  intro pins s σ H Q I h
  refine BoolOp_and (thn (ha pins s σ H _ I h) fun v s1 ⟨x, H1, I1, r1, q1⟩ => ?_)
  obtain ⟨c, rfl, q1⟩ := q1
  cases r1
  refine wpAny_truthy_bool ?_
  cases c with
  | true => exact hb pins s1 σ H1 Q I1 q1
  | false => exact ⟨.bl false, H1, I1, rfl, q1⟩
/-- a if t else b -/
noncomputable def tIf (t : TT) (ta tb : TE) : TE := fun σ H Q => t σ H fun c H1 => if c = true then ta σ H1 Q else tb σ H1 Q
theorem pe_ifExp {c : Expr} (hc : PT X c tA) (ha : PE X a ta) (hb : PE X b tb) : PE X (.IfExp c a b pos) (tIf tA ta tb) := by
  intro pins s σ H Q I h
  refine wpAny_IfExp (thn (hc pins s σ H _ I h) fun d s1 ⟨H1, I1, q1⟩ => ?_)
  cases d with
  | true => exact ha pins s1 σ H1 Q I1 q1
  | false => exact hb pins s1 σ H1 Q I1 q1
end
end L2

namespace L2
open PySem PySem.Spec PyProof.Rows

/-! ### a list, a tuple that is read: tracked, frozen, or an object of the module -/
noncomputable def SqL (K : PySem.W.Frag) (H : Hp) (a : Addr) (xs : List V) : Prop :=
  Rd H a (.lst xs) ∨
    ∃ (o : Obj) (its : Array Value) (n : Nat), K.lookup a = some o ∧ o.cls = .type "list" ∧ o.dict = none ∧ o.data = .seq its n ∧ its.size ≤ sizeLine ∧ Vals xs its.toList
noncomputable def SqT (K : PySem.W.Frag) (H : Hp) (a : Addr) (xs : List V) : Prop :=
  Rd H a (.tup xs) ∨
    ∃ (o : Obj) (its : Array Value) (n : Nat), K.lookup a = some o ∧ o.cls = .type "tuple" ∧ o.data = .seq its n ∧ its.size ≤ sizeLine ∧ Vals xs its.toList
noncomputable def absV : Value → Option V
  | .none => some .non
  | .bool b => some (.bl b)
  | .int i _ => some (.int i)
  | .str x _ => some (.str x)
  | .bytes b _ => some (.byt b)
  | .float b _ => some (.flt b)
  | .ref a => some (.ref a)
  | .type n => some (.ty n)
  | _ => none
theorem RelV.abs {x : V} {u : Value} (r : RelV x u) : absV u = some x := by
  cases x with
  | non => cases r; rfl
  | bl _ => cases r; rfl
  | int _ => obtain ⟨t, rfl⟩ := r; rfl
  | str _ => obtain ⟨t, rfl⟩ := r; rfl
  | byt _ => obtain ⟨t, rfl⟩ := r; rfl
  | flt _ => obtain ⟨t, rfl⟩ := r; rfl
  | ref _ => cases r; rfl
  | ty _ => cases r; rfl
theorem RelV.inj {x y : V} {u : Value} (r : RelV x u) (q : RelV y u) : x = y := Option.some.inj (r.abs.symm.trans q.abs)
theorem Vals.inj : ∀ {xs ys : List V} {us : List Value}, Vals xs us → Vals ys us → xs = ys
  | _, _, _, .nil, .nil => rfl
  | _, _, _, .cons r t, .cons r' t' => by rw [r.inj r', Vals.inj t t']
section
variable {X : Cx} {pins : List (Addr × Obj)} {σ : St} {H : Hp} {s : Shared} {a : Addr} {xs ys : List V}
theorem SqL.of {K : PySem.W.Frag} (h : H a = some (.lst xs)) : SqL K H a xs := .inl (.inl h)
theorem SqT.of {K : PySem.W.Frag} (h : H a = some (.tup xs)) : SqT K H a xs := .inl (.inl h)
theorem Inv.list (I : Inv X pins σ H s) (h : SqL X.K H a xs) : ∃ its : List Value, Vals xs its ∧ PlainL s.heap a its.toArray ∧ xs.length ≤ sizeLine := by
  rcases h with h | ⟨o, its, n, hk, hc, hd, hs, hz, r⟩
  · obtain ⟨z, its, n, r, e⟩ := h.ok I.hok
    exact ⟨its, r, ⟨_, n, e, rfl, rfl, rfl⟩, z⟩
  · refine ⟨its.toList, r, ⟨o, n, I.kIn a o hk, hc, hd, by simpa using hs⟩, ?_⟩
    have e := r.length
    simp only [Array.length_toList] at e
    omega
theorem Inv.tuple (I : Inv X pins σ H s) (h : SqT X.K H a xs) : ∃ its : List Value, Vals xs its ∧ IsTup s.heap a its.toArray ∧ xs.length ≤ sizeLine := by
  rcases h with h | ⟨o, its, n, hk, hc, hs, hz, r⟩
  · obtain ⟨z, its, r, p⟩ := h.ok I.hok
    exact ⟨its, r, p, z⟩
  · refine ⟨its.toList, r, ⟨o, I.kIn a o hk, hc, n, by simpa using hs⟩, ?_⟩
    have e := r.length
    simp only [Array.length_toList] at e
    omega
theorem Inv.list_inj (I : Inv X pins σ H s) (h : SqL X.K H a xs) (h' : SqL X.K H a ys) : xs = ys := by
  obtain ⟨its, r, ⟨o, n, e, _, _, d⟩, _⟩ := I.list h
  obtain ⟨its', r', ⟨o', n', e', _, _, d'⟩, _⟩ := I.list h'
  rw [e] at e'; cases e'
  rw [d] at d'
  injection d' with d1 _
  have : its = its' := by simpa using congrArg Array.toList d1
  subst this
  exact r.inj r'
end

/-! ### another wish about exceptions -/
noncomputable abbrev Cx.wish (X : Cx) (E : Value → Shared → Prop) : Cx := { X with xe := E }
/-- no exception leaves -/
noncomputable abbrev Cx.nox (X : Cx) : Cx := X.wish fun _ _ => False
theorem Cx.Ok.wish {X : Cx} (ok : X.Ok) (E : Value → Shared → Prop) : (X.wish E).Ok :=
  ⟨ok.mod, ok.kind, ok.glob, ok.blt, ok.above, ok.inj, ok.has, ok.cab, ok.hd, ok.frames, ok.stk, ok.exf, ok.bs, ok.bsz, ok.noex, ok.exfs, ok.funs, ok.frf⟩
theorem Cx.Ok.unwish {X : Cx} {E : Value → Shared → Prop} (ok : (X.wish E).Ok) : X.Ok :=
  ⟨ok.mod, ok.kind, ok.glob, ok.blt, ok.above, ok.inj, ok.has, ok.cab, ok.hd, ok.frames, ok.stk, ok.exf, ok.bs, ok.bsz, ok.noex, ok.exfs, ok.funs, ok.frf⟩
section
variable {X : Cx} {pins : List (Addr × Obj)} {σ : St} {H : Hp} {s : Shared} {E : Value → Shared → Prop}
theorem Inv.wish (I : Inv X pins σ H s) (E : Value → Shared → Prop) : Inv (X.wish E) pins σ H s := ⟨I.ok.wish E, I.os, I.bare, I.base, I.loc, I.cell, I.free, I.freeC, I.pin, I.hok, I.len⟩
theorem Inv.unwish (I : Inv (X.wish E) pins σ H s) : Inv X pins σ H s := ⟨I.ok.unwish, I.os, I.bare, I.base, I.loc, I.cell, I.free, I.freeC, I.pin, I.hok, I.len⟩
theorem SP.unwish {D : Ends} {f : Flow} {s' : Shared} (h : SP (X.wish E) pins D f s') : SP X pins D f s' := by
  cases f with
  | next => obtain ⟨σ', H', I, q⟩ := h; exact ⟨σ', H', I.unwish, q⟩
  | brk => obtain ⟨σ', H', I, q⟩ := h; exact ⟨σ', H', I.unwish, q⟩
  | cont => obtain ⟨σ', H', I, q⟩ := h; exact ⟨σ', H', I.unwish, q⟩
  | ret u => obtain ⟨v, σ', H', I, r, q⟩ := h; exact ⟨v, σ', H', I.unwish, r, q⟩
theorem PSs.nox {st : List Stmt} {t : TS} (h : PSs X.nox st t) : PSs X st t := fun pins s σ H D I hw =>
  wpAny_mono (h pins s σ H D (I.wish _) hw) (fun _ _ q => q.unwish) fun _ _ z => False.elim z
end

/-! ### blocks and small statements -/
section
variable {X : Cx} {st : Stmt} {rest : List Stmt} {t u : TS} {e : Expr} {te : TE} {pos : Pos}
noncomputable def tNext : TS := fun D σ H => D.nx σ H
noncomputable def tSeq (t u : TS) : TS := fun D σ H => t { D with nx := u D } σ H
theorem pss_nil : PSs X [] tNext := fun _ _ σ H _ I h => wpAny_execs_nil ⟨σ, H, I, h⟩
theorem pss_cons (h1 : PS X st t) (h2 : PSs X rest u) : PSs X (st :: rest) (tSeq t u) := by
  intro pins s σ H D I h
  refine wpAny_execs_cons (thn (h1 pins s σ H { D with nx := u D } I h) fun f s1 q => ?_)
  cases f with
  | next =>
    obtain ⟨σ', H', I', q⟩ := q
    exact h2 pins s1 σ' H' D I' q
  | ret v => exact q
  | brk => exact q
  | cont => exact q
theorem pss_one (h1 : PS X st t) : PSs X [st] t := by
  intro pins s σ H D I h
  refine wpAny_execs_cons (thn (h1 pins s σ H D I h) fun f s1 q => ?_)
  cases f with
  | next => exact wpAny_execs_nil q
  | ret v => exact q
  | brk => exact q
  | cont => exact q
noncomputable def tBreak : TS := fun D σ H => D.bk σ H
theorem ps_break : PS X (.Break pos) tBreak := fun _ _ σ H _ I h => wpAny_Break ⟨σ, H, I, h⟩
/-- in a def's body nothing is shown -/
theorem Inv.quiet {pins : List (Addr × Obj)} {σ : St} {H : Hp} {s : Shared} (I : Inv X pins σ H s) : interactive X.env = false := by simp [interactive, I.ok.kind]
/-- an expression whose value is dropped -/
noncomputable def tDrop (te : TE) : TS := fun D σ H => te σ H fun _ H1 => D.nx σ H1
theorem ps_expr (he : PE X e te) (hs : swapsWith e none pos.line X.env = pure false := by rfl) : PS X (.Expr e pos) (tDrop te) := by
  intro pins s σ H D I h
  exact wpAny_Expr_any (thn (he pins s σ H _ I h) fun v s1 ⟨x, H1, I1, r1, q1⟩ => ⟨σ, H1, I1, q1⟩) I.quiet hs
noncomputable def tRet (te : TE) : TS := fun D σ H => te σ H D.rt
theorem ps_ret (he : PE X e te) : PS X (.Return (some e) pos) (tRet te) := by
  intro pins s σ H D I h
  exact wpAny_Return_some (thn (he pins s σ H _ I h) fun v s1 ⟨x, H1, I1, r1, q1⟩ => ⟨x, σ, H1, I1, r1, q1⟩)
noncomputable def tIfS (c : TT) (t u : TS) : TS := fun D σ H => c σ H fun b H1 => if b = true then t D σ H1 else u D σ H1
theorem ps_if {c : Expr} {a b : List Stmt} {tc : TT} (hc : PT X c tc) (ha : PSs X a t) (hb : PSs X b u) : PS X (.If c a b pos) (tIfS tc t u) := by
  intro pins s σ H D I h
  refine wpAny_If (thn (hc pins s σ H _ I h) fun d s1 ⟨H1, I1, q1⟩ => ?_)
  cases d with
  | true => exact ha pins s1 σ H1 D I1 q1
  | false => exact hb pins s1 σ H1 D I1 q1
end

/-! ### targets -/
noncomputable abbrev TG := V → St → Hp → (St → Hp → Prop) → Prop
noncomputable abbrev TGs := List V → St → Hp → (St → Hp → Prop) → Prop
noncomputable def PG (X : Cx) (target : Expr) (t : TG) : Prop :=
  ∀ (pins : List (Addr × Obj)) (s : Shared) (σ : St) (H : Hp) (v : V) (u : Value) (Q : St → Hp → Prop), Inv X pins σ H s → RelV v u → t v σ H Q →
    wpAny (model X.prog X.w) X.A (assign target X.env u) (fun _ s' => ∃ σ' H', Inv X pins σ' H' s' ∧ Q σ' H') X.xe s
/-- several targets, one after another -/
noncomputable def PGs (X : Cx) (ts : List Expr) (t : TGs) : Prop :=
  ∀ (pins : List (Addr × Obj)) (s : Shared) (σ : St) (H : Hp) (vs : List V) (us : List Value) (Q : St → Hp → Prop), Inv X pins σ H s → Vals vs us → t vs σ H Q →
    wpAny (model X.prog X.w) X.A (assignInOrder ((assignEach ts X.env).map (·.2)) us) (fun _ s' => ∃ σ' H', Inv X pins σ' H' s' ∧ Q σ' H') X.xe s
section
variable {X : Cx} {pos : Pos}
noncomputable def gName (i : Nat) : TG := fun v σ H Q => Q (σ.set i (some v)) H
theorem pg_name {i : Nat} {x : Str} (hN : X.N.Nodup) (hi : X.N[i]? = some x) (hx : Loc X.env.scope x) (hf : X.fn x = true ∨ X.env.scope.names.lookup x = some .local := by first | exact .inl rfl | exact .inr rfl | assumption) : PG X (.Name x pos) (gName i) := by
  intro pins s σ H v u Q I r h
  exact wpAny_assign_Name (store_ok I hN hi hx r (fun s' I' => ⟨_, H, I', h⟩) hf)
noncomputable def gNil : TGs := fun vs σ H Q => vs = [] ∧ Q σ H
noncomputable def gCons (t : TG) (u : TGs) : TGs := fun vs σ H Q => ∃ v r, vs = v :: r ∧ t v σ H fun σ' H' => u r σ' H' Q
theorem pgs_nil : PGs X [] gNil := by
  intro pins s σ H vs us Q I r h
  obtain ⟨e, h⟩ := h
  subst e
  cases r
  exact assignInOrder_nil ⟨σ, H, I, h⟩
theorem pgs_cons {e : Expr} {es : List Expr} {t : TG} {u : TGs} (h1 : PG X e t) (h2 : PGs X es u)
    (hs : (assignEach (e :: es) X.env).map (·.2) = assign e X.env :: (assignEach es X.env).map (·.2) := by rfl) : PGs X (e :: es) (gCons t u) := by
  intro pins s σ H vs us Q I r h
  obtain ⟨v, vr, e1, h⟩ := h
  subst e1
  cases r with
  | cons r rr =>
    rw [hs]
    refine assignInOrder_cons (thn (h1 pins s σ H _ _ _ I r h) fun _ s1 ⟨σ1, H1, I1, q1⟩ => ?_)
    exact h2 pins s1 σ1 H1 _ _ Q I1 rr q1
/-- (a, b, ..) = a tuple of that length -/
noncomputable def gTup (K : PySem.W.Frag) (n : Nat) (t : TGs) : TG := fun v σ H Q => ∃ a xs, v = .ref a ∧ SqT K H a xs ∧ xs.length = n ∧ t xs σ H Q
theorem pg_tup {es : List Expr} {k : Nat} {t : TGs} {n : Nat} (hc : X.calm = true) (h : PGs X es t)
    (hn : (assignEach es X.env).length = n := by rfl) (hst : (assignEach es X.env).findIdx? (·.1) = none := by rfl) : PG X (.Tuple es k pos) (gTup X.K n t) := by
  intro pins s σ H v u Q I r hw
  obtain ⟨a, xs, e1, hq, hl, hw⟩ := hw
  subst e1
  cases r
  obtain ⟨its, rv, ht, hz⟩ := I.tuple hq
  refine assign_Tuple_tuple (I.ok.hd hc) ht (by simp [hn, ← hl, rv.length]) hst fun h' hx => ?_
  have I1 : Inv X pins σ H { s with heap := h' } := I.kept (t' := s.toks) fun b o e => hx b o (Nat.ne_of_lt (Heap.lt_size e)) e
  exact h pins _ σ H xs _ Q I1 (by simpa using rv) hw
/-- target = value -/
noncomputable def tAsg (te : TE) (g : TG) : TS := fun D σ H => te σ H fun x H1 => g x σ H1 D.nx
/-- name = value -/
theorem ps_set {i : Nat} {x : Str} {e : Expr} {te : TE} {pos' : Pos} (hN : X.N.Nodup) (hi : X.N[i]? = some x) (hx : Loc X.env.scope x) (he : PE X e te) (hs : swapsWith e (some (.Name x pos')) pos.line X.env = pure false := by rfl) (hf : X.fn x = true ∨ X.env.scope.names.lookup x = some .local := by first | exact .inl rfl | exact .inr rfl | assumption) :
    PS X (.Assign [.Name x pos'] e pos) (tAsg te (gName i)) := by
  intro pins s σ H D I h
  refine wpAny_Assign_Name (thn (he pins s σ H _ I h) fun v s1 ⟨y, H1, I1, r1, q1⟩ => ?_) hs
  exact store_ok I1 hN hi hx r1 (fun s2 I2 => ⟨_, H1, I2, q1⟩) hf
end

/-! ### while -/
section
variable {X : Cx} {pos : Pos}
/-- the invariant W with its measure -/
noncomputable def tWhile (c : TT) (tb : TS) : TS := fun D σ H => ∃ W : Nat → St → Hp → Prop, (∃ m, W m σ H) ∧ ∀ m σ H, W m σ H →
  c σ H fun b H1 => if b = true then ∃ N : St → Hp → Prop, (∀ σ' H', N σ' H' → ∃ m', m' < m ∧ W m' σ' H') ∧ tb { D with nx := N, ct := N, bk := D.nx } σ H1 else D.nx σ H1
theorem ps_while {c : Expr} {body : List Stmt} {tc : TT} {tb : TS} (hp : PassesOwn (model X.prog X.w) X.A X.env X.xe) (hc : PT X c tc) (hb : PSs X body tb) : PS X (.While c body [] pos) (tWhile tc tb) := by
  intro pins s σ H D I h
  obtain ⟨W, ⟨m0, w0⟩, turn⟩ := h
  refine wpAny_While (codeAny_whileLoop (fun n s' => ∃ σ' H', Inv X pins σ' H' s' ∧ W n σ' H') ?_ m0 ⟨σ, H, I, w0⟩)
  rintro n s1 ⟨σ1, H1, I1, w1⟩
  refine wpAny_passesOwn hp (thn (hc pins s1 σ1 H1 _ I1 (turn n σ1 H1 w1)) fun b s2 ⟨H2, I2, q2⟩ => ?_)
  cases b with
  | true =>
    obtain ⟨N, hN, q2⟩ := q2
    rw [if_pos rfl]
    refine wpAny_passesOwn hp (thn (hb pins s2 σ1 H2 _ I2 q2) fun f s3 q3 => ?_)
    cases f with
    | next =>
      obtain ⟨σ3, H3, I3, n3⟩ := q3
      obtain ⟨m', hm, w3⟩ := hN σ3 H3 n3
      exact ⟨m', hm, σ3, H3, I3, w3⟩
    | cont =>
      obtain ⟨σ3, H3, I3, n3⟩ := q3
      obtain ⟨m', hm, w3⟩ := hN σ3 H3 n3
      exact ⟨m', hm, σ3, H3, I3, w3⟩
    | brk => exact q3
    | ret v => exact q3
  | false =>
    rw [if_neg Bool.false_ne_true]
    exact wpAny_execs_nil ⟨σ1, H2, I2, q2⟩
end

/-! ### what a loop or a comprehension walks -/
/-- at turn i: it yields x (the heap may grow), or it stops -/
structure It where
  go : Nat → Hp → Prop
  yld : Nat → Hp → V → Hp → Prop
  stop : Nat → Hp → Prop
/-- the iterator's own objects may turn: they are not the frame's, not pinned, younger than the entry (or a comprehension's own) -/
noncomputable def FpOk (X : Cx) (pins : List (Addr × Obj)) (H : Hp) (b : Addr) : Prop :=
  H b = none ∧ b ≠ X.env.locals ∧ b ∉ X.fs ∧ (b ∈ X.ex ∨ X.s₀.heap.objs.size ≤ b) ∧ (∀ x c, X.env.cells.lookup x = some c → c ≠ b) ∧ ∀ p ∈ X.pn ++ pins, p.1 ≠ b
theorem Inv.fpOk {X : Cx} {pins : List (Addr × Obj)} {σ : St} {H H' : Hp} {s : Shared} {b : Addr} (I : Inv X pins σ H s) (hb : s.heap.objs.size ≤ b) (hn : H' b = none) : FpOk X pins H' b := by
  refine ⟨hn, Nat.ne_of_gt (Nat.lt_of_lt_of_le I.lt hb), I.nofs hb, .inr (Nat.le_trans I.sz hb), fun x c e z => ?_, fun p hp z => ?_⟩
  · obtain ⟨v, q⟩ := I.cell x c e
    exact absurd (Nat.lt_of_lt_of_le q.lt (by rw [z]; exact hb)) (Nat.lt_irrefl _)
  · exact absurd (Nat.lt_of_lt_of_le (Heap.lt_size (I.pin p hp).1) (by rw [z]; exact hb)) (Nat.lt_irrefl _)
structure Turn (P : Program) (w : World) (K : PySem.W.Frag) (tg : Expr) (J : It) (fp : List Addr) (it : Addr) (tn : Nat → Heap → Prop) : Prop where
  mem : it ∈ fp
  obj : ∀ i h, tn i h → ∀ b ∈ fp, ∃ o, h.get? b = some o ∧ ∀ v, o.data ≠ .cell v
  keep : ∀ i h h', tn i h → (∀ b ∈ fp, ∀ o, h.get? b = some o → h'.get? b = some o) → tn i h'
  item : ∀ (X : Cx), X.prog = P → X.w = w → X.K = K → X.calm = true → ∀ (i : Nat) (pins : List (Addr × Obj)) (s : Shared) (σ : St) (H : Hp) (E : Value → Shared → Prop), Inv X pins σ H s → (∀ b ∈ fp, FpOk X pins H b) → tn i s.heap → J.go i H →
    wpAny (model P w) X.A (pyNext (.ref it)) (fun r s1 => ∃ u, r = some u ∧
      wpAny (model P w) X.A (letOwnedTupleGo tg (.ref it) u) (fun _ s2 => ∃ x H', Inv X pins σ H' s2 ∧ RelV x u ∧ J.yld i H x H' ∧ tn (i + 1) s2.heap ∧ ∀ b ∈ fp, H' b = none) E s1) E s
  done : ∀ (X : Cx), X.prog = P → X.w = w → X.K = K → X.calm = true → ∀ (i : Nat) (pins : List (Addr × Obj)) (s : Shared) (σ : St) (H : Hp) (E : Value → Shared → Prop), Inv X pins σ H s → (∀ b ∈ fp, FpOk X pins H b) → tn i s.heap → J.stop i H →
    wpAny (model P w) X.A (pyNext (.ref it)) (fun r s1 => r = none ∧ Inv X pins σ H s1) E s
  self : ∀ (A : Around) (i : Nat) (s : Shared) (Q : Value → Shared → Prop) (E : Value → Shared → Prop), tn i s.heap → Q (.ref it) s → wpAny (model P w) A (pyIter (.ref it)) Q E s
noncomputable abbrev TI := St → Hp → (It → Hp → Prop) → Prop
/-- an iterator has come -/
noncomputable def PIE (X : Cx) (pins : List (Addr × Obj)) (σ : St) (tg : Expr) (R : It → Hp → Prop) (itv : Value) (s2 : Shared) : Prop :=
  ∃ (it : Addr) (fp : List Addr) (tn : Nat → Heap → Prop) (J : It) (H' : Hp), itv = .ref it ∧ Inv X pins σ H' s2 ∧ Turn X.prog X.w X.K tg J fp it tn ∧ tn 0 s2.heap ∧ (∀ b ∈ fp, FpOk X pins H' b) ∧ R J H'
noncomputable def PI (X : Cx) (tg iter : Expr) (wi : TI) : Prop :=
  ∀ (pins : List (Addr × Obj)) (s : Shared) (σ : St) (H : Hp) (R : It → Hp → Prop), Inv X pins σ H s → wi σ H R →
    wpAny (model X.prog X.w) X.A (eval iter X.env) (fun v s1 => wpAny (model X.prog X.w) X.A (pyIter v) (PIE X pins σ tg R) X.xe s1) X.xe s

/-- the step ahead of the store is nothing for an iterator that keeps no tuple -/
theorem go_of {M : Model} {A : Around} {E : Value → Shared → Prop} {s : Shared} {tg : Expr} {it : Addr} {u : Value} {o : Obj} {n : String} {vs : Array Value} {Q : Unit → Shared → Prop} (ho : s.heap.get? it = some o) (hc : o.cls = .type n) (hd : o.data = .fields vs)
    (hn : ["enumerate", "zip", "dict_itemiterator", "dict_reverseitemiterator", "odict_iterator", "itertools.zip_longest", "itertools.pairwise"].contains n = false) (hQ : Q () s) : wpAny M A (letOwnedTupleGo tg (.ref it) u) Q E s := by
  unfold letOwnedTupleGo
  cases tg <;> first
    | exact wpAny_pure hQ
    | (cases u <;> first
        | exact wpAny_pure hQ
        | (refine wpAny_bind (wpAny_load ho ?_)
           rw [hc, hd]
           show wpAny M A (if (["enumerate", "zip", "dict_itemiterator", "dict_reverseitemiterator", "odict_iterator", "itertools.zip_longest", "itertools.pairwise"].contains n && vs[0]? == some (rawInt _)) = true then _ else _) Q E s
           rw [if_neg (by intro h; rw [hn, Bool.false_and] at h; cases h)]
           exact wpAny_pure hQ))

/-- the list at a, as it stands at each turn (a loop may append to it) -/
noncomputable def Itl (K : PySem.W.Frag) (a : Addr) : It :=
  ⟨fun i H => ∃ xs x, SqL K H a xs ∧ xs[i]? = some x, fun i H x H' => H' = H ∧ ∀ xs, SqL K H a xs → xs[i]? = some x, fun i H => ∃ xs, SqL K H a xs ∧ xs.length ≤ i⟩
/-- lo, lo + 1, .. (n of them) -/
noncomputable def Itr (lo : Int) (n : Nat) : It := ⟨fun i _ => i < n, fun i H x H' => H' = H ∧ x = .int (lo + i), fun i _ => n ≤ i⟩
theorem turn_list {P : Program} {w : World} {K : PySem.W.Frag} {tg : Expr} (a it : Addr) : Turn P w K tg (Itl K a) [it] it (fun i h => h.IsListIter it a i) where
  mem := by simp
  obj := fun i h st b hb => by
    have e : b = it := by simpa using hb
    subst e
    obtain ⟨o, e, c, d⟩ := st
    exact ⟨o, e, fun v z => by rw [d] at z; cases z⟩
  keep := fun i h h' st k => st.at fun o e => k it (by simp) o e
  item := by
    intro X hP hw hK hc i pins s σ H E I hf st hg
    subst hP hw hK
    obtain ⟨xs, x, hq, hx⟩ := hg
    obtain ⟨its, rv, p, hz⟩ := I.list hq
    obtain ⟨u, hu, ru⟩ := rv.get hx
    obtain ⟨f0, f1, f2, f3, f4, f5⟩ := hf it (by simp)
    refine wpAny_pyNext_list_item st p.isList (x := u) (by simpa using hu) fun h' st' sb => ?_
    have I1 : Inv X pins σ H { s with heap := h' } := I.turned (t' := s.toks) (fun b o hb e => (sb.2 b hb).trans e) f0 f1 f3 f4 f5
    obtain ⟨o, e, c, d⟩ := id st'
    exact ⟨u, rfl, go_of (s := { s with heap := h' }) e c d (by decide) ⟨x, H, I1, ru, ⟨rfl, fun ys hy => by rw [I.list_inj hy hq]; exact hx⟩, st', fun b hb => (hf b hb).1⟩⟩
  done := by
    intro X hP hw hK hc i pins s σ H E I hf st hg
    subst hP hw hK
    obtain ⟨xs, hq, hx⟩ := hg
    obtain ⟨its, rv, p, hz⟩ := I.list hq
    obtain ⟨f0, f1, f2, f3, f4, f5⟩ := hf it (by simp)
    have hl := rv.length
    exact wpAny_pyNext_list_end (I.ok.hd hc) st p.isList (by simp; omega) fun h' eb => ⟨rfl, I.turned (t' := s.toks) (fun b o hb e => eb b o hb e) f0 f1 f3 f4 f5⟩
  self := fun _ _ _ _ _ st h => wpAny_pyIter_listiter st h
theorem turn_range {P : Program} {w : World} {K : PySem.W.Frag} {tg : Expr} (it : Addr) (lo : Int) (n : Nat) : Turn P w K tg (Itr lo n) [it] it (fun i h => IsRangeIter h it (lo + (i : Nat) * 1) ((n : Int) - (i : Nat)) 1) where
  mem := by simp
  obj := fun i h st b hb => by
    have e : b = it := by simpa using hb
    subst e
    exact ⟨_, st, fun v z => by
      have z' : Data.fields _ = Data.cell v := z
      cases z'⟩
  keep := fun i h h' st k => k it (by simp) _ st
  item := by
    intro X hP hw hK hc i pins s σ H E I hf st hg
    subst hP hw hK
    obtain ⟨f0, f1, f2, f3, f4, f5⟩ := hf it (by simp)
    have W := Walks.range (prog := X.prog) (w := X.w) (I.ok.hd hc) it lo 1 n
    refine W.item i s _ _ hg st fun v h' tk hv st' kk => ?_
    obtain ⟨t, rfl⟩ := hv
    have I1 : Inv X pins σ H { s with heap := h', toks := tk } := I.turned (fun b o hb e => kk b o (by simpa using hb) e) f0 f1 f3 f4 f5
    refine ⟨_, rfl, go_of (s := { s with heap := h', toks := tk }) (n := "range_iterator") st' rfl rfl (by decide) ⟨.int (lo + i), H, I1, ⟨t, ?_⟩, ⟨rfl, rfl⟩, st', fun b hb => (hf b hb).1⟩⟩
    rw [Int.mul_one]
  done := by
    intro X hP hw hK hc i pins s σ H E I hf st hg
    subst hP hw hK
    obtain ⟨f0, f1, f2, f3, f4, f5⟩ := hf it (by simp)
    exact wpAny_pyNext_range_end (I.ok.hd hc) st (by have : n ≤ i := hg; omega) fun h' eb => ⟨rfl, I.turned (t' := s.toks) (fun b o hb e => eb b o hb e) f0 f1 f3 f4 f5⟩
  self := fun _ _ _ _ _ st h => wpAny_pyIter_rangeiter st h
end L2

namespace L2
open PySem PySem.Spec PyProof.Rows
section
variable {X : Cx} {tg : Expr}
noncomputable def iList (K : PySem.W.Frag) (tl : TE) : TI := fun σ H R => tl σ H fun x H1 => ∃ a, x = .ref a ∧ (∃ xs, SqL K H1 a xs) ∧ R (Itl K a) H1
theorem pi_list {l : Expr} {tl : TE} (hl : PE X l tl) : PI X tg l (iList X.K tl) := by
  intro pins s σ H R I h
  refine thn (hl pins s σ H _ I h) fun v s1 ⟨x, H1, I1, r1, q1⟩ => ?_
  obtain ⟨a, e, ⟨xs, hq⟩, q⟩ := q1
  subst e
  cases r1
  obtain ⟨its, rv, p, hz⟩ := I1.list hq
  refine wpAny_pyIter_list p.isList ?_
  refine ⟨s1.heap.objs.size, [s1.heap.objs.size], _, _, H1, rfl, I1.kept (t' := s1.toks) fun b o e => Heap.get?_push_of_some _ e, turn_list a _, ⟨_, Heap.get?_push_size _ rfl, rfl, rfl⟩, fun b hb => ?_, q⟩
  have e : b = s1.heap.objs.size := by simpa using hb
  subst e
  exact I1.fpOk (Nat.le_refl _) (I1.hok.fresh (Nat.le_refl _))
/-- a range object just made, walked -/
theorem range_it {pins : List (Addr × Obj)} {σ : St} {H : Hp} {s : Shared} {R : It → Hp → Prop} {E : Value → Shared → Prop} {lo hi : Int} {t u v : Tok} {tk : Nat} (I : Inv X pins σ H s) (h1 : -(2 ^ 62) ≤ lo) (h2 : lo < 2 ^ 62) (h3 : -(2 ^ 62) ≤ hi) (h4 : hi < 2 ^ 62)
    (q : R (Itr lo (hi - lo).toNat) H) : wpAny (model X.prog X.w) X.A (pyIter (.ref s.heap.objs.size)) (PIE X pins σ tg R) E { s with heap := s.heap.push { cls := .type "range", data := .fields #[.int lo t, .int hi u, .int 1 v] }, toks := tk } := by
  refine wpAny_pyIter_range (IsRange.new ..) (small_one h1 h2 h3 h4) ?_
  have I1 : Inv X pins σ H { s with heap := s.heap.push { cls := .type "range", data := .fields #[.int lo t, .int hi u, .int 1 v] }, toks := tk } := I.kept fun b o e => Heap.get?_push_of_some _ e
  refine ⟨(s.heap.push { cls := .type "range", data := .fields #[.int lo t, .int hi u, .int 1 v] }).objs.size, [(s.heap.push { cls := .type "range", data := .fields #[.int lo t, .int hi u, .int 1 v] }).objs.size], _, _, H, rfl,
    I1.kept (t' := tk) fun b o e => Heap.get?_push_of_some _ e, turn_range _ lo (hi - lo).toNat, ?_, fun b hb => ?_, q⟩
  · have e1 : lo + ((0 : Nat) : Int) * 1 = lo := by simp
    have e2 : (((hi - lo).toNat : Nat) : Int) - ((0 : Nat) : Int) = Builtin.Range.rangeSize lo hi 1 := by rw [rangeSize_one]; split <;> omega
    show IsRangeIter _ _ (lo + ((0 : Nat) : Int) * 1) ((((hi - lo).toNat : Nat) : Int) - ((0 : Nat) : Int)) 1
    rw [e1, e2]
    exact Heap.get?_push_size _ rfl
  · have e : b = (s.heap.push { cls := .type "range", data := .fields #[.int lo t, .int hi u, .int 1 v] }).objs.size := by simpa using hb
    subst e
    exact I1.fpOk (Nat.le_refl _) (I1.hok.fresh (Nat.le_refl _))
noncomputable def iRng1 (ta : TA) : TI := fun σ H R => ta σ H fun vs H1 => ∃ j : Int, vs = [.int j] ∧ -(2 ^ 62) ≤ j ∧ j < 2 ^ 62 ∧ R (Itr 0 j.toNat) H1
theorem pi_range1 {a : Expr} {ta : TA} {p pos : Pos} (hg : Gl X "range") (hm : X.mg "range" = none) (ha : PA X [a] ta) (hs : starEach [a] X.env = [(false, eval a X.env)] := by rfl) : PI X tg (.Call (.Name "range" p) [a] [] pos) (iRng1 ta) := by
  intro pins s σ H R I h
  refine Call_ (ld_blt I hg hm boot_range (PyProof.Rows.callWith_type1 (thn (ha pos pins s σ H _ I h) fun us s1 ⟨vs, H1, I1, r1, q1⟩ => ?_) hs rfl))
  obtain ⟨j, e, q1, q2, q⟩ := q1
  subst e
  cases r1 with
  | cons r rr =>
    cases rr
    obtain ⟨t, rfl⟩ := r
    exact call_range_1 (range_it I1 (by omega) (by omega) q1 q2 (by simpa using q))
/-! ### for -/
/-- W: the invariant by the turn and a measure; N: what the body is to reach -/
noncomputable def tFor (wi : TI) (g : TG) (tb : TS) : TS := fun D σ H => wi σ H fun J H1 => ∃ W : Nat → Nat → St → Hp → Prop, (∃ m, W 0 m σ H1) ∧ ∀ i m σ H, W i m σ H →
  (J.stop i H ∧ D.nx σ H) ∨ (J.go i H ∧ ∃ N : St → Hp → Prop, (∀ σ' H', N σ' H' → ∃ m', m' < m ∧ W (i + 1) m' σ' H') ∧ ∀ x H', J.yld i H x H' → g x σ H' fun σ2 H2 => tb { D with nx := N, ct := N, bk := D.nx } σ2 H2)
/-- the records at fp as they stand -/
noncomputable def pinsAt (fp : List Addr) (h : Heap) : List (Addr × Obj) := fp.filterMap fun b => (h.get? b).map fun o => (b, o)
theorem mem_pinsAt {fp : List Addr} {h : Heap} {b : Addr} {o : Obj} (hb : b ∈ fp) (e : h.get? b = some o) : (b, o) ∈ pinsAt fp h := List.mem_filterMap.mpr ⟨b, hb, by rw [e]; rfl⟩
theorem of_pinsAt {fp : List Addr} {h : Heap} {p : Addr × Obj} (hp : p ∈ pinsAt fp h) : p.1 ∈ fp ∧ h.get? p.1 = some p.2 := by
  obtain ⟨b, hb, e⟩ := List.mem_filterMap.mp hp
  cases q : h.get? b with
  | none => rw [q] at e; cases e
  | some o =>
    rw [q] at e
    have e' : (b, o) = p := Option.some.inj e
    subst e'
    exact ⟨hb, q⟩
theorem Inv.pinned {pins : List (Addr × Obj)} {σ : St} {H : Hp} {s : Shared} {fp : List Addr} (I : Inv X pins σ H s) (hf : ∀ b ∈ fp, FpOk X pins H b) (ho : ∀ b ∈ fp, ∃ o, s.heap.get? b = some o ∧ ∀ v, o.data ≠ .cell v) : Inv X (pins ++ pinsAt fp s.heap) σ H s :=
  I.pins_of fun p hp => (List.mem_append.mp hp).elim (fun z => I.pin p (List.mem_append_right _ z)) fun z => by
    obtain ⟨hb, e⟩ := of_pinsAt z
    obtain ⟨f0, f1, f2, _⟩ := hf p.1 hb
    obtain ⟨o, e', d⟩ := ho p.1 hb
    rw [e] at e'; cases e'
    exact ⟨e, f0, f1, f2, d⟩
theorem Inv.unpinned {pins pl : List (Addr × Obj)} {σ : St} {H : Hp} {s : Shared} (I : Inv X (pins ++ pl) σ H s) : Inv X pins σ H s := I.pins_of fun p hp => I.pin p (List.mem_append_right _ (List.mem_append_left _ hp))
theorem ps_for {iter : Expr} {body : List Stmt} {wi : TI} {g : TG} {tb : TS} {pos : Pos} (hp : PassesOwn (model X.prog X.w) X.A X.env X.xe) (hc : X.calm = true) (hi : PI X tg iter wi) (hg : PG X tg g) (hb : PSs X body tb)
    (hs : ∀ x, foldedSetIterable iter X.env x = pure x := by intro _; rfl) : PS X (.For tg iter body [] pos) (tFor wi g tb) := by
  intro pins s σ H D I h
  refine wpAny_For (thn (hi pins s σ H _ I h) fun v s1 h1 => thn h1 fun itv s2 h2 => ?_) hs
  obtain ⟨it, fp, tn, J, H2, e, I2, T, st2, f2, W, ⟨m0, w0⟩, turn⟩ := h2
  subst e
  -- what stays true of the iterator's objects through the loop
  have stat : ∀ {H' : Hp}, (∀ b ∈ fp, H' b = none) → ∀ b ∈ fp, FpOk X pins H' b := fun hn b hb => ⟨hn b hb, (f2 b hb).2⟩
  refine codeAny_forLoop_any (fun n s' => ∃ i σ' H', Inv X pins σ' H' s' ∧ tn i s'.heap ∧ (∀ b ∈ fp, H' b = none) ∧ W i n σ' H') ?_ m0 ⟨0, σ, H2, I2, st2, fun b hb => (f2 b hb).1, w0⟩
  rintro n s3 ⟨i, σ3, H3, I3, st3, fr3, w3⟩
  rcases turn i n σ3 H3 w3 with ⟨stop, qn⟩ | ⟨go, N, hN, step⟩
  · refine wpAny_passesOwn hp (thn (T.done X rfl rfl rfl hc i pins s3 σ3 H3 X.xe I3 (stat fr3) st3 stop) fun r s4 ⟨hr, I4⟩ => ?_)
    subst hr
    exact wpAny_execs_nil ⟨σ3, H3, I4, qn⟩
  · refine wpAny_passesOwn hp (thn (T.item X rfl rfl rfl hc i pins s3 σ3 H3 X.xe I3 (stat fr3) st3 go) fun r s4 ⟨u, hr, h4⟩ => ?_)
    subst hr
    refine wpAny_passesOwn hp (thn h4 fun _ s5 ⟨x, H5, I5, r5, y5, st5, fr5⟩ => ?_)
    have I5' := I5.pinned (stat fr5) (T.obj _ _ st5)
    refine wpAny_passesOwn hp (thn (hg _ s5 σ3 H5 x u _ I5' r5 (step x H5 y5)) fun _ s6 ⟨σ6, H6, I6, q6⟩ => ?_)
    refine wpAny_passesOwn hp (thn (hb _ s6 σ6 H6 _ I6 q6) fun f s7 q7 => ?_)
    have again : ∀ {σ7 : St} {H7 : Hp}, Inv X (pins ++ pinsAt fp s5.heap) σ7 H7 s7 → N σ7 H7 → ∃ m, m < n ∧ ∃ i σ' H', Inv X pins σ' H' s7 ∧ tn i s7.heap ∧ (∀ b ∈ fp, H' b = none) ∧ W i m σ' H' := fun {σ7 H7} I7 n7 => by
      obtain ⟨m', hm, w7⟩ := hN σ7 H7 n7
      refine ⟨m', hm, i + 1, σ7, H7, I7.unpinned, T.keep _ _ _ st5 fun b hb o e => (I7.pin (b, o) (List.mem_append_right _ (List.mem_append_right _ (mem_pinsAt hb e)))).1, fun b hb => ?_, w7⟩
      obtain ⟨o, e, d⟩ := T.obj _ _ st5 b hb
      exact (I7.pin (b, o) (List.mem_append_right _ (List.mem_append_right _ (mem_pinsAt hb e)))).2.1
    cases f with
    | next => obtain ⟨σ7, H7, I7, n7⟩ := q7; exact again I7 n7
    | cont => obtain ⟨σ7, H7, I7, n7⟩ := q7; exact again I7 n7
    | brk => obtain ⟨σ7, H7, I7, q7⟩ := q7; exact ⟨σ7, H7, I7.unpinned, q7⟩
    | ret v => obtain ⟨x7, σ7, H7, I7, r7, q7⟩ := q7; exact ⟨x7, σ7, H7, I7.unpinned, r7, q7⟩
end

/-! ### the forms one uses -/
/-- over a list that the body leaves as it is -/
theorem for_list {K : PySem.W.Frag} {a : Addr} {xs : List V} {g : TG} {tb : TS} {D : Ends} {σ : St} {H : Hp} (Pv : Nat → St → Hp → Prop) (h0 : Pv 0 σ H) (hl : ∀ i σ H, i ≤ xs.length → Pv i σ H → SqL K H a xs)
    (hs : ∀ i x σ H, xs[i]? = some x → Pv i σ H → g x σ H fun σ2 H2 => tb { D with nx := Pv (i + 1), ct := Pv (i + 1), bk := D.nx } σ2 H2) (hd : ∀ σ H, Pv xs.length σ H → D.nx σ H) :
    ∃ W : Nat → Nat → St → Hp → Prop, (∃ m, W 0 m σ H) ∧ ∀ i m σ H, W i m σ H →
      ((Itl K a).stop i H ∧ D.nx σ H) ∨ ((Itl K a).go i H ∧ ∃ N : St → Hp → Prop, (∀ σ' H', N σ' H' → ∃ m', m' < m ∧ W (i + 1) m' σ' H') ∧ ∀ x H', (Itl K a).yld i H x H' → g x σ H' fun σ2 H2 => tb { D with nx := N, ct := N, bk := D.nx } σ2 H2) := by
  refine ⟨fun i m σ H => m = xs.length - i ∧ i ≤ xs.length ∧ Pv i σ H, ⟨xs.length, by simp, Nat.zero_le _, h0⟩, ?_⟩
  rintro i m σ H ⟨rfl, hi, p⟩
  have q := hl i σ H hi p
  by_cases hlt : i < xs.length
  · refine .inr ⟨⟨xs, xs[i], q, by simp [hlt]⟩, Pv (i + 1), fun σ' H' p' => ⟨xs.length - (i + 1), by omega, rfl, hlt, p'⟩, fun x H' y => ?_⟩
    obtain ⟨e, y⟩ := y
    subst e
    exact hs i x σ _ (y xs q) p
  · have e : i = xs.length := by omega
    subst e
    exact .inl ⟨⟨xs, q, Nat.le_refl _⟩, hd σ H p⟩
end L2

namespace L2
open PySem PySem.Spec PyProof.Rows

noncomputable abbrev R2 := V → V → Hp → VK → Prop
/-- a two-place operation on values: f is binaryOp op, inplaceOp op or compareOp op -/
noncomputable def OpR (X : Cx) (f : Value → Value → Sem Value) (r : R2) : Prop :=
  ∀ (pins : List (Addr × Obj)) (s : Shared) (σ : St) (H : Hp) (x y : V) (v u : Value) (Q : VK), Inv X pins σ H s → RelV x v → RelV y u → r x y H Q →
    wpAny (model X.prog X.w) X.A (f v u) (EP X pins σ Q) X.xe s
/-- a one-place operation -/
noncomputable def UnR (X : Cx) (f : Value → Sem Value) (r : V → Hp → VK → Prop) : Prop :=
  ∀ (pins : List (Addr × Obj)) (s : Shared) (σ : St) (H : Hp) (x : V) (v : Value) (Q : VK), Inv X pins σ H s → RelV x v → r x H Q →
    wpAny (model X.prog X.w) X.A (f v) (EP X pins σ Q) X.xe s
/-- a call of a value that is known (a builtin, a type) with values -/
noncomputable def CallR (X : Cx) (f : Value) (r : List V → Hp → VK → Prop) : Prop :=
  ∀ (pins : List (Addr × Obj)) (s : Shared) (σ : St) (H : Hp) (xs : List V) (us : List Value) (Q : VK), Inv X pins σ H s → Vals xs us → r xs H Q →
    wpAny (model X.prog X.w) X.A (call f us) (EP X pins σ Q) X.xe s
noncomputable def tOp (r : R2) (ta tb : TE) : TE := fun σ H Q => ta σ H fun x H1 => tb σ H1 fun y H2 => r x y H2 Q
noncomputable def tUn (r : V → Hp → VK → Prop) (ta : TE) : TE := fun σ H Q => ta σ H fun x H1 => r x H1 Q
/-- ints in, under C, and a value out -/
noncomputable def rI (C : Int → Int → Prop) (g : Int → Int → V) : R2 := fun x y H Q => ∃ i j, x = .int i ∧ y = .int j ∧ C i j ∧ Q (g i j) H
noncomputable def rI0 (g : Int → Int → V) : R2 := fun x y H Q => ∃ i j, x = .int i ∧ y = .int j ∧ Q (g i j) H
noncomputable def rU (g : Int → V) : V → Hp → VK → Prop := fun x H Q => ∃ i, x = .int i ∧ Q (g i) H

section
variable {X : Cx} {a b c : Expr} {ta tb tc : TE} {pos : Pos}

theorem binT (ha : PE X a ta) (hb : PE X b tb) {pins : List (Addr × Obj)} {s : Shared} {σ : St} {H : Hp} {R : V → V → Hp → Prop} (I : Inv X pins σ H s)
    (h : ta σ H fun x H1 => tb σ H1 fun y H2 => R x y H2) {Q : Value → Shared → Prop} {f : Value → Value → Sem Value}
    (hf : ∀ v u s2 x y H2, Inv X pins σ H2 s2 → RelV x v → RelV y u → R x y H2 → wpAny (model X.prog X.w) X.A (f v u) Q X.xe s2) :
    wpAny (model X.prog X.w) X.A (eval a X.env) (fun v s₁ => wpAny (model X.prog X.w) X.A (eval b X.env) (fun u s₂ => wpAny (model X.prog X.w) X.A (f v u) Q X.xe s₂) X.xe s₁) X.xe s := by
  refine thn (ha pins s σ H _ I h) fun v s1 ⟨x, H1, I1, r1, q1⟩ => ?_
  refine thn (hb pins s1 σ H1 _ I1 q1) fun u s2 ⟨y, H2, I2, r2, q2⟩ => ?_
  exact hf v u s2 x y H2 I2 r1 r2 q2

theorem pe_op {op : Operator} {r : R2} (ho : OpR X (binaryOp op) r) (ha : PE X a ta) (hb : PE X b tb) : PE X (.BinOp a op b pos) (tOp r ta tb) := by
  intro pins s σ H Q I h
  exact wpAny_BinOp (binT ha hb I h fun v u s2 x y H2 I2 rx ry q => ho pins s2 σ H2 x y v u Q I2 rx ry q)
theorem pe_un {op : UnaryOp} {r : V → Hp → VK → Prop} (ho : UnR X (unaryOp op) r) (ha : PE X a ta) : PE X (.UnaryOp op a pos) (tUn r ta) := by
  intro pins s σ H Q I h
  exact UnaryOp_ (thn (ha pins s σ H _ I h) fun v s1 ⟨x, H1, I1, r1, q1⟩ => ho pins s1 σ H1 x v Q I1 r1 q1)
/-! ### ints -/
theorem opI {f : Value → Value → Sem Value} {C : Int → Int → Prop} {g : Int → Int → Int}
    (rule : ∀ (i j : Int) (t u : Tok) (s : Shared) (Q : Value → Shared → Prop) (E : Value → Shared → Prop), C i j → Q (.int (g i j) s.toks) { s with toks := s.toks + 1 } → wpAny (model X.prog X.w) X.A (f (.int i t) (.int j u)) Q E s) :
    OpR X f (rI C fun i j => .int (g i j)) := by
  intro pins s σ H x y v u Q I rx ry h
  obtain ⟨i, j, rfl, rfl, hc, q⟩ := h
  obtain ⟨t, rfl⟩ := rx
  obtain ⟨t', rfl⟩ := ry
  exact rule i j t t' s _ _ hc ⟨.int (g i j), H, I.tok _, ⟨_, rfl⟩, q⟩
theorem opI0 {f : Value → Value → Sem Value} {g : Int → Int → Int}
    (rule : ∀ (i j : Int) (t u : Tok) (s : Shared) (Q : Value → Shared → Prop) (E : Value → Shared → Prop), Q (.int (g i j) s.toks) { s with toks := s.toks + 1 } → wpAny (model X.prog X.w) X.A (f (.int i t) (.int j u)) Q E s) :
    OpR X f (rI0 fun i j => .int (g i j)) := by
  intro pins s σ H x y v u Q I rx ry h
  obtain ⟨i, j, rfl, rfl, q⟩ := h
  obtain ⟨t, rfl⟩ := rx
  obtain ⟨t', rfl⟩ := ry
  exact rule i j t t' s _ _ ⟨.int (g i j), H, I.tok _, ⟨_, rfl⟩, q⟩
theorem opB0 {f : Value → Value → Sem Value} {g : Int → Int → Bool}
    (rule : ∀ (i j : Int) (t u : Tok) (s : Shared) (Q : Value → Shared → Prop) (E : Value → Shared → Prop), Q (.bool (g i j)) s → wpAny (model X.prog X.w) X.A (f (.int i t) (.int j u)) Q E s) :
    OpR X f (rI0 fun i j => .bl (g i j)) := by
  intro pins s σ H x y v u Q I rx ry h
  obtain ⟨i, j, rfl, rfl, q⟩ := h
  obtain ⟨t, rfl⟩ := rx
  obtain ⟨t', rfl⟩ := ry
  exact rule i j t t' s _ _ ⟨.bl (g i j), H, I, rfl, q⟩

noncomputable def CPow (i j : Int) : Prop := 0 ≤ j ∧ j ≤ 1000000 ∧ i.natAbs < 2 ^ 64
noncomputable def CMul (i j : Int) : Prop := (-(2 ^ 64) < i ∧ i < 2 ^ 64) ∨ (-(2 ^ 64) < j ∧ j < 2 ^ 64)
theorem CMul.ok {i j : Int} (h : CMul i j) : IntMulOk i j := by
  rcases h with ⟨h1, h2⟩ | ⟨h1, h2⟩
  · exact .of_left (intBits_le_64 h1 h2)
  · exact .of_right (intBits_le_64 h1 h2)
theorem two_pow_nn (k : Nat) : (0 : Int) ≤ 2 ^ k := by
  rw [two_pow_cast]
  exact Int.natCast_nonneg _

theorem op_add : OpR X (binaryOp .Add) (rI0 fun i j => .int (i + j)) := opI0 fun _ _ _ _ _ _ _ q => add_int q
theorem op_sub : OpR X (binaryOp .Sub) (rI0 fun i j => .int (i - j)) := opI0 fun _ _ _ _ _ _ _ q => sub_int q
theorem op_mul : OpR X (binaryOp .Mult) (rI CMul fun i j => .int (i * j)) := opI fun _ _ _ _ _ _ _ hc q => mul_int q hc.ok
theorem op_shl : OpR X (binaryOp .LShift) (rI CPow fun i j => .int (i * 2 ^ j.toNat)) := opI fun _ _ _ _ _ _ _ hc q => lshift_int_small hc.1 hc.2.1 hc.2.2 q
theorem op_shr : OpR X (binaryOp .RShift) (rI (fun _ j => 0 ≤ j) fun i j => .int (i / 2 ^ j.toNat)) := opI fun i j _ _ _ _ _ hc q =>
  rshift_int hc (by rw [Int.fdiv_eq_ediv_of_nonneg i (two_pow_nn _)]; exact q)
theorem op_and : OpR X (binaryOp .BitAnd) (rI0 fun i j => .int (Builtin.bitAnd i j)) := opI0 fun _ _ _ _ _ _ _ q => and_int q
theorem op_or : OpR X (binaryOp .BitOr) (rI0 fun i j => .int (Builtin.bitOr i j)) := opI0 fun _ _ _ _ _ _ _ q => or_int q
theorem unI {f : Value → Sem Value} {g : Int → Int}
    (rule : ∀ (i : Int) (t : Tok) (s : Shared) (Q : Value → Shared → Prop) (E : Value → Shared → Prop), Q (.int (g i) s.toks) { s with toks := s.toks + 1 } → wpAny (model X.prog X.w) X.A (f (.int i t)) Q E s) :
    UnR X f (rU fun i => .int (g i)) := by
  intro pins s σ H x v Q I rx h
  obtain ⟨i, rfl, q⟩ := h
  obtain ⟨t, rfl⟩ := rx
  exact rule i t s _ _ ⟨.int (g i), H, I.tok _, ⟨_, rfl⟩, q⟩
theorem un_neg : UnR X (unaryOp .USub) (rU fun i => .int (-i)) := unI fun _ _ _ _ _ q => neg_int q
theorem un_inv : UnR X (unaryOp .Invert) (rU fun i => .int (Builtin.bitNot i)) := unI fun _ _ _ _ _ q => invert_int q

/-! ### bools among ints: n += (a < b) -/
end

/-! ### comparisons -/
/-- the scalars that == tells apart as data does -/
noncomputable def scal : V → V → Bool
  | .non, .non => true | .non, .int _ => true | .int _, .non => true | .non, .bl _ => true | .bl _, .non => true | .non, .str _ => true | .str _, .non => true
  | .int _, .int _ => true | .bl _, .bl _ => true | .str _, .str _ => true | .byt _, .byt _ => true
  | .int _, .str _ => true | .str _, .int _ => true | .bl _, .str _ => true | .str _, .bl _ => true
  | _, _ => false
noncomputable def rEq : R2 := fun x y H Q => scal x y = true ∧ Q (.bl (decide (x = y))) H
noncomputable def rNe : R2 := fun x y H Q => scal x y = true ∧ Q (.bl (!decide (x = y))) H

theorem dec_int {i j : Int} : decide (V.int i = V.int j) = (i == j) := by
  rw [Bool.eq_iff_iff]
  simp
theorem dec_bl {i j : Bool} : decide (V.bl i = V.bl j) = (i == j) := by
  rw [Bool.eq_iff_iff]
  simp
theorem dec_str {i j : Str} : decide (V.str i = V.str j) = (i == j) := by
  rw [Bool.eq_iff_iff]
  simp
theorem dec_byt {i j : Array UInt8} : decide (V.byt i = V.byt j) = (i.toList == j.toList) := by
  rw [Bool.eq_iff_iff]
  cases i
  cases j
  simp

section
variable {X : Cx} {a b c : Expr} {ta tb tc : TE} {pos : Pos}
theorem fin_bl {pins : List (Addr × Obj)} {σ : St} {H : Hp} {s : Shared} {Q : VK} {k k' : Bool} (I : Inv X pins σ H s) (q : Q (.bl k) H) (e : k = k') : EP X pins σ Q (.bool k') s := by
  subst e
  exact ⟨.bl k, H, I, rfl, q⟩
theorem op_eq : OpR X (compareOp .Eq) rEq := by
  intro pins s σ H x y v u Q I rx ry h
  obtain ⟨hs, q⟩ := h
  cases x with
  | non =>
    cases rx
    cases y with
    | non => cases ry; exact PySem.EqNone.eq_none_none (fin_bl I q (by simp))
    | bl j => cases ry; exact PySem.EqNone.eq_none_bool (fin_bl I q (by simp))
    | int j => obtain ⟨t', rfl⟩ := ry; exact PySem.EqNone.eq_none_int (fin_bl I q (by simp))
    | str j => obtain ⟨t', rfl⟩ := ry; exact PySem.EqNone.eq_none_str (fin_bl I q (by simp))
    | _ => exact absurd (show false = true from hs) Bool.false_ne_true
  | bl i =>
    cases rx
    cases y with
    | non => cases ry; exact PySem.EqNone.eq_bool_none (fin_bl I q (by simp))
    | bl j => cases ry; exact eq_bool (fin_bl I q dec_bl)
    | str j => obtain ⟨t', rfl⟩ := ry; exact PySem.EqMixed.eq_bool_str (fin_bl I q (by simp))
    | _ => exact absurd (show false = true from hs) Bool.false_ne_true
  | int i =>
    obtain ⟨t, rfl⟩ := rx
    cases y with
    | non => cases ry; exact PySem.EqNone.eq_int_none (fin_bl I q (by simp))
    | int j => obtain ⟨t', rfl⟩ := ry; exact eq_int (fin_bl I q dec_int)
    | str j => obtain ⟨t', rfl⟩ := ry; exact PySem.EqMixed.eq_int_str (fin_bl I q (by simp))
    | _ => exact absurd (show false = true from hs) Bool.false_ne_true
  | str i =>
    obtain ⟨t, rfl⟩ := rx
    cases y with
    | non => cases ry; exact PySem.EqNone.eq_str_none (fin_bl I q (by simp))
    | bl j => cases ry; exact PySem.EqMixed.eq_str_bool (fin_bl I q (by simp))
    | int j => obtain ⟨t', rfl⟩ := ry; exact PySem.EqMixed.eq_str_int (fin_bl I q (by simp))
    | str j => obtain ⟨t', rfl⟩ := ry; exact eq_str (fin_bl I q dec_str)
    | _ => exact absurd (show false = true from hs) Bool.false_ne_true
  | byt i =>
    obtain ⟨t, rfl⟩ := rx
    cases y with
    | byt j => obtain ⟨t', rfl⟩ := ry; exact PySem.W.eq_bytes (fin_bl I q dec_byt)
    | _ => exact absurd (show false = true from hs) Bool.false_ne_true
  | _ => cases y <;> exact absurd (show false = true from hs) Bool.false_ne_true
theorem op_ne : OpR X (compareOp .NotEq) rNe := by
  intro pins s σ H x y v u Q I rx ry h
  obtain ⟨hs, q⟩ := h
  cases x with
  | non =>
    cases rx
    cases y with
    | non => cases ry; exact PySem.EqNone.ne_none_none (fin_bl I q (by simp))
    | bl j => cases ry; exact PySem.EqNone.ne_none_bool (fin_bl I q (by simp))
    | int j => obtain ⟨t', rfl⟩ := ry; exact PySem.EqNone.ne_none_int (fin_bl I q (by simp))
    | str j => obtain ⟨t', rfl⟩ := ry; exact PySem.EqNone.ne_none_str (fin_bl I q (by simp))
    | _ => exact absurd (show false = true from hs) Bool.false_ne_true
  | bl i =>
    cases rx
    cases y with
    | non => cases ry; exact PySem.EqNone.ne_bool_none (fin_bl I q (by simp))
    | bl j => cases ry; exact ne_bool (fin_bl I q (congrArg not dec_bl))
    | str j => obtain ⟨t', rfl⟩ := ry; exact PySem.EqMixed.ne_bool_str (fin_bl I q (by simp))
    | _ => exact absurd (show false = true from hs) Bool.false_ne_true
  | int i =>
    obtain ⟨t, rfl⟩ := rx
    cases y with
    | non => cases ry; exact PySem.EqNone.ne_int_none (fin_bl I q (by simp))
    | int j => obtain ⟨t', rfl⟩ := ry; exact ne_int (fin_bl I q (congrArg not dec_int))
    | str j => obtain ⟨t', rfl⟩ := ry; exact PySem.EqMixed.ne_int_str (fin_bl I q (by simp))
    | _ => exact absurd (show false = true from hs) Bool.false_ne_true
  | str i =>
    obtain ⟨t, rfl⟩ := rx
    cases y with
    | non => cases ry; exact PySem.EqNone.ne_str_none (fin_bl I q (by simp))
    | bl j => cases ry; exact PySem.EqMixed.ne_str_bool (fin_bl I q (by simp))
    | int j => obtain ⟨t', rfl⟩ := ry; exact PySem.EqMixed.ne_str_int (fin_bl I q (by simp))
    | str j => obtain ⟨t', rfl⟩ := ry; exact ne_str (fin_bl I q (congrArg not dec_str))
    | _ => exact absurd (show false = true from hs) Bool.false_ne_true
  | byt i =>
    obtain ⟨t, rfl⟩ := rx
    cases y with
    | byt j => obtain ⟨t', rfl⟩ := ry; exact PySem.W.ne_bytes (fin_bl I q (congrArg not dec_byt))
    | _ => exact absurd (show false = true from hs) Bool.false_ne_true
  | _ => cases y <;> exact absurd (show false = true from hs) Bool.false_ne_true

theorem op_lt : OpR X (compareOp .Lt) (rI0 fun i j => .bl (decide (i < j))) := opB0 fun _ _ _ _ _ _ _ q => lt_int q
theorem op_le : OpR X (compareOp .LtE) (rI0 fun i j => .bl (decide (i ≤ j))) := opB0 fun _ _ _ _ _ _ _ q => le_int q
theorem op_gt : OpR X (compareOp .Gt) (rI0 fun i j => .bl (decide (j < i))) := opB0 fun _ _ _ _ _ _ _ q => gt_int q
theorem op_ge : OpR X (compareOp .GtE) (rI0 fun i j => .bl (decide (j ≤ i))) := opB0 fun _ _ _ _ _ _ _ q => ge_int q
theorem nomark (b : Expr) {op : CmpOp} (h : op ≠ .In := by decide) (h2 : op ≠ .NotIn := by decide) : behindInMarks op b = false := by
  have e1 : (op == CmpOp.In) = false := by cases op <;> first | rfl | exact absurd rfl h
  have e2 : (op == CmpOp.NotIn) = false := by cases op <;> first | rfl | exact absurd rfl h2
  cases b <;> simp [behindInMarks, e1, e2]
/-- a comparison as a value; hm: nomark b, or (for in, not in) by with_unfolding_all rfl -/
theorem pe_cmpR {op : CmpOp} {r : R2} (ho : OpR X (compareOp op) r) (ha : PE X a ta) (hb : PE X b tb) (hm : behindInMarks op b = false) : PE X (.Compare a [op] [b] pos) (tOp r ta tb) := by
  intro pins s σ H Q I h
  exact wpAny_Compare1 (binT ha hb I h fun v u s2 x y H2 I2 rx ry q => ho pins s2 σ H2 x y v u Q I2 rx ry q) hm
/-- a reading of a value as a test -/
noncomputable def tTest (t : TE) : TT := fun σ H Q => t σ H fun x H' => ∃ k, x = .bl k ∧ Q k H'
theorem pt_cmpR {op : CmpOp} {r : R2} (ho : OpR X (compareOp op) r) (ha : PE X a ta) (hb : PE X b tb) (hm : behindInMarks op b = false) : PT X (.Compare a [op] [b] pos) (tTest (tOp r ta tb)) := by
  intro pins s σ H Q I h
  refine wpAny_isTrue_Compare1 (thn (ha pins s σ H _ I h) fun v s1 ⟨x, H1, I1, r1, q1⟩ => thn (hb pins s1 σ H1 _ I1 q1) fun u s2 ⟨y, H2, I2, r2, q2⟩ =>
    thn (ho pins s2 σ H2 x y v u _ I2 r1 r2 q2) fun c s3 ⟨z, H3, I3, r3, k, e, q3⟩ => ?_) hm
  subst e
  cases r3
  exact wpAny_truthy_bool ⟨H3, I3, q3⟩
/-! ### truth -/
theorem line63 : (sizeLine : Nat) < 2 ^ 63 := by rw [sizeLine_eq]; decide
/-! ### strs and bytes -/
/-! ### scalar builtins, by CallR -/
theorem vals1 {x : V} {us : List Value} (r : Vals [x] us) : ∃ u, us = [u] ∧ RelV x u := by
  cases r with
  | cons r1 r2 => cases r2; exact ⟨_, rfl, r1⟩
end
end L2

namespace L2
open PySem PySem.Spec PyProof.Rows

/-! ### an instance, its attributes a map -/
structure ObjM (h : Heap) (x dx C : Addr) (mA : Str → Option Value) : Prop where
  obj : h.get? x = some (PySem.W.instObj C dx)
  ns : h.Ns1 dx mA
  ne : dx ≠ x

theorem lookIn_ns {h : Heap} {dx : Addr} {mA : Str → Option Value} (n : h.Ns1 dx mA) : ∃ od, h.get? dx = some od ∧ ∀ name, PySem.W.lookIn name od = some (mA name) := by
  obtain ⟨o, es, ep, ho, hd, hk, _, hm⟩ := n
  refine ⟨o, ho, fun name => ?_⟩
  have e := hm name
  unfold nsFind findBy at e
  rw [← Array.find?_toList] at e
  unfold PySem.W.lookIn
  rw [hd]
  dsimp only
  split
  · rename_i y q
    rw [q] at e
    exact congrArg some e
  · rename_i q
    rw [q] at e
    have a : es.toList.any (·.refKey) = false := by
      rw [List.any_eq_false]
      intro y hy
      obtain ⟨z, t, hkey⟩ := hk y (Array.mem_toList_iff.mp hy)
      simp [DictEntry.refKey, hkey]
    have a' : ¬ es.toList.any (·.refKey) = true := by rw [a]; exact Bool.false_ne_true
    rw [if_neg a']
    exact congrArg some e

theorem ObjM.look {h : Heap} {x dx C : Addr} {mA : Str → Option Value} (I : ObjM h x dx C mA) : ∃ od, PySem.W.InstAt h x (PySem.W.instObj C dx) C (some od) ∧ ∀ name, PySem.W.lookIn name od = some (mA name) :=
  let ⟨od, ho, hl⟩ := lookIn_ns I.ns
  ⟨od, ⟨I.obj, rfl, rfl, ho⟩, hl⟩

section
variable {prog : Program} {w : World} {A : Around} {E : Value → Shared → Prop} {s : Shared} {K : PySem.W.Frag} {x dx C f : Addr} {mA : Str → Option Value} {name : Str} {v : Value}

theorem get_map {expr : Bool} {Q : Value → Shared → Prop} (X : K.In s.heap) (I : ObjM s.heap x dx C mA) (hg : PySem.W.plainGet K C name = true) (hh : PySem.W.hasDictIn K C = true)
    (ha : PySem.W.findIn K (.ref C) name = some none) (hv : mA name = some v) (hv' : PySem.W.handedIn v = true) (h : Q v { s with toks := s.toks + 1 }) :
    wpAny (model prog w) A (getAttr (.ref x) name expr) Q E s := by
  obtain ⟨od, J, hl⟩ := I.look
  exact PySem.W.get_value X J (PySem.W.plainGet_of hg).1 (PySem.W.findObj_own hh ha rfl (by rw [hl, hv])) hv' h

theorem get_meth {pl : Sem Bool} {Q : Value × List Value → Shared → Prop} (X : K.In s.heap) (I : ObjM s.heap x dx C mA) (hg : PySem.W.plainGet K C name = true)
    (hf : PySem.W.findIn K (.ref C) name = some (some (.ref f))) (ht : PySem.W.isFn K (.ref f) = true) (hv : mA name = none) (h : Q (.ref f, [.ref x]) s) :
    wpAny (model prog w) A (getMethod (.ref x) name pl) Q E s := by
  obtain ⟨od, J, hl⟩ := I.look
  exact PySem.W.method_fn X J (PySem.W.plainGet_of hg).1 (PySem.W.plainGet_of hg).2 hf (beq_iff_eq.mp ht) (by show (PySem.W.lookIn name od).map (·.isSome) = some false; rw [hl, hv]; rfl) h

theorem set_map {ns : List Str} {Q : Unit → Shared → Prop} (X : K.In s.heap) (I : ObjM s.heap x dx C mA)
    (hs : PySem.W.findIn K (.ref C) "__setattr__" = some (some (.builtin "object.__setattr__"))) (hp : PySem.W.plainOver K C = true) (ht : PySem.W.takerIn K C name = some none) (hh : PySem.W.hasDictIn K C = true)
    (hw : PySem.Within mA ns) (hsz : ns.length ≤ sizeLine)
    (h : ∀ h', ObjM h' x dx C (fun y => if y = name then some v else mA y) → Heap.SameBut dx s.heap h' → Q () { s with heap := h', toks := s.toks + 2 }) :
    wpAny (model prog w) A (setAttr (.ref x) name v) Q E s := by
  obtain ⟨od, J, hl⟩ := I.look
  refine PySem.W.set_plain X J hs (PySem.W.osa_open (s := { s with toks := s.toks + 1 }) (r := none) X J hp ht fun b => ?_)
  obtain ⟨cd, hc, hd'⟩ := PySem.W.any_some hh
  have hx : s.heap.get? x = some ⟨.ref C, some dx, .plain, #[]⟩ := I.obj
  refine wpAny_bind (wpAny_pure (wpAny_bind (wpAny_bind (wpAny_loadPart hx (wpAny_bind (PySem.W.Looks.here (s := { s with toks := s.toks + 1 }) (PySem.W.looks_clsIn X hc) ?_))))))
  rw [hd']
  refine wpAny_pure (a := some dx) (wpAny_bind (wpAny_pure (wpAny_bind ?_)))
  refine wpAny_nsSet1 (s := { s with toks := s.toks + 1 }) I.ns fun h' hn2 hs2 => ?_
  obtain ⟨oD, esD, epD, hoD, hdD, hcD⟩ := hn2.count (PySem.Within.cons name v hw)
  refine wpAny_bind (wpAny_lookBehind hoD (by rw [hdD]; exact pastItsLine_dict (Nat.le_trans hcD (by rw [List.length_cons]; omega))) ?_)
  exact wpAny_pure (h _ ⟨(hs2.2 _ (Ne.symm I.ne)).trans I.obj, hn2, I.ne⟩ hs2)

/-- C(..): the dict at the heap's end, the instance behind it; then its __init__ -/
theorem make_map {R : Result → Shared → Prop} {vs : List Value} {kw : List (Str × Value)} (X : K.In s.heap) (hm : PySem.W.makesIn K C = true)
    (hi : PySem.W.findIn K (.ref C) "__init__" = some (some (.ref f))) (hf : PySem.W.typeIn K (.ref f) = some (.type "function"))
    (h : codeAny (model prog w) (A.under (.builtin "type.__call__" ⟨.ref C :: vs, kw⟩)) (.call (.ref f) ⟨.ref (s.heap.objs.size + 1) :: vs, kw⟩) (PySem.W.InitBack (s.heap.objs.size + 1) R)
      { s with heap := (s.heap.push PySem.W.emptyDict).push (PySem.W.instObj C s.heap.objs.size) }) :
    codeAny (model prog w) A (.call (.ref C) ⟨vs, kw⟩) R s := by
  obtain ⟨hh, g, d, t, os⟩ := s
  exact PySem.W.make_core (PySem.W.makes_of X hm) (PySem.W.looks_findIn X hi) (fun self => PySem.W.bind_fn X self hf) (.inl rfl) h
end

/-! ### the attributes as a list of pairs -/
noncomputable def putF (f : Str) (v : V) : List (Str × V) → List (Str × V)
  | [] => [(f, v)]
  | (g, x) :: r => if g = f then (g, v) :: r else (g, x) :: putF f v r
theorem lookup_putF (f g : Str) (v : V) : ∀ fs : List (Str × V), (putF f v fs).lookup g = if g = f then some v else fs.lookup g
  | [] => by
    show List.lookup g [(f, v)] = _
    by_cases h : g = f
    · have hb : (g == f) = true := beq_iff_eq.mpr h
      simp only [List.lookup, hb, if_pos h]
    · have hb : (g == f) = false := beq_eq_false_iff_ne.mpr h
      simp only [List.lookup, hb, if_neg h]
  | (k, x) :: r => by
    have ih := lookup_putF f g v r
    rw [show putF f v ((k, x) :: r) = (if k = f then (k, v) :: r else (k, x) :: putF f v r) from rfl]
    by_cases hk : k = f
    · rw [if_pos hk]
      by_cases h : g = k
      · have hb : (g == k) = true := beq_iff_eq.mpr h
        simp only [List.lookup, hb, if_pos (h.trans hk)]
      · have hb : (g == k) = false := beq_eq_false_iff_ne.mpr h
        simp only [List.lookup, hb, if_neg (fun e : g = f => h (e.trans hk.symm))]
    · rw [if_neg hk]
      by_cases h : g = k
      · have hb : (g == k) = true := beq_iff_eq.mpr h
        simp only [List.lookup, hb, if_neg (fun e : g = f => hk (h.symm.trans e))]
      · have hb : (g == k) = false := beq_eq_false_iff_ne.mpr h
        simp only [List.lookup, hb]
        exact ih
theorem keys_putF (f : Str) (v : V) : ∀ fs : List (Str × V), f ∈ (putF f v fs).map (·.1) ∧ ∀ g, g ∈ fs.map (·.1) → g ∈ (putF f v fs).map (·.1)
  | [] => ⟨by simp [putF], fun g h => by simp at h⟩
  | (k, x) :: r => by
    obtain ⟨i1, i2⟩ := keys_putF f v r
    rw [show putF f v ((k, x) :: r) = (if k = f then (k, v) :: r else (k, x) :: putF f v r) from rfl]
    by_cases hk : k = f
    · rw [if_pos hk]
      subst hk
      exact ⟨by simp, fun g h => by simpa using h⟩
    · rw [if_neg hk]
      refine ⟨?_, fun g h => ?_⟩
      · rw [List.map_cons]
        exact List.mem_cons_of_mem _ i1
      · rw [List.map_cons] at h ⊢
        rcases List.mem_cons.mp h with e | e
        · exact List.mem_cons.mpr (.inl e)
        · exact List.mem_cons_of_mem _ (i2 g e)
theorem length_putF (f : Str) (v : V) : ∀ fs : List (Str × V), (putF f v fs).length ≤ fs.length + 1
  | [] => by simp [putF]
  | (k, x) :: r => by
    have ih := length_putF f v r
    rw [show putF f v ((k, x) :: r) = (if k = f then (k, v) :: r else (k, x) :: putF f v r) from rfl]
    by_cases hk : k = f
    · rw [if_pos hk, List.length_cons, List.length_cons]; omega
    · rw [if_neg hk, List.length_cons, List.length_cons]; omega

theorem RelO.some_of {v : V} {o : Option Value} (r : RelO (some v) o) : ∃ u, o = some u ∧ RelV v u := by
  cases o with
  | none => exact (show False from r).elim
  | some u => exact ⟨u, rfl, r⟩
theorem RelO.none_of {o : Option Value} (r : RelO none o) : o = none := by
  cases o with
  | none => rfl
  | some u => exact (show False from r).elim
theorem handed_of {v : V} {u : Value} (r : RelV v u) : PySem.W.handedIn u = true := by
  cases v with
  | non => cases (show u = Value.none from r); rfl
  | bl b => cases (show u = Value.bool b from r); rfl
  | int i => obtain ⟨t, e⟩ := (show ∃ t, u = Value.int i t from r); cases e; rfl
  | str x => obtain ⟨t, e⟩ := (show ∃ t, u = Value.str x t from r); cases e; rfl
  | byt b => obtain ⟨t, e⟩ := (show ∃ t, u = Value.bytes b t from r); cases e; rfl
  | flt b => obtain ⟨t, e⟩ := (show ∃ t, u = Value.float b t from r); cases e; rfl
  | ref a => cases (show u = Value.ref a from r); rfl
  | ty n => cases (show u = Value.type n from r); rfl

section
variable {P : Program} {w : World} {H H' : Hp} {h h' : Heap} {a C dx : Addr} {fs fs' : List (Str × V)}
theorem ins_get (hok : HOk P w H h) (e : H a = some (.ins C dx fs)) : ∃ mA, ObjM h a dx C mA ∧ (∀ f, RelO (fs.lookup f) (mA f)) ∧ PySem.Within mA (fs.map (·.1)) ∧ fs.length ≤ 1000 ∧ H dx = some (.own a) := by
  obtain ⟨d, z, ne, ob, mA, n, r, q⟩ := (show ObjOk P w H h a (.ins C dx fs) from hok a _ e)
  exact ⟨mA, ⟨ob, n, ne⟩, r, q, z, d⟩
end

/-! ### what of the text a class must have -/
structure Cls (K : PySem.W.Frag) (C : Addr) : Prop where
  pg : PySem.W.plainGet K C Str.empty = true
  hd : PySem.W.hasDictIn K C = true
  po : PySem.W.plainOver K C = true
  sa : PySem.W.findIn K (.ref C) "__setattr__" = some (some (.builtin "object.__setattr__"))
theorem Cls.get {K : PySem.W.Frag} {C : Addr} (c : Cls K C) (f : Str) : PySem.W.plainGet K C f = true := c.pg
/-- no class of it has the name -/
noncomputable def NoAttr (K : PySem.W.Frag) (C : Addr) (f : Str) : Prop := PySem.W.findIn K (.ref C) f = some none
theorem NoAttr.taker {K : PySem.W.Frag} {C : Addr} {f : Str} (n : NoAttr K C f) : PySem.W.takerIn K C f = some none := by
  unfold PySem.W.takerIn
  rw [show PySem.W.findIn K (.ref C) f = some none from n]
  rfl
/-- a method: a plain def of the class or of one above it -/
structure Meth (K : PySem.W.Frag) (C : Addr) (m : Str) (f : Addr) : Prop where
  at_ : PySem.W.findIn K (.ref C) m = some (some (.ref f))
  fn : PySem.W.isFn K (.ref f) = true
  kp : PySem.W.keepIn K (.ref f) = true

section
variable {X : Cx} {pins : List (Addr × Obj)} {σ : St} {H : Hp} {s : Shared} {a C dx : Addr} {fs : List (Str × V)} {f : Str} {v : V} {A : Around} {E : Value → Shared → Prop}

theorem getattr_ok {b : Bool} {Q : Value → Shared → Prop} (I : Inv X pins σ H s) (e : H a = some (.ins C dx fs)) (c : Cls X.K C) (n : NoAttr X.K C f) (l : fs.lookup f = some v)
    (h : ∀ u s', Inv X pins σ H s' → RelV v u → Q u s') : wpAny (model X.prog X.w) A (getAttr (.ref a) f b) Q E s := by
  obtain ⟨mA, O, r, _, _, _⟩ := ins_get I.hok e
  obtain ⟨u, hu, ru⟩ := RelO.some_of (v := v) (o := mA f) (by rw [← l]; exact r f)
  exact get_map I.kIn O (c.get f) c.hd n hu (handed_of ru) (h u _ (I.tok _) ru)

theorem getmeth_ok {m : Str} {g : Addr} {pl : Sem Bool} {Q : Value × List Value → Shared → Prop} (I : Inv X pins σ H s) (e : H a = some (.ins C dx fs)) (c : Cls X.K C) (k : Meth X.K C m g) (l : fs.lookup m = none)
    (h : Q (.ref g, [.ref a]) s) : wpAny (model X.prog X.w) A (getMethod (.ref a) m pl) Q E s := by
  obtain ⟨mA, O, r, _, _, _⟩ := ins_get I.hok e
  have hn : mA m = none := RelO.none_of (by rw [← l]; exact r m)
  exact get_meth I.kIn O (c.get m) k.at_ k.fn hn h

theorem setattr_ok {y : V} {u : Value} {Q : Unit → Shared → Prop} (I : Inv X pins σ H s) (e : H a = some (.ins C dx fs)) (c : Cls X.K C) (n : NoAttr X.K C f) (hl : fs.length < 1000) (ry : RelV y u)
    (h : ∀ s', Inv X pins σ (upd H a (.ins C dx (putF f y fs))) s' → Q () s') : wpAny (model X.prog X.w) A (setAttr (.ref a) f u) Q E s := by
  obtain ⟨mA, O, r, wi, _, ho⟩ := ins_get I.hok e
  have hz : (fs.map (·.1)).length ≤ sizeLine := by rw [List.length_map, sizeLine_eq]; omega
  refine set_map I.kIn O c.sa c.po n.taker c.hd wi hz fun h' O' sb => h _ ?_
  have hd : ∃ o, h'.get? dx = some o := let ⟨o, _, _, e', _⟩ := O'.ns; ⟨o, e'⟩
  refine I.write (x := a) (e := dx) (by rw [e]; exact True.intro) (.inr ho) (fun b q hb z => (sb.2 b hb).trans z) hd ?_
  refine ⟨by rw [upd_ne O.ne]; exact ho, ?_, O.ne, O'.obj, _, O'.ns, fun g => ?_, fun g hg => ?_⟩
  · have := length_putF f y fs; omega
  · show RelO ((putF f y fs).lookup g) (if g = f then some u else mA g)
    rw [lookup_putF]
    by_cases q : g = f
    · rw [if_pos q, if_pos q]; exact ry
    · rw [if_neg q, if_neg q]; exact r g
  · by_cases q : g = f
    · rw [q]; exact (keys_putF f y fs).1
    · refine (keys_putF f y fs).2 g (wi g fun z => hg ?_)
      show (if g = f then some u else mA g) = none
      rw [if_neg q]; exact z

/-- a new instance, tracked, without attributes -/
theorem Inv.made (I : Inv X pins σ H s) : Inv X pins σ (upd (upd H s.heap.objs.size (.own (s.heap.objs.size + 1))) (s.heap.objs.size + 1) (.ins C s.heap.objs.size []))
    { s with heap := (s.heap.push PySem.W.emptyDict).push (PySem.W.instObj C s.heap.objs.size) } := by
  have e1 : (s.heap.push PySem.W.emptyDict).get? s.heap.objs.size = some PySem.W.emptyDict := Heap.get?_push_size s.heap rfl
  have e2 : ((s.heap.push PySem.W.emptyDict).push (PySem.W.instObj C s.heap.objs.size)).get? (s.heap.objs.size + 1) = some (PySem.W.instObj C s.heap.objs.size) := by
    have := Heap.get?_push_size (s.heap.push PySem.W.emptyDict) (o := PySem.W.instObj C s.heap.objs.size) rfl
    rwa [Heap.size_push] at this
  have e3 : (s.heap.push PySem.W.emptyDict).Ns s.heap.objs.size (fun _ => none) := ⟨PySem.W.emptyDict, #[], _, e1, rfl, (fun e he => absurd he (by simp)), fun _ => rfl⟩
  have I1 := I.laid (a := s.heap.objs.size) (o := .own (s.heap.objs.size + 1)) (h' := s.heap.push PySem.W.emptyDict) (t' := s.toks) (fun b u q => Heap.get?_push_of_some _ q) (Nat.le_refl _) ⟨_, e1⟩
  refine I1.laid (a := s.heap.objs.size + 1) (o := .ins C s.heap.objs.size []) (t' := s.toks) (fun b u q => Heap.get?_push_of_some _ q) (Nat.le_of_eq (Heap.size_push _ _)) ?_
  have ne : s.heap.objs.size ≠ s.heap.objs.size + 1 := Nat.ne_of_lt (Nat.lt_succ_self _)
  refine ⟨by rw [upd_ne ne, upd_same], Nat.zero_le _, ne, e2, fun _ => none, (Heap.Ns1.of_empty e3).at fun o q => Heap.get?_push_of_some _ q, fun _ => True.intro, fun y hy => absurd rfl hy⟩

/-- e.f where nothing but the object is asked: through attributeBase (super) and the last hold -/
theorem attr_of {prog : Program} {w : World} {env : Env} {e : Expr} {f : Str} {pos : Pos} {s : Shared} {Q : Value → Shared → Prop} (hb : attributeBase e f env (eval e env) = eval e env)
    (h : wpAny (model prog w) A (eval e env) (fun o s₁ => wpAny (model prog w) A (getAttr o f true) Q E s₁) E s) : wpAny (model prog w) A (eval (.Attribute e f pos) env) Q E s :=
  Attribute_any_ h (by rw [arm_eval_Attribute, hb])
end

/-! ### readings and rules -/
/-- e.f, an attribute of the instance -/
noncomputable def tFld (K : PySem.W.Frag) (ta : TE) (f : Str) : TE := fun σ H Q => ta σ H fun x H1 => ∃ a C dx fs v, x = .ref a ∧ H1 a = some (.ins C dx fs) ∧ Cls K C ∧ NoAttr K C f ∧ fs.lookup f = some v ∧ Q v H1
/-- e.f = value -/
noncomputable def sFld (K : PySem.W.Frag) (ta tv : TE) (f : Str) : TS := fun D σ H => tv σ H fun y H1 => ta σ H1 fun x H2 => ∃ a C dx fs, x = .ref a ∧ H2 a = some (.ins C dx fs) ∧ Cls K C ∧ NoAttr K C f ∧ fs.length < 1000 ∧
  D.nx σ (upd H2 a (.ins C dx (putF f y fs)))
section
variable {X : Cx} {o e value : Expr} {f : Str} {pos pos' tpos : Pos} {ta tv : TE}
theorem pe_fld (he : PE X e ta) (hb : attributeBase e f X.env (eval e X.env) = eval e X.env) : PE X (.Attribute e f pos) (tFld X.K ta f) := by
  intro pins s σ H Q I h
  refine attr_of hb (thn (he pins s σ H _ I h) fun u s1 ⟨x, H1, I1, rx, a, C, dx, fs, v, ex, ea, c, n, l, q⟩ => ?_)
  subst ex
  obtain rfl : u = Value.ref a := rx
  exact getattr_ok I1 ea c n l fun u' s2 I2 ru => ⟨v, H1, I2, ru, q⟩
theorem ps_fld (ha : PE X o ta) (hv : PE X value tv) (hs : swapsWith value (some (.Attribute o f pos')) pos.line X.env = pure false) : PS X (.Assign [.Attribute o f pos'] value pos) (sFld X.K ta tv f) := by
  intro pins s σ H D I h
  refine plainObj_wpAny_Assign_Attribute (thn (hv pins s σ H _ I h) fun u s1 ⟨y, H1, I1, ry, q⟩ => thn (ha pins s1 σ H1 _ I1 q) fun ov s2 ⟨x, H2, I2, rx, a, C, dx, fs, ex, ea, c, n, l, q2⟩ => ?_) hs
  subst ex
  obtain rfl : ov = Value.ref a := rx
  exact setattr_ok I2 ea c n l ry fun s3 I3 => ⟨σ, _, I3, q2⟩
end

/-! ### isinstance -/
section
variable {X : Cx} {pins : List (Addr × Obj)} {σ : St} {H : Hp} {s : Shared} {A : Around} {E : Value → Shared → Prop} {Q : Value → Shared → Prop} {c : Value} {b : Bool}
end
end L2

namespace L2
open PySem PySem.Spec PyProof.Rows

/-! ### room -/
structure Room (k : Nat) (A : Around) : Prop where
  hd : A.handled = none
  dp : A.depth + 3 * k + 5 < recursionLimit
  un : A.units + 16 * k + 200 < cLine
theorem Room.mono {j k : Nat} {A : Around} (r : Room k A) (h : j ≤ k) : Room j A := ⟨r.hd, by have := r.dp; omega, by have := r.un; omega⟩
theorem Room.deeper {k : Nat} {A : Around} (r : Room (k + 1) A) (env : Env) : Room k (A.deeper env) :=
  ⟨r.hd, by have := r.dp; show A.depth + 1 + 3 * k + 5 < _; omega, by have := r.un; show A.units + 3 + 16 * k + 200 < _; omega⟩
theorem Room.in1 {k : Nat} {A : Around} (r : Room (k + 1) A) : Room k A.in1 :=
  ⟨r.hd, by have := r.dp; show A.depth + 3 * k + 5 < _; omega, by have := r.un; show A.units + 1 + 16 * k + 200 < _; omega⟩
theorem make_depth {A : Around} {C : Addr} {us : List Value} {kw : List (Str × Value)} : (A.under (.builtin "type.__call__" ⟨.ref C :: us, kw⟩)).depth = A.depth + 1 := by
  first | rfl | simp [Around.under, Code.weight, Code.isCreation, Code.isGuard, Code.isCaller, Code.frames, Code.isFrame, guardIds]
theorem make_units {A : Around} {C : Addr} {us : List Value} {kw : List (Str × Value)} : (A.under (.builtin "type.__call__" ⟨.ref C :: us, kw⟩)).units = A.units + 1 := by
  first | rfl | simp [Around.under, Code.cUnits, Code.frames, Code.isFrame]
theorem Room.make {k : Nat} {A : Around} (r : Room (k + 1) A) (C : Addr) (us : List Value) (kw : List (Str × Value)) : Room k (A.under (.builtin "type.__call__" ⟨.ref C :: us, kw⟩)) :=
  ⟨r.hd, by have := r.dp; rw [make_depth]; omega, by have := r.un; rw [make_units]; omega⟩
theorem Room.depth {k : Nat} {A : Around} (r : Room k A) : A.depth < recursionLimit := by have := r.dp; omega
theorem Room.units {k : Nat} {A : Around} (r : Room k A) : A.units + 64 < cLine := by have := r.un; omega
/-! ### argument lists and displays -/
noncomputable def tNil : TA := fun _ H Q => Q [] H
noncomputable def tCons (ta : TE) (tr : TA) : TA := fun σ H Q => ta σ H fun x H1 => tr σ H1 fun xs H2 => Q (x :: xs) H2
section
variable {X : Cx} {e : Expr} {es : List Expr} {te : TE} {t : TA} {pos : Pos}
theorem pa_nil : PA X [] tNil := fun _ _ _ _ H Q I h => Calls.spliced_nil ⟨[], H, I, .nil, h⟩
theorem pa_cons (ha : PE X e te) (hr : PA X es t) (hs : starEach (e :: es) X.env = (false, eval e X.env) :: starEach es X.env := by rfl) : PA X (e :: es) (tCons te t) := by
  intro pos pins s σ H Q I h
  rw [hs]
  show wpAny _ _ (spliced ((false, eval e X.env) :: backTo pos (starEach es X.env))) _ _ s
  refine Calls.spliced_cons (thn (ha pins s σ H _ I h) fun u s1 ⟨x, H1, I1, r1, q1⟩ => ?_)
  exact thn (hr pos pins s1 σ H1 _ I1 q1) fun us s2 ⟨xs, H2, I2, r2, q2⟩ => ⟨x :: xs, H2, I2, .cons r1 r2, q2⟩

/-- a tuple, a list of written items -/
noncomputable def tTup (t : TA) : TE := fun σ H Q => t σ H fun xs H1 => xs.length ≤ sizeLine ∧ ∀ p, H1 p = none → Q (.ref p) (upd H1 p (.tup xs))
noncomputable def tLst (t : TA) : TE := fun σ H Q => t σ H fun xs H1 => xs.length ≤ sizeLine ∧ ∀ p, H1 p = none → Q (.ref p) (upd H1 p (.lst xs))
theorem pe_tup {x1} (h : PA X es t) : PE X (.Tuple es x1 pos) (tTup t) := by
  intro pins s σ H Q I hq
  refine wpAny_Tuple_spliced (thn (h pos pins s σ H _ I hq) fun us s1 ⟨xs, H1, I1, r, z, q⟩ => ⟨by rw [← r.length]; exact z, ?_⟩)
  have hf : H1 s1.heap.objs.size = none := I1.hok.fresh (Nat.le_refl _)
  refine ⟨.ref s1.heap.objs.size, upd H1 s1.heap.objs.size (.tup xs), I1.laid (t' := s1.toks) (fun b u e => Heap.get?_push_of_some _ e) (Nat.le_refl _) ?_, rfl, q _ hf⟩
  exact ⟨z, us, r, ⟨_, Heap.get?_push_size _ rfl, rfl, _, rfl⟩⟩
theorem pe_lst (h : PA X es t) : PE X (.List es pos) (tLst t) := by
  intro pins s σ H Q I hq
  refine wpAny_List_spliced (thn (h pos pins s σ H _ I hq) fun us s1 ⟨xs, H1, I1, r, z, q⟩ => ⟨by rw [← r.length]; exact z, ?_⟩)
  have hf : H1 s1.heap.objs.size = none := I1.hok.fresh (Nat.le_refl _)
  refine ⟨.ref s1.heap.objs.size, upd H1 s1.heap.objs.size (.lst xs), I1.laid (t' := s1.toks) (fun b u e => Heap.get?_push_of_some _ e) (Nat.le_refl _) ?_, rfl, q _ hf⟩
  exact ⟨z, us, 0, r, Heap.get?_push_size _ rfl⟩
end

/-! ### what a def promises -/
/-- a def's promise: the bound arguments in the parameters' order, the heap, the wanted end, the wanted exception -/
noncomputable abbrev Sp := List V → Hp → VK → XK → Prop
/-- how an exception lies behind a call (file 08 gives it): the callers' frames, abstract heap and state ahead of the call, the wish, the exception, the state -/
noncomputable abbrev CXT := List Env → Hp → Shared → XK → Value → Shared → Prop

/-- the state at a call -/
structure Env0 (P : Program) (w : World) (K : PySem.W.Frag) (mg : Str → Option Value) (base : Heap) (A : Around) (outer : List Env) (s : Shared) (H : Hp) : Prop where
  frames : A.frames = some outer
  mod : Mod K mg base
  bs : ∀ b o, base.get? b = some o → s.heap.get? b = some o ∧ H b = none
  bsz : base.objs.size ≤ s.heap.objs.size
  funs : s.heap.FunFrames base outer
  frf : ∀ b ∈ frs outer, H b = none
  hok : HOk P w H s.heap
  bare : AllBare s.gens
/-- a call's end -/
noncomputable def CE (outer : List Env) (P : Program) (w : World) (H : Hp) (s : Shared) (Q : VK) (u : Value) (s' : Shared) : Prop :=
  ∃ v H', s'.os = s.os ∧ AllBare s'.gens ∧ Un (frs outer) [] H H' s.heap s'.heap ∧ HOk P w H' s'.heap ∧ RelV v u ∧ Q v H'
noncomputable def CR (CX : CXT) (outer : List Env) (P : Program) (w : World) (H : Hp) (s : Shared) (Q : VK) (E : XK) (r : Result) (s' : Shared) : Prop :=
  match r with
  | .ok (.ret u) => CE outer P w H s Q u s'
  | .ok _ => False
  | .error e => CX outer H s E e s'
structure FnOk (P : Program) (w : World) (K : PySem.W.Frag) (mg : Str → Option Value) (base : Heap) (CX : CXT) (k : Nat) (f : Addr) (fd : FuncData) (ps : List Str) (sp : Sp) : Prop where
  len : ∀ vs H Q E, sp vs H Q E → vs.length = ps.length
  run : ∀ (A : Around) (outer : List Env) (s : Shared) (H : Hp) (args : Args) (us : List Value) (vs : List V) (Q : VK) (E : XK), Room k A → Env0 P w K mg base A outer s H → BindsTo s fd args (ps.zip us) → Vals vs us → sp vs H Q E →
    codeAny (model P w) A (.call (.ref f) args) (CR CX outer P w H s Q E) s
theorem FnOk.mono {P : Program} {w : World} {K : PySem.W.Frag} {mg : Str → Option Value} {base : Heap} {CX : CXT} {j k : Nat} {f : Addr} {fd : FuncData} {ps : List Str} {sp : Sp} (F : FnOk P w K mg base CX j f fd ps sp) (h : j ≤ k) :
    FnOk P w K mg base CX k f fd ps sp := ⟨F.len, fun A outer s H args us vs Q E hr => F.run A outer s H args us vs Q E (hr.mono h)⟩
theorem Env0.make {P : Program} {w : World} {K : PySem.W.Frag} {mg : Str → Option Value} {base : Heap} {A : Around} {outer : List Env} {s : Shared} {H : Hp} (e : Env0 P w K mg base A outer s H) (C : Addr) (us : List Value) (kw : List (Str × Value)) :
    Env0 P w K mg base (A.under (.builtin "type.__call__" ⟨.ref C :: us, kw⟩)) outer s H := ⟨by first | exact e.frames | (simpa [Around.under, Code.envs, Code.isFrame, pushEnvs] using e.frames), e.mod, e.bs, e.bsz, e.funs, e.frf, e.hok, e.bare⟩
section
variable {X : Cx} {pins : List (Addr × Obj)} {σ : St} {H : Hp} {s s' : Shared}
/-- from a body: what a callee wants -/
theorem Inv.env0 (I : Inv X pins σ H s) : Env0 X.prog X.w X.K X.mg X.base X.A X.stack s H :=
  ⟨I.ok.frames, I.ok.mod, I.bs, Nat.le_trans I.ok.bsz I.sz, I.stack, I.stkFree, I.hok, I.bare⟩
/-- behind a call -/
theorem Inv.after {Q : VK} {u : Value} (I : Inv X pins σ H s) (h : CE X.stack X.prog X.w H s Q u s') : EP X pins σ Q u s' := by
  obtain ⟨v, H', os, bare, un, hok, r, q⟩ := h
  obtain ⟨hh, g, d, t, os'⟩ := s'
  obtain rfl : os' = s.os := os
  exact ⟨v, H', I.call (h' := hh) (g' := g) (d' := d) (t' := t) (ch := []) un hok bare (fun b z => absurd z (by simp)), r, q⟩
end

/-! ### calls -/
/-- f(..): the written arguments, then the defaults dvs; E: what is wanted of an exception -/
noncomputable def tCall (sp : Sp) (dvs : List V) (E : XK) (t : TA) : TE := fun σ H Q => t σ H fun vs H1 => sp (vs ++ dvs) H1 Q E
/-- o.m(..) of an instance of the class at C -/
noncomputable def tMeth (C : Addr) (m : Str) (sp : Sp) (dvs : List V) (E : XK) (ta : TE) (t : TA) : TE := fun σ H Q => ta σ H fun x H1 => ∃ a dx fs, x = .ref a ∧ H1 a = some (.ins C dx fs) ∧ fs.lookup m = none ∧
  t σ H1 fun vs H2 => sp (x :: (vs ++ dvs)) H2 Q E
/-- C(..): a new instance and its dict, then __init__ -/
noncomputable def tMake (C : Addr) (sp : Sp) (dvs : List V) (E : XK) (t : TA) : TE := fun σ H Q => t σ H fun vs H1 => ∀ x dx, H1 x = none → H1 dx = none → dx ≠ x →
  sp (.ref x :: (vs ++ dvs)) (upd (upd H1 dx (.own x)) x (.ins C dx [])) (fun v H2 => v = .non ∧ Q (.ref x) H2) E

/-- how the parameters are bound: us the positional arguments, kw the keywords' values by name, ds the defaults that fill up -/
noncomputable def Binds (K : PySem.W.Frag) (fd : FuncData) (ps : List Str) (ds : List Value) : Prop :=
  ∀ (s : Shared) (us : List Value), K.In s.heap → (us ++ ds).length = ps.length → BindsTo s fd ⟨us, []⟩ (ps.zip (us ++ ds))
/-- every parameter is given -/
theorem Binds.all {K : PySem.W.Frag} {fd : FuncData} {ps : List Str} (h : ∀ us : List Value, us.length = ps.length → bindArgs fd ⟨us, []⟩ = pure (ps.zip us)) : Binds K fd ps [] := fun s us _ hl => by
  rw [List.append_nil] at hl ⊢
  exact .of_eq (h us hl)

/-- an exception of a callee reaches what this body wants of exceptions -/
noncomputable def Passes (CX : CXT) (X : Cx) (E : XK) : Prop := ∀ (pins : List (Addr × Obj)) (σ : St) (H : Hp) (s : Shared) (e : Value) (s' : Shared), Inv X pins σ H s → CX X.stack H s E e s' → X.xe e s'

section
variable {X : Cx} {CX : CXT} {k : Nat} {f C : Addr} {fd : FuncData} {ps : List Str} {sp : Sp} {dvs : List V} {ds : List Value} {E : XK} {x m : Str} {p pos apos : Pos} {e o : Expr} {es : List Expr} {ta : TE} {t : TA}

/-- the callee runs -/
theorem run_fn {pins : List (Addr × Obj)} {σ : St} {H : Hp} {s : Shared} {Q : VK} {us : List Value} {vs : List V} (F : FnOk X.prog X.w X.K X.mg X.base CX k f fd ps sp) (hr : Room k X.A) (hb : Binds X.K fd ps ds) (hd : Vals dvs ds) (hx : Passes CX X E)
    (I : Inv X pins σ H s) (r : Vals vs us) (h : sp (vs ++ dvs) H Q E) : wpAny (model X.prog X.w) X.A (call (.ref f) us) (EP X pins σ Q) X.xe s := by
  have r2 : Vals (vs ++ dvs) (us ++ ds) := r.append hd
  have hl : (us ++ ds).length = ps.length := by rw [← r2.length]; exact F.len _ _ _ _ h
  refine wpAny_call (codeAny_mono (F.run X.A X.stack s H ⟨us, []⟩ (us ++ ds) (vs ++ dvs) Q E hr I.env0 (hb s us I.kIn hl) r2 h) fun r s' hq => ?_)
  cases r with
  | error e => exact hx pins σ H s e s' I hq
  | ok fl =>
    cases fl with
    | ret u => exact I.after hq
    | next => exact False.elim hq
    | brk => exact False.elim hq
    | cont => exact False.elim hq

theorem pe_call (F : FnOk X.prog X.w X.K X.mg X.base CX k f fd ps sp) (hr : Room k X.A) (hg : Gl X x) (hm : X.mg x = some (.ref f)) (hk : PySem.W.keepIn X.K (.ref f) = true) (hb : Binds X.K fd ps ds) (hd : Vals dvs ds) (hx : Passes CX X E)
    (ha : PA X (e :: es) t) (hdb : (x == ("__debug__" : Str)) = false := by decide) (he : starEach (e :: es) X.env = (false, eval e X.env) :: starEach es X.env := by rfl) (hpl : (backTo pos (starEach es X.env)).any (·.1) = false := by rfl) :
    PE X (.Call (.Name x p) (e :: es) [] pos) (tCall sp dvs E t) := by
  intro pins s σ H Q I h
  refine wpAny_Call_Name_kw (ld_glob I hg hm ?_ hdb)
  refine PySem.W.callWith_K (h₀ := X.base) I.ok.mod.kin hk (thn (ha pos pins s σ H _ I h) fun us s1 ⟨vs, H1, I1, r, q⟩ => ⟨I1.kIn, ?_⟩) he hpl
  exact run_fn F hr hb hd hx I1 r q
/-- o.m(e, ..) -/
theorem pe_meth {pl : Sem Bool} (he : PE X o ta) (c : Cls X.K C) (hm : Meth X.K C m f) (F : FnOk X.prog X.w X.K X.mg X.base CX k f fd ps sp) (hr : Room k X.A) (hb : Binds X.K fd ps ds) (hd : Vals dvs ds) (hx : Passes CX X E) (ha : PA X (e :: es) t)
    (hst : starEach (e :: es) X.env = (false, eval e X.env) :: starEach es X.env := by rfl) (hpl : (backTo pos (starEach es X.env)).any (·.1) = false := by rfl)
    (ht : eval (.Call (.Attribute o m apos) (e :: es) [] pos) X.env = (do
      let ov ← eval o X.env
      standAt apos.atName
      let (f, first) ← holding [ov] (getMethod ov m pl)
      callWith pos f first (backTo pos (starEach (e :: es) X.env)) (backToKw pos (keywordEach [] X.env))) := by rfl) :
    PE X (.Call (.Attribute o m apos) (e :: es) [] pos) (tMeth C m sp dvs E ta t) := by
  intro pins s σ H Q I h
  refine PySem.W.methodCall_KW (pl := pl) (thn (he pins s σ H _ I h) fun u s1 ⟨x, H1, I1, rx, a, dx, fs, ex, ea, l, q⟩ => ?_) ht
  subst ex
  obtain rfl : u = Value.ref a := rx
  refine getmeth_ok I1 ea c hm l ?_
  refine PySem.W.callWith_K (first := [.ref a]) (h₀ := X.base) I.ok.mod.kin hm.kp (thn (ha pos pins s1 σ H1 _ I1 q) fun us s2 ⟨vs, H2, I2, r, q2⟩ => ⟨I2.kIn, ?_⟩) hst hpl
  exact run_fn (us := .ref a :: us) (vs := .ref a :: vs) F hr hb hd hx I2 (.cons rfl r) q2
/-- o.m() -/
theorem pe_meth0 {pl : Sem Bool} (he : PE X o ta) (c : Cls X.K C) (hm : Meth X.K C m f) (F : FnOk X.prog X.w X.K X.mg X.base CX k f fd ps sp) (hr : Room k X.A) (hb : Binds X.K fd ps ds) (hd : Vals dvs ds) (hx : Passes CX X E)
    (ht : eval (.Call (.Attribute o m apos) [] [] pos) X.env = (do
      let ov ← eval o X.env
      standAt apos.atName
      let (f, first) ← holding [ov] (getMethod ov m pl)
      callWith pos f first (backTo pos (starEach [] X.env)) (backToKw pos (keywordEach [] X.env))) := by rfl) :
    PE X (.Call (.Attribute o m apos) [] [] pos) (tMeth C m sp dvs E ta tNil) := by
  intro pins s σ H Q I h
  refine PySem.W.methodCall_KW (pl := pl) (thn (he pins s σ H _ I h) fun u s1 ⟨x, H1, I1, rx, a, dx, fs, ex, ea, l, q⟩ => ?_) ht
  subst ex
  obtain rfl : u = Value.ref a := rx
  refine getmeth_ok I1 ea c hm l ?_
  exact PySem.W.callWith_K0 (first := [.ref a]) I1.kIn hm.kp (run_fn (us := [.ref a]) (vs := [.ref a]) F hr hb hd hx I1 (.cons rfl .nil) q)

/-- what a class must have to be made -/
structure Mk (K : PySem.W.Frag) (C f : Addr) : Prop where
  makes : PySem.W.makesIn K C = true
  init : PySem.W.findIn K (.ref C) "__init__" = some (some (.ref f))
  fn : PySem.W.isFn K (.ref f) = true
  kp : PySem.W.keepIn K (.ref C) = true

theorem run_make {pins : List (Addr × Obj)} {σ : St} {H : Hp} {s : Shared} {Q : VK} {us : List Value} {vs : List V} (M : Mk X.K C f) (F : FnOk X.prog X.w X.K X.mg X.base CX k f fd ps sp) (hr : Room (k + 1) X.A) (hb : Binds X.K fd ps ds) (hd : Vals dvs ds)
    (hx : Passes CX X E) (I : Inv X pins σ H s) (r : Vals vs us)
    (h : ∀ x dx, H x = none → H dx = none → dx ≠ x → sp (.ref x :: (vs ++ dvs)) (upd (upd H dx (.own x)) x (.ins C dx [])) (fun v H2 => v = .non ∧ Q (.ref x) H2) E) :
    wpAny (model X.prog X.w) X.A (call (.ref C) us) (EP X pins σ Q) X.xe s := by
  have hq := h (s.heap.objs.size + 1) s.heap.objs.size (I.hok.fresh (Nat.le_succ _)) (I.hok.fresh (Nat.le_refl _)) (Nat.ne_of_lt (Nat.lt_succ_self _))
  have I2 := Inv.made (C := C) I
  have r2 : Vals (V.ref (s.heap.objs.size + 1) :: (vs ++ dvs)) (Value.ref (s.heap.objs.size + 1) :: (us ++ ds)) := .cons rfl (r.append hd)
  have hl : (Value.ref (s.heap.objs.size + 1) :: us ++ ds).length = ps.length := by
    have e := r2.length
    rw [F.len _ _ _ _ hq] at e
    exact e.symm
  refine wpAny_call (make_map (f := f) I.kIn M.makes M.init (beq_iff_eq.mp M.fn) (codeAny_mono (F.run _ X.stack _ _ ⟨Value.ref (s.heap.objs.size + 1) :: us, []⟩ (Value.ref (s.heap.objs.size + 1) :: (us ++ ds)) _ _ E (hr.make C us [])
    (I2.env0.make C us []) (hb _ (Value.ref (s.heap.objs.size + 1) :: us) I2.kIn hl) r2 hq) fun r s' hq' => ?_))
  cases r with
  | error e => exact hx pins σ _ _ e s' I2 hq'
  | ok fl =>
    cases fl with
    | ret u =>
      obtain ⟨v, H', I3, rv, ev, q3⟩ := I2.after hq'
      subst ev
      exact ⟨rv, ⟨V.ref (s.heap.objs.size + 1), H', I3, rfl, q3⟩⟩
    | next => exact False.elim hq'
    | brk => exact False.elim hq'
    | cont => exact False.elim hq'
theorem pe_make0 (M : Mk X.K C f) (F : FnOk X.prog X.w X.K X.mg X.base CX k f fd ps sp) (hr : Room (k + 1) X.A) (hg : Gl X x) (hm : X.mg x = some (.ref C)) (hb : Binds X.K fd ps ds) (hd : Vals dvs ds) (hx : Passes CX X E)
    (hdb : (x == ("__debug__" : Str)) = false := by decide) : PE X (.Call (.Name x p) [] [] pos) (tMake C sp dvs E tNil) := by
  intro pins s σ H Q I h
  refine wpAny_Call_Name_kw (ld_glob I hg hm ?_ hdb)
  exact PySem.W.callWith_K0 I.kIn M.kp (run_make (us := []) M F hr hb hd hx I .nil h)
end

/-! ### keywords -/
/-- the values of the keywords, from the left -/
noncomputable def PK (X : Cx) (kws : List Keyword) (t : TA) : Prop :=
  ∀ (pos : Pos) (pins : List (Addr × Obj)) (s : Shared) (σ : St) (H : Hp) (Q : List V → Hp → Prop), Inv X pins σ H s → t σ H Q → wpAny (model X.prog X.w) X.A (evalAll ((backToKw pos (keywordEach kws X.env)).map (·.2))) (AP X pins σ Q) X.xe s
section
variable {X : Cx} {CX : CXT} {k : Nat} {f C : Addr} {fd : FuncData} {ps ks : List Str} {sp : Sp} {E : XK} {x m : Str} {p pos apos kpos : Pos} {e o : Expr} {es : List Expr} {kws : List Keyword} {te ta : TE} {t tk : TA} {nm : Option Str}
theorem pk_nil : PK X [] tNil := fun _ _ _ _ H Q I h => wpAny_evalAll_nil ⟨[], H, I, .nil, h⟩
theorem pk_cons (ha : PE X e te) (hr : PK X kws t) : PK X (⟨nm, e, kpos⟩ :: kws) (tCons te t) := by
  intro pos pins s σ H Q I h
  show wpAny _ _ (evalAll ((do let v ← eval e X.env; standAt pos; pure v) :: (backToKw pos (keywordEach kws X.env)).map (·.2))) _ _ s
  refine wpAny_evalAll_cons (wpAny_bind (thn (ha pins s σ H _ I h) fun u s1 ⟨x, H1, I1, r1, q1⟩ => wpAny_bind (wpAny_standAt (wpAny_pure ?_))))
  exact thn (hr pos pins s1 σ H1 _ I1 q1) fun us s2 ⟨xs, H2, I2, r2, q2⟩ => ⟨x :: xs, H2, I2, .cons r1 r2, q2⟩

variable {g : List Value → List Value → List Value} {gV : List V → List V → List V}
end

/-! ### a def's body keeps its promise -/
/-- names: the parameters first -/
structure FnScope (N P : List Str) (sc : Scope) : Prop where
  kind : sc.kind = .function
  co : sc.isCoroutine = false
  gen : sc.isGenerator = false
  nd : N.Nodup
  pre : N.take P.length = P
  par : ∀ x ∈ P, sc.names.lookup x = some .local ∨ sc.names.lookup x = some .cell
  nofree : ∀ y ∈ sc.names, y.2 ≠ .free

theorem bindL_out {kindOf : Str → Option NameKind} {x : Str} : ∀ {binds : List (Str × Value)} {m : Str → Option Value}, (∀ v, (x, v) ∉ binds) → bindL kindOf binds m x = m x
  | [], _, _ => rfl
  | (n, v) :: r, m, h => by
    unfold bindL
    rw [bindL_out fun w hw => h w (List.mem_cons_of_mem _ hw)]
    split
    · have : x ≠ n := by rintro rfl; exact h v List.mem_cons_self
      simp [this]
    · rfl
theorem bindC_out {kindOf : Str → Option NameKind} {x : Str} : ∀ {binds : List (Str × Value)} {m : Str → Option Value}, (∀ v, (x, v) ∉ binds) → bindC kindOf binds m x = m x
  | [], _, _ => rfl
  | (n, v) :: r, m, h => by
    unfold bindC
    rw [bindC_out fun w hw => h w (List.mem_cons_of_mem _ hw)]
    split
    · rfl
    · have : x ≠ n := by rintro rfl; exact h v List.mem_cons_self
      simp [this]
theorem bindL_get {kindOf : Str → Option NameKind} {x : Str} {v : Value} : ∀ {P : List Str} {vs : List Value} {i : Nat} {m : Str → Option Value}, P.Nodup → P[i]? = some x → vs[i]? = some v → kindOf x = some .local →
    bindL kindOf (P.zip vs) m x = some v
  | [], _, _, _, _, h, _, _ => by simp at h
  | _ :: _, [], _, _, _, _, h, _ => by simp at h
  | p :: P, w :: vs, 0, m, nd, h1, h2, hk => by
    simp at h1 h2; subst h1; subst h2
    show bindL kindOf ((p, w) :: P.zip vs) m p = _
    unfold bindL
    rw [bindL_out fun v hv => (List.nodup_cons.mp nd).1 (List.of_mem_zip hv).1, if_pos hk]
    simp
  | p :: P, w :: vs, i + 1, m, nd, h1, h2, hk => by
    show bindL kindOf ((p, w) :: P.zip vs) m x = _
    unfold bindL
    exact bindL_get (i := i) (List.nodup_cons.mp nd).2 (by simpa using h1) (by simpa using h2) hk
theorem bindC_get {kindOf : Str → Option NameKind} {x : Str} {v : Value} : ∀ {P : List Str} {vs : List Value} {i : Nat} {m : Str → Option Value}, P.Nodup → P[i]? = some x → vs[i]? = some v → kindOf x ≠ some .local →
    bindC kindOf (P.zip vs) m x = some v
  | [], _, _, _, _, h, _, _ => by simp at h
  | _ :: _, [], _, _, _, _, h, _ => by simp at h
  | p :: P, w :: vs, 0, m, nd, h1, h2, hk => by
    simp at h1 h2; subst h1; subst h2
    show bindC kindOf ((p, w) :: P.zip vs) m p = _
    unfold bindC
    rw [bindC_out fun v hv => (List.nodup_cons.mp nd).1 (List.of_mem_zip hv).1, if_neg hk]
    simp
  | p :: P, w :: vs, i + 1, m, nd, h1, h2, hk => by
    show bindC kindOf ((p, w) :: P.zip vs) m x = _
    unfold bindC
    exact bindC_get (i := i) (List.nodup_cons.mp nd).2 (by simpa using h1) (by simpa using h2) hk

/-- the names' values at the entry -/
noncomputable def start (N : List Str) (vs : List V) : St := vs.map some ++ List.replicate (N.length - vs.length) none

/-- the context of a def's body, at its entry; an exception leaves the frame, then lies as CX says -/
noncomputable def cxOf (CX : CXT) (P : Program) (w : World) (K : PySem.W.Frag) (mg : Str → Option Value) (base : Heap) (N : List Str) (qual : Str) (scope : Scope) (f : Addr) (cd : Value) (A : Around) (outer : List Env) (s : Shared) (H : Hp) (E : XK) : Cx where
  prog := P
  w := w
  K := K
  mg := mg
  base := base
  A := A.deeper (envOfC qual scope s.heap.objs.size f cd)
  N := N
  s₀ := s
  H₀ := H
  env := envOfC qual scope s.heap.objs.size f cd
  outer := outer
  stack := envOfC qual scope s.heap.objs.size f cd :: outer
  ex := []
  calm := true
  fn := fun _ => true
  pn := []
  xe := fun e s' => wpAny (model P w) (A.deeper (envOfC qual scope s.heap.objs.size f cd)) (leaving (envOfC qual scope s.heap.objs.size f cd) e) (fun _ s'' => CX outer H s E e s'') (fun e' s'' => CX outer H s E e' s'') s'

theorem cell_has {sc : Scope} {n : Nat} {x : Str} (h : sc.names.lookup x = some .cell) : ∃ c, (cellsFrom n sc.names []).lookup x = some c := by
  have q := PySem.W.cellsFrom_some sc.names n [] (.inl h)
  exact Option.isSome_iff_exists.mp q

theorem inv_start {CX : CXT} {P : Program} {w : World} {K : PySem.W.Frag} {mg : Str → Option Value} {base : Heap} {N ps : List Str} {qual : Str} {scope : Scope} {f : Addr} {cd : Value} {A : Around} {outer : List Env} {s s1 : Shared} {H : Hp} {E : XK} {us : List Value} {vs : List V}
    (S : FnScope N ps scope) (hd : A.handled = none) (e0 : Env0 P w K mg base A outer s H) (hl : vs.length = ps.length) (r : Vals vs us)
    (x : InCallC s s.heap.objs.size (bindL (envOfC qual scope s.heap.objs.size f cd).kindOf (ps.zip us) fun _ => none) (cellsFrom (s.heap.objs.size + 1) scope.names []) (bindC (envOfC qual scope s.heap.objs.size f cd).kindOf (ps.zip us) fun _ => none) s1) :
    Inv (cxOf CX P w K mg base N qual scope f cd A outer s H E) [] (start N vs) H s1 := by
  have hpl : ps.length ≤ N.length := by have := congrArg List.length S.pre; rw [List.length_take] at this; omega
  obtain ⟨h1, tk, rfl, hk⟩ := x.done
  have noA : ∀ b : Addr, b ∉ (cxOf CX P w K mg base N qual scope f cd A outer s H E).ex := fun b z => absurd (show b ∈ ([] : List Addr) from z) (by simp)
  refine ⟨⟨e0.mod, S.kind, rfl, rfl, Nat.le_refl _, fun y z c h1 h2 => ?_, fun y hy => ?_, fun y c _ h => ?_, fun _ => hd, Around.frames_deeper e0.frames, .inr ⟨rfl, rfl⟩, fun b z => absurd z (noA b), e0.bs, e0.bsz, fun b _ _ => noA b, fun b z => absurd z (noA b), e0.funs, e0.frf⟩,
    rfl, e0.bare, Un.kept hk, ⟨_, x.toInCall.ns, fun i y v h1 h2 h3 => ?_⟩, fun y c h => ⟨_, x.cell y c h⟩, e0.hok.fresh (Nat.le_refl _), fun y c h => ?_, fun p hp => absurd (show p ∈ ([] : List (Addr × Obj)) from hp) (by simp), e0.hok.kept hk, ?_⟩
  · exact name_of_addr x.apart (PySem.mem_of_lookup h1) (PySem.mem_of_lookup h2)
  · have hy : scope.names.lookup y = some .cell ∨ scope.names.lookup y = some .free := hy
    rcases hy with hy | hy
    · exact cell_has hy
    · exact absurd rfl (S.nofree _ (PySem.mem_of_lookup hy))
  · exact Nat.le_of_lt (x.above y c (PySem.mem_of_lookup h))
  · have hi : i < vs.length := by
      unfold start at h2
      by_cases hi : i < vs.length
      · exact hi
      · rw [List.getElem?_append_right (by simpa using hi)] at h2
        rw [List.getElem?_replicate] at h2
        split at h2 <;> cases h2
    have ha : vs[i]? = some v := by
      unfold start at h2
      rw [List.getElem?_append_left (by simpa using hi), List.getElem?_map] at h2
      cases e : vs[i]? with
      | none => rw [e] at h2; cases h2
      | some a => rw [e] at h2; cases h2; rfl
    obtain ⟨u, hu, rv⟩ := r.get ha
    have hp : ps[i]? = some y := by
      rw [← S.pre, List.getElem?_take_of_lt (by omega)]; exact h1
    have ndP : ps.Nodup := by rw [← S.pre]; exact S.nd.sublist (List.take_sublist _ _)
    refine ⟨u, rv, ?_⟩
    rcases S.par y (List.mem_of_getElem? hp) with k | k
    · exact .inl ⟨k, bindL_get ndP hp hu k⟩
    · obtain ⟨c, e⟩ := cell_has (n := s.heap.objs.size + 1) k
      refine .inr ⟨.inl k, c, e, ?_⟩
      have q := x.cell y c e
      rw [bindC_get ndP hp hu (by show scope.names.lookup y ≠ _; rw [k]; decide)] at q
      exact q
  · exact e0.hok.fresh (Nat.le_of_lt (x.above y c (PySem.mem_of_lookup h)))
  · unfold start
    show _ = N.length
    rw [List.length_append, List.length_map, List.length_replicate]
    omega

/-- THE RULE: a def (or a method) of the text, by its body. The body's reading t is chosen for each entry; it is run at the parameters' values -/
theorem fn_of {CX : CXT} {P : Program} {w : World} {K : PySem.W.Frag} {mg : Str → Option Value} {base : Heap} {k : Nat} {f : Addr} {name qual : Str} {params : Arguments} {body : List Stmt} {scope : Scope} {dV kV doc pm cdv ct oc : Value} {an od : Option Addr}
    {osl : Array (Option Value)} {N ps : List Str} {sp : Sp} (lk : K.lookup f = some ⟨oc, od, .func (PySem.W.fnOf name qual params body scope dV kV doc pm an cdv ct), osl⟩) (hcd : PySem.W.codeIn K cdv qual = true) (S : FnScope N ps scope)
    (len : ∀ vs H Q E, sp vs H Q E → vs.length = ps.length)
    (hbody : ∀ (A : Around) (outer : List Env) (s : Shared) (H : Hp) (vs : List V) (Q : VK) (E : XK), Room k (A.deeper (envOfC qual scope s.heap.objs.size f cdv)) → sp vs H Q E →
      ∃ t, PSs (cxOf CX P w K mg base N qual scope f cdv A outer s H E) body t ∧ t { nx := fun _ H' => Q .non H', rt := Q } (start N vs) H) :
    FnOk P w K mg base CX (k + 1) f (PySem.W.fnOf name qual params body scope dV kV doc pm an cdv ct) ps sp := by
  refine ⟨len, fun A outer s H args us vs Q E hr e0 hb r hsp => ?_⟩
  have hl := len _ _ _ _ hsp
  have KX : K.In s.heap := e0.mod.kin.keeps fun b o e => (e0.bs b o e).1
  have lim : s.heap.NoLimit := e0.mod.nolimit.keeps fun b o e => (e0.bs b o e).1
  have hkind : ∀ y ∈ ps.zip us, scope.names.lookup y.1 = some .local ∨ (scope.names.lookup y.1 = some .cell ∧ ((cellsFrom (s.heap.objs.size + 1) scope.names []).lookup y.1).isSome = true) := fun ⟨n, v⟩ hy => by
    rcases S.par n (List.of_mem_zip hy).1 with q | q
    · exact .inl q
    · exact .inr ⟨q, PySem.W.cellsFrom_some _ _ _ (.inl q)⟩
  refine codeAny_call_function hr.depth (KX _ _ lk) rfl S.co S.gen rfl (PySem.W.codeRec_of KX hcd) (hb _ _ _ _ ?_)
  refine wpAny_newFunctionEnv_cells S.kind hkind fun env he s1 x => ?_
  subst he
  refine ⟨lim.keeps x.toInCall.keep, codeAny_func ?_⟩
  obtain ⟨t, ht, hq⟩ := hbody A outer s H vs Q E (hr.deeper _) hsp
  have I : Inv (cxOf CX P w K mg base N qual scope f cdv A outer s H E) [] (start N vs) H s1 := inv_start S hr.hd e0 hl r x
  refine wpAny_mono (ht [] s1 (start N vs) H _ I hq) (fun fl s' hs => ?_) fun e s' hs => hs
  have fin : ∀ {σ' : St} {H' : Hp} {v : V} {u : Value}, Inv (cxOf CX P w K mg base N qual scope f cdv A outer s H E) [] σ' H' s' → RelV v u → Q v H' → CE outer P w H s Q u s' :=
    fun {σ' H' v u} J rv q => ⟨v, H', J.os, J.bare, J.base, J.hok, rv, q⟩
  cases fl with
  | ret u =>
    obtain ⟨v, σ', H', J, rv, q⟩ := hs
    exact fin J rv q
  | next =>
    obtain ⟨σ', H', J, q⟩ := hs
    exact fin (v := V.non) (u := Value.none) J rfl q
  | brk =>
    obtain ⟨_, _, _, q⟩ := hs
    exact False.elim q
  | cont =>
    obtain ⟨_, _, _, q⟩ := hs
    exact False.elim q
end L2

namespace L2
open PySem PySem.Spec PyProof.Rows
section
variable {X : Cx} {x : Str} {p pos : Pos} {e : Expr} {es : List Expr} {t : TA} {id T : String} {r : List V → Hp → VK → Prop}

noncomputable def tCB (r : List V → Hp → VK → Prop) (t : TA) : TE := fun σ H Q => t σ H fun vs H1 => r vs H1 Q
/-- f(e, ..), f a built-in function -/
theorem pe_callB (hc : CallR X (.builtin id) r) (hg : Gl X x) (hm : X.mg x = none) (hv : bootBuiltins x = some (.builtin id)) (ha : PA X (e :: es) t) (hn : x ≠ "__name__" := by decide) (hdb : (x == ("__debug__" : Str)) = false := by decide)
    (he : starEach (e :: es) X.env = (false, eval e X.env) :: starEach es X.env := by rfl) (hpl : (backTo pos (starEach es X.env)).any (·.1) = false := by rfl) : PE X (.Call (.Name x p) (e :: es) [] pos) (tCB r t) := by
  intro pins s σ H Q I h
  refine wpAny_Call_Name_kw (ld_blt I hg hm hv ?_ hn hdb)
  exact PyProof.Rows.callWith_builtin1 (thn (ha pos pins s σ H _ I h) fun us s1 ⟨vs, H1, I1, r1, q1⟩ => hc pins s1 σ H1 vs us Q I1 r1 q1) he hpl
/-- T(e, ..), T a built-in type -/
theorem pe_callTy (hc : CallR X (.type T) r) (hg : Gl X x) (hm : X.mg x = none) (hv : bootBuiltins x = some (.type T)) (ha : PA X (e :: es) t) (hn : x ≠ "__name__" := by decide) (hdb : (x == ("__debug__" : Str)) = false := by decide)
    (he : starEach (e :: es) X.env = (false, eval e X.env) :: starEach es X.env := by rfl) (hpl : (backTo pos (starEach es X.env)).any (·.1) = false := by rfl) : PE X (.Call (.Name x p) (e :: es) [] pos) (tCB r t) := by
  intro pins s σ H Q I h
  refine wpAny_Call_Name_kw (ld_blt I hg hm hv ?_ hn hdb)
  exact PyProof.Rows.callWith_type1 (thn (ha pos pins s σ H _ I h) fun us s1 ⟨vs, H1, I1, r1, q1⟩ => hc pins s1 σ H1 vs us Q I1 r1 q1) he hpl
end
end L2

namespace HT
open PySem PyProof.Rows

section
open PySem.SeqAt
open PySem.AutoSeq1 (wpAny_loadPart')
open PySem.MeetsSeq PySem.MeetsSeq2 PySem.MeetsSeq3

end

section
variable {prog : Program} {w : World} {A : Around} {E : Value → Shared → Prop} {s : Shared}

/-! ### t[a:b], not the whole -/
/-- a slice's bound as a place among n (d where it is left out) -/
noncomputable def sIx (n d : Nat) : Option Int → Nat
  | none => d
  | some v => if v < 0 then (v + (n : Int)).toNat else min v.toNat n
theorem sIx_none (n d : Nat) : sIx n d none = d := rfl
theorem sIx_nat (n d k : Nat) : sIx n d (some (k : Int)) = min k n := by
  show (if (k : Int) < 0 then ((k : Int) + (n : Int)).toNat else min (k : Int).toNat n) = min k n
  rw [if_neg (by omega), Int.toNat_natCast]
end
end HT

namespace L2
open PySem PySem.Spec PyProof.Rows

/-! ### the parts of a slice -/
noncomputable abbrev TO := St → Hp → (Option Int → Hp → Prop) → Prop
/-- a slice's part (left out, or an int) -/
noncomputable def PO (X : Cx) (e : Option Expr) (t : TO) : Prop :=
  ∀ (pins : List (Addr × Obj)) (s : Shared) (σ : St) (H : Hp) (Q : Option Int → Hp → Prop), Inv X pins σ H s → t σ H Q →
    wpAny (model X.prog X.w) X.A (evalPart e X.env) (fun u s' => ∃ o H', Inv X pins σ H' s' ∧ IsPart u o ∧ Q o H') X.xe s
noncomputable def tNoPart : TO := fun _ H Q => Q none H
noncomputable def tPart (t : TE) : TO := fun σ H Q => t σ H fun x H1 => ∃ i, x = .int i ∧ Q (some i) H1

theorem intsAre_of {ns : List Int} : ∀ {us : List Value}, Vals (ns.map V.int) us → IntsAre us ns := by
  induction ns with
  | nil => intro us r; rw [List.map_nil] at r; cases r; exact .nil
  | cons n ns ih =>
    intro us r
    rw [List.map_cons] at r
    cases r with
    | cons r1 r2 =>
      obtain ⟨t, e⟩ := r1
      subst e
      exact .cons n t (ih r2)

section
variable {X : Cx} {e : Expr} {te : TE} {lo hi : Option Expr} {tl th : TO} {pos p2 : Pos}

theorem po_none : PO X none tNoPart := by
  intro pins s σ H Q I h
  rw [evalPart_none]
  exact wpAny_pure ⟨none, H, I, .none, h⟩
theorem po_some (h : PE X e te) : PO X (some e) (tPart te) := by
  intro pins s σ H Q I hw
  rw [evalPart_some]
  refine thn (h pins s σ H _ I hw) fun u s1 ⟨x, H1, I1, r1, q1⟩ => ?_
  obtain ⟨i, rfl, q⟩ := q1
  obtain ⟨t, rfl⟩ := r1
  exact ⟨some i, H1, I1, .int i t, q⟩

/-- what a slice of a value is, by values: the slice object stands at sl -/
noncomputable def SlR (X : Cx) (r : V → Option Int → Option Int → Hp → VK → Prop) : Prop :=
  ∀ (pins : List (Addr × Obj)) (s : Shared) (σ : St) (H : Hp) (x : V) (v vl vu : Value) (lo hi : Option Int) (sl : Addr) (Q : VK), Inv X pins σ H s → RelV x v → s.heap.IsSliceOf sl vl vu .none → IsPart vl lo → IsPart vu hi → r x lo hi H Q →
    ∃ T id, typeLookup (.type T) "__getitem__" = pure (some (.builtin id)) ∧ s.TypeIs v T ∧ wpAny (model X.prog X.w) X.A (getItem v (.ref sl)) (EP X pins σ Q) X.xe s
noncomputable def tSl (r : V → Option Int → Option Int → Hp → VK → Prop) (te : TE) (tl th : TO) : TE := fun σ H Q => te σ H fun x H1 => tl σ H1 fun l H2 => th σ H2 fun u H3 => r x l u H3 Q
/-- a[lo:hi], any a -/
theorem pe_slice {r : V → Option Int → Option Int → Hp → VK → Prop} (hr : SlR X r) (he : PE X e te) (hl : PO X lo tl) (hu : PO X hi th) : PE X (.Subscript e (.Slice lo hi none p2) pos) (tSl r te tl th) := by
  intro pins s σ H Q I h
  refine Subscript_ (thn (he pins s σ H _ I h) fun v s1 ⟨x, H1, I1, r1, q1⟩ => ?_)
  refine wpAny_Slice (thn (hl pins s1 σ H1 _ I1 q1) fun vl s2 ⟨l, H2, I2, pl, q2⟩ => thn (hu pins s2 σ H2 _ I2 q2) fun vu s3 ⟨u, H3, I3, pu, q3⟩ => ?_)
  rw [evalPart_none]
  refine wpAny_pure ?_
  have I4 : Inv X pins σ H3 { s3 with heap := s3.heap.push { cls := .type "slice", data := .fields #[vl, vu, .none] } } := I3.kept (t' := s3.toks) fun b ob q => Heap.get?_push_of_some _ q
  obtain ⟨T, id, hT, ht, hg⟩ := hr pins { s3 with heap := s3.heap.push { cls := .type "slice", data := .fields #[vl, vu, .none] } } σ H3 x v vl vu l u s3.heap.objs.size Q I4 r1 (Heap.IsSliceOf.new ..) pl pu q3
  show wpAny (model X.prog X.w) X.A (subscriptTail e (.Slice lo hi none p2) v (.ref s3.heap.objs.size)) (EP X pins σ Q) X.xe { s3 with heap := s3.heap.push { cls := .type "slice", data := .fields #[vl, vu, .none] } }
  exact tail_any (ops := [.ref s3.heap.objs.size, v]) ht hT hg (by with_unfolding_all rfl)

/-- the items of xs[lo:hi] -/
noncomputable def cutV (xs : List V) (lo hi : Option Int) : List V := (xs.drop (HT.sIx xs.length 0 lo)).take (HT.sIx xs.length xs.length hi - HT.sIx xs.length 0 lo)
theorem cutV_length (xs : List V) (lo hi : Option Int) : (cutV xs lo hi).length ≤ xs.length := by
  unfold cutV
  rw [List.length_take, List.length_drop]
  omega
/-! ### t < u, t + u -/
end
end L2

namespace L2
open PySem PySem.Spec PyProof.Rows

/-! ### places -/
/-- the place that an index of any sign means -/
noncomputable def ixN (n : Nat) (i : Int) : Option Nat := if 0 ≤ i then (if i < n then some i.toNat else none) else if -(n : Int) ≤ i then some (i + n).toNat else none
noncomputable def atI {α : Type} (xs : List α) (i : Int) : Option α := (ixN xs.length i).bind fun j => xs[j]?
theorem ixN_seq {n : Nat} {i : Int} {j : Nat} (h : ixN n i = some j) : seqIndex? i n = some j ∧ j < n ∧ -(n : Int) ≤ i ∧ i < n := by
  unfold ixN at h
  by_cases h0 : 0 ≤ i
  · rw [if_pos h0] at h
    by_cases h1 : i < n
    · rw [if_pos h1] at h
      have e : i.toNat = j := Option.some.inj h
      exact ⟨by rw [seqIndex_of h0 h1, e], by omega, by omega, h1⟩
    · rw [if_neg h1] at h; cases h
  · rw [if_neg h0] at h
    by_cases h1 : -(n : Int) ≤ i
    · rw [if_pos h1] at h
      have e : (i + n).toNat = j := Option.some.inj h
      exact ⟨by rw [seqIndex_neg (by omega) h1, e], by omega, h1, by omega⟩
    · rw [if_neg h1] at h; cases h
theorem atI_get {α : Type} {xs : List α} {i : Int} {v : α} (h : atI xs i = some v) : ∃ j, seqIndex? i xs.length = some j ∧ xs[j]? = some v ∧ j < xs.length ∧ -(xs.length : Int) ≤ i ∧ i < xs.length := by
  unfold atI at h
  cases e : ixN xs.length i with
  | none => rw [e] at h; cases h
  | some j =>
    rw [e] at h
    obtain ⟨h1, h2, h3, h4⟩ := ixN_seq e
    exact ⟨j, h1, h, h2, h3, h4⟩
theorem atI_nat {α : Type} {xs : List α} {j : Nat} {v : α} (h : xs[j]? = some v) : atI xs (j : Int) = some v := by
  have hj : j < xs.length := (List.getElem?_eq_some_iff.mp h).1
  have e : ixN xs.length (j : Int) = some j := by
    unfold ixN
    rw [if_pos (by omega), if_pos (by omega)]; simp
  unfold atI; rw [e]; exact h
/-! ### what may be subscripted -/
/-- what stands as an index of a plain subscript -/
noncomputable def PlainIx (b : Expr) : Prop := ∀ o i, subscripted b false o i = operate [o, i] (getItem o i)
/-- a subscript by values -/
noncomputable def IxR (X : Cx) (r : R2) : Prop :=
  ∀ (value slice : Expr) (pins : List (Addr × Obj)) (s : Shared) (σ : St) (H : Hp) (x y : V) (v u : Value) (Q : VK), Inv X pins σ H s → RelV x v → RelV y u → r x y H Q →
    subscripted slice false v u = operate [v, u] (getItem v u) → wpAny (model X.prog X.w) X.A (subscriptTail value slice v u) (EP X pins σ Q) X.xe s
/-- a call of a builtin's method by values: the receiver, the arguments -/
noncomputable def MtR (X : Cx) (id : String) (r : V → List V → Hp → VK → Prop) : Prop :=
  ∀ (pins : List (Addr × Obj)) (s : Shared) (σ : St) (H : Hp) (x : V) (xs : List V) (v : Value) (us : List Value) (Q : VK), Inv X pins σ H s → RelV x v → Vals xs us → r x xs H Q →
    wpAny (model X.prog X.w) X.A (call (.builtin id) (v :: us)) (EP X pins σ Q) X.xe s
section
variable {X : Cx} {a b : Expr} {ta tb : TE} {pos : Pos}
/-- a[b] -/
theorem pe_ix {r : R2} (hr : IxR X r) (ha : PE X a ta) (hb : PE X b tb) (hs : PlainIx b) : PE X (.Subscript a b pos) (tOp r ta tb) := by
  intro pins s σ H Q I h
  exact Subscript_ (binT ha hb I h fun v u s2 x y H2 I2 rx ry q => hr a b pins s2 σ H2 x y v u Q I2 rx ry q (hs _ _))

noncomputable def rIxL (K : PySem.W.Frag) : R2 := fun x y H Q => ∃ p xs i v, x = .ref p ∧ y = .int i ∧ SqL K H p xs ∧ atI xs i = some v ∧ Q v H
noncomputable def rIxT (K : PySem.W.Frag) : R2 := fun x y H Q => ∃ p xs i v, x = .ref p ∧ y = .int i ∧ SqT K H p xs ∧ atI xs i = some v ∧ Q v H
theorem ix_list : IxR X (rIxL X.K) := by
  intro value slice pins s σ H x y v u Q I rx ry h hs
  obtain ⟨p, xs, i, z, rfl, rfl, hq, he, q⟩ := h
  cases rx
  obtain ⟨t, rfl⟩ := ry
  obtain ⟨its, r, pl, hz⟩ := I.list hq
  obtain ⟨j, h1, h2, h3, h4, h5⟩ := atI_get he
  obtain ⟨w, ew, rw'⟩ := r.get h2
  have hl := r.length
  have hn := line63
  have fin : EP X pins σ Q w s := ⟨z, H, I, rw', q⟩
  by_cases h0 : 0 ≤ i
  · have hj : i.toNat = j := by
      rw [seqIndex_of h0 h5] at h1
      exact Option.some.inj h1
    exact item_listR pl.isList h0 (by omega) (by rw [hj]; simpa using ew) fin hs
  · have hj : (i + (its.toArray.size : Int)).toNat = j := by
      rw [seqIndex_neg (by omega) h4] at h1
      rw [List.size_toArray, ← hl]
      exact Option.some.inj h1
    exact subscriptTail_builtinR (x := w) pl.isList.typeIs slot_list_getitem.lookup
      (wpAny_getItem_list_neg (Q := fun r s' => r = w ∧ EP X pins σ Q r s') pl.isList (by omega) (by rw [List.size_toArray] <;> omega) (by omega) (by rw [hj]; simpa using ew) ⟨rfl, fin⟩) hs
theorem ix_tup : IxR X (rIxT X.K) := by
  intro value slice pins s σ H x y v u Q I rx ry h hs
  obtain ⟨p, xs, i, z, rfl, rfl, hq, he, q⟩ := h
  cases rx
  obtain ⟨t, rfl⟩ := ry
  obtain ⟨its, r, pl, hz⟩ := I.tuple hq
  obtain ⟨j, h1, h2, h3, h4, h5⟩ := atI_get he
  obtain ⟨w, ew, rw'⟩ := r.get h2
  have hl := r.length
  have hn := line63
  have fin : EP X pins σ Q w s := ⟨z, H, I, rw', q⟩
  exact subscriptTail_builtinR (x := w) pl.typeIs slot_tuple_getitem.lookup
    (getItem_tuple (j := j) (Q := fun r s' => r = w ∧ EP X pins σ Q r s') pl (by omega) (by omega) (by rw [List.size_toArray, ← hl]; exact h1) (by simpa using ew) ⟨rfl, fin⟩) hs
/-! ### xs[i] = v, any sign -/
/-! ### slices -/
theorem slice_bounds (lo hi : Option Int) (n : Nat) : (sliceBounds lo hi none n).1 = ((HT.sIx n 0 lo : Nat) : Int) ∧ (sliceBounds lo hi none n).2.1 = ((HT.sIx n n hi : Nat) : Int) ∧ (sliceBounds lo hi none n).2.2 = 1 := by
  refine ⟨?_, ?_, rfl⟩
  · cases lo with
    | none => simp [sliceBounds, HT.sIx]
    | some i =>
      simp only [sliceBounds, HT.sIx, Option.getD_none, show (1 : Int) > 0 by decide, if_true]
      by_cases h : i < 0
      · simp only [h, if_true] <;> omega
      · simp only [h, if_false] <;> omega
  · cases hi with
    | none => simp [sliceBounds, HT.sIx]
    | some i =>
      simp only [sliceBounds, HT.sIx, Option.getD_none, show (1 : Int) > 0 by decide, if_true]
      by_cases h : i < 0
      · simp only [h, if_true] <;> omega
      · simp only [h, if_false] <;> omega
theorem slicePick_cut (its : List Value) (lo hi : Option Int) : slicePick its.toArray lo hi none = ((its.drop (HT.sIx its.length 0 lo)).take (HT.sIx its.length its.length hi - HT.sIx its.length 0 lo)).toArray := by
  obtain ⟨h1, h2, h3⟩ := slice_bounds lo hi its.toArray.size
  unfold slicePick
  rw [h1, h2, h3]
  simp only [sliceRange_one, pick_run, List.size_toArray] <;> rfl
/-- xs[lo:hi] of a list: a new list -/
noncomputable def rSlL (K : PySem.W.Frag) : V → Option Int → Option Int → Hp → VK → Prop := fun x lo hi H Q => ∃ a xs, x = .ref a ∧ SqL K H a xs ∧ ∀ p, H p = none → Q (.ref p) (upd H p (.lst (cutV xs lo hi)))
theorem sl_list : SlR X (rSlL X.K) := by
  intro pins s σ H x v vl vu lo hi sl Q I rx hs pl pu h
  obtain ⟨a, xs, rfl, hx, q⟩ := h
  cases rx
  obtain ⟨its, r, ht, hz⟩ := I.list hx
  have hlen := r.length
  refine ⟨"list", _, slot_list_getitem.lookup, ht.isList.typeIs, ?_⟩
  refine wpAny_getItem_list_slice ht.isList hs pl pu .none (by simp) ?_ (by rw [List.size_toArray] <;> omega)
  rw [slicePick_cut, ← hlen]
  refine ⟨.ref s.heap.objs.size, _, I.laid (t' := s.toks) (o := .lst (cutV xs lo hi)) (fun b ob q => Heap.get?_push_of_some _ q) (Nat.le_refl _) ?_, rfl, q _ (I.hok.fresh (Nat.le_refl _))⟩
  exact ⟨Nat.le_trans (cutV_length xs lo hi) hz, _, 0, (r.drop (HT.sIx xs.length 0 lo)).take (HT.sIx xs.length xs.length hi - HT.sIx xs.length 0 lo), Heap.get?_push_size _ rfl⟩

/-! ### in, not in: flat items -/
/-! ### len, list(x), tuple(x) of any list or tuple that is read -/
theorem call_len_seq : CallR X (.builtin "len") (fun xs H Q => ∃ p ys, xs = [.ref p] ∧ (SqL X.K H p ys ∨ SqT X.K H p ys) ∧ Q (.int ys.length) H) := by
  intro pins s σ H xs us Q I r h
  obtain ⟨p, ys, rfl, hq, q⟩ := h
  obtain ⟨u, rfl, rx⟩ := vals1 r
  cases rx
  have hn := line63
  rcases hq with hq | hq
  · obtain ⟨its, r', pl, hz⟩ := I.list hq
    have hlen := r'.length
    exact Calls.call_len_list pl.isList (by simp only [List.size_toArray] <;> omega) ⟨.int ys.length, H, I.tok _, ⟨s.toks + 1, by rw [List.size_toArray, hlen]⟩, q⟩
  · obtain ⟨its, r', pl, hz⟩ := I.tuple hq
    have hlen := r'.length
    exact len_tuple pl (by simp only [List.size_toArray] <;> omega) ⟨.int ys.length, H, I.tok _, ⟨s.toks + 1, by rw [List.size_toArray, hlen]⟩, q⟩
/-! ### the call of a builtin's method: o.m(..) -/
/-- the value is of that builtin type -/
noncomputable def tyV (K : PySem.W.Frag) (T : String) (x : V) (H : Hp) : Prop := match x with
  | .str _ => T = "str"
  | .int _ => T = "int"
  | .ref p => (T = "list" ∧ ∃ xs, SqL K H p xs) ∨ (T = "tuple" ∧ ∃ o, K.lookup p = some o ∧ o.cls = .type "tuple" ∧ o.dict = none) ∨
      (T = "dict" ∧ ((∃ kvs, H p = some (.dK kvs)) ∨ ∃ kvs, H p = some (.dT kvs))) ∨ (T = "set" ∧ ∃ S n, H p = some (.set S n))
  | _ => False
theorem tyV_is {pins : List (Addr × Obj)} {σ : St} {H : Hp} {s : Shared} {T : String} {x : V} {v : Value} (I : Inv X pins σ H s) (r : RelV x v) (ty : tyV X.K T x H) :
    s.TypeIs v T ∧ ∀ a, v = .ref a → ∃ ob, s.heap.get? a = some ob ∧ ob.dict = none := by
  cases x with
  | str z =>
    obtain ⟨t, rfl⟩ := r
    cases (show T = "str" from ty)
    exact ⟨typeIs_str s z t, fun _ e => nomatch e⟩
  | int i =>
    obtain ⟨t, rfl⟩ := r
    cases (show T = "int" from ty)
    exact ⟨typeIs_int s i t, fun _ e => nomatch e⟩
  | ref p =>
    cases r
    rcases ty with ⟨rfl, xs, hq⟩ | ⟨rfl, o, hk, hc, hd⟩ | ⟨rfl, hk⟩ | ⟨rfl, S, n, hk⟩
    · obtain ⟨its, _, pl, _⟩ := I.list hq
      refine ⟨pl.isList.typeIs, fun a e => ?_⟩
      cases e
      obtain ⟨o, n, e, c, hd, _⟩ := pl
      exact ⟨o, e, hd⟩
    · refine ⟨⟨o, I.kIn p o hk, hc⟩, fun a e => ?_⟩
      cases e
      exact ⟨o, I.kIn _ o hk, hd⟩
    · have z : ∃ o, s.heap.get? p = some o ∧ o.ExactDict := by
        rcases hk with ⟨kvs, hk⟩ | ⟨kvs, hk⟩
        · obtain ⟨_, _, _, _, o, _, _, e, ex, _⟩ := I.hok p _ hk
          exact ⟨o, e, ex⟩
        · obtain ⟨_, _, _, _, o, _, _, e, ex, _⟩ := I.hok p _ hk
          exact ⟨o, e, ex⟩
      obtain ⟨o, e, ex⟩ := z
      refine ⟨⟨o, e, ex.1⟩, fun a e2 => ?_⟩
      cases e2
      exact ⟨o, e, ex.2.1⟩
    · obtain ⟨o, _, _, _, e, ex, _⟩ := I.hok p _ hk
      refine ⟨⟨o, e, ex.1⟩, fun a e2 => ?_⟩
      cases e2
      exact ⟨o, e, ex.2.1⟩
  | _ => exact False.elim ty
noncomputable def tBM0 (K : PySem.W.Frag) (T : String) (r : V → List V → Hp → VK → Prop) (to : TE) : TE := fun σ H Q => to σ H fun x H1 => tyV K T x H1 ∧ r x [] H1 Q
noncomputable def tBM (K : PySem.W.Frag) (T : String) (r : V → List V → Hp → VK → Prop) (to : TE) (t : TA) : TE := fun σ H Q => to σ H fun x H1 => tyV K T x H1 ∧ t σ H1 fun xs H2 => r x xs H2 Q
variable {o e : Expr} {es : List Expr} {to : TE} {t : TA} {name : Str} {apos cpos : Pos} {T id : String} {r : V → List V → Hp → VK → Prop}
theorem pe_bm0 (pa : PlainAttrs T) (slot : Slot T name id) (hty : typeOf (.builtin id) = pure (.type "method_descriptor")) (hm : MtR X id r) (ho : PE X o to)
    (hbase : attributeBase o name X.env (eval o X.env) = eval o X.env := by rfl) (hline : (apos.endLine == cpos.line) = true := by rfl) : PE X (.Call (.Attribute o name apos) [] [] cpos) (tBM0 X.K T r to) := by
  intro pins s σ H Q I h
  refine wpAny_Call_method0_late hbase hline (thn (ho pins s σ H _ I h) fun v s1 ⟨x, H1, I1, r1, ty, q1⟩ => ?_)
  obtain ⟨h1, h2⟩ := tyV_is I1 r1 ty
  exact ⟨T, id, pa, slot, hty, h1, h2, Calls.callWith_builtin rfl (PySem.evalArgs_none (hm pins s1 σ H1 x [] v [] Q I1 r1 .nil q1))⟩
theorem pe_bm (pa : PlainAttrs T) (slot : Slot T name id) (hty : typeOf (.builtin id) = pure (.type "method_descriptor")) (hm : MtR X id r) (ho : PE X o to) (ha : PA X (e :: es) t)
    (hbase : attributeBase o name X.env (eval o X.env) = eval o X.env := by rfl)
    (hfew : ((backTo cpos (starEach (e :: es) X.env)).all (fun x => !x.1) && (backToKw cpos (keywordEach [] X.env)).all (fun x => x.1.isSome)
      && decide ((e :: es).length + ([] : List Keyword).length + (if ([] : List Keyword).isEmpty then 0 else 1) < 30)) = true := by rfl)
    (hline : (apos.endLine == cpos.line) = true := by rfl) (hs : starEach (e :: es) X.env = (false, eval e X.env) :: starEach es X.env := by rfl) (hplain : (backTo cpos (starEach es X.env)).any (·.1) = false := by rfl) :
    PE X (.Call (.Attribute o name apos) (e :: es) [] cpos) (tBM X.K T r to t) := by
  intro pins s σ H Q I h
  refine wpAny_Call_method_late hbase hfew hline rfl (thn (ho pins s σ H _ I h) fun v s1 ⟨x, H1, I1, r1, ty, q1⟩ => ?_)
  obtain ⟨h1, h2⟩ := tyV_is I1 r1 ty
  refine ⟨T, id, pa, slot, hty, h1, h2, ?_⟩
  have hA := ha cpos pins s1 σ H1 _ I1 q1
  rw [hs] at hA ⊢
  refine Calls.callWith_builtin (by show (false || (backTo cpos (starEach es X.env)).any (·.1)) = false; rw [hplain] <;> rfl) (Calls.evalArgs_plain ?_)
  exact thn hA fun us s2 ⟨vs, H2, I2, r2, q2⟩ => hm pins s2 σ H2 x vs v us Q I2 r1 r2 q2
/- xs.append(e), list.index on a module's tuple .. are MtR facts of 06m -/
end
end L2

namespace L2
open PySem PySem.Spec PyProof.Rows

noncomputable def MtM (X : Cx) (id : String) (r : V → List V → Hp → VK → Prop) : Prop :=
  ∀ (pins : List (Addr × Obj)) (s : Shared) (σ : St) (H : Hp) (x : V) (xs : List V) (v : Value) (us : List Value) (Q : VK), Inv X pins σ H s → RelV x v → Vals xs us → r x xs H Q →
    wpAny (model X.prog X.w) X.A (call (.builtin id) (v :: us)) (EP X pins σ Q) X.xe s

/-! ### lists of values -/
theorem Vals.one : ∀ {x : V} {us : List Value}, Vals [x] us → ∃ u, us = [u] ∧ RelV x u
  | _, _, .cons r .nil => ⟨_, rfl, r⟩
section
variable {X : Cx} {pins : List (Addr × Obj)} {σ : St} {H : Hp} {s : Shared} {l b : Addr} {xs ys zs : List V}

/-! ### the two steps: a tracked list is rewritten, a new list is laid -/
theorem Inv.lset {its its' : List Value} {n : Nat} {f : Array Value → Array Value} {t' : Nat} (I : Inv X pins σ H s) (hH : H l = some (.lst xs))
    (e : s.heap.get? l = some { cls := .type "list", data := .seq its.toArray n }) (hf : f its.toArray = its'.toArray) (hv : Vals ys its') (hz : ys.length ≤ sizeLine) :
    Inv X pins σ (upd H l (.lst ys)) { s with heap := s.heap.update l (Obj.mapSeq f), toks := t' } := by
  have q := PySem.IsL.update e f
  rw [hf] at q
  refine I.write (x := l) (e := l) (by rw [hH]; exact trivial) (.inl rfl) (fun b' u hb hu => (Heap.get?_update_other s.heap (Obj.mapSeq f) (Ne.symm hb)).trans hu) ⟨_, q⟩ ?_
  exact ⟨hz, its', _, hv, q⟩
theorem Inv.lnew {its : List Value} {t' : Nat} (I : Inv X pins σ H s) (hv : Vals ys its) (hz : ys.length ≤ sizeLine) :
    Inv X pins σ (upd H s.heap.objs.size (.lst ys)) { s with heap := s.heap.push { cls := .type "list", data := .seq its.toArray }, toks := t' } :=
  I.laid (fun _ _ q => Heap.get?_push_of_some _ q) (Nat.le_refl _) ⟨hz, its, 0, hv, Heap.get?_push_size _ rfl⟩
theorem Inv.fresh (I : Inv X pins σ H s) : H s.heap.objs.size = none := I.hok.fresh (Nat.le_refl _)
theorem Inv.lstM (I : Inv X pins σ H s) (hH : H l = some (.lst xs)) : xs.length ≤ sizeLine ∧ ∃ (its : List Value) (n : Nat), Vals xs its ∧ xs.length = its.length ∧ s.heap.get? l = some { cls := .type "list", data := .seq its.toArray n } := by
  obtain ⟨z, its, n, r, e⟩ := I.hok l _ hH
  exact ⟨z, its, n, r, r.length, e⟩

theorem notLongL {n : Nat} (h : n ≤ sizeLine) : Builtin.List.listTooLong n = false := by
  unfold Builtin.List.listTooLong
  exact decide_eq_false (by omega)
end

section
variable {X : Cx}

/-! ### methods -/
noncomputable def rAppend : V → List V → Hp → VK → Prop := fun x vs H Q => ∃ l xs y, x = .ref l ∧ vs = [y] ∧ H l = some (.lst xs) ∧ xs.length < sizeLine ∧ Q .non (upd H l (.lst (xs ++ [y])))
theorem mt_append : MtM X "list.append" rAppend := by
  intro pins s σ H x vs v us Q I rx rv h
  obtain ⟨l, xs, y, rfl, rfl, hH, hz, q⟩ := h
  cases rx
  obtain ⟨u, rfl, ru⟩ := rv.one
  obtain ⟨z, its, n, r, hl, e⟩ := I.lstM hH
  refine call_meets F.slot_list_append ⟨_, e, rfl⟩ F.entry_list_append (F.args_list_append_2 _ _) (PySem.list_append l its.toArray n u (by rw [List.size_toArray]; omega)) ⟨e, ?_⟩
  refine ⟨.non, _, I.lset (its' := its ++ [u]) hH e (by simp) (r.append (.cons ru .nil)) ?_, rfl, q⟩
  rw [List.length_append, List.length_singleton]
  omega

noncomputable def rExtend : V → List V → Hp → VK → Prop := fun x vs H Q => ∃ l b xs zs, x = .ref l ∧ vs = [.ref b] ∧ H l = some (.lst xs) ∧ H b = some (.lst zs) ∧ xs.length + zs.length ≤ sizeLine ∧ Q .non (upd H l (.lst (xs ++ zs)))
theorem mt_extend : MtM X "list.extend" rExtend := by
  intro pins s σ H x vs v us Q I rx rv h
  obtain ⟨l, b, xs, zs, rfl, rfl, hH, hB, hz, q⟩ := h
  cases rx
  obtain ⟨u, rfl, ru⟩ := rv.one
  cases ru
  obtain ⟨z, its, n, r, hl, e⟩ := I.lstM hH
  obtain ⟨z2, its2, n2, r2, hl2, e2⟩ := I.lstM hB
  have hsz : its.toArray.size + its2.toArray.size ≤ sizeLine := by rw [List.size_toArray, List.size_toArray]; omega
  have hlong : ¬ (!its.toArray.isEmpty && Builtin.List.listTooLong (its.toArray.size + its2.toArray.size)) = true := by
    rw [notLongL hsz, Bool.and_false]
    exact Bool.false_ne_true
  refine call_meets F.slot_list_extend ⟨_, e, rfl⟩ F.entry_list_extend (F.args_list_extend_2 _ _)
    (AutoSeq1.list_extend_list_list_0 l its.toArray n b its2.toArray n2 hlong (by rw [List.size_toArray]; omega) (by omega)) ⟨e, e2, ?_⟩
  refine ⟨.non, _, I.lset (its' := its ++ its2) hH e (by simp) (r.append r2) ?_, rfl, q⟩
  rw [List.length_append]
  omega

/-! ### list + list, list += list, list * int -/
noncomputable def rCat : R2 := fun x y H Q => ∃ l b xs zs, x = .ref l ∧ y = .ref b ∧ H l = some (.lst xs) ∧ H b = some (.lst zs) ∧ xs.length + zs.length ≤ sizeLine ∧ ∀ p, H p = none → Q (.ref p) (upd H p (.lst (xs ++ zs)))
theorem op_cat : OpR X (binaryOp .Add) rCat := by
  intro pins s σ H x y v u Q I rx ry h
  obtain ⟨l, b, xs, zs, rfl, rfl, hH, hB, hz, q⟩ := h
  cases rx
  cases ry
  obtain ⟨z, its, n, r, hl, e⟩ := I.lstM hH
  obtain ⟨z2, its2, n2, r2, hl2, e2⟩ := I.lstM hB
  refine PySem.P.add_list e e2 ?_ (by rw [List.size_toArray, List.size_toArray]; omega)
  have ea : its.toArray ++ its2.toArray = (its ++ its2).toArray := by simp
  rw [ea]
  exact ⟨.ref _, _, I.lnew (t' := s.toks) (r.append r2) (by rw [List.length_append]; omega), rfl, q _ I.fresh⟩
/-! ### del xs[i] -/
end

/-! ### xs[a:b] = ys -/
section
variable {prog : Program} {w : World} {A : Around} {E : Value → Shared → Prop} {s : Shared}
set_option maxRecDepth 100000 in
end

section
variable {X : Cx}
end
end L2

namespace L2
open PySem PySem.Spec PyProof.Rows

theorem Vals.ints : ∀ {ns : List Int} {us : List Value}, Vals (ns.map V.int) us → IntsAre us ns
  | [], us, h => by
    rw [List.map_nil] at h
    cases h
    exact IntsAre.nil
  | n :: ns, us, h => by
    rw [List.map_cons] at h
    cases h with
    | cons r t =>
      obtain ⟨k, rfl⟩ := r
      exact IntsAre.cons n k (Vals.ints t)
theorem vals_of_ints : ∀ {us : List Value} {ns : List Int}, IntsAre us ns → Vals (ns.map V.int) us
  | _, _, .nil => by rw [List.map_nil]; exact Paired.nil
  | _, _, .cons n t h => by rw [List.map_cons]; exact Paired.cons (show RelV (V.int n) (Value.int n t) from ⟨t, rfl⟩) (vals_of_ints h)
theorem Vals.ref1 {a : Addr} {us : List Value} (r : Vals [V.ref a] us) : us = [Value.ref a] := by
  cases r with
  | cons r t =>
    cases t
    cases r
    rfl
/-! ### the library's walks over a list of ints, kept objects alone -/
section
variable {prog : Program} {w : World} {A : Around} {E : Value → Shared → Prop} {s : Shared} {l : Addr} {its : List Value} {ns : List Int} {Q : Value → Shared → Prop}
theorem sum_raw (hh : A.handled = none) (hl : s.heap.IsList l its.toArray) (hi : IntsAre its ns)
    (h : ∀ h' tk t', (∀ b o, s.heap.get? b = some o → h'.get? b = some o) → Q (.int ns.sum t') { s with heap := h', toks := tk }) : wpAny (model prog w) A (call (.builtin "sum") [.ref l]) Q E s := by
  obtain ⟨xs, e⟩ := hi.allInts.items
  have hn : numsOf (intItems xs).toList = ns := by rw [← e]; exact hi.numsOf
  rw [nums_intItems] at hn
  rw [e] at hl
  refine PySem.sum_intListG hh hl fun h' tk t' hk => ?_
  have := h h' tk t' hk
  rw [preSum_eq, List.take_of_length_le (by simp), hn]; exact this
end

/-! ### the calls, by values (CallR of 03t; MtR of 06l) -/
section
variable {X : Cx}
/-- sum(xs) of a list of ints -/
noncomputable def rSum (K : PySem.W.Frag) : List V → Hp → VK → Prop := fun vs H Q => ∃ (a : Addr) (ns : List Int), vs = [V.ref a] ∧ SqL K H a (ns.map V.int) ∧ Q (.int ns.sum) H
theorem cr_sum (hc : X.calm = true) : CallR X (.builtin "sum") (rSum X.K) := by
  intro pins s σ H vs us Q I r h
  obtain ⟨a, ns, rfl, hs, q⟩ := h
  obtain ⟨its, rv, hl, _⟩ := I.list hs
  rw [Vals.ref1 r]
  exact sum_raw (I.ok.hd hc) hl.isList rv.ints fun h' tk t' hk => ⟨.int _, H, I.kept hk, ⟨_, rfl⟩, q⟩
/-! sorted, sort (fewer than 64 items: the library's own bound) -/
end

/-! ### list.index, flat items -/
section
variable {X : Cx}
end

/-! ### type(x) of an own instance; is, is not of a module's class -/
section
variable {X : Cx}
end

/-! ### any(xs), all(xs) of a list of bools -/
section
variable {X : Cx}
end

/-! ### == and != of data at any depth: none, bools, ints, texts, lists, tuples -/
mutual
inductive Dp (K : PySem.W.Frag) (H : Hp) : V → PyData → Prop
  | non : Dp K H .non .none
  | bl (b : Bool) : Dp K H (.bl b) (.bool b)
  | int (i : Int) : Dp K H (.int i) (.int i)
  | str (x : Str) : Dp K H (.str x) (.str x)
  | lst {a : Addr} {xs : List V} {ds : List PyData} : SqL K H a xs → DpAll K H xs ds → Dp K H (.ref a) (.list ds)
  | tup {a : Addr} {xs : List V} {ds : List PyData} : SqT K H a xs → DpAll K H xs ds → Dp K H (.ref a) (.tuple ds)
inductive DpAll (K : PySem.W.Frag) (H : Hp) : List V → List PyData → Prop
  | nil : DpAll K H [] []
  | cons {v : V} {vs : List V} {d : PyData} {ds : List PyData} : Dp K H v d → DpAll K H vs ds → DpAll K H (v :: vs) (d :: ds)
end
section
variable {X : Cx} {pins : List (Addr × Obj)} {σ : St} {H : Hp} {s : Shared}
mutual
theorem Dp.reads (I : Inv X pins σ H s) : ∀ (d : PyData) (v : V) (u : Value), Dp X.K H v d → RelV v u → ∃ as, Reads s.heap u d as
  | .none, _, _, h, r => by
    cases h
    cases r
    exact ⟨_, Reads.none⟩
  | .bool b, _, _, h, r => by
    cases h
    cases r
    exact ⟨_, Reads.bool b⟩
  | .int i, _, _, h, r => by
    cases h
    obtain ⟨t, rfl⟩ := r
    exact ⟨_, Reads.int i t⟩
  | .str x, _, _, h, r => by
    cases h
    obtain ⟨t, rfl⟩ := r
    exact ⟨_, Reads.str x t⟩
  | .list ds, _, _, h, r => by
    cases h with
    | lst hs ha =>
      cases r
      obtain ⟨its, rv, ⟨o, n, ho, hc, _, hd⟩, _⟩ := I.list hs
      obtain ⟨as, hr⟩ := Dp.readsAll I ds _ its ha rv
      exact ⟨_, Reads.list ho hc hd hr⟩
  | .tuple ds, _, _, h, r => by
    cases h with
    | tup hs ha =>
      cases r
      obtain ⟨its, rv, ⟨o, ho, hc, n, hd⟩, _⟩ := I.tuple hs
      obtain ⟨as, hr⟩ := Dp.readsAll I ds _ its ha rv
      exact ⟨_, Reads.tuple ho hc hd hr⟩
  | .dict _, _, _, h, _ => by cases h
theorem Dp.readsAll (I : Inv X pins σ H s) : ∀ (ds : List PyData) (vs : List V) (us : List Value), DpAll X.K H vs ds → Vals vs us → ∃ as, ReadsAll s.heap us ds as
  | [], _, _, h, r => by
    cases h
    cases r
    exact ⟨_, ReadsAll.nil⟩
  | d :: ds, _, _, h, r => by
    cases h with
    | cons h1 h2 =>
      cases r with
      | cons r1 r2 =>
        obtain ⟨as, q1⟩ := Dp.reads I d _ _ h1 r1
        obtain ⟨bs, q2⟩ := Dp.readsAll I ds _ _ h2 r2
        exact ⟨_, ReadsAll.cons q1 q2⟩
end
end
section
variable {X : Cx}
end
end L2

namespace L2
open PySem PySem.Spec PyProof.Rows
noncomputable abbrev CellAt (h : Heap) (c : Addr) (v : Option Value) : Prop := h.IsCell c v
noncomputable def relS (scope sc : Scope) : Scope :=
  { scope with names := scope.names.map fun (n, k) => if (k == .free && sc.kind == .function && sc.names.lookup n == some .cell) then (n, .cell) else (n, k) }

noncomputable def cloFrom (cells : List (Str × Addr)) : List (Str × NameKind) → List (Str × Addr) → List (Str × Addr)
  | [], acc => acc
  | (n, k) :: r, acc => if k == .free then cloFrom cells r ((n, (cells.lookup n).getD 0) :: acc) else cloFrom cells r acc

theorem closure_loop (env : Env) (f : Str × NameKind → List (Str × Addr) → Sem (ForInStep (List (Str × Addr))))
    (hf : ∀ n k c, f (n, k) c = if k == .free then (do let a ← cellOf env n; pure (.yield ((n, a) :: c))) else pure (.yield c)) :
    ∀ (names : List (Str × NameKind)) (acc : List (Str × Addr)), (∀ y ∈ names, y.2 = .free → ∃ c, env.cells.lookup y.1 = some c) → forIn names acc f = pure (cloFrom env.cells names acc)
  | [], acc, _ => by rw [List.forIn_nil]; rfl
  | (n, k) :: r, acc, h => by
    rw [List.forIn_cons, hf]
    have ih := fun acc => closure_loop env f hf r acc fun y hy => h y (List.mem_cons_of_mem _ hy)
    unfold cloFrom
    by_cases hk : (k == NameKind.free) = true
    · rw [if_pos hk, if_pos hk]
      obtain ⟨c, hc⟩ := h (n, k) List.mem_cons_self (by simpa using hk)
      have e : cellOf env n = pure c := by unfold cellOf; rw [hc]
      rw [e]
      have e2 : (env.cells.lookup n).getD 0 = c := by rw [hc]; rfl
      rw [e2]
      exact ih _
    · rw [if_neg hk, if_neg hk]
      exact ih _
theorem closure_ok {scope : Scope} {env : Env} (h : ∀ y ∈ scope.names, y.2 = .free → ∃ c, env.cells.lookup y.1 = some c) : closureFor scope env = pure (cloFrom env.cells scope.names []) := by
  simp only [closureFor]
  rw [closure_loop env _ (fun n k c => rfl) scope.names [] h]
  rfl

theorem mem_lookup {α : Type} : ∀ {l : List (Str × α)} {n : Str} {c : α}, (n, c) ∈ l → ∃ c', l.lookup n = some c'
  | (k, v) :: r, n, c, h => by
    rw [List.lookup_cons]
    cases hb : n == k with
    | true => exact ⟨_, rfl⟩
    | false =>
      rcases List.mem_cons.mp h with e | h
      · cases e; simp at hb
      · exact mem_lookup h

theorem cloFrom_mem {cells : List (Str × Addr)} : ∀ {names : List (Str × NameKind)} {acc : List (Str × Addr)} {n : Str} {c : Addr}, (n, c) ∈ cloFrom cells names acc → (n, c) ∈ acc ∨ ((n, .free) ∈ names ∧ c = (cells.lookup n).getD 0)
  | [], _, _, _, h => .inl h
  | (m, k) :: r, acc, n, c, h => by
    unfold cloFrom at h
    split at h
    · rename_i hk
      have hk : k = .free := by simpa using hk
      rcases cloFrom_mem h with h | ⟨h1, h2⟩
      · rcases List.mem_cons.mp h with e | h
        · cases e; exact .inr ⟨hk ▸ List.mem_cons_self, rfl⟩
        · exact .inl h
      · exact .inr ⟨List.mem_cons_of_mem _ h1, h2⟩
    · rcases cloFrom_mem h with h | ⟨h1, h2⟩
      · exact .inl h
      · exact .inr ⟨List.mem_cons_of_mem _ h1, h2⟩
theorem cloFrom_acc {cells : List (Str × Addr)} : ∀ {names : List (Str × NameKind)} {acc : List (Str × Addr)} {p : Str × Addr}, p ∈ acc → p ∈ cloFrom cells names acc
  | [], _, _, h => h
  | (m, k) :: r, acc, p, h => by
    unfold cloFrom
    split
    · exact cloFrom_acc (List.mem_cons_of_mem _ h)
    · exact cloFrom_acc h
theorem cloFrom_has {cells : List (Str × Addr)} : ∀ {names : List (Str × NameKind)} {acc : List (Str × Addr)} {n : Str}, (n, .free) ∈ names → (n, (cells.lookup n).getD 0) ∈ cloFrom cells names acc
  | (m, k) :: r, acc, n, h => by
    unfold cloFrom
    rcases List.mem_cons.mp h with e | h
    · cases e
      exact cloFrom_acc List.mem_cons_self
    · split
      · exact cloFrom_has h
      · exact cloFrom_has h

theorem cells_mem : ∀ {names : List (Str × NameKind)} {h : Heap} {acc : List (Str × Addr)} {x : Str} {c : Addr}, (x, c) ∈ cellsFrom h.objs.size names acc →
    (x, c) ∈ acc ∨ ((x, .cell) ∈ names ∧ h.objs.size ≤ c ∧ CellAt (pushCells h names) c none)
  | [], _, _, _, _, h => .inl h
  | (n, k) :: r, h, acc, x, c, hm => by
    unfold cellsFrom at hm
    unfold pushCells
    split at hm
    · rename_i hk
      rw [if_pos hk]
      have hk : k = .cell := by simpa using hk
      rw [← Heap.size_push h { cls := .type "cell", data := .cell none }] at hm
      rcases cells_mem hm with hm | ⟨h1, h2, h3⟩
      · rcases List.mem_cons.mp hm with e | hm
        · cases e
          exact .inr ⟨hk ▸ List.mem_cons_self, Nat.le_refl _, _, pushCells_keeps r _ _ _ (Heap.get?_push_size _ rfl), rfl⟩
        · exact .inl hm
      · rw [Heap.size_push] at h2
        exact .inr ⟨List.mem_cons_of_mem _ h1, Nat.le_of_succ_le h2, h3⟩
    · rename_i hk
      rw [if_neg hk]
      rcases cells_mem hm with hm | ⟨h1, h2, h3⟩
      · exact .inl hm
      · exact .inr ⟨List.mem_cons_of_mem _ h1, h2, h3⟩
theorem cells_acc : ∀ {names : List (Str × NameKind)} {n : Nat} {acc : List (Str × Addr)} {p : Str × Addr}, p ∈ acc → p ∈ cellsFrom n names acc
  | [], _, _, _, h => h
  | (m, k) :: r, n, acc, p, h => by
    unfold cellsFrom
    split
    · exact cells_acc (List.mem_cons_of_mem _ h)
    · exact cells_acc h
theorem cells_has : ∀ {names : List (Str × NameKind)} {n : Nat} {acc : List (Str × Addr)} {x : Str}, (x, .cell) ∈ names → ∃ c, (x, c) ∈ cellsFrom n names acc
  | (m, k) :: r, n, acc, x, h => by
    unfold cellsFrom
    rcases List.mem_cons.mp h with e | h
    · cases e
      exact ⟨n, cells_acc List.mem_cons_self⟩
    · split
      · exact cells_has h
      · exact cells_has h
theorem cells_inj : ∀ {names : List (Str × NameKind)} {h : Heap} {acc : List (Str × Addr)} {x y : Str} {c : Addr}, (∀ p ∈ acc, p.2 < h.objs.size) → (∀ x y c, (x, c) ∈ acc → (y, c) ∈ acc → x = y) →
    (x, c) ∈ cellsFrom h.objs.size names acc → (y, c) ∈ cellsFrom h.objs.size names acc → x = y
  | [], _, _, _, _, _, _, hi, h1, h2 => hi _ _ _ h1 h2
  | (n, k) :: r, h, acc, x, y, c, hl, hi, h1, h2 => by
    unfold cellsFrom at h1 h2
    split at h1
    · rename_i hk
      rw [if_pos hk] at h2
      rw [← Heap.size_push h { cls := .type "cell", data := .cell none }] at h1 h2
      refine cells_inj (h := h.push _) (fun p hp => ?_) (fun x y c a b => ?_) h1 h2
      · rw [Heap.size_push]
        rcases List.mem_cons.mp hp with rfl | hp
        · exact Nat.lt_succ_self _
        · exact Nat.lt_succ_of_lt (hl p hp)
      · rcases List.mem_cons.mp a with e | a <;> rcases List.mem_cons.mp b with e' | b
        · cases e; cases e'; rfl
        · cases e; exact absurd (hl _ b) (Nat.lt_irrefl _)
        · cases e'; exact absurd (hl _ a) (Nat.lt_irrefl _)
        · exact hi _ _ _ a b
    · rename_i hk
      rw [if_neg hk] at h2
      exact cells_inj hl hi h1 h2

theorem newEnv_comp {M : Model} {A : Around} {E : Value → Shared → Prop} {s : Shared} {scope : Scope} {globals : Addr} {closure : List (Str × Addr)} {qual : Str} {func : Option Addr} {code : Value} {around : Env} {builtins : Addr} {Q : Env → Shared → Prop}
    (h : Q (newEnv scope s.heap.objs.size globals (cellsFrom (s.heap.objs.size + 1) scope.names closure) qual func code (some around) builtins)
      { s with heap := pushCells (s.heap.push { cls := .type "dict", data := .dict #[] }) scope.names }) :
    wpAny M A (newFunctionEnv scope globals closure [] qual func code (some around) builtins) Q E s := by
  simp only [newFunctionEnv, Option.isSome_some, if_true]
  refine wpAny_bind (wpAny_alloc ?_)
  refine wpAny_bind (wpAny_layCells _ (fun n k c => rfl) scope.names closure _ _ ?_)
  rw [show ({ s with heap := s.heap.push { cls := .type "dict", data := .dict #[] } } : Shared).heap.objs.size = s.heap.objs.size + 1 from Heap.size_push ..]
  rw [List.forIn_nil]
  exact wpAny_bind (wpAny_pure (wpAny_pure h))

/-- every name of the written scope, in the scope that runs -/
theorem lookup_relS {sc : Scope} : ∀ {names : List (Str × NameKind)} {x : Str} {k : NameKind},
    (names.map fun (n, k) => if (k == NameKind.free && sc.kind == .function && sc.names.lookup n == some .cell) then (n, NameKind.cell) else (n, k)).lookup x = some k →
    ∃ k', names.lookup x = some k' ∧ (k = k' ∨ (k' = .free ∧ k = .cell))
  | [], _, _, h => by simp at h
  | (n, k₀) :: r, x, k, h => by
    have ih := @lookup_relS sc r x k
    have h' : List.lookup x ((if (k₀ == NameKind.free && sc.kind == .function && sc.names.lookup n == some .cell) = true then (n, NameKind.cell) else (n, k₀)) :: (r.map _)) = some k := h
    cases hx : x == n with
    | true =>
      simp only [List.lookup_cons, hx]
      by_cases hc : (k₀ == NameKind.free && sc.kind == .function && sc.names.lookup n == some .cell) = true
      · rw [if_pos hc] at h'
        simp only [List.lookup_cons, hx] at h'
        cases h'
        simp only [Bool.and_eq_true, beq_iff_eq] at hc
        exact ⟨k₀, rfl, .inr ⟨hc.1.1, rfl⟩⟩
      · rw [if_neg hc] at h'
        simp only [List.lookup_cons, hx] at h'
        cases h'
        exact ⟨_, rfl, .inl rfl⟩
    | false =>
      simp only [List.lookup_cons, hx]
      by_cases hc : (k₀ == NameKind.free && sc.kind == .function && sc.names.lookup n == some .cell) = true
      · rw [if_pos hc] at h'
        simp only [List.lookup_cons, hx] at h'
        exact ih h'
      · rw [if_neg hc] at h'
        simp only [List.lookup_cons, hx] at h'
        exact ih h'
/-- the names of a comprehension's block: its own (with their places in N), or captured -/
structure BlkOk (N : List Str) (sc scope : Scope) (own : List (Str × Nat)) : Prop where
  kind : scope.kind = .function
  uniq : ∀ y ∈ scope.names, scope.names.lookup y.1 = some y.2
  ix : ∀ p ∈ own, N[p.2]? = some p.1
  free : ∀ y ∈ scope.names, y.2 = .free → sc.names.lookup y.1 = some .cell ∨ sc.names.lookup y.1 = some .free
  own : ∀ y ∈ scope.names, y.2 = .local ∨ y.2 = .cell → y.1 ∈ own.map (·.1) ∨ y.1 ∉ N
/-- the slots of the block's own names forgotten -/
noncomputable def wipe (σ : St) : List Nat → St
  | [] => σ
  | v :: vs => (wipe σ vs).set v none
theorem wipe_length (σ : St) : ∀ vs : List Nat, (wipe σ vs).length = σ.length
  | [] => rfl
  | v :: vs => by unfold wipe; rw [List.length_set, wipe_length σ vs]
theorem wipe_some {σ : St} {i : Nat} {x : V} : ∀ {vs : List Nat}, (wipe σ vs)[i]? = some (some x) → σ[i]? = some (some x) ∧ i ∉ vs
  | [], h => ⟨h, by simp⟩
  | v :: vs, h => by
    unfold wipe at h
    by_cases hi : v = i
    · subst hi
      by_cases hv : v < (wipe σ vs).length
      · rw [List.getElem?_set_self hv] at h; cases h
      · rw [List.getElem?_eq_none (by simpa using hv)] at h; cases h
    · rw [List.getElem?_set_ne hi] at h
      obtain ⟨h1, h2⟩ := wipe_some h
      exact ⟨h1, by simp only [List.mem_cons, not_or]; exact ⟨fun e => hi e.symm, h2⟩⟩

/-- the context of a block that starts at s, its iterator's objects at fp -/
noncomputable abbrev Cx.blk (X : Cx) (s : Shared) (H : Hp) (scope : Scope) (cenv : Env) (fp : List Addr) : Cx := { X with s₀ := s, H₀ := H, env := cenv, outer := X.stack, ex := fp, fn := fun x => scope.names.lookup x == some .cell, pn := [], xe := fun _ _ => False }
section
variable {X : Cx} {pins : List (Addr × Obj)} {σ : St} {H : Hp} {s : Shared}
theorem block_start {scope : Scope} {own : List (Str × Nat)} {fp : List Addr} (I : Inv X pins σ H s) (ok : BlkOk X.N X.env.scope scope own) (hN : X.N.Nodup) (hfp : ∀ b ∈ fp, FpOk X pins H b ∧ b < s.heap.objs.size) :
    Inv (X.blk s H scope (compEnvC scope (cellsFrom (s.heap.objs.size + 1) scope.names (cloFrom X.env.cells scope.names [])) s.heap.objs.size X.env) fp) [] (wipe σ (own.map (·.2))) H { s with heap := pushCells (s.heap.push { cls := .type "dict", data := .dict #[] }) scope.names } := by
  have hfree : ∀ y ∈ scope.names, y.2 = .free → ∃ c, X.env.cells.lookup y.1 = some c := fun y hy e => by
    rcases ok.free y hy e with k | k
    · exact I.ok.has _ (.inl k)
    · exact I.ok.has _ (.inr k)
  generalize hcenv : compEnvC scope (cellsFrom (s.heap.objs.size + 1) scope.names (cloFrom X.env.cells scope.names [])) s.heap.objs.size X.env = cenv
  have kp : ∀ b o, s.heap.get? b = some o → (pushCells (s.heap.push { cls := .type "dict", data := .dict #[] }) scope.names).get? b = some o := fun b o e => pushCells_keeps _ _ _ _ (Heap.get?_push_of_some _ e)
  have hL : cenv.locals = s.heap.objs.size := by rw [← hcenv]; rfl
  have hcl : cenv.cells = cellsFrom (s.heap.objs.size + 1) scope.names (cloFrom X.env.cells scope.names []) := by rw [← hcenv]; rfl
  have hsc : cenv.scope = relS scope X.env.scope := by rw [← hcenv]; rfl
  rw [← Heap.size_push s.heap { cls := .type "dict", data := .dict #[] }] at hcl
  have cm : ∀ {y c}, (y, c) ∈ cloFrom X.env.cells scope.names [] → X.env.cells.lookup y = some c ∧ c < s.heap.objs.size := fun {y c} hm => by
    rcases cloFrom_mem hm with hm | ⟨h1, rfl⟩
    · cases hm
    · obtain ⟨c, hc⟩ := hfree _ h1 rfl
      rw [hc]
      obtain ⟨w, z⟩ := I.cell _ _ hc
      exact ⟨rfl, z.lt⟩
  have mem : ∀ {y c}, cenv.cells.lookup y = some c → (X.env.cells.lookup y = some c ∧ c < s.heap.objs.size) ∨ (s.heap.objs.size + 1 ≤ c ∧ CellAt (pushCells (s.heap.push { cls := .type "dict", data := .dict #[] }) scope.names) c none) := fun {y c} e => by
    rw [hcl] at e
    rcases cells_mem (PySem.mem_of_lookup e) with hm | ⟨_, h2, h3⟩
    · exact .inl (cm hm)
    · rw [Heap.size_push] at h2; exact .inr ⟨h2, h3⟩
  have look : ∀ {y}, scope.names.lookup y = some .free → ∃ c, cenv.cells.lookup y = some c ∧ X.env.cells.lookup y = some c := fun {y} hl => by
    have hy : (y, NameKind.free) ∈ scope.names := PySem.mem_of_lookup hl
    obtain ⟨c', e'⟩ := mem_lookup (cells_acc (names := scope.names) (n := (s.heap.push { cls := .type "dict", data := .dict #[] }).objs.size) (cloFrom_has (cells := X.env.cells) (acc := []) hy))
    rw [← hcl] at e'
    refine ⟨c', e', ?_⟩
    rw [hcl] at e'
    rcases cells_mem (PySem.mem_of_lookup e') with hm | ⟨h1, _, _⟩
    · exact (cm hm).1
    · have := ok.uniq _ h1
      rw [hl] at this; cases this
  have okB : (X.blk s H scope cenv fp).Ok := by
    refine ⟨I.ok.mod, by show cenv.scope.kind = _; rw [hsc]; exact ok.kind, by show cenv.globals = _; rw [← hcenv]; exact I.ok.glob, by show cenv.builtins = _; rw [← hcenv]; exact I.ok.blt, by show s.heap.objs.size ≤ cenv.locals; rw [hL]; exact Nat.le_refl _,
      fun y z c e1 e2 => ?_, fun y hy => ?_, fun y c z e => ?_, I.ok.hd, I.ok.frames, .inl rfl, fun b hb => ⟨?_, fun y c e z => ?_⟩, I.bs, Nat.le_trans I.ok.bsz I.sz, fun b o e hb => ?_, fun b hb z => ?_, I.stack, I.stkFree⟩
    · have e1 : cenv.cells.lookup y = some c := e1
      have e2 : cenv.cells.lookup z = some c := e2
      rw [hcl] at e1 e2
      refine cells_inj (fun p hp => ?_) (fun y z c a b => I.ok.inj y z c (cm a).1 (cm b).1) (PySem.mem_of_lookup e1) (PySem.mem_of_lookup e2)
      rw [Heap.size_push]
      exact Nat.lt_succ_of_lt (cm (y := p.1) (c := p.2) hp).2
    · show ∃ c, cenv.cells.lookup y = some c
      have key : ∀ k, cenv.kindOf y = some k → (k = .cell ∨ k = .free) → ∃ c, cenv.cells.lookup y = some c := fun k hk hk' => by
        unfold Env.kindOf at hk
        rw [hsc] at hk
        obtain ⟨k', e, r⟩ := lookup_relS hk
        have : k' = .cell ∨ k' = .free := by
          rcases r with rfl | ⟨rfl, _⟩
          · exact hk'
          · exact .inr rfl
        rcases this with rfl | rfl
        · obtain ⟨c, hm⟩ := cells_has (n := (s.heap.push { cls := .type "dict", data := .dict #[] }).objs.size) (acc := cloFrom X.env.cells scope.names []) (PySem.mem_of_lookup e)
          obtain ⟨c', e'⟩ := mem_lookup hm
          exact ⟨c', by rw [hcl]; exact e'⟩
        · obtain ⟨c, h1, _⟩ := look e
          exact ⟨c, h1⟩
      rcases hy with hy | hy
      · exact key _ hy (.inl rfl)
      · exact key _ hy (.inr rfl)
    · have z : (scope.names.lookup y == some NameKind.cell) = true := z
      have z : scope.names.lookup y = some .cell := by simpa using z
      have e : cenv.cells.lookup y = some c := e
      rw [hcl] at e
      rcases cells_mem (PySem.mem_of_lookup e) with hm | ⟨_, h2, _⟩
      · rcases cloFrom_mem hm with hm | ⟨h1, _⟩
        · cases hm
        · have q := ok.uniq _ h1
          rw [z] at q; cases q
      · rw [Heap.size_push] at h2
        exact Nat.le_of_succ_le h2
    · show b ≠ cenv.locals
      rw [hL]; exact Nat.ne_of_lt (hfp b hb).2
    · have e : cenv.cells.lookup y = some c := e
      rcases mem e with ⟨h1, _⟩ | ⟨h1, _⟩
      · exact (hfp b hb).1.2.2.2.2.1 y c h1 z
      · have h2 : s.heap.objs.size + 1 ≤ b := by rw [← z]; exact h1
        exact absurd (Nat.lt_of_lt_of_le (hfp b hb).2 (Nat.le_of_succ_le h2)) (Nat.lt_irrefl _)
    · rcases (hfp b hb).1.2.2.2.1 with z | z
      · exact I.ok.noex b o e z
      · exact absurd (Nat.lt_of_lt_of_le (Heap.lt_size e) (Nat.le_trans I.ok.bsz z)) (Nat.lt_irrefl _)
    · rcases List.mem_cons.mp (I.stkSub b z) with z | z
      · exact (hfp b hb).1.2.1 z
      · exact (hfp b hb).1.2.2.1 z
  refine ⟨okB, rfl, I.bare, Un.kept kp, ⟨fun _ => none, ?_, fun i y av e1 e2 e3 => ?_⟩, fun y c e => ?_, ?_, fun y c e => ?_, fun p hp => ?_, I.hok.kept kp, by rw [wipe_length]; exact I.len⟩
  · show Heap.Ns _ cenv.locals _
    rw [hL]
    exact Heap.Ns.keeps (Heap.Ns.new ..) fun b o e => pushCells_keeps _ _ _ _ e
  · obtain ⟨e2, hne⟩ := wipe_some e2
    have hfr : scope.names.lookup y = some .free ∧ (cenv.kindOf y = some .cell ∨ cenv.kindOf y = some .free) := by
      have key : ∀ k, cenv.scope.names.lookup y = some k → k = .local ∨ k = .cell ∨ k = .free → scope.names.lookup y = some .free ∧ (cenv.kindOf y = some .cell ∨ cenv.kindOf y = some .free) := fun k hk hk' => by
        have hk0 := hk
        rw [hsc] at hk
        obtain ⟨k', e, r⟩ := lookup_relS hk
        have no : ¬ (k' = .local ∨ k' = .cell) := fun hh => by
          rcases ok.own _ (PySem.mem_of_lookup e) hh with e' | e'
          · obtain ⟨p, hp, hpy⟩ := List.mem_map.mp e'
            have e3 := ok.ix p hp
            have : p.1 = y := hpy
            rw [this] at e3
            exact hne (List.mem_map.mpr ⟨p, hp, nodup_ix hN e3 e1⟩)
          · exact e' (List.mem_of_getElem? e1)
        rcases r with rfl | ⟨rfl, rfl⟩
        · rcases hk' with rfl | rfl | rfl
          · exact absurd (.inl rfl) no
          · exact absurd (.inr rfl) no
          · exact ⟨e, .inr hk0⟩
        · exact ⟨e, .inl hk0⟩
      have e3 : Vis cenv.scope y := e3
      rcases e3 with e3 | e3 | e3
      · exact key _ e3 (.inl rfl)
      · exact key _ e3 (.inr (.inl rfl))
      · exact key _ e3 (.inr (.inr rfl))
    obtain ⟨m, hn, hl⟩ := I.loc
    have hvis : Vis X.env.scope y := (ok.free _ (PySem.mem_of_lookup hfr.1) rfl).elim (fun k => .inr (.inl k)) (fun k => .inr (.inr k))
    obtain ⟨w, r, q⟩ := hl i y av e1 e2 hvis
    refine ⟨w, r, .inr ⟨hfr.2, ?_⟩⟩
    obtain ⟨c, h1, h2⟩ := look hfr.1
    rcases q with ⟨k, _⟩ | ⟨_, c', e', z⟩
    · have k : X.env.scope.names.lookup y = some .local := k
      rcases ok.free _ (PySem.mem_of_lookup hfr.1) rfl with k' | k' <;> rw [show X.env.scope.names.lookup y = _ from k'] at k <;> cases k
    · rw [h2] at e'; cases e'
      exact ⟨c, h1, z.keeps kp⟩
  · have e : cenv.cells.lookup y = some c := e
    rcases mem e with ⟨h1, _⟩ | ⟨_, z⟩
    · obtain ⟨w, z⟩ := I.cell y c h1
      exact ⟨w, z.keeps kp⟩
    · exact ⟨_, z⟩
  · show H cenv.locals = none
    rw [hL]; exact I.hok.fresh (Nat.le_refl _)
  · have e : cenv.cells.lookup y = some c := e
    rcases mem e with ⟨h1, _⟩ | ⟨h1, _⟩
    · exact I.freeC y c h1
    · exact I.hok.fresh (Nat.le_of_succ_le h1)
  · exact absurd (show p ∈ ([] : List (Addr × Obj)) ++ [] from hp) (by simp)

/-- an item appended to a tracked list -/
theorem app_ok {E : Value → Shared → Prop} {D : Addr} {xs : List V} {y : V} {v : Value} {Q : Value → Shared → Prop} (I : Inv X pins σ H s) (hD : H D = some (.lst xs)) (hz : xs.length < sizeLine) (r : RelV y v)
    (h : ∀ s', Inv X pins σ (upd H D (.lst (xs ++ [y]))) s' → Q .none s') : wpAny (model X.prog X.w) X.A (call (.builtin "list.append") [.ref D, v]) Q E s := by
  obtain ⟨hz', its, n, ri, e⟩ := I.hok D _ hD
  have hl := ri.length
  refine append_at (hsz := by rw [List.size_toArray]; omega) e fun h' sb ho' => ?_
  refine h { s with heap := h' } (I.write (t' := s.toks) (by rw [hD]; trivial) (.inl rfl) (fun b u hb q => (sb.2 b hb).trans q) ⟨_, ho'⟩ ⟨by rw [List.length_append]; exact hz, its ++ [v], n + 1, ri.append (.cons r .nil), ?_⟩)
  rw [ho']
  simp

/-- a clause's tests -/
noncomputable def PTs (X : Cx) (ifs : List Expr) (t : TT) : Prop :=
  ∀ (pins : List (Addr × Obj)) (s : Shared) (σ : St) (H : Hp) (Q : Bool → Hp → Prop), Inv X pins σ H s → t σ H Q →
    wpAny (model X.prog X.w) X.A (forIn ifs true fun c r => if r = true then do let ok ← isTrue c X.env (eval c X.env); pure (ForInStep.yield ok) else pure (ForInStep.yield r)) (TP X pins σ Q) X.xe s
noncomputable def tYes : TT := fun _ H Q => Q true H
theorem pts_nil : PTs X [] tYes := fun _ _ _ H _ I h => wpAny_tests_nil ⟨H, I, h⟩
theorem pts_one {c : Expr} {t : TT} (h : PT X c t) : PTs X [c] t := fun pins s σ H Q I hw => wpAny_tests_one (h pins s σ H Q I hw)
end

theorem thnF {α : Type} {t : Sem α} {Q Q' : α → Shared → Prop} {M : Model} {A : Around} {E : Value → Shared → Prop} {s : Shared} (h : wpAny M A t Q (fun _ _ => False) s) (hQ : ∀ a s, Q a s → Q' a s) : wpAny M A t Q' E s := wpAny_mono h hQ fun _ _ z => False.elim z

/-- the loop of a list comprehension's block, the target of any form (codeAny_compLoop_tests asks a target that no tuple goes to; statement and proof follow it, PyProof/CompMap.lean:41-61, with the step letOwnedTupleGo kept) -/
theorem compLoop_any {prog : Program} {w : World} {A : Around} {R : Result → Shared → Prop} {s : Shared} {elt target iter : Expr} {ifs : List Expr} {scope : Scope} {pos : Pos} {it acc : Value} {env : Env} (I : Nat → Shared → Prop)
    (turn : ∀ n s, I n s → wpAny (model prog w) A (pyNext it) (fun r s₁ => match r with
      | none => R (.ok .next) s₁
      | some v => wpAny (model prog w) A (letOwnedTupleGo target it v) (fun _ s₁' => wpAny (model prog w) A (assign target env v) (fun _ s₂ =>
          wpAny (model prog w) A (forIn ifs true fun c r => if r = true then do let ok ← isTrue c env (eval c env); pure (ForInStep.yield ok) else pure (ForInStep.yield r)) (fun ok s₃ =>
            if ok = true then wpAny (model prog w) A (eval elt env) (fun x s₄ =>
              wpAny (model prog w) A (call (.builtin "list.append") [acc, x]) (fun _ s₅ => ∃ m, m < n ∧ I m s₅) (notedBy (model prog w) A env fun e s' => R (.error e) s') s₄) (notedBy (model prog w) A env fun e s' => R (.error e) s') s₃
            else ∃ m, m < n ∧ I m s₃) (notedBy (model prog w) A env fun e s' => R (.error e) s') s₂) (notedBy (model prog w) A env fun e s' => R (.error e) s') s₁') (notedBy (model prog w) A env fun e s' => R (.error e) s') s₁) (notedBy (model prog w) A env fun e s' => R (.error e) s') s)
    (n : Nat) (h : I n s) :
    codeAny (model prog w) A (.compLoop (.ListComp elt [⟨target, iter, ifs, 0⟩] scope pos) 0 it acc env) R s := by
  refine codeAny_loop rfl I (fun n s hI => ?_) n h
  show wpAny _ A ((compTurn (.ListComp elt [⟨target, iter, ifs, 0⟩] scope pos) 0 it acc env).onRaise (fun x => do noteFrame x env; theTreesLotGoes x)) _ _ s
  refine wpAny_noted ?_
  rw [compTurn_list]
  refine wpAny_bind (wpAny_standAt (wpAny_bind (wpAny_mono (turn n s hI) (fun r s₁ h₁ => ?_) fun _ _ h' => h')))
  cases r with
  | none => exact wpAny_pure h₁
  | some v =>
    refine wpAny_bind (wpAny_mono h₁ (fun _ s₁' h₁' => ?_) fun _ _ h' => h')
    refine wpAny_bind (wpAny_mono h₁' (fun _ s₂ h₂ => wpAny_bind (wpAny_mono h₂ (fun ok s₃ h₃ => ?_) fun _ _ h' => h')) fun _ _ h' => h')
    cases ok with
    | false => exact wpAny_pure ⟨rfl, h₃⟩
    | true =>
      exact wpAny_bind (wpAny_bind (wpAny_mono h₃ (fun x s₄ h₄ => wpAny_bind (wpAny_mono h₄ (fun _ s₅ h₅ => wpAny_pure (wpAny_pure ⟨rfl, h₅⟩)) fun _ _ h' => h')) fun _ _ h' => h'))

section
variable {X : Cx}
/-- [elt for target in iter if ..]: D the new list; W by the turn and a measure, Nx what a turn is to reach -/
noncomputable def tLc (wi : TI) (g : TG) (tt : TT) (te : TE) (vs : List Nat) : TE := fun σ H Q => wi σ H fun J H1 => ∀ D, H1 D = none → ∃ W : Nat → Nat → Hp → Prop, (∃ m, W 0 m (upd H1 D (.lst []))) ∧ ∀ i m H, W i m H →
  (J.stop i H ∧ Q (.ref D) H) ∨ (J.go i H ∧ ∃ Nx : Hp → Prop, (∀ H', Nx H' → ∃ m', m' < m ∧ W (i + 1) m' H') ∧ ∀ x H', J.yld i H x H' → g x (wipe σ vs) H' fun σ2 H2 => wipe σ2 vs = wipe σ vs ∧ tt σ2 H2 fun b H3 =>
    if b = true then te σ2 H3 fun y H4 => ∃ acc, H4 D = some (.lst acc) ∧ acc.length < sizeLine ∧ Nx (upd H4 D (.lst (acc ++ [y]))) else Nx H3)
theorem lc_core {pins : List (Addr × Obj)} {s : Shared} {σ : St} {H : Hp} {Q : VK} {elt tg iter : Expr} {ifs : List Expr} {scope : Scope} {own : List (Str × Nat)} {pos pos' : Pos} {wi : TI} {g : TG} {tt : TT} {te : TE} {use : Option (Value → Sem Unit)} {Qf : Value → Shared → Prop}
    (hc : X.calm = true) (hN : X.N.Nodup) (I : Inv X pins σ H s) (hi : PI X tg iter wi) (ok : BlkOk X.N X.env.scope scope own)
    (hg : ∀ (s : Shared) (H : Hp) (C : Addr) (cl : List (Str × Addr)) (fp : List Addr), PG (X.blk s H scope (compEnvC scope cl C X.env) fp) tg g) (ht : ∀ (s : Shared) (H : Hp) (C : Addr) (cl : List (Str × Addr)) (fp : List Addr), PTs (X.blk s H scope (compEnvC scope cl C X.env) fp) ifs tt)
    (he : ∀ (s : Shared) (H : Hp) (C : Addr) (cl : List (Str × Addr)) (fp : List Addr), PE (X.blk s H scope (compEnvC scope cl C X.env) fp) elt te) (hs : ∀ x, foldedSetIterable iter X.env x = pure x)
    (h : tLc wi g tt te (own.map (·.2)) σ H Q)
    (hRR : ∀ D C s' m H', Inv X pins σ H' s' → Q (.ref D) H' → s'.heap.Ns C m → FpOk X pins H' C → compPost (model X.prog X.w) X.A X.xe use Qf (.ref D) C (.ok .next) s') :
    wpAny (model X.prog X.w) X.A (comprehension (.ListComp elt [⟨tg, iter, ifs, 0⟩] scope pos) scope X.env pos' (newList []) false (eval iter X.env) use) Qf X.xe s := by
  have hfree : ∀ y ∈ scope.names, y.2 = .free → ∃ c, X.env.cells.lookup y.1 = some c := fun y hy e => by
    rcases ok.free y hy e with k | k
    · exact I.ok.has _ (.inl k)
    · exact I.ok.has _ (.inr k)
  refine wpAny_comprehension_free (use := use) rfl hs (closure_ok hfree) ok.kind (fun y hy e => by rw [ok.uniq y hy, e])
    (thn (hi pins s σ H _ I h) fun xv s1 hx => thn hx fun itv s2 h2 => ?_)
  obtain ⟨it, fp, tn, J, H2, e, I2, T, st2, f2, q⟩ := h2
  subst e
  refine wpAny_newObj_type (newEnv_comp ?_) (by show 0 ≤ sizeLine; decide)
  generalize hD : s2.heap.objs.size = D
  have hDn : H2 D = none := I2.hok.fresh (Nat.le_of_eq hD)
  obtain ⟨W, ⟨m0, w0⟩, turn⟩ := q D hDn
  -- the new list
  generalize hs3 : ({ s2 with heap := s2.heap.push { cls := .type "list", data := .seq ([] : List Value).toArray } } : Shared) = s3
  have I3 : Inv X pins σ (upd H2 D (.lst [])) s3 := by
    rw [← hs3]
    refine I2.laid (t' := s2.toks) (fun b o e => Heap.get?_push_of_some _ e) (Nat.le_of_eq hD) ⟨Nat.zero_le _, [], 0, .nil, ?_⟩
    rw [← hD]
    exact Heap.get?_push_size _ rfl
  have h3 : s3.heap = s2.heap.push { cls := .type "list", data := .seq ([] : List Value).toArray } := by rw [← hs3]
  have sz : ∀ b ∈ fp, b < s2.heap.objs.size := fun b hb => by
    obtain ⟨o, e, _⟩ := T.obj _ _ st2 b hb
    exact Heap.lt_size e
  have f3 : ∀ b ∈ fp, FpOk X pins (upd H2 D (.lst [])) b ∧ b < s3.heap.objs.size := fun b hb => by
    have hlt := sz b hb
    refine ⟨⟨?_, (f2 b hb).2⟩, by rw [h3, Heap.size_push]; exact Nat.lt_succ_of_lt hlt⟩
    rw [upd_ne (by rw [← hD]; exact Nat.ne_of_lt hlt)]
    exact (f2 b hb).1
  have st3 : tn 0 s3.heap := T.keep _ _ _ st2 fun b _ o e => by rw [h3]; exact Heap.get?_push_of_some _ e
  have I4 := block_start I3 ok hN f3
  have pg := hg s3 (upd H2 D (.lst [])) s3.heap.objs.size (cellsFrom (s3.heap.objs.size + 1) scope.names (cloFrom X.env.cells scope.names [])) fp
  have pt := ht s3 (upd H2 D (.lst [])) s3.heap.objs.size (cellsFrom (s3.heap.objs.size + 1) scope.names (cloFrom X.env.cells scope.names [])) fp
  have pe := he s3 (upd H2 D (.lst [])) s3.heap.objs.size (cellsFrom (s3.heap.objs.size + 1) scope.names (cloFrom X.env.cells scope.names [])) fp
  show codeAny _ _ (.compStart (.ListComp elt [⟨tg, iter, ifs, 0⟩] scope pos) 0 (.ref it) (.ref D) (compEnvC scope (cellsFrom (s3.heap.objs.size + 1) scope.names (cloFrom X.env.cells scope.names [])) s3.heap.objs.size X.env)) (compPost (model X.prog X.w) X.A X.xe use Qf (.ref D) s3.heap.objs.size) { s3 with heap := pushCells (s3.heap.push { cls := .type "dict", data := .dict #[] }) scope.names }
  have nfp : ∀ b ∈ fp, (upd H2 D (.lst [])) b = none := fun b hb => (f3 b hb).1.1
  generalize hce : compEnvC scope (cellsFrom (s3.heap.objs.size + 1) scope.names (cloFrom X.env.cells scope.names [])) s3.heap.objs.size X.env = ce at I4 pg pt pe ⊢
  have cL : ce.locals = s3.heap.objs.size := by subst hce; rfl
  generalize hH3 : upd H2 D (.lst []) = H3 at I3 I4 pg pt pe w0 nfp f3
  generalize hs4 : ({ s3 with heap := pushCells (s3.heap.push { cls := .type "dict", data := .dict #[] }) scope.names } : Shared) = s4 at I4 ⊢
  have st4 : tn 0 s4.heap := T.keep _ _ _ st3 fun b _ o e => by rw [← hs4]; exact pushCells_keeps _ _ _ _ (Heap.get?_push_of_some _ e)
  have stat : ∀ {σ' : St} {H' : Hp} {s' : Shared}, Inv (X.blk s3 H3 scope ce fp) [] σ' H' s' → (∀ b ∈ fp, H' b = none) → ∀ b ∈ fp, FpOk (X.blk s3 H3 scope ce fp) [] H' b := fun {σ' H' s'} I' hn b hb =>
    ⟨hn b hb, (I'.ok.exf b hb).1, I'.ok.exfs b hb, .inl hb, fun x c e => (I'.ok.exf b hb).2 x c e, fun p hp => absurd (show p ∈ ([] : List (Addr × Obj)) ++ [] from hp) (by simp)⟩
  have loop : codeAny (model X.prog X.w) X.A (.compLoop (.ListComp elt [⟨tg, iter, ifs, 0⟩] scope pos) 0 (.ref it) (.ref D) ce) (compPost (model X.prog X.w) X.A X.xe use Qf (.ref D) s3.heap.objs.size) s4 := by
    refine compLoop_any (fun n s' => ∃ i H', Inv (X.blk s3 H3 scope ce fp) [] (wipe σ (own.map (·.2))) H' s' ∧ tn i s'.heap ∧ (∀ b ∈ fp, H' b = none) ∧ W i n H') ?_ m0 ⟨0, H3, I4, st4, nfp, w0⟩
    rintro n s5 ⟨i, H5, I5, st5, n5, w5⟩
    rcases turn i n H5 w5 with ⟨stop, qq⟩ | ⟨go, Nx, hNx, step⟩
    · have td := T.done (X.blk s3 H3 scope ce fp) rfl rfl rfl hc i [] s5 _ H5 (fun _ _ => False) I5 (stat I5 n5) st5 stop
      refine thnF td fun r s6 ⟨hr, I6⟩ => ?_
      subst hr
      -- back in the def's context
      have I7 : Inv X pins σ H5 s6 := I3.call' (ch := fp) I6.os I6.base I6.hok I6.bare fun b hb => ⟨(f3 b hb).1.2.2.2.1, (f3 b hb).1.2.1, (f3 b hb).1.2.2.2.2.1, (f3 b hb).1.2.2.2.2.2⟩
      have nC : H5 s3.heap.objs.size = none := by
        have z : H5 ce.locals = none := I6.free
        rw [cL] at z
        exact z
      obtain ⟨m, hn, _⟩ := I6.loc
      have hn : s6.heap.Ns ce.locals m := hn
      rw [cL] at hn
      exact hRR D s3.heap.objs.size s6 m H5 I7 qq hn (I3.fpOk (Nat.le_refl _) nC)
    · have ti := T.item (X.blk s3 H3 scope ce fp) rfl rfl rfl hc i [] s5 _ H5 (fun _ _ => False) I5 (stat I5 n5) st5 go
      refine thnF ti fun r s6 ⟨u, hr, h6⟩ => ?_
      subst hr
      refine thnF h6 fun _ s7 ⟨x, H7, I7, r7, y7, st7, n7⟩ => ?_
      have I7' := I7.pinned (stat I7 n7) (T.obj _ _ st7)
      refine thnF (pg _ s7 _ H7 x u _ I7' r7 (step x H7 y7)) fun _ s8 ⟨σ8, H8, I8, hw8, q8⟩ => ?_
      refine thnF (pt _ s8 σ8 H8 _ I8 q8) fun b s9 ⟨H9, I9, q9⟩ => ?_
      -- the turn's end
      have fin : ∀ {s' : Shared} {H' : Hp}, Inv (X.blk s3 H3 scope ce fp) ([] ++ pinsAt fp s7.heap) σ8 H' s' → Nx H' → ∃ m, m < n ∧ ∃ i H', Inv (X.blk s3 H3 scope ce fp) [] (wipe σ (own.map (·.2))) H' s' ∧ tn i s'.heap ∧ (∀ b ∈ fp, H' b = none) ∧ W i m H' := fun {s' H'} I' nx => by
        obtain ⟨m', hm, w'⟩ := hNx H' nx
        have pin' : ∀ b ∈ fp, ∀ o, s7.heap.get? b = some o → s'.heap.get? b = some o ∧ H' b = none := fun b hb o e =>
          let z := I'.pin (b, o) (List.mem_append_right _ (List.mem_append_right _ (mem_pinsAt hb e)))
          ⟨z.1, z.2.1⟩
        have hl : (wipe σ (own.map (·.2))).length = σ8.length := by rw [← hw8, wipe_length]
        refine ⟨m', hm, i + 1, H', (I'.unpinned (pins := [])).weak hl (fun j v e => ?_), T.keep _ _ _ st7 fun b hb o e => (pin' b hb o e).1, fun b hb => ?_, w'⟩
        · rw [← hw8] at e
          exact (wipe_some e).1
        · obtain ⟨o, e, _⟩ := T.obj _ _ st7 b hb
          exact (pin' b hb o e).2
      cases b with
      | false =>
        simp only [Bool.false_eq_true, if_false] at q9 ⊢
        exact fin I9 q9
      | true =>
        simp only [if_true] at q9 ⊢
        refine thnF (pe _ s9 σ8 H9 _ I9 q9) fun z s10 ⟨yv, H10, I10, r10, acc, hD10, hz10, nx⟩ => ?_
        exact app_ok (X := X.blk s3 H3 scope ce fp) I10 hD10 hz10 r10 fun s11 I11 => fin I11 nx
  exact codeAny_compStart_list loop (T.self X.A 0 _ _ _ st4 loop)
/-- as a value -/
theorem pe_lc {elt tg iter : Expr} {ifs : List Expr} {scope : Scope} {own : List (Str × Nat)} {pos : Pos} {wi : TI} {g : TG} {tt : TT} {te : TE} (hc : X.calm = true) (hN : X.N.Nodup) (hi : PI X tg iter wi) (ok : BlkOk X.N X.env.scope scope own)
    (hg : ∀ (s : Shared) (H : Hp) (C : Addr) (cl : List (Str × Addr)) (fp : List Addr), PG (X.blk s H scope (compEnvC scope cl C X.env) fp) tg g) (ht : ∀ (s : Shared) (H : Hp) (C : Addr) (cl : List (Str × Addr)) (fp : List Addr), PTs (X.blk s H scope (compEnvC scope cl C X.env) fp) ifs tt)
    (he : ∀ (s : Shared) (H : Hp) (C : Addr) (cl : List (Str × Addr)) (fp : List Addr), PE (X.blk s H scope (compEnvC scope cl C X.env) fp) elt te) (hs : ∀ x, foldedSetIterable iter X.env x = pure x := by intro _; rfl) :
    PE X (.ListComp elt [⟨tg, iter, ifs, 0⟩] scope pos) (tLc wi g tt te (own.map (·.2))) := by
  intro pins s σ H Q I h
  rw [eval_ListComp]
  refine lc_core hc hN I hi ok hg ht he hs h fun D C s' m H' I' q hn f => ⟨m, hn, fun h'' sb => ?_⟩
  obtain ⟨f0, f1, f2, f3, f4, f5⟩ := f
  exact ⟨.ref D, H', I'.turned (t' := s'.toks) (fun b o hb e => (sb.2 b hb).trans e) f0 f1 f3 f4 f5, rfl, q⟩
/-- name = [..] on one line, the name a local -/
theorem ps_setLc {i : Nat} {y : Str} {py : Pos} {elt tg iter : Expr} {ifs : List Expr} {scope : Scope} {own : List (Str × Nat)} {pos spos : Pos} {wi : TI} {g : TG} {tt : TT} {te : TE} (hc : X.calm = true) (hN : X.N.Nodup) (hy : X.N[i]? = some y) (hyl : X.env.scope.names.lookup y = some .local)
    (hsw : swapsWith (.ListComp elt [⟨tg, iter, ifs, 0⟩] scope pos) (some (.Name y py)) spos.line X.env = pure true) (hi : PI X tg iter wi) (ok : BlkOk X.N X.env.scope scope own)
    (hg : ∀ (s : Shared) (H : Hp) (C : Addr) (cl : List (Str × Addr)) (fp : List Addr), PG (X.blk s H scope (compEnvC scope cl C X.env) fp) tg g) (ht : ∀ (s : Shared) (H : Hp) (C : Addr) (cl : List (Str × Addr)) (fp : List Addr), PTs (X.blk s H scope (compEnvC scope cl C X.env) fp) ifs tt)
    (he : ∀ (s : Shared) (H : Hp) (C : Addr) (cl : List (Str × Addr)) (fp : List Addr), PE (X.blk s H scope (compEnvC scope cl C X.env) fp) elt te) (hs : ∀ x, foldedSetIterable iter X.env x = pure x := by intro _; rfl) :
    PS X (.Assign [.Name y py] (.ListComp elt [⟨tg, iter, ifs, 0⟩] scope pos) spos) (tAsg (tLc wi g tt te (own.map (·.2))) (gName i)) := by
  intro pins s σ H D I h
  rw [exec_Assign_Name_used _ _ _ _ hsw]
  refine wpAny_bind (wpAny_standAt (wpAny_bind ?_))
  show wpAny _ X.A (do let _ ← comprehension (.ListComp elt [⟨tg, iter, ifs, 0⟩] scope pos) scope X.env (firstIterPos [⟨tg, iter, ifs, 0⟩] pos) (newList []) false (eval iter X.env) (some (assign (.Name y py) X.env))) _ _ s
  have h : tLc wi g tt te (own.map (·.2)) σ H (fun x H1 => gName i x σ H1 D.nx) := h
  refine wpAny_bind (thn (lc_core (Qf := fun _ s' => SP X pins D .next s') hc hN I hi ok hg ht he hs h fun L C s' m H' I' q hn f => ?_) fun _ s' hq => wpAny_pure (wpAny_pure hq))
  show wpAny _ _ (assign (.Name y py) X.env (.ref L)) _ _ _
  refine wpAny_assign_Name (store_ok2 (v := V.ref L) I' hN hy (.inl hyl) rfl (fun s2 I2 ⟨a, sb, ha⟩ => ?_) (.inr hyl))
  obtain ⟨f0, f1, f2, f3, f4, f5⟩ := f
  have haC : C ≠ a := by
    rcases ha with z | z
    · rw [z]; exact f1
    · exact fun e => f4 y a z e.symm
  refine ⟨m, hn.sameBut sb haC, fun h3 sb3 => ?_⟩
  exact ⟨_, H', I2.turned (t' := s2.toks) (fun b o hb e => (sb3.2 b hb).trans e) f0 f1 f3 f4 f5, q⟩
theorem sw_true {elt : Expr} {gs : List Comprehension} {scope : Scope} {pos py : Pos} {y : Str} {l : Nat} {env : Env} (hk : env.scope.kind = .function) (hy : env.scope.names.lookup y = some .local) (hl : (py.line == pos.line) = true)
    (ha : (scope.names.any fun (n, k) => n == y && (k == .local || k == .cell)) = false) : swapsWith (.ListComp elt gs scope pos) (some (.Name y py)) l env = pure true := by
  have ky : env.kindOf y = some .local := hy
  have hb : env.blockKind = .function := by unfold Env.blockKind; rw [hk]; rfl
  unfold swapsWith
  simp only [hb, ky, ha, Expr.pos, hl]
  rfl
end

/-! ### the forms one uses -/
/-- over a range: Pv by the turn and the heap (the new list at D within) -/
theorem lc_range {lo : Int} {n : Nat} {g : TG} {tt : TT} {te : TE} {vs : List Nat} {σ : St} {H1 : Hp} {D : Addr} {Qd : Hp → Prop} (Pv : Nat → Hp → Prop) (h0 : Pv 0 (upd H1 D (.lst [])))
    (hs : ∀ i H, i < n → Pv i H → g (.int (lo + i)) (wipe σ vs) H fun σ2 H2 => wipe σ2 vs = wipe σ vs ∧ tt σ2 H2 fun b H3 =>
      if b = true then te σ2 H3 fun y H4 => ∃ acc, H4 D = some (.lst acc) ∧ acc.length < sizeLine ∧ Pv (i + 1) (upd H4 D (.lst (acc ++ [y]))) else Pv (i + 1) H3) (hd : ∀ H, Pv n H → Qd H) :
    ∃ W : Nat → Nat → Hp → Prop, (∃ m, W 0 m (upd H1 D (.lst []))) ∧ ∀ i m H, W i m H →
      ((Itr lo n).stop i H ∧ Qd H) ∨ ((Itr lo n).go i H ∧ ∃ Nx : Hp → Prop, (∀ H', Nx H' → ∃ m', m' < m ∧ W (i + 1) m' H') ∧ ∀ x H', (Itr lo n).yld i H x H' → g x (wipe σ vs) H' fun σ2 H2 => wipe σ2 vs = wipe σ vs ∧ tt σ2 H2 fun b H3 =>
        if b = true then te σ2 H3 fun y H4 => ∃ acc, H4 D = some (.lst acc) ∧ acc.length < sizeLine ∧ Nx (upd H4 D (.lst (acc ++ [y]))) else Nx H3) := by
  refine ⟨fun i m H => m = n - i ∧ i ≤ n ∧ Pv i H, ⟨n, by simp, Nat.zero_le _, h0⟩, ?_⟩
  rintro i m H ⟨rfl, hi, p⟩
  by_cases hlt : i < n
  · refine .inr ⟨hlt, Pv (i + 1), fun H' p' => ⟨n - (i + 1), by omega, rfl, hlt, p'⟩, fun x H' y => ?_⟩
    obtain ⟨e, y⟩ := y
    subst e y
    exact hs i _ hlt p
  · have e : i = n := by omega
    subst e
    exact .inl ⟨Nat.le_refl _, hd H p⟩
/-- over a list that the block leaves as it is -/
theorem lc_list {K : PySem.W.Frag} {a : Addr} {xs : List V} {g : TG} {tt : TT} {te : TE} {vs : List Nat} {σ : St} {H1 : Hp} {D : Addr} {Qd : Hp → Prop} (Pv : Nat → Hp → Prop) (h0 : Pv 0 (upd H1 D (.lst []))) (hl : ∀ i H, i ≤ xs.length → Pv i H → SqL K H a xs)
    (hs : ∀ i x H, xs[i]? = some x → Pv i H → g x (wipe σ vs) H fun σ2 H2 => wipe σ2 vs = wipe σ vs ∧ tt σ2 H2 fun b H3 =>
      if b = true then te σ2 H3 fun y H4 => ∃ acc, H4 D = some (.lst acc) ∧ acc.length < sizeLine ∧ Pv (i + 1) (upd H4 D (.lst (acc ++ [y]))) else Pv (i + 1) H3) (hd : ∀ H, Pv xs.length H → Qd H) :
    ∃ W : Nat → Nat → Hp → Prop, (∃ m, W 0 m (upd H1 D (.lst []))) ∧ ∀ i m H, W i m H →
      ((Itl K a).stop i H ∧ Qd H) ∨ ((Itl K a).go i H ∧ ∃ Nx : Hp → Prop, (∀ H', Nx H' → ∃ m', m' < m ∧ W (i + 1) m' H') ∧ ∀ x H', (Itl K a).yld i H x H' → g x (wipe σ vs) H' fun σ2 H2 => wipe σ2 vs = wipe σ vs ∧ tt σ2 H2 fun b H3 =>
        if b = true then te σ2 H3 fun y H4 => ∃ acc, H4 D = some (.lst acc) ∧ acc.length < sizeLine ∧ Nx (upd H4 D (.lst (acc ++ [y]))) else Nx H3) := by
  refine ⟨fun i m H => m = xs.length - i ∧ i ≤ xs.length ∧ Pv i H, ⟨xs.length, by simp, Nat.zero_le _, h0⟩, ?_⟩
  rintro i m H ⟨rfl, hi, p⟩
  have q := hl i H hi p
  by_cases hlt : i < xs.length
  · refine .inr ⟨⟨xs, xs[i], q, by simp [hlt]⟩, Pv (i + 1), fun H' p' => ⟨xs.length - (i + 1), by omega, rfl, hlt, p'⟩, fun x H' y => ?_⟩
    obtain ⟨e, y⟩ := y
    subst e
    exact hs i x _ (y xs q) p
  · have e : i = xs.length := by omega
    subst e
    exact .inl ⟨⟨xs, q, Nat.le_refl _⟩, hd H p⟩
end L2

namespace L2
open PySem PySem.Spec PyProof.Rows

section
variable {prog : Program} {w : World} {A : Around} {R : Result → Shared → Prop} {s : Shared} {elt t0 i0 t1 i1 : Expr} {ifs0 ifs1 : List Expr} {scope : Scope} {pos : Pos} {it acc : Value} {env : Env}
end

section
variable {X : Cx}
end
end L2

namespace L2
open PySem PySem.Spec PyProof.Rows

/-! ### lists of pairs as tables -/
section
variable {κ : Type} [DecidableEq κ]
noncomputable def valV (kvs : List (κ × V)) (k : κ) : Option V := (kvs.find? fun kv => decide (kv.1 = k)).map (·.2)
/-- in its place, or at the end -/
noncomputable def putK (kvs : List (κ × V)) (k : κ) (v : V) : List (κ × V) :=
  if (kvs.any fun kv => decide (kv.1 = k)) = true then kvs.map (fun kv => if kv.1 = k then (kv.1, v) else kv) else kvs ++ [(k, v)]
theorem valV_pos {p : κ × V} {r : List (κ × V)} {k : κ} (e : p.1 = k) : valV (p :: r) k = some p.2 := by simp [valV, List.find?_cons, e]
theorem valV_neg {p : κ × V} {r : List (κ × V)} {k : κ} (e : ¬ p.1 = k) : valV (p :: r) k = valV r k := by simp [valV, List.find?_cons, e]
theorem valV_any (k : κ) : ∀ kvs : List (κ × V), (kvs.any fun kv => decide (kv.1 = k)) = (valV kvs k).isSome
  | [] => rfl
  | p :: r => by
    rw [List.any_cons]
    by_cases e : p.1 = k
    · simp only [valV_pos e, decide_eq_true e, Bool.true_or, Option.isSome_some]
    · rw [valV_neg e, decide_eq_false e, Bool.false_or]; exact valV_any k r
theorem length_putK (kvs : List (κ × V)) (k : κ) (v : V) : (putK kvs k v).length ≤ kvs.length + 1 := by
  unfold putK
  split
  · rw [List.length_map]; omega
  · rw [List.length_append, List.length_cons, List.length_nil]; omega
theorem putK_new {kvs : List (κ × V)} {k : κ} (v : V) (h : valV kvs k = none) : putK kvs k v = kvs ++ [(k, v)] := by
  unfold putK
  rw [valV_any, h]
  exact if_neg (by decide)

theorem RelO.isSome_eq {o : Option V} {u : Option Value} (r : RelO o u) : o.isSome = u.isSome := by
  cases o with
  | none => cases u with
    | none => rfl
    | some _ => exact (show False from r).elim
  | some _ => cases u with
    | none => exact (show False from r).elim
    | some _ => rfl
theorem RelO.getD {o : Option V} {u : Option Value} {d : V} {d' : Value} (r : RelO o u) (rd : RelV d d') : RelV (o.getD d) (u.getD d') := by
  cases o with
  | none => cases u with
    | none => exact rd
    | some _ => exact (show False from r).elim
  | some _ => cases u with
    | none => exact (show False from r).elim
    | some _ => exact r

/-- raw tables of the same keys -/
theorem KV.val {kvs : List (κ × V)} {vs : List (κ × Value)} (r : KV kvs vs) (k : κ) : RelO (valV kvs k) (valueAt vs k) := by
  unfold KV at r
  induction r with
  | nil => exact True.intro
  | @cons p q ps qs h t ih =>
    obtain ⟨h1, h2⟩ := h
    by_cases e : p.1 = k
    · have e' : q.1 = k := h1.symm.trans e
      have b : valueAt (q :: qs) k = some q.2 := by simp [valueAt, List.find?_cons, e']
      rw [valV_pos e, b]; exact h2
    · have e' : ¬ q.1 = k := fun z => e (h1.trans z)
      have b : valueAt (q :: qs) k = valueAt qs k := by simp [valueAt, List.find?_cons, e']
      rw [valV_neg e, b]; exact ih
theorem KV.any {kvs : List (κ × V)} {vs : List (κ × Value)} (r : KV kvs vs) (k : κ) : (kvs.any fun kv => decide (kv.1 = k)) = vs.any fun kv => decide (kv.1 = k) := by
  unfold KV at r
  induction r with
  | nil => rfl
  | cons h t ih => rw [List.any_cons, List.any_cons, ih, h.1]
theorem KV.repl {kvs : List (κ × V)} {vs : List (κ × Value)} (r : KV kvs vs) (k : κ) {y : V} {u : Value} (ry : RelV y u) :
    KV (kvs.map fun kv => if kv.1 = k then (kv.1, y) else kv) (vs.map fun kv => if kv.1 = k then (kv.1, u) else kv) := by
  unfold KV at r ⊢
  induction r with
  | nil => exact .nil
  | @cons p q ps qs h t ih =>
    rw [List.map_cons, List.map_cons]
    refine .cons ?_ ih
    obtain ⟨h1, h2⟩ := h
    by_cases e : p.1 = k
    · rw [if_pos e, if_pos (h1.symm.trans e)]; exact ⟨h1, ry⟩
    · rw [if_neg e, if_neg (fun z => e (h1.trans z))]; exact ⟨h1, h2⟩
theorem KV.put {kvs : List (κ × V)} {vs : List (κ × Value)} (r : KV kvs vs) (k : κ) {y : V} {u : Value} (ry : RelV y u) : KV (putK kvs k y) (stored vs k u) := by
  unfold putK stored
  rw [r.any k]
  by_cases e : (vs.any fun kv => decide (kv.1 = k)) = true
  · rw [if_pos e, if_pos e]; exact r.repl k ry
  · rw [if_neg e, if_neg e]; exact Paired.snoc r ⟨rfl, ry⟩
theorem KV.keys {kvs : List (κ × V)} {vs : List (κ × Value)} (r : KV kvs vs) : kvs.map (·.1) = vs.map (·.1) := by
  unfold KV at r
  induction r with
  | nil => rfl
  | cons h t ih => rw [List.map_cons, List.map_cons, ih, h.1]
theorem KV.length {kvs : List (κ × V)} {vs : List (κ × Value)} (r : KV kvs vs) : kvs.length = vs.length := Paired.length r
end


/-! ### a tracked dict, its keys ints and texts or tuples of these -/
theorem kV_is {P : Program} {w : World} {k : Key} {u : Value} (r : RelV (kV k) u) : (mixKind P w).is k u = true := by
  cases k with
  | inl i => obtain ⟨t, e⟩ := (show ∃ t, u = Value.int i t from r); subst e; exact mixKind_int P w i t
  | inr x => obtain ⟨t, e⟩ := (show ∃ t, u = Value.str x t from r); subst e; exact mixKind_str P w x t
theorem items_are {P : Program} {w : World} : ∀ {ks : List Key} {us : List Value}, Vals (ks.map kV) us → ItemsAre (mixKind P w) ks us
  | [], _, r => by rw [List.map_nil] at r; cases r; exact .nil
  | k :: ks, _, r => by
    rw [List.map_cons] at r
    cases r with
    | cons h t => exact .cons (kV_is h) (items_are t)

/-- raw entries of a dict with tuple keys -/
noncomputable abbrev KT (H : Hp) : List (List Key × V) → List (List Key × Addr × Value) → Prop := Paired fun p q => p.1 = q.1 ∧ H q.2.1 = some (.tup (p.1.map kV)) ∧ RelV p.2 q.2.2
theorem KT.val {H : Hp} {kvs : List (List Key × V)} {xs : List (List Key × Addr × Value)} (r : KT H kvs xs) (k : List Key) : RelO (valV kvs k) ((atKey xs k).map (·.2)) := by
  induction r with
  | nil => exact True.intro
  | @cons p q ps qs h t ih =>
    obtain ⟨h1, _, h2⟩ := h
    by_cases e : p.1 = k
    · have e' : q.1 = k := h1.symm.trans e
      have b : atKey (q :: qs) k = some q.2 := by simp [atKey, List.find?_cons, e']
      rw [valV_pos e, b]; exact h2
    · have e' : ¬ q.1 = k := fun z => e (h1.trans z)
      have b : atKey (q :: qs) k = atKey qs k := by simp [atKey, List.find?_cons, e']
      rw [valV_neg e, b]; exact ih
theorem KT.repl {H : Hp} {kvs : List (List Key × V)} {xs : List (List Key × Addr × Value)} (r : KT H kvs xs) (k : List Key) {y : V} {u : Value} (ry : RelV y u) :
    KT H (kvs.map fun kv => if kv.1 = k then (kv.1, y) else kv) (xs.map (putAt k u)) := by
  induction r with
  | nil => exact .nil
  | @cons p q ps qs h t ih =>
    rw [List.map_cons, List.map_cons]
    refine .cons ?_ ih
    obtain ⟨h1, h2, h3⟩ := h
    unfold putAt
    by_cases e : p.1 = k
    · rw [if_pos e, if_pos (h1.symm.trans e)]; exact ⟨h1, h2, ry⟩
    · rw [if_neg e, if_neg (fun z => e (h1.trans z))]; exact ⟨h1, h2, h3⟩
theorem KT.put {H : Hp} {kvs : List (List Key × V)} {xs : List (List Key × Addr × Value)} (r : KT H kvs xs) (k : List Key) {b : Addr} {y : V} {u : Value} (hb : H b = some (.tup (k.map kV))) (ry : RelV y u) :
    KT H (putK kvs k y) (storedH xs k b u) := by
  have e : (kvs.any fun kv => decide (kv.1 = k)) = (atKey xs k).isSome := by
    rw [valV_any, (r.val k).isSome_eq, Option.isSome_map]
  unfold putK storedH
  rw [e]
  by_cases q : (atKey xs k).isSome = true
  · rw [if_pos q, if_pos q]; exact r.repl k ry
  · rw [if_neg q, if_neg q]; exact Paired.snoc r ⟨rfl, hb, ry⟩
theorem KT.keeps {H H' : Hp} {kvs : List (List Key × V)} {xs : List (List Key × Addr × Value)} (r : KT H kvs xs) (ht : ∀ b ys, H b = some (.tup ys) → H' b = some (.tup ys)) : KT H' kvs xs :=
  Paired.mapP r fun _ _ z => ⟨z.1, ht _ _ z.2.1, z.2.2⟩

section
variable {P : Program} {w : World} {H : Hp} {h : Heap} {a : Addr}
theorem rd_of {u : HO} (ok : HOk P w H h) (e : Rd H a u) : ObjOk P w H h a u := e.ok ok
theorem dk_rd {kvs : List (Key × V)} (ok : HOk P w H h) (e : Rd H a (.dK kvs)) : kvs.length ≤ sizeLine ∧ (a == sysModules) = false ∧ ∃ vs, KV kvs vs ∧ h.DictOf (mixKind P w) a vs :=
  show ObjOk P w H h a (.dK kvs) from rd_of ok e
theorem dk_of {kvs : List (Key × V)} (ok : HOk P w H h) (e : H a = some (.dK kvs)) : kvs.length ≤ sizeLine ∧ (a == sysModules) = false ∧ ∃ vs, KV kvs vs ∧ h.DictOf (mixKind P w) a vs := dk_rd ok (.inl e)
/-- a tracked tuple of ints and texts is a key -/
theorem key_of {ks : List Key} (ok : HOk P w H h) (e : H a = some (.tup (ks.map kV))) : (tupleKind (mixKind P w)).is h ks a := by
  obtain ⟨_, its, r, o, h1, h2, n, h3⟩ := (show ObjOk P w H h a (.tup (ks.map kV)) from ok a _ e)
  exact ⟨o, its.toArray, n, h1, h2, h3, by simpa using items_are r⟩
theorem dt_rd {kvs : List (List Key × V)} (ok : HOk P w H h) (e : Rd H a (.dT kvs)) : kvs.length ≤ sizeLine ∧ (a == sysModules) = false ∧
    ∃ xs, KT H kvs xs ∧ h.DictOfH (tupleKind (mixKind P w)) a xs := by
  obtain ⟨z, y, xs, r, o, es, ep, h1, h2, h3, h4, h5⟩ := (show ObjOk P w H h a (.dT kvs) from rd_of ok e)
  refine ⟨z, y, xs, r, o, es, ep, h1, h2, h3, h4, fun x hx => ?_, h5⟩
  have all : ∀ {l : List (List Key × V)} {m : List (List Key × Addr × Value)}, KT H l m → ∀ x ∈ m, (tupleKind (mixKind P w)).is h x.1 x.2.1 := by
    intro l m q
    induction q with
    | nil => intro x hx; exact nomatch hx
    | @cons p q ps qs hq t ih =>
      intro x hx
      rcases List.mem_cons.mp hx with e | hx
      · subst e
        exact key_of ok (by rw [← hq.1]; exact hq.2.1)
      · exact ih x hx
  exact all r x hx
theorem dt_of {kvs : List (List Key × V)} (ok : HOk P w H h) (e : H a = some (.dT kvs)) : kvs.length ≤ sizeLine ∧ (a == sysModules) = false ∧
    ∃ xs, KT H kvs xs ∧ h.DictOfH (tupleKind (mixKind P w)) a xs := dt_rd ok (.inl e)
end

/-- what the dict at a holds at the key y -/
noncomputable def DGet (H : Hp) (a : Addr) (y : V) (r : Option V) : Prop :=
  (∃ kvs k, Rd H a (.dK kvs) ∧ y = kV k ∧ r = valV kvs k) ∨ ∃ kvs k b, Rd H a (.dT kvs) ∧ y = .ref b ∧ H b = some (.tup (k.map kV)) ∧ r = valV kvs k
/-- the heap behind a[y] = v -/
noncomputable def DPut (H : Hp) (a : Addr) (y v : V) (H' : Hp) : Prop :=
  (∃ kvs k, H a = some (.dK kvs) ∧ y = kV k ∧ kvs.length < sizeLine ∧ H' = upd H a (.dK (putK kvs k v))) ∨
  ∃ kvs k b, H a = some (.dT kvs) ∧ y = .ref b ∧ H b = some (.tup (k.map kV)) ∧ kvs.length < sizeLine ∧ H' = upd H a (.dT (putK kvs k v))
theorem DGet.k {H : Hp} {a : Addr} {kvs : List (Key × V)} {k : Key} (e : H a = some (.dK kvs)) : DGet H a (kV k) (valV kvs k) := .inl ⟨kvs, k, .inl e, rfl, rfl⟩
theorem DPut.k {H : Hp} {a : Addr} {kvs : List (Key × V)} {k : Key} {v : V} (e : H a = some (.dK kvs)) (hl : kvs.length < sizeLine) : DPut H a (kV k) v (upd H a (.dK (putK kvs k v))) := .inl ⟨kvs, k, e, rfl, hl, rfl⟩
section
variable {X : Cx} {pins : List (Addr × Obj)} {σ : St} {H : Hp} {s : Shared} {a : Addr} {y v : V} {u r : Value} {o : Option V} {A : Around} {E : Value → Shared → Prop}

theorem Inv.big (I : Inv X pins σ H s) : sysModules < s.heap.objs.size := by
  have h : mainGlobals < s.heap.objs.size := (I.mod.glob.keeps I.bk).lt
  exact Nat.lt_trans (by decide) h

/-- d[y], there -/
theorem d_getItem {Q : Value → Shared → Prop} (hu : A.units + 1 < cLine) (I : Inv X pins σ H s) (g : DGet H a y (some v)) (ry : RelV y u) (h : ∀ w' s', Inv X pins σ H s' → RelV v w' → Q w' s') :
    wpAny (model X.prog X.w) A (getItem (.ref a) u) Q E s := by
  rcases g with ⟨kvs, k, e, ey, l⟩ | ⟨kvs, k, b, e, ey, eb, l⟩
  · subst ey
    obtain ⟨z, hd, vs, rel, dd⟩ := dk_rd I.hok e
    obtain ⟨w', hw, rw'⟩ := RelO.some_of (v := v) (o := valueAt vs k) (by rw [l]; exact rel.val k)
    exact wpAny_getItem_of (kV_is ry) dd.mapOf hw (h w' _ (I.tok _) rw')
  · subst ey
    cases (show u = Value.ref b from ry)
    obtain ⟨z, hd, xs, rel, dd⟩ := dt_rd I.hok e
    obtain ⟨w', hw, rw'⟩ := RelO.some_of (v := v) (o := (atKey xs k).map (·.2)) (by rw [l]; exact rel.val k)
    obtain ⟨p, hp, hp2⟩ := Option.map_eq_some_iff.mp hw
    refine wpAny_getItem_heap (tupleKind_room_in1 hu) (key_of I.hok eb) dd hp ?_
    rw [hp2]
    exact h w' _ (I.tok _) rw'
theorem d_notIn {Q : Value → Shared → Prop} (hu : A.units + 1 < cLine) (I : Inv X pins σ H s) (g : DGet H a y o) (ry : RelV y u) (h : ∀ s', Inv X pins σ H s' → Q (.bool (!o.isSome)) s') :
    wpAny (model X.prog X.w) A (compareOp .NotIn u (.ref a)) Q E s := by
  rcases g with ⟨kvs, k, e, ey, l⟩ | ⟨kvs, k, b, e, ey, eb, l⟩
  · subst ey
    obtain ⟨z, hd, vs, rel, dd⟩ := dk_rd I.hok e
    refine wpAny_notIn_of (kV_is ry) hd dd.mapOf ?_
    rw [← (rel.val k).isSome_eq, ← l]
    exact h _ (I.tok _)
  · subst ey
    cases (show u = Value.ref b from ry)
    obtain ⟨z, hd, xs, rel, dd⟩ := dt_rd I.hok e
    refine wpAny_notIn_heap (tupleKind_room_in1 hu) (key_of I.hok eb) hd dd ?_
    have q := (rel.val k).isSome_eq
    rw [Option.isSome_map] at q
    rw [← q, ← l]
    exact h _ (I.tok _)
/-- a dict's object is replaced -/
theorem d_write {h' : Heap} {t' : Nat} {ob : HO} (I : Inv X pins σ H s) (mu : Mut (H a)) (hs : Heap.SameBut a s.heap h') (he : ∃ q, h'.get? a = some q) (new : ObjOk X.prog X.w (upd H a ob) h' a ob) :
    Inv X pins σ (upd H a ob) { s with heap := h', toks := t' } :=
  I.write (x := a) (e := a) mu (.inl rfl) (fun b q hb z => (hs.2 b hb).trans z) he new
theorem dk_new {P : Program} {w : World} {H' : Hp} {h' : Heap} {kvs : List (Key × V)} {vs : List (Key × Value)} (z : kvs.length ≤ sizeLine) (hd : (a == sysModules) = false) (rel : KV kvs vs) (dd : h'.DictOf (mixKind P w) a vs) :
    ObjOk P w H' h' a (.dK kvs) := ⟨z, hd, vs, rel, dd⟩
/-- d[y] = v -/
theorem d_setItem {H' : Hp} {Q : Unit → Shared → Prop} (hu : A.units + 1 < cLine) (I : Inv X pins σ H s) (g : DPut H a y v H') (ry : RelV y u) (rv : RelV v r) (h : ∀ s', Inv X pins σ H' s' → Q () s') :
    wpAny (model X.prog X.w) A (setItem (.ref a) u r) Q E s := by
  rcases g with ⟨kvs, k, e, ey, l, eH⟩ | ⟨kvs, k, b, e, ey, eb, l, eH⟩
  · subst ey eH
    obtain ⟨z, hd, vs, rel, dd⟩ := dk_of I.hok e
    have hz : vs.length ≤ sizeLine := by rw [← rel.length]; exact z
    have hl : (putK kvs k v).length ≤ sizeLine := by have := length_putK kvs k v; omega
    refine wpAny_setItem_pairs (hsz := hz) (kV_is ry) dd fun h' dd' hs => h _ ?_
    have he : ∃ q, h'.get? a = some q := let ⟨q, _, _, hq, _⟩ := dd'; ⟨q, hq⟩
    exact d_write I (by rw [e]; exact True.intro) hs he (dk_new hl hd (rel.put k rv) dd')
  · subst ey eH
    cases (show u = Value.ref b from ry)
    obtain ⟨z, hd, xs, rel, dd⟩ := dt_of I.hok e
    have hz : xs.length ≤ sizeLine := by rw [← Paired.length rel]; exact z
    have hl : (putK kvs k v).length ≤ sizeLine := by have := length_putK kvs k v; omega
    refine wpAny_setItem_heap (hsz := hz) (tupleKind_room_in1 hu) (key_of I.hok eb) dd fun h' dd' hs => h _ ?_
    obtain ⟨q, es, ep, hq, h2, h3, h4, _, h5⟩ := dd'
    refine d_write I (by rw [e]; exact True.intro) hs ⟨q, hq⟩ ⟨hl, hd, _, (rel.put k eb rv).keeps fun c ys ec => ?_, q, es, ep, hq, h2, h3, h4, h5⟩
    rw [upd_ne (ne_of ec e (fun z => nomatch z))]
    exact ec
end

section
variable {X : Cx} {pins : List (Addr × Obj)} {σ : St} {H : Hp} {s : Shared} {a : Addr} {kvs : List (Key × V)} {k : Key} {u : Value} {A : Around} {E : Value → Shared → Prop}
/-- len(d) -/
theorem d_len {Q : Value → Shared → Prop} (I : Inv X pins σ H s) (e : Rd H a (.dK kvs)) (h : ∀ t s', Inv X pins σ H s' → Q (.int kvs.length t) s') : wpAny (model X.prog X.w) A (call (.builtin "len") [.ref a]) Q E s := by
  obtain ⟨z, hd, vs, rel, dd⟩ := dk_rd I.hok e
  refine call_len_dict hd dd (by rw [← rel.length]; rw [sizeLine_eq] at z; omega) ?_
  rw [← rel.length]
  exact h _ _ (I.tok _)
end


/-! ### readings and rules -/
/-- the element of a subscription, not a slice -/
noncomputable def NoSl (i : Expr) : Prop := ∀ ov iv, subscripted i false ov iv = operate [ov, iv] (getItem ov iv)
theorem subD_of {prog : Program} {w : World} {A : Around} {E : Value → Shared → Prop} {s : Shared} {env : Env} {value slice : Expr} {pos : Pos} {T id : String} {Q : Value → Shared → Prop}
    (hl : typeLookup (.type T) "__getitem__" = pure (some (.builtin id))) (hs : NoSl slice)
    (h : wpAny (model prog w) A (eval value env) (fun o s₁ => wpAny (model prog w) A (eval slice env) (fun i s₂ => s₂.TypeIs o T ∧ wpAny (model prog w) A (getItem o i) Q E s₂) E s₁) E s) :
    wpAny (model prog w) A (eval (.Subscript value slice pos) env) Q E s := by
  refine Subscript_ (wpAny_mono h (fun o s₁ h₁ => wpAny_mono h₁ (fun i s₂ h₂ => ?_) fun _ _ x => x) fun _ _ x => x)
  obtain ⟨hT, h₂⟩ := h₂
  unfold subscriptTail
  refine wpAny_bind ?_
  rw [getitemInPython_of_ne hT.not_modules]
  refine wpAny_bind (wpAny_specialOf hT hl ?_)
  have fin : wpAny (model prog w) A (subscripted slice false o i) (fun r s₃ => wpAny (model prog w) A (letTemporaryGo value o r >>= fun _ => pure r) Q E s₃) E s₂ := by
    rw [hs o i]
    exact wpAny_operating (wpAny_mono h₂ (fun r s₃ h₃ => wpAny_bind (wpAny_letTemporaryGo (wpAny_pure h₃))) fun _ _ x => x)
  first
    | exact wpAny_pure (wpAny_bind fin)
    | exact wpAny_bind (wpAny_pure (wpAny_bind fin))
    | exact wpAny_bind fin

theorem dict_typeIs {X : Cx} {pins : List (Addr × Obj)} {σ : St} {H : Hp} {s : Shared} {a : Addr} {y : V} {o : Option V} (I : Inv X pins σ H s) (g : DGet H a y o) : s.TypeIs (.ref a) "dict" := by
  rcases g with ⟨kvs, k, e, _, _⟩ | ⟨kvs, k, b, e, _, _, _⟩
  · obtain ⟨_, _, vs, _, dd⟩ := dk_rd I.hok e
    exact dd.typeIs
  · obtain ⟨_, _, xs, _, dd⟩ := dt_rd I.hok e
    exact dd.typeIs
/-- d[y] -/
noncomputable def tDGet (td ty : TE) : TE := fun σ H Q => td σ H fun x H1 => ty σ H1 fun y H2 => ∃ a v, x = .ref a ∧ DGet H2 a y (some v) ∧ Q v H2
noncomputable def tDNotIn (ty td : TE) : TE := fun σ H Q => ty σ H fun y H1 => td σ H1 fun x H2 => ∃ a o, x = .ref a ∧ DGet H2 a y o ∧ Q (.bl (!o.isSome)) H2
/-- d[y] = v -/
noncomputable def sDPut (td ty tv : TE) : TS := fun D σ H => tv σ H fun v H1 => td σ H1 fun x H2 => ty σ H2 fun y H3 => ∃ a H4, x = .ref a ∧ DPut H3 a y v H4 ∧ D.nx σ H4
section
variable {X : Cx} {o i e value : Expr} {pos pos' tpos : Pos} {td ty tv : TE}
theorem pe_dget (hu : X.A.units + 1 < cLine) (ho : PE X o td) (hi : PE X i ty) (hs : NoSl i) : PE X (.Subscript o i pos) (tDGet td ty) := by
  intro pins s σ H Q I h
  refine subD_of PySem.F.slot_dict_getitem.lookup hs (thn (ho pins s σ H _ I h) fun u s1 ⟨x, H1, I1, rx, q1⟩ => thn (hi pins s1 σ H1 _ I1 q1) fun iv s2 ⟨y, H2, I2, ry, a, v, ex, g, q2⟩ => ?_)
  subst ex
  obtain rfl : u = Value.ref a := rx
  exact ⟨dict_typeIs I2 g, d_getItem hu I2 g ry fun w' s3 I3 rw' => ⟨v, H2, I3, rw', q2⟩⟩
theorem pc_dnotin (hu : X.A.units + 1 < cLine) (hi : PE X i ty) (ho : PE X o td) : PC X .NotIn i o (tDNotIn ty td) := by
  intro pins s σ H Q I h
  refine thn (hi pins s σ H _ I h) fun iv s1 ⟨y, H1, I1, ry, q1⟩ => thn (ho pins s1 σ H1 _ I1 q1) fun u s2 ⟨x, H2, I2, rx, a, ov, ex, g, q2⟩ => ?_
  subst ex
  obtain rfl : u = Value.ref a := rx
  exact d_notIn hu I2 g ry fun s3 I3 => ⟨.bl (!ov.isSome), H2, I3, rfl, q2⟩
theorem ps_dput (hu : X.A.units + 1 < cLine) (ho : PE X o td) (hi : PE X i ty) (hv : PE X value tv) (hs : swapsWith value (some (.Subscript o i pos')) pos.line X.env = pure false) :
    PS X (.Assign [.Subscript o i pos'] value pos) (sDPut td ty tv) := by
  intro pins s σ H D I h
  refine wpAny_Assign_Subscript (thn (hv pins s σ H _ I h) fun r s1 ⟨v, H1, I1, rv, q1⟩ => thn (ho pins s1 σ H1 _ I1 q1) fun u s2 ⟨x, H2, I2, rx, q2⟩ => thn (hi pins s2 σ H2 _ I2 q2) fun iv s3 ⟨y, H3, I3, ry, a, H4, ex, g, q3⟩ => ?_) hs
  subst ex
  obtain rfl : u = Value.ref a := rx
  exact d_setItem hu I3 g ry rv fun s4 I4 => ⟨σ, H4, I4, q3⟩
end


/-! ### displays -/
theorem dk_empty {P : Program} {w : World} {H : Hp} (h : Heap) (hb : sysModules < h.objs.size) : ObjOk P w H (h.push { cls := .type "dict", data := .dict #[] }) h.objs.size (.dK []) :=
  ⟨Nat.zero_le _, beq_eq_false_iff_ne.mpr (Ne.symm (Nat.ne_of_lt hb)), [], .nil, Heap.DictOf.new h⟩
/-- {}, to be a dict of the kind that is wanted -/
noncomputable def tDNewK : TE := fun _ H Q => ∀ p, H p = none → Q (.ref p) (upd H p (.dK []))
section
variable {X : Cx} {pos : Pos}
theorem pe_dnewK : PE X (.Dict [] [] pos) tDNewK := fun pins s σ H Q I h =>
  wpAny_Dict_empty ⟨.ref s.heap.objs.size, _, I.laid (a := s.heap.objs.size) (o := .dK []) (t' := s.toks) (fun _ _ q => Heap.get?_push_of_some _ q) (Nat.le_refl _) (dk_empty s.heap I.big), rfl, h _ (I.hok.fresh (Nat.le_refl _))⟩
end

/-- the pairs of a display, from the left -/
noncomputable def tPairs : List (TE × TE) → St → Hp → (List (V × V) → Hp → Prop) → Prop
  | [], _, H, Q => Q [] H
  | (tk, tv) :: r, σ, H, Q => tk σ H fun x H1 => tv σ H1 fun y H2 => tPairs r σ H2 fun ps H3 => Q ((x, y) :: ps) H3
noncomputable abbrev VV : List (V × V) → List (Value × Value) → Prop := Paired fun p q => RelV p.1 q.1 ∧ RelV p.2 q.2
noncomputable def PPs (X : Cx) (pos : Pos) (keys : List (Option Expr)) (values : List Expr) (trs : List (TE × TE)) : Prop :=
  ∀ (pins : List (Addr × Obj)) (s : Shared) (σ : St) (H : Hp) (Q : List (V × V) → Hp → Prop), Inv X pins σ H s → tPairs trs σ H Q →
    wpAny (model X.prog X.w) X.A (evalPairs (pairTrees keys values X.env pos)) (fun vs s' => ∃ ps H', Inv X pins σ H' s' ∧ VV ps vs ∧ Q ps H') X.xe s
theorem pps_nil {X : Cx} {pos : Pos} : PPs X pos [] [] [] := fun pins s σ H Q I h => pairTrees_nil_walk ⟨[], H, I, .nil, h⟩
theorem pps_cons {X : Cx} {pos : Pos} {k v : Expr} {ks : List (Option Expr)} {vs : List Expr} {tk tv : TE} {trs : List (TE × TE)} (hk : PE X k tk) (hv : PE X v tv) (hr : PPs X pos ks vs trs) :
    PPs X pos (some k :: ks) (v :: vs) ((tk, tv) :: trs) := fun pins s σ H Q I h =>
  pairTrees_cons_walk (thn (hk pins s σ H _ I h) fun u s1 ⟨x, H1, I1, rx, q1⟩ => thn (hv pins s1 σ H1 _ I1 q1) fun w2 s2 ⟨y, H2, I2, ry, q2⟩ =>
    thn (hr pins s2 σ H2 _ I2 q2) fun ws s3 ⟨ps, H3, I3, rel, q3⟩ => ⟨(x, y) :: ps, H3, I3, .cons ⟨rx, ry⟩ rel, q3⟩)

noncomputable def mergeK (kvs more : List (Key × V)) : List (Key × V) := more.foldl (fun acc kv => putK acc kv.1 kv.2) kvs
theorem KV.merge : ∀ {more : List (Key × V)} {rs : List (Key × Value)} {kvs : List (Key × V)} {vs : List (Key × Value)}, KV more rs → KV kvs vs → KV (mergeK kvs more) (merged vs rs) := by
  intro more rs kvs vs r
  unfold KV at r
  induction r generalizing kvs vs with
  | nil => intro q; exact q
  | @cons p q ps qs h t ih =>
    intro r0
    have e : KV (putK kvs p.1 p.2) (stored vs q.1 q.2) := by
      have := r0.put p.1 h.2
      rw [← h.1]; exact this
    exact ih e
theorem length_mergeK : ∀ (more kvs : List (Key × V)), (mergeK kvs more).length ≤ kvs.length + more.length
  | [], kvs => by show kvs.length ≤ kvs.length + 0; omega
  | p :: r, kvs => by
    have h1 := length_mergeK r (putK kvs p.1 p.2)
    have h2 := length_putK kvs p.1 p.2
    show (mergeK (putK kvs p.1 p.2) r).length ≤ _
    rw [List.length_cons]; omega
theorem carries_of {P : Program} {w : World} : ∀ {kvs : List (Key × V)} {ws : List (Value × Value)}, VV (kvs.map fun kv => (kV kv.1, kv.2)) ws → ∃ rs, Carries (mixKind P w) ws rs ∧ KV kvs rs
  | [], _, r => by rw [List.map_nil] at r; cases r; exact ⟨[], True.intro, .nil⟩
  | p :: kvs, _, r => by
    rw [List.map_cons] at r
    cases r with
    | @cons a b as bs h t =>
      obtain ⟨rs, c, q⟩ := carries_of (P := P) (w := w) t
      obtain ⟨b1, b2⟩ := b
      exact ⟨(p.1, b2) :: rs, ⟨kV_is h.1, rfl, c⟩, .cons ⟨rfl, h.2⟩ q⟩
/-- {k: v, ..} with keys ints and texts; the new dict stands empty while the pairs are made -/
noncomputable def tDisp (trs : List (TE × TE)) : TE := fun σ H Q => ∀ p, H p = none → tPairs trs σ (upd H p (.dK [])) fun ps H2 => H2 p = some (.dK []) ∧ ∃ kvs : List (Key × V), ps = kvs.map (fun kv => (kV kv.1, kv.2)) ∧ kvs.length ≤ 15 ∧ Q (.ref p) (upd H2 p (.dK (mergeK [] kvs)))
theorem pe_disp {X : Cx} {pos : Pos} {keys : List (Option Expr)} {values : List Expr} {trs : List (TE × TE)} (h : PPs X pos keys values trs) (hall : keys.all (·.isSome) = true) (hl : keys.length = values.length) (h0 : keys ≠ [])
    (h15 : keys.length ≤ 15) : PE X (.Dict keys values pos) (tDisp trs) := by
  intro pins s σ H Q I q
  have hn := I.hok.fresh (Nat.le_refl s.heap.objs.size)
  have I1 := I.laid (a := s.heap.objs.size) (o := .dK []) (h' := s.heap.push { cls := .type "dict", data := .dict #[] }) (t' := s.toks) (fun _ _ q => Heap.get?_push_of_some _ q) (Nat.le_refl _) (dk_empty s.heap I.big)
  refine wpAny_Dict_walk (knd := mixKind X.prog X.w) hall hl h0 h15 (thn (h pins _ σ _ _ I1 (q _ hn)) fun ws s2 ⟨ps, H2, I2, rel, e, kvs, ep, lk, q2⟩ => ?_)
  subst ep
  obtain ⟨rs, c, rk⟩ := carries_of (P := X.prog) (w := X.w) rel
  obtain ⟨z, hd, vs0, r0, dd⟩ := dk_of I2.hok e
  cases r0
  refine ⟨rs, c, dd, fun h' dd' hs => ⟨.ref s.heap.objs.size, _, ?_, rfl, q2⟩⟩
  have hz : (mergeK [] kvs).length ≤ sizeLine := by
    have h1 := length_mergeK kvs []
    rw [List.length_nil] at h1
    rw [sizeLine_eq]; omega
  have he : ∃ q, h'.get? s.heap.objs.size = some q := let ⟨q, _, _, hq, _⟩ := dd'; ⟨q, hq⟩
  exact d_write I2 (by rw [e]; exact True.intro) hs he (dk_new hz hd (rk.merge .nil) dd')


/-! ### methods -/
structure M2 (X : Cx) (o : Expr) (m : Str) (apos : Pos) (e f : Expr) (cpos : Pos) : Prop where
  base : attributeBase o m X.env (eval o X.env) = eval o X.env
  few : ((backTo cpos (starEach [e, f] X.env)).all (fun x => !x.1) && (backToKw cpos (keywordEach [] X.env)).all (fun x => x.1.isSome)
    && decide (([e, f] : List Expr).length + ([] : List Keyword).length + (if ([] : List Keyword).isEmpty then 0 else 1) < 30)) = true
  line : (apos.endLine == cpos.line) = true
  trees : backTo cpos (starEach [e, f] X.env) = [(false, eval e X.env), (false, eval f X.env)]

/-- a is a dict, whatever its keys -/
noncomputable def IsD (H : Hp) (a : Addr) : Prop := (∃ kvs, Rd H a (.dK kvs)) ∨ ∃ kvs, Rd H a (.dT kvs)
theorem isD_at {X : Cx} {pins : List (Addr × Obj)} {σ : St} {H : Hp} {s : Shared} {a : Addr} (I : Inv X pins σ H s) (d : IsD H a) :
    s.TypeIs (.ref a) "dict" ∧ (∀ b, Value.ref a = .ref b → ∃ ob, s.heap.get? b = some ob ∧ ob.dict = none) ∧ (a == sysModules) = false := by
  rcases d with ⟨kvs, e⟩ | ⟨kvs, e⟩
  · obtain ⟨_, hd, vs, _, dd⟩ := dk_rd I.hok e
    refine ⟨dd.typeIs, fun b q => ?_, hd⟩
    cases q
    obtain ⟨ob, _, _, h1, h2, _⟩ := dd
    exact ⟨ob, h1, h2.2.1⟩
  · obtain ⟨_, hd, xs, _, dd⟩ := dt_rd I.hok e
    refine ⟨dd.typeIs, fun b q => ?_, hd⟩
    cases q
    obtain ⟨ob, _, _, h1, h2, _⟩ := dd
    exact ⟨ob, h1, h2.2.1⟩

section
variable {X : Cx} {pins : List (Addr × Obj)} {σ : St} {H : Hp} {s : Shared} {a : Addr} {y d : V} {u r : Value} {o : Option V} {A : Around} {E : Value → Shared → Prop}
/-- d.get(y, x) -/
theorem d_get2 {Q : Value → Shared → Prop} (hu : A.units + 1 < cLine) (I : Inv X pins σ H s) (g : DGet H a y o) (ry : RelV y u) (rd : RelV d r) (h : ∀ w' s', Inv X pins σ H s' → RelV (o.getD d) w' → Q w' s') :
    wpAny (model X.prog X.w) A (call (.builtin "dict.get") [.ref a, u, r]) Q E s := by
  rcases g with ⟨kvs, k, e, ey, l⟩ | ⟨kvs, k, b, e, ey, eb, l⟩
  · subst ey
    obtain ⟨z, hd, vs, rel, dd⟩ := dk_rd I.hok e
    refine call_meetsIn PySem.F.slot_dict_get dd.typeIs PySem.F.entry_dict_get (PySem.F.args_dict_get_3 _ _ _) (meets_dict_get_default (mixKind X.prog X.w) a (kV_is ry) hd r) ⟨_, dd.mapOf, h _ _ (I.tok _) ?_⟩
    rw [l]
    exact (rel.val k).getD rd
  · subst ey
    cases (show u = Value.ref b from ry)
    obtain ⟨z, hd, xs, rel, dd⟩ := dt_rd I.hok e
    refine call_meetsIn PySem.F.slot_dict_get dd.typeIs PySem.F.entry_dict_get (PySem.F.args_dict_get_3 _ _ _) (meetsH_dict_get_default (tupleKind (mixKind X.prog X.w)) a b hd r) ⟨tupleKind_room_in1 hu, k, xs, key_of I.hok eb, dd, h _ _ (I.tok _) ?_⟩
    rw [l]
    exact (rel.val k).getD rd
end

noncomputable def tDGet2 (td ty tx : TE) : TE := fun σ H Q => td σ H fun x H1 => ∃ a, x = .ref a ∧ IsD H1 a ∧ ty σ H1 fun y H2 => tx σ H2 fun z H3 => ∃ o, DGet H3 a y o ∧ Q (o.getD z) H3
section
variable {X : Cx} {o e f : Expr} {apos cpos : Pos} {td ty tx : TE}
theorem pe_dget2 (hu : X.A.units + 1 < cLine) (ho : PE X o td) (he : PE X e ty) (hf : PE X f tx) (m : M2 X o "get" apos e f cpos) : PE X (.Call (.Attribute o "get" apos) [e, f] [] cpos) (tDGet2 td ty tx) := by
  intro pins s σ H Q I h
  refine wpAny_Call_method m.base m.few m.line PySem.F.plainAttrs_dict PySem.F.slot_dict_get PySem.F.type_dict_get (thn (ho pins s σ H _ I h) fun u s1 ⟨x, H1, I1, rx, a, ex, d, q1⟩ => ?_)
  subst ex
  obtain rfl : u = Value.ref a := rx
  obtain ⟨t1, t2, _⟩ := isD_at I1 d
  refine ⟨t1, t2, ?_⟩
  rw [m.trees]
  refine Calls.callWith_builtin rfl (Calls.evalArgs_plain (Calls.spliced_cons (thn (he pins s1 σ H1 _ I1 q1) fun iv s2 ⟨y, H2, I2, ry, q2⟩ =>
    Calls.spliced_cons (thn (hf pins s2 σ H2 _ I2 q2) fun fv s3 ⟨z, H3, I3, rz, ov, g, q3⟩ => Calls.spliced_nil ?_))))
  exact d_get2 hu I3 g ry rz fun w' s4 I4 rw' => ⟨_, H3, I4, rw', q3⟩
end

/-! ### dict(d): a copy -/
section
variable {X : Cx} {pins : List (Addr × Obj)} {σ : St} {H : Hp} {s : Shared} {a : Addr} {kvs : List (Key × V)} {A : Around} {E : Value → Shared → Prop}
end


section
variable {X : Cx} {pins : List (Addr × Obj)} {σ : St} {H : Hp} {s : Shared} {a : Addr} {y : V} {u : Value} {A : Around} {E : Value → Shared → Prop}
end
end L2

namespace L2
open PySem PySem.Spec PyProof.Rows

section
variable {prog : Program} {w : World} {A : Around} {E : Value → Shared → Prop}
end

section
variable {X : Cx}
end
end L2

namespace L2
open PySem PySem.Spec PyProof.Rows

theorem boot_reversed5 : bootBuiltins "reversed" = some (.type "reversed") := by decide +kernel

section
variable {X : Cx} {pins : List (Addr × Obj)} {σ : St} {H : Hp} {s : Shared} {h' : Heap}
/-- .. and one new object is laid -/
theorem Inv.turnedNew {t' : Nat} {ch : List Addr} {T : Addr} {ob : HO} (I : Inv X pins σ H s) (k : ∀ b o, b ∉ ch → s.heap.get? b = some o → h'.get? b = some o) (hf : ∀ b ∈ ch, FpOk X pins H b) (hT : s.heap.objs.size ≤ T)
    (new : ObjOk X.prog X.w (upd H T ob) h' T ob) : Inv X pins σ (upd H T ob) { s with heap := h', toks := t' } := by
  have hn : H T = none := I.hok.fresh hT
  have nit : ∀ b u, H b = some u → b ∉ ch := fun b u e z => by
    have q := (hf b z).1
    rw [q] at e; cases e
  refine I.step (g' := s.gens) (d' := s.drawn) (ch := ch) (fun b hb => ⟨(hf b hb).2.2.2.1, (hf b hb).2.1, (hf b hb).2.2.2.2.1, (hf b hb).2.2.2.2.2⟩) (fun b o _ _ hc e _ => k b o hc e) (fun b o _ _ hc e _ => ⟨o.slots, k b o hc e⟩)
    (fun b o _ e n => ?_) (fun b o hc e => ⟨o, k b o hc e⟩) (fun b xs e => ?_) (fun b o u e => ?_) (fun b ps e => ⟨#[], ?_⟩) (fun m hm => ?_) (fun b u e => ?_) I.bare
  · rw [upd_ne (Nat.ne_of_lt (Nat.lt_of_lt_of_le (Heap.lt_size e) hT))]; exact n
  · rw [upd_ne (ne_of_none e hn)]; exact e
  · rw [upd_ne (ne_of_none e hn)]; exact e
  · rw [upd_ne (ne_of_none e hn), e]; simp
  · obtain ⟨o, es, ep, ho, r⟩ := hm
    exact ⟨o, es, ep, k _ o (fun z => (hf _ z).2.1 rfl) ho, r⟩
  · by_cases hb : b = T
    · subst hb
      rw [upd_same] at e
      cases e
      exact new
    · rw [upd_ne hb] at e
      refine (I.hok b u e).stay (fun c v hc q => k c v ?_ q) (fun c q => by rw [upd_ne (ne_of_none q hn)]; exact q) fun c xs q => by rw [upd_ne (ne_of_none q hn)]; exact q
      rcases hc with z | z
      · rw [z]; exact nit b u e
      · exact nit c _ z

/-! ### locking a thing while a statement runs -/
theorem Inv.lock {d : Addr} {u : HO} (I : Inv X pins σ H s) (h : H d = some u) (mu : Mut (some u)) : ∃ od, Inv X pins σ (upd H d (.frz od u)) s := by
  have x := I.hok d u h
  have ex : ∃ od, s.heap.get? d = some od := by
    cases u with
    | lst xs => obtain ⟨_, _, _, _, e⟩ := x; exact ⟨_, e⟩
    | dK kvs => obtain ⟨_, _, _, _, o, _, _, e, _⟩ := x; exact ⟨o, e⟩
    | dT kvs => obtain ⟨_, _, _, _, o, _, _, e, _⟩ := x; exact ⟨o, e⟩
    | set S n => obtain ⟨o, _, _, _, e, _⟩ := x; exact ⟨o, e⟩
    | ins C dx fs => obtain ⟨_, _, _, e, _⟩ := x; exact ⟨_, e⟩
    | ext φ => obtain ⟨_, ⟨_, e⟩, _⟩ := x; exact ⟨_, e⟩
    | _ => exact False.elim mu
  obtain ⟨od, e⟩ := ex
  have new : ObjOk X.prog X.w (upd H d (.frz od u)) s.heap d (.frz od u) := by
    refine ⟨e, x.stay (fun b v _ q => q) (fun b q => ?_) fun b xs q => ?_⟩
    · rw [upd_ne (fun z => by rw [z, h] at q; cases q; exact mu)]; exact q
    · rw [upd_ne (fun z => by rw [z, h] at q; cases q; exact mu)]; exact q
  exact ⟨od, I.write (x := d) (e := d) (t' := s.toks) (h' := s.heap) (by rw [h]; exact mu) (.inl rfl) (fun b v _ q => q) ⟨od, e⟩ new⟩
theorem Inv.nofrz {d : Addr} {u : HO} (I : Inv X pins σ H s) (h : H d = some u) (mu : Mut (some u)) : ∀ o' u', X.H₀ d ≠ some (.frz o' u') := fun o' u' e => by
  have q := I.base.frzs d o' u' e
  rw [h] at q
  cases q
  exact mu
theorem Inv.unlock {d : Addr} {od : Obj} {u : HO} (I : Inv X pins σ H s) (h : H d = some (.frz od u)) (hn : ∀ o' u', X.H₀ d ≠ some (.frz o' u')) : Inv X pins σ (upd H d u) s := by
  have neH : ∀ b o, H b = some o → (∀ o' u', o ≠ .frz o' u') → b ≠ d := fun b o e hne z => by
    rw [z, h] at e
    cases e
    exact hne _ _ rfl
  have neN : ∀ b, H b = none → b ≠ d := fun b e z => by rw [z, h] at e; cases e
  refine ⟨I.ok, I.os, I.bare, ⟨I.base.keep, I.base.slot, fun b o e n hx => ?_, I.base.there, fun b xs e => ?_, fun b o x e => ?_, fun b ps e => ?_⟩, I.loc, I.cell, ?_, fun x c e => ?_, fun p hp => ?_, fun b o e => ?_, I.len⟩
  · rw [upd_ne (neN b (I.base.free b o e n hx))]; exact I.base.free b o e n hx
  · have q := I.base.tups b xs e
    rw [upd_ne (neH b _ q (fun _ _ z => nomatch z))]; exact q
  · have q := I.base.frzs b o x e
    rw [upd_ne (fun z => by rw [z] at e; exact hn _ _ e)]; exact q
  · obtain ⟨m, q⟩ := I.base.tbls b ps e
    exact ⟨m, by rw [upd_ne (neH b _ q (fun _ _ z => nomatch z))]; exact q⟩
  · rw [upd_ne (neN _ I.free)]; exact I.free
  · rw [upd_ne (neN c (I.freeC x c e))]; exact I.freeC x c e
  · obtain ⟨e, n, r⟩ := I.pin p hp
    exact ⟨e, by rw [upd_ne (neN _ n)]; exact n, r⟩
  · by_cases hb : b = d
    · rw [hb, upd_same] at e
      cases e
      rw [hb]
      obtain ⟨_, x⟩ := I.hok d _ h
      exact x.stay (fun c v _ q => q) (fun c q => by rw [upd_ne (neH c _ q (fun _ _ z => nomatch z))]; exact q) fun c xs q => by rw [upd_ne (neH c _ q (fun _ _ z => nomatch z))]; exact q
    · rw [upd_ne hb] at e
      exact (I.hok b o e).stay (fun c v _ q => q) (fun c q => by rw [upd_ne (neH c _ q (fun _ _ z => nomatch z))]; exact q) fun c xs q => by rw [upd_ne (neH c _ q (fun _ _ z => nomatch z))]; exact q
end
/-- the statement runs while the thing at d is locked (read, not written); d and what stands there are the reading's choice -/
noncomputable def tLock (t : TS) : TS := fun D σ H => ∃ d u, H d = some u ∧ Mut (some u) ∧ ∀ od, t ⟨fun σ' H' => H' d = some (.frz od u) ∧ D.nx σ' (upd H' d u), fun v H' => H' d = some (.frz od u) ∧ D.rt v (upd H' d u), fun σ' H' => H' d = some (.frz od u) ∧ D.bk σ' (upd H' d u), fun σ' H' => H' d = some (.frz od u) ∧ D.ct σ' (upd H' d u)⟩ σ (upd H d (.frz od u))
section
variable {X : Cx}
theorem ps_lock {st : Stmt} {t : TS} (h : PS X st t) : PS X st (tLock t) := by
  intro pins s σ H D I hw
  obtain ⟨d, u, hd, mu, hw⟩ := hw
  obtain ⟨od, I1⟩ := I.lock hd mu
  refine thn (h pins s σ _ _ I1 (hw od)) fun f s1 q => ?_
  cases f with
  | next => obtain ⟨σ', H', I2, e, q⟩ := q; exact ⟨σ', _, I2.unlock e (I.nofrz hd mu), q⟩
  | brk => obtain ⟨σ', H', I2, e, q⟩ := q; exact ⟨σ', _, I2.unlock e (I.nofrz hd mu), q⟩
  | cont => obtain ⟨σ', H', I2, e, q⟩ := q; exact ⟨σ', _, I2.unlock e (I.nofrz hd mu), q⟩
  | ret v => obtain ⟨x, σ', H', I2, r, e, q⟩ := q; exact ⟨x, σ', _, I2.unlock e (I.nofrz hd mu), r, q⟩
/-! ### one iterator just laid -/
theorem pi_one {tg : Expr} {pins : List (Addr × Obj)} {σ : St} {H : Hp} {s : Shared} {R : It → Hp → Prop} {J : It} {tn : Nat → Heap → Prop} {tk : Nat} (I : Inv X pins σ H s) (o : Obj)
    (T : Turn X.prog X.w X.K tg J [s.heap.objs.size] s.heap.objs.size tn) (st : tn 0 (s.heap.push o)) (q : R J H) : PIE X pins σ tg R (.ref s.heap.objs.size) { s with heap := s.heap.push o, toks := tk } := by
  refine ⟨s.heap.objs.size, [s.heap.objs.size], tn, J, H, rfl, I.kept fun b ob e => Heap.get?_push_of_some _ e, T, st, fun b hb => ?_, q⟩
  have e : b = s.heap.objs.size := by simpa using hb
  subst e
  exact I.fpOk (Nat.le_refl _) (I.hok.fresh (Nat.le_refl _))
end

/-! ### range with a step -/
section
variable {X : Cx} {tg : Expr}
end
/-! ### reversed(list) -/
/-- the list at a (n items at the start, which the loop leaves there), from its end -/
noncomputable def Itv (K : PySem.W.Frag) (a : Addr) (n : Nat) : It :=
  ⟨fun i H => i < n ∧ ∃ (xs : List V) (x : V), SqL K H a xs ∧ xs[n - 1 - i]? = some x, fun i H x H' => H' = H ∧ ∀ xs, SqL K H a xs → xs[n - 1 - i]? = some x, fun i _ => n ≤ i⟩
theorem turn_rev {P : Program} {w : World} {K : PySem.W.Frag} {tg : Expr} (a it : Addr) (n : Nat) : Turn P w K tg (Itv K a n) [it] it (fun i h => i ≤ n ∧ h.IsRevIter it a ((n : Int) - 1 - (i : Nat))) where
  mem := by simp
  obj := fun i h st b hb => by
    have e : b = it := by simpa using hb
    subst e
    obtain ⟨_, o, e, c, d⟩ := st
    exact ⟨o, e, fun v z => by rw [d] at z; cases z⟩
  keep := fun i h h' st k => ⟨st.1, st.2.at fun o e => k it (by simp) o e⟩
  item := by
    intro X hP hw hK hc i pins s σ H E I hf st hg
    subst hP hw hK
    obtain ⟨hin, xs, x, hq, hx⟩ := hg
    obtain ⟨its, rv, p, hz⟩ := I.list hq
    obtain ⟨u, hu, ru⟩ := rv.get hx
    obtain ⟨f0, f1, f2, f3, f4, f5⟩ := hf it (by simp)
    obtain ⟨_, hit⟩ := st
    have e1 : (n : Int) - 1 - ((i : Nat) : Int) = ((n - 1 - i : Nat) : Int) := by omega
    rw [e1] at hit
    refine wpAny_pyNext_rev_item hit p.isList (x := u) (by simpa using hu) fun h' st' sb => ?_
    have e2 : ((n - 1 - i : Nat) : Int) - 1 = (n : Int) - 1 - ((i + 1 : Nat) : Int) := by omega
    rw [e2] at st'
    have I1 : Inv X pins σ H { s with heap := h' } := I.turned (t' := s.toks) (fun b o hb e => (sb.2 b hb).trans e) f0 f1 f3 f4 f5
    obtain ⟨o, e, c, d⟩ := id st'
    exact ⟨u, rfl, go_of (s := { s with heap := h' }) e c d (by decide) ⟨x, H, I1, ru, ⟨rfl, fun ys hy => by rw [I.list_inj hy hq]; exact hx⟩, ⟨hin, st'⟩, fun b hb => (hf b hb).1⟩⟩
  done := by
    intro X hP hw hK hc i pins s σ H E I hf st hg
    subst hP hw hK
    obtain ⟨f0, f1, f2, f3, f4, f5⟩ := hf it (by simp)
    obtain ⟨hin, hit⟩ := st
    have hge : n ≤ i := hg
    have e1 : (n : Int) - 1 - ((i : Nat) : Int) = -1 := by omega
    rw [e1] at hit
    exact wpAny_pyNext_rev_end (I.ok.hd hc) hit fun h' eb => ⟨rfl, I.turned (t' := s.toks) (fun b o hb e => eb b o hb e) f0 f1 f3 f4 f5⟩
  self := fun A i s Q E st h => wpAny_pyIter_revIter st.2 h
noncomputable def iRev (K : PySem.W.Frag) (ta : TA) : TI := fun σ H R => ta σ H fun vs H1 => ∃ (a : Addr) (xs : List V), vs = [.ref a] ∧ SqL K H1 a xs ∧ R (Itv K a xs.length) H1
section
variable {X : Cx} {tg : Expr}
theorem pi_reversed {e : Expr} {ta : TA} {p pos : Pos} (hg : Gl X "reversed") (hm : X.mg "reversed" = none) (ha : PA X [e] ta) (hs : starEach [e] X.env = [(false, eval e X.env)] := by rfl) : PI X tg (.Call (.Name "reversed" p) [e] [] pos) (iRev X.K ta) := by
  intro pins s σ H R I h
  refine Call_ (ld_blt I hg hm boot_reversed5 (PyProof.Rows.callWith_type1 (thn (ha pos pins s σ H _ I h) fun us s1 ⟨vs, H1, I1, r1, q1⟩ => ?_) hs rfl))
  obtain ⟨a, xs, e, hq, q⟩ := q1
  subst e
  cases r1 with
  | cons r rr =>
    cases rr
    cases r
    obtain ⟨its, rv, p', hz⟩ := I1.list hq
    have hl := rv.length
    have e1 : ((its.toArray.size : Nat) : Int) - 1 = (xs.length : Int) - 1 - ((0 : Nat) : Int) := by simp only [List.size_toArray]; omega
    refine call_reversed_list p'.isList (wpAny_pyIter_revIter (l := a) (i := ((its.toArray.size : Nat) : Int) - 1) ⟨_, Heap.get?_push_size _ rfl, rfl, rfl⟩ ?_)
    refine pi_one (tk := s1.toks) I1 _ (turn_rev a _ xs.length) ⟨Nat.zero_le _, ?_⟩ q
    rw [← e1]
    exact ⟨_, Heap.get?_push_size _ rfl, rfl, rfl⟩
end

/-! ### a str -/
/-! ### a dict's keys: any dict's entries -/
section
variable {prog : Program} {w : World} {A : Around} {E : Value → Shared → Prop} {s : Shared}
end

/-! ### a locked dict -/
theorem kv_get {κ : Type} {kvs : List (κ × V)} {vs : List (κ × Value)} (h : KV kvs vs) : ∀ {i : Nat} {k : κ} {v : V}, kvs[i]? = some (k, v) → ∃ u, vs[i]? = some (k, u) ∧ RelV v u := by
  unfold KV at h
  induction h with
  | nil => intro i k v e; simp at e
  | @cons a b l₁ l₂ r t ih =>
    intro i k v e
    cases i with
    | zero =>
      simp only [List.getElem?_cons_zero, Option.some.injEq] at e
      subst e
      refine ⟨b.2, ?_, r.2⟩
      simp only [List.getElem?_cons_zero]
      exact congrArg some (Prod.ext r.1.symm rfl)
    | succ j =>
      simp only [List.getElem?_cons_succ] at e ⊢
      exact ih e
theorem relV_key {k : Key} {u : Value} (h : keyIs k u = true) : RelV (kV k) u := by
  rcases keyIs_shape h with ⟨i, t, rfl, rfl⟩ | ⟨x, t, rfl, rfl⟩
  · exact ⟨t, rfl⟩
  · exact ⟨t, rfl⟩
section
variable {X : Cx} {pins : List (Addr × Obj)} {σ : St} {H : Hp} {s : Shared} {d : Addr} {o : Obj}
theorem Inv.frzK {kvs : List (Key × V)} (I : Inv X pins σ H s) (h : H d = some (.frz o (.dK kvs))) :
    (d == sysModules) = false ∧ s.heap.get? d = some o ∧ o.ExactDict ∧ ∃ (es : Array DictEntry) (ep : Nat) (vs : List (Key × Value)), o.data = .dict es ep ∧ es.size = kvs.length ∧ KV kvs vs ∧ s.heap.DictAt (mixKind X.prog X.w) d vs ep := by
  obtain ⟨hd, z, hs, vs, kv, o', es, ep, ho, hx, hdt, r⟩ := I.hok d _ h
  rw [hd] at ho
  cases ho
  refine ⟨hs, hd, hx, es, ep, vs, hdt, ?_, kv, o, es, hd, hx, hdt, r⟩
  have l1 := r.2.1.length
  have l2 : kvs.length = vs.length := Paired.length kv
  rw [Array.length_toList] at l1
  omega
end

/-- the pairs, each a new tuple -/
noncomputable def Iti (d : Addr) (o : Obj) (kvs : List (Key × V)) : It :=
  ⟨fun i H => H d = some (.frz o (.dK kvs)) ∧ i < kvs.length, fun i H x H' => ∃ T k v, kvs[i]? = some (k, v) ∧ x = .ref T ∧ H T = none ∧ H' = upd H T (.tup [kV k, v]), fun i H => H d = some (.frz o (.dK kvs)) ∧ kvs.length ≤ i⟩
theorem dict_ep {o : Obj} {es es' : Array DictEntry} {ep ep' : Nat} (h : o.data = .dict es ep) (h' : o.data = .dict es' ep') : es' = es ∧ ep' = ep := by
  rw [h] at h'
  cases h'
  exact ⟨rfl, rfl⟩
section
variable {P : Program} {w : World} {K : PySem.W.Frag} {tg : Expr} {d : Addr} {o : Obj} {es : Array DictEntry} {ep : Nat}
theorem turn_items {kvs : List (Key × V)} {elts : List Expr} {kk : Nat} {tpos : Pos} (it : Addr) (hod : o.data = .dict es ep) :
    Turn P w K (.Tuple elts kk tpos) (Iti d o kvs) [it] it (fun i h => ∃ ok ov, IsItemIter h it d i kvs.length ep ok ov) where
  mem := by simp
  obj := fun i h st b hb => by
    have e : b = it := by simpa using hb
    subst e
    obtain ⟨ok, ov, e⟩ := st
    exact ⟨_, e, fun v z => nomatch z⟩
  keep := fun i h h' st k => let ⟨ok, ov, e⟩ := st; ⟨ok, ov, k it (by simp) _ e⟩
  item := by
    intro X hP hw hK hc i pins s σ H E I hf st hg
    subst hP hw hK
    obtain ⟨hd, hi⟩ := hg
    obtain ⟨hs, hgd, hx, es', ep', vs, hdt, hsz, kv, hm⟩ := I.frzK hd
    obtain ⟨rfl, rfl⟩ := dict_ep hod hdt
    obtain ⟨⟨k, v⟩, hkv⟩ : ∃ p, kvs[i]? = some p := ⟨kvs[i], List.getElem?_eq_getElem hi⟩
    obtain ⟨u, hu, ru⟩ := kv_get kv hkv
    have hl : kvs.length = vs.length := Paired.length kv
    obtain ⟨ok, ov, he⟩ := st
    rw [hl] at he
    have hlt : it < s.heap.objs.size := Heap.lt_size he
    refine wpAny_pyNext_items_item he hm hu fun key h' hkey ho hT hz hk => ?_
    refine ⟨_, rfl, wpAny_letOwnedTupleGo_items (s := { s with heap := h' }) ho fun h'' he' sb => ?_⟩
    have hT2 : h''.get? s.heap.objs.size = some { cls := .type "tuple", data := .seq #[key, u] } := (sb.2 _ (Nat.ne_of_gt hlt)).trans hT
    have new : ObjOk X.prog X.w (upd H s.heap.objs.size (.tup [kV k, v])) h'' s.heap.objs.size (.tup [kV k, v]) :=
      ⟨by show 2 ≤ sizeLine; decide, [key, u], .cons (relV_key (show keyIs k key = true from hkey)) (.cons ru .nil), ⟨_, hT2, rfl, _, rfl⟩⟩
    have I1 : Inv X pins σ (upd H s.heap.objs.size (.tup [kV k, v])) { s with heap := h'' } :=
      I.turnedNew (t' := s.toks) (ch := [it]) (fun b ob hb e => (sb.2 b (by simpa using hb)).trans (hk b ob (by simpa using hb) e)) hf (Nat.le_refl _) new
    refine ⟨.ref s.heap.objs.size, _, I1, rfl, ⟨_, k, v, hkv, rfl, I.hok.fresh (Nat.le_refl _), rfl⟩, ⟨key, u, ?_⟩, fun b hb => ?_⟩
    · rw [hl]; exact he'
    · have e : b = it := by simpa using hb
      rw [e, upd_ne (Nat.ne_of_lt hlt)]
      exact (hf it (by simp)).1
  done := by
    intro X hP hw hK hc i pins s σ H E I hf st hg
    subst hP hw hK
    obtain ⟨hd, hi⟩ := hg
    obtain ⟨f0, f1, f2, f3, f4, f5⟩ := hf it (by simp)
    obtain ⟨hs, hgd, hx, es', ep', vs, hdt, hsz, kv, hm⟩ := I.frzK hd
    obtain ⟨rfl, rfl⟩ := dict_ep hod hdt
    have hl : kvs.length = vs.length := Paired.length kv
    obtain ⟨ok, ov, he⟩ := st
    rw [hl] at he
    exact wpAny_pyNext_items_end (I.ok.hd hc) he hm (List.getElem?_eq_none (by omega)) fun h' eb => ⟨rfl, I.turned (t' := s.toks) (fun b ob hb e => eb b ob hb e) f0 f1 f3 f4 f5⟩
  self := fun A i s Q E st h => let ⟨_, _, e⟩ := st; PySem.W.kcp_self e h
end

/-! ### for k in d, d.keys(), d.values(), d.items() -/
noncomputable def iItems (td : TE) : TI := fun σ H R => td σ H fun x H1 => ∃ d o kvs, x = .ref d ∧ H1 d = some (.frz o (.dK kvs)) ∧ R (Iti d o kvs) H1
section
variable {X : Cx} {tg e : Expr} {td : TE} {apos cpos : Pos}
theorem pi_items {elts : List Expr} {kk : Nat} {tpos : Pos} (he : PE X e td) (hbase : attributeBase e "items" X.env (eval e X.env) = eval e X.env := by rfl) (hline : (apos.endLine == cpos.line) = true := by rfl) :
    PI X (.Tuple elts kk tpos) (.Call (.Attribute e "items" apos) [] [] cpos) (iItems td) := by
  intro pins s σ H R I h
  refine wpAny_Call_method (T := "dict") (id := "dict.items") hbase rfl hline F.plainAttrs_dict F.slot_dict_items F.type_dict_items (thn (he pins s σ H _ I h) fun u s1 ⟨x, H1, I1, rx, d, o, kvs, ex, hd, q⟩ => ?_)
  subst ex
  obtain rfl : u = Value.ref d := rx
  obtain ⟨hs, hgd, hx, es, ep, vs, hdt, hsz, kv, hm⟩ := I1.frzK hd
  have hl : kvs.length = vs.length := Paired.length kv
  refine ⟨hm.dictOf.typeIs, hm.dictOf.mapOf.noDict, ?_⟩
  have I2 : Inv X pins σ H1 { s1 with heap := s1.heap.push { cls := .type "dict_items", data := .fields #[.ref d] } } := I1.kept (t' := s1.toks) fun b ob q => Heap.get?_push_of_some _ q
  have fin : wpAny (model X.prog X.w) X.A (pyIter (.ref s1.heap.objs.size)) (PIE X pins σ (.Tuple elts kk tpos) R) X.xe { s1 with heap := s1.heap.push { cls := .type "dict_items", data := .fields #[.ref d] } } := by
    refine wpAny_pyIter_items (d := d) (knd := mixKind X.prog X.w) ⟨_, Heap.get?_push_size _ rfl, rfl, rfl⟩ (hm.push _) (pi_one (tk := s1.toks) I2 _ (turn_items _ hdt) ⟨.none, .none, ?_⟩ q)
    rw [hl]
    exact Heap.get?_push_size _ rfl
  show wpAny _ _ (callWith cpos (.builtin "dict.items") [.ref d] [] []) _ X.xe s1
  exact method_meetsIn F.slot_dict_items F.entry_dict_items rfl (PySem.evalArgs_none ⟨rfl, hm.dictOf.typeIs, F.args_dict_items_1 _, _, meets_dict_items (mixKind X.prog X.w) d hs, ⟨vs, hm.dictOf⟩, fin⟩)
end

/-! ### enumerate(list) -/
/-! ### zip(list, list) -/
end L2

section 
namespace Bits
open PySem PyProof.Rows

end Bits
end 

section 
namespace TL
open PySem PySem.Builtin PySem.Builtin.Str PySem.StrLaws

/-! ### the list functions -/
/-! ### the model's split and partition are these -/
/-! ### computing spl and par -/
/-! ### digits -/
/-! ### words: x.split() -/
end TL
end 

namespace L2
open PySem PySem.Spec PyProof.Rows

section
variable {X : Cx} {pins : List (Addr × Obj)} {σ : St} {H : Hp} {s : Shared} {Q : VK}
end

section
variable {X : Cx}

/-! ### of a text alone -/
/-! ### of a text and a text -/
end

section
variable {X : Cx} {o e : Expr} {to te : TE}
end
end L2

namespace L2
open PySem PySem.Spec PyProof.Rows

section
variable {X : Cx}
end

/-! ### slices of a text -/
end L2

namespace Att
open PySem PySem.W PySem.Calls PyProof.Rows

/-! ### the script -/
theorem ints_of_wellAll {P : Params} {h : Heap} : ∀ (ns : List Int) (vs : List Value), WellAll P h vs (ns.map WData.int) → IntsAre vs ns := by
  intro ns
  induction ns with
  | nil =>
    intro vs w
    rw [List.map_nil] at w
    cases w
    exact .nil
  | cons n ns ih =>
    intro vs w
    rw [List.map_cons] at w
    cases w with
    | cons a b =>
      cases a
      exact .cons _ _ (ih _ b)

/-! ### the attachment: holds_open's last premise (the goal 'hc' behind k_head) from a wpAny of the law's body -/
/-! ### rules over ANY heap (no ledger) from facts about the written part K: the library's own take a ledger (News) for what they write -/
section
variable {prog : Program} {w : World} {A : Around} {E : Value → Shared → Prop} {s : Shared} {K : Frag}

/-! the whole heap as the ledger: makes every rule that writes through a ledger a rule over any heap -/
end
end Att

namespace L2
open PySem PySem.Spec PyProof.Rows

theorem vals_ints : ∀ {vs : List Value} {ns : List Int}, IntsAre vs ns → Vals (ns.map V.int) vs
  | _, _, .nil => .nil
  | _, _, .cons n t h => .cons ⟨t, rfl⟩ (vals_ints h)

end L2

namespace L2
open PySem PySem.Spec PyProof.Rows

noncomputable abbrev KOf {K : PySem.W.Frag} {h : Heap} (_ : K.In h) : PySem.W.Frag := K

end L2

/- THE LAST THEOREM (shape; LID, My.* are yours):
   My.Adr: a structure of the addresses that your layer names (classes, functions); My.Txt K t: a structure (Prop) of the equations over K;
   My.txt_mk : {K} {implicit addresses ..} (e1 : nsIn K mainGlobals "law" = some (some (.ref f))) (e2 : K.lookup f = some ⟨oc, od, .func (fnOf "law" "law" params body scope dV kV doc pm an cdv ct), sl⟩) (e3 : codeIn K cdv "law" = true) .. : ∃ t, My.Txt K t

set_option maxRecDepth 100000 in
set_option maxHeartbeats 0 in
theorem PySem.Challenge.cw_LID_holds : PySem.Challenge.rw_LID.Holds := by
  w_on; o_law; k_head; (case hw => w_witness2)
  k_fill
  refine L2.walk_of (l := PySem.Challenge.rw_LID) (n := 63) (k := 40) (x := "script") (CX := fun w => ..) (sp := fun _ => My.sp_law) rfl (by decide) rfl ⟨rfl, by decide, by decide⟩ (fun w h Y => PySem.W.kIn_of Y) ?F ?S ?C
  case F =>
    intro w mg fa h KX G hmg
    have T : ∃ t, My.Txt (L2.KOf KX) t := by
      dsimp only [L2.KOf]                          -- K must stand as «<heap const> w.params» for k_is
      refine' My.txt_mk ?e1 ?e2 ?e3 ..
      (case e1 => PySem.W.k_is)                    -- in the order: a name -> its address -> its object -> its parts
      (case e2 => PySem.W.k_is)
      ..
    obtain ⟨t, T⟩ := T
    have e0 := hmg.symm.trans (PySem.W.mg_of KX G T.law)
    cases e0                                       -- fa is the law's own address
    exact ⟨_, fun s u => .of_eq rfl, fun base kb nb => My.law_fn T kb nb⟩     -- if «.of_eq rfl» comes too early: refine' ⟨_, ?b, fun base kb nb => My.law_fn T kb nb⟩; exact fun s u => .of_eq rfl
  case S => exact fun w H a ns hl hO hS => ..
  case C => exact ..
(the tactic k_is has no namespace: write k_is) -/

/-! SHORT WORDS over the layer: a def of the text, its body, what a loop and a test want. -/
namespace L2
open PySem PySem.Spec PyProof.Rows

/-! ### the text by places -/
/-- the j-th statement of a class's body -/
noncomputable def inClass (s : Stmt) (j : Nat) : Stmt := match s with
  | .ClassDef _ _ _ body _ _ _ _ _ _ _ => body.getD j (.Pass ⟨0, 0, 0, 0⟩)
  | _ => .Pass ⟨0, 0, 0, 0⟩
noncomputable def defArgs (s : Stmt) : Arguments := match s with
  | .FunctionDef _ a _ _ _ _ _ _ _ _ => a
  | _ => { posonlyargs := [], args := [], vararg := none, kwonlyargs := [], kw_defaults := [], kwarg := none, defaults := [] }
noncomputable def defBody (s : Stmt) : List Stmt := match s with
  | .FunctionDef _ _ b _ _ _ _ _ _ _ => b
  | _ => []
noncomputable def defScope (s : Stmt) : Scope := match s with
  | .FunctionDef _ _ _ _ _ _ sc _ _ _ => sc
  | _ => { kind := .function, names := [], isGenerator := false, isCoroutine := false }

/-! ### no exception leaves a def -/
noncomputable abbrev CX0 : CXT := fun _ _ _ _ _ _ => False
noncomputable abbrev E0 : XK := fun _ _ _ => False
theorem pass0 {X : Cx} : Passes CX0 X E0 := fun _ _ _ _ _ _ _ h => h.elim

/-! ### a def (or method) of the text as it stands behind the top -/
structure Fun (K : PySem.W.Frag) (x qual : Str) (st : Stmt) (f : Addr) (fd : FuncData) : Prop where
  ex : ∃ (oc : Value) (od : Option Addr) (kV doc pm : Value) (an : Option Addr) (cdv ct : Value) (osl : Array (Option Value)),
    fd = PySem.W.fnOf x qual (defArgs st) (defBody st) (defScope st) .none kV doc pm an cdv ct ∧ K.lookup f = some ⟨oc, od, .func fd, osl⟩ ∧ PySem.W.codeIn K cdv qual = true
  kp : PySem.W.keepIn K (.ref f) = true
section
variable {P : Program} {w : World} {K : PySem.W.Frag} {mg : Str → Option Value} {base : Heap}
/-- THE RULE for a def: its body as a term of rules, and the reading of that term -/
theorem Fun.ok {x qual : Str} {st : Stmt} {f : Addr} {fd : FuncData} {N ps : List Str} {k : Nat} {sp : Sp} (F : Fun K x qual st f fd) (S : FnScope N ps (defScope st)) (len : ∀ vs H Q E, sp vs H Q E → vs.length = ps.length)
    (hbody : ∀ (cdv : Value) (A : Around) (outer : List Env) (s : Shared) (H : Hp) (vs : List V) (Q : VK) (E : XK), Room k (A.deeper (envOfC qual (defScope st) s.heap.objs.size f cdv)) → sp vs H Q E →
      ∃ t, PSs (cxOf CX0 P w K mg base N qual (defScope st) f cdv A outer s H E).nox (defBody st) t ∧ t { nx := fun _ H' => Q .non H', rt := Q } (start N vs) H) : FnOk P w K mg base CX0 (k + 1) f fd ps sp := by
  obtain ⟨oc, od, kV, doc, pm, an, cdv, ct, osl, rfl, lk, hcd⟩ := F.ex
  refine fn_of lk hcd S len fun A outer s H vs Q E hr hsp => ?_
  obtain ⟨t, h, q⟩ := hbody cdv A outer s H vs Q E hr hsp
  exact ⟨t, h.nox, q⟩
/-- how its arguments bind (no defaults): h is «fun _ _ _ _ _ _ us hl => match us, hl with | [_, _], _ => rfl», one _ a parameter -/
theorem Fun.binds {x qual : Str} {st : Stmt} {f : Addr} {fd : FuncData} {ps : List Str} (F : Fun K x qual st f fd)
    (h : ∀ (kV doc pm : Value) (an : Option Addr) (cdv ct : Value) (us : List Value), us.length = ps.length → bindArgs (PySem.W.fnOf x qual (defArgs st) (defBody st) (defScope st) .none kV doc pm an cdv ct) ⟨us, []⟩ = pure (ps.zip us)) : Binds K fd ps [] := by
  obtain ⟨oc, od, kV, doc, pm, an, cdv, ct, osl, rfl, lk, hcd⟩ := F.ex
  exact .all (h kV doc pm an cdv ct)
theorem fun_mk {x qual : Str} {st : Stmt} {f : Addr} {oc : Value} {od an : Option Addr} {osl : Array (Option Value)} {kV doc pm cdv ct : Value} (l : K.lookup f = some ⟨oc, od, .func (PySem.W.fnOf x qual (defArgs st) (defBody st) (defScope st) .none kV doc pm an cdv ct), osl⟩)
    (c : PySem.W.codeIn K cdv qual = true) (k : PySem.W.keepIn K (.ref f) = true) : Fun K x qual st f (PySem.W.fnOf x qual (defArgs st) (defBody st) (defScope st) .none kV doc pm an cdv ct) := ⟨⟨oc, od, kV, doc, pm, an, cdv, ct, osl, rfl, l, c⟩, k⟩
end
theorem hu_of {A : Around} {k : Nat} (hr : Room k A) : A.units + 1 < cLine := Nat.lt_of_le_of_lt (Nat.add_le_add_left (by decide : 1 ≤ 64) _) hr.units
theorem small1000 {n : Nat} (h : n ≤ 1000) : n < sizeLine := Nat.lt_of_le_of_lt h (by decide)

/-! ### expressions in short: the name that stands in the i-th slot -/
section
variable {X : Cx}
theorem pv (i : Nat) {x : Str} {pos : Pos} (hN : X.N[i]? = some x := by rfl) (hv : Vis X.env.scope x := by first | exact Or.inl rfl | exact Or.inr (Or.inl rfl) | exact Or.inr (Or.inr rfl)) (hd : (x == ("__debug__" : Str)) = false := by decide)
    (hcd : (x == ("__classdict__" : Str)) = false := by decide) : PE X (.Name x pos) (tVar i) := pe_var hN hv hd hcd
/-- len of a dict -/
theorem call_lenD : CallR X (.builtin "len") (fun xs H Q => ∃ a kvs, xs = [V.ref a] ∧ H a = some (.dK kvs) ∧ Q (.int kvs.length) H) := by
  intro pins s σ H xs us Q I r h
  obtain ⟨a, kvs, rfl, ha, q⟩ := h
  obtain ⟨u, rfl, ru⟩ := vals1 r
  cases ru
  exact d_len I (.inl ha) fun t s' I' => ⟨.int kvs.length, H, I', ⟨t, rfl⟩, q⟩
end

/-! ### tests -/
theorem iteF {A B : Prop} (h : B) : if false = true then A else B := by
  rw [if_neg Bool.false_ne_true]
  exact h
theorem iteT {A B : Prop} (h : A) : if true = true then A else B := by
  rw [if_pos rfl]
  exact h
theorem ite2 {c A B : Prop} [Decidable c] (h1 : c → A) (h2 : ¬ c → B) : if c then A else B := by
  by_cases h : c
  · rw [if_pos h]
    exact h1 h
  · rw [if_neg h]
    exact h2 h
/-! ### heaps -/
/-- all that was tracked is as it was -/
noncomputable def Same (H H' : Hp) : Prop := ∀ b o, H b = some o → H' b = some o
theorem Same.refl (H : Hp) : Same H H := fun _ _ h => h
theorem Same.trans {H H1 H2 : Hp} (a : Same H H1) (b : Same H1 H2) : Same H H2 := fun c o h => b c o (a c o h)
theorem Same.free {H H' : Hp} (e : Same H H') {l : Addr} (h : H' l = Option.none) : H l = Option.none := by
  cases q : H l with
  | none => rfl
  | some o =>
    rw [e l o q] at h
    cases h
/-! ### a dict's pairs: keys that differ -/
section
variable {κ : Type} [DecidableEq κ]
end
/-! ### lists -/
theorem nd_ix {α : Type} {l : List α} (hN : l.Nodup) {i j : Nat} {x : α} (a : l[i]? = some x) (b : l[j]? = some x) : i = j := by
  obtain ⟨h1, e1⟩ := List.getElem?_eq_some_iff.mp a
  obtain ⟨h2, e2⟩ := List.getElem?_eq_some_iff.mp b
  exact (List.getElem_inj hN).mp (e1.trans e2.symm)
end L2
end
section
namespace Lp
open Rc83
set_option linter.all false

theorem and_eq (a b : Nat) : Nat.land a b = a &&& b := rfl
theorem or_eq (a b : Nat) : Nat.lor a b = a ||| b := rfl

theorem tb_two_pow (a i : Nat) : (2 ^ a).testBit i = decide (a = i) := Nat.testBit_two_pow

theorem tb_mask_aux : ∀ (l : List Nat) (m i : Nat), (l.foldl (fun m a => Nat.lor m (2 ^ a)) m).testBit i = (m.testBit i || decide (i ∈ l))
  | [], m, i => by simp
  | a :: l, m, i => by
    rw [List.foldl_cons, tb_mask_aux l]
    show ((m ||| 2 ^ a).testBit i || _) = _
    rw [Nat.testBit_or, Nat.testBit_two_pow]
    by_cases h : a = i
    · subst h; simp
    · have : ¬ i = a := fun e => h e.symm
      simp [h, this]
theorem tb_mask (l : List Nat) (i : Nat) : (mask l).testBit i = decide (i ∈ l) := by
  unfold mask; rw [tb_mask_aux]; simp

theorem within_iff {a b : Nat} : within a b = true ↔ ∀ i, a.testBit i = true → b.testBit i = true := by
  unfold within
  rw [beq_iff_eq]
  show a &&& b = a ↔ _
  constructor
  · intro h i hi
    have := congrArg (fun x => x.testBit i) h
    simp only [Nat.testBit_and, hi, Bool.true_and] at this
    exact this
  · intro h
    apply Nat.eq_of_testBit_eq
    intro i
    rw [Nat.testBit_and]
    cases e : a.testBit i
    · rfl
    · simp [h i e]
theorem within_refl (a : Nat) : within a a = true := within_iff.mpr fun _ h => h
theorem within_trans {a b c : Nat} (h : within a b = true) (k : within b c = true) : within a c = true :=
  within_iff.mpr fun i hi => within_iff.mp k i (within_iff.mp h i hi)
theorem within_antisymm {a b : Nat} (h : within a b = true) (k : within b a = true) : a = b :=
  Nat.eq_of_testBit_eq fun i => by
    have h1 := within_iff.mp h i
    have h2 := within_iff.mp k i
    cases e : a.testBit i <;> cases f : b.testBit i <;> simp_all
theorem within_le {a b : Nat} (h : within a b = true) : a ≤ b := by
  have e : a &&& b = a := by unfold within at h; exact beq_iff_eq.mp h
  rw [← e]; exact Nat.and_le_right
theorem zero_within (a : Nat) : within 0 a = true := within_iff.mpr fun i h => by simp at h

theorem can_iff {R : Lore} {s x : Nat} : can R s x = true ↔ ∃ t, (x, t) ∈ R.rules ∧ within t s = true := by
  unfold can
  rw [List.any_eq_true]
  constructor
  · rintro ⟨⟨y, t⟩, hm, h⟩
    simp only [Bool.and_eq_true, beq_iff_eq] at h
    obtain ⟨rfl, h2⟩ := h
    exact ⟨t, hm, h2⟩
  · rintro ⟨t, hm, h⟩
    exact ⟨(x, t), hm, by simp [h]⟩
theorem can_mono {R : Lore} {s t x : Nat} (h : within s t = true) (c : can R s x = true) : can R t x = true := by
  obtain ⟨u, hm, hu⟩ := can_iff.mp c
  exact can_iff.mpr ⟨u, hm, within_trans hu h⟩

theorem tb_grown_succ (R : Lore) (s k x : Nat) : (grown R s (k + 1)).testBit x = ((grown R s k).testBit x || (decide (x < R.n) && (s.testBit x && can R (grown R s k) x))) := by
  rw [show grown R s (k + 1) = (grown R s k) ||| (mask ((List.range R.n).filter fun x => s.testBit x && can R (grown R s k) x)) from rfl]
  rw [Nat.testBit_or, tb_mask]
  congr 1
  simp only [List.mem_filter, List.mem_range, Bool.decide_and, Bool.decide_eq_true]
theorem grown_step (R : Lore) (s k : Nat) : within (grown R s k) (grown R s (k + 1)) = true :=
  within_iff.mpr fun i h => by rw [tb_grown_succ, h]; rfl
theorem grown_mono (R : Lore) (s : Nat) {k m : Nat} (h : k ≤ m) : within (grown R s k) (grown R s m) = true := by
  induction h with
  | refl => exact within_refl _
  | step _ ih => exact within_trans ih (grown_step R s _)
theorem grown_within (R : Lore) (s : Nat) : ∀ k, within (grown R s k) s = true
  | 0 => zero_within s
  | k + 1 => within_iff.mpr fun i h => by
    rw [tb_grown_succ] at h
    simp only [Bool.or_eq_true, Bool.and_eq_true] at h
    rcases h with h | h
    · exact within_iff.mp (grown_within R s k) i h
    · exact h.2.1
theorem grown_lt (R : Lore) (s : Nat) : ∀ k x, (grown R s k).testBit x = true → x < R.n
  | 0, x, h => by simp [grown] at h
  | k + 1, x, h => by
    rw [tb_grown_succ] at h
    simp only [Bool.or_eq_true, Bool.and_eq_true, decide_eq_true_eq] at h
    rcases h with h | h
    · exact grown_lt R s k x h
    · exact h.1

/-! sizes -/
theorem size_le (n a : Nat) : size n a ≤ n := by
  unfold size
  have := List.length_filter_le (fun i => a.testBit i) (List.range n)
  simpa using this
theorem filter_sub {p q : Nat → Bool} : ∀ {l : List Nat}, (∀ i ∈ l, p i = true → q i = true) → (l.filter p).length ≤ (l.filter q).length
  | [], _ => Nat.le_refl _
  | a :: l, h => by
    have ih := filter_sub (p := p) (q := q) (l := l) fun i hi => h i (List.mem_cons_of_mem _ hi)
    have ha := h a (List.mem_cons_self ..)
    cases e : p a
    · rw [List.filter_cons_of_neg (by simp [e])]
      cases f : q a
      · rw [List.filter_cons_of_neg (by simp [f])]; exact ih
      · rw [List.filter_cons_of_pos (by simp [f])]; simp; omega
    · rw [List.filter_cons_of_pos (by simp [e]), List.filter_cons_of_pos (by simp [ha e])]; simp; exact ih
theorem filter_sub_lt {p q : Nat → Bool} : ∀ {l : List Nat}, (∀ i ∈ l, p i = true → q i = true) → ∀ x ∈ l, p x = false → q x = true → (l.filter p).length < (l.filter q).length
  | a :: l, h, x, hx, hp, hq => by
    have hs : ∀ i ∈ l, p i = true → q i = true := fun i hi => h i (List.mem_cons_of_mem _ hi)
    have ha := h a (List.mem_cons_self ..)
    rcases List.mem_cons.mp hx with rfl | hx
    · rw [List.filter_cons_of_neg (by simp [hp]), List.filter_cons_of_pos (by simp [hq])]
      have := filter_sub (p := p) (q := q) hs
      simp; omega
    · have ih := filter_sub_lt (p := p) (q := q) hs x hx hp hq
      cases e : p a
      · rw [List.filter_cons_of_neg (by simp [e])]
        cases f : q a
        · rw [List.filter_cons_of_neg (by simp [f])]; exact ih
        · rw [List.filter_cons_of_pos (by simp [f])]; simp; omega
      · rw [List.filter_cons_of_pos (by simp [e]), List.filter_cons_of_pos (by simp [ha e])]; simp; exact ih
theorem size_mono {n a b : Nat} (h : within a b = true) : size n a ≤ size n b := filter_sub fun i _ => within_iff.mp h i
theorem size_lt {n a b x : Nat} (h : within a b = true) (hx : x < n) (h1 : a.testBit x = false) (h2 : b.testBit x = true) : size n a < size n b :=
  filter_sub_lt (fun i _ => within_iff.mp h i) x (List.mem_range.mpr hx) h1 h2
theorem ne_bit {a b : Nat} (h : within a b = true) (hne : a ≠ b) : ∃ x, a.testBit x = false ∧ b.testBit x = true := by
  apply Classical.byContradiction
  intro hn
  apply hne
  apply within_antisymm h
  apply within_iff.mpr
  intro i hi
  cases e : a.testBit i
  · exact absurd ⟨i, e, hi⟩ hn
  · rfl
theorem grown_size (R : Lore) (s : Nat) : ∀ k, grown R s (k + 1) ≠ grown R s k → k + 1 ≤ size R.n (grown R s (k + 1))
  | 0, h => by
    obtain ⟨x, h1, h2⟩ := ne_bit (grown_step R s 0) (Ne.symm h)
    have := size_lt (n := R.n) (grown_step R s 0) (grown_lt R s _ x h2) h1 h2
    omega
  | k + 1, h => by
    have hk : grown R s (k + 1) ≠ grown R s k := by
      intro e
      apply h
      show (grown R s (k + 1)) ||| _ = _
      rw [e]
      exact e
    have ih := grown_size R s k hk
    obtain ⟨x, h1, h2⟩ := ne_bit (grown_step R s (k + 1)) (Ne.symm h)
    have := size_lt (n := R.n) (grown_step R s (k + 1)) (grown_lt R s _ x h2) h1 h2
    omega
theorem grown_stable (R : Lore) (s : Nat) : grown R s (R.n + 1) = grown R s R.n := by
  apply Classical.byContradiction
  intro h
  have h1 := grown_size R s R.n h
  have h2 := size_le R.n (grown R s (R.n + 1))
  omega

/-! most: the least set closed under learning within s -/
theorem most_within (R : Lore) (s : Nat) : within (most R s) s = true := grown_within R s R.n
theorem most_lt_n {R : Lore} {s x : Nat} (h : (most R s).testBit x = true) : x < R.n := grown_lt R s R.n x h
theorem most_closed {R : Lore} {s x : Nat} (hx : x < R.n) (hs : s.testBit x = true) (c : can R (most R s) x = true) : (most R s).testBit x = true := by
  unfold most at *
  rw [← grown_stable, tb_grown_succ, hs, c]
  simp [hx]
theorem grown_least {R : Lore} {s m : Nat} (h : ∀ x, x < R.n → s.testBit x = true → can R m x = true → m.testBit x = true) : ∀ k, within (grown R s k) m = true
  | 0 => zero_within m
  | k + 1 => within_iff.mpr fun i hi => by
    rw [tb_grown_succ] at hi
    simp only [Bool.or_eq_true, Bool.and_eq_true, decide_eq_true_eq] at hi
    rcases hi with hi | ⟨h1, h2, h3⟩
    · exact within_iff.mp (grown_least h k) i hi
    · exact h i h1 h2 (can_mono (grown_least h k) h3)
theorem most_least {R : Lore} {s m : Nat} (h : ∀ x, x < R.n → s.testBit x = true → can R m x = true → m.testBit x = true) : within (most R s) m = true := grown_least h R.n
theorem most_mono {R : Lore} {s t : Nat} (h : within s t = true) : within (most R s) (most R t) = true :=
  most_least fun x hx hs c => most_closed hx (within_iff.mp h x hs) c
/-- each thing of most is learnt by a rule from most -/
theorem most_can {R : Lore} {s x : Nat} (h : (most R s).testBit x = true) : can R (most R s) x = true := by
  have aux : ∀ k, (grown R s k).testBit x = true → can R (grown R s k) x = true := by
    intro k
    induction k with
    | zero => intro h; simp [grown] at h
    | succ k ih =>
      intro h
      rw [tb_grown_succ] at h
      simp only [Bool.or_eq_true, Bool.and_eq_true, decide_eq_true_eq] at h
      rcases h with h | h
      · exact can_mono (grown_step R s k) (ih h)
      · exact can_mono (grown_step R s k) h.2.2
  exact aux R.n h
theorem most_idem (R : Lore) (s : Nat) : most R (most R s) = most R s := by
  apply within_antisymm (most_within R _)
  apply most_least
  intro x hx hs c
  have h1 : (most R s).testBit x = true := most_closed hx hs (can_mono (most_within R _) c)
  exact most_closed hx h1 c
theorem state_most (R : Lore) (s : Nat) : state R (most R s) = true := by unfold state; rw [most_idem]; simp
theorem state_iff {R : Lore} {s : Nat} : state R s = true ↔ most R s = s := by unfold state; exact beq_iff_eq
theorem state_zero (R : Lore) : state R 0 = true := state_iff.mpr (within_antisymm (most_within R 0) (zero_within _))
theorem state_lt {R : Lore} {s x : Nat} (h : state R s = true) (hx : s.testBit x = true) : x < R.n := by
  rw [← state_iff.mp h] at hx; exact most_lt_n hx
theorem state_can {R : Lore} {s x : Nat} (h : state R s = true) (hx : s.testBit x = true) : can R s x = true := by
  have e := state_iff.mp h
  rw [← e] at hx ⊢; exact most_can hx
/-- greatest: a state within s is within most s -/
theorem state_within_most {R : Lore} {s t : Nat} (h : state R t = true) (w : within t s = true) : within t (most R s) = true := by
  have := most_mono (R := R) w
  rw [state_iff.mp h] at this; exact this
/-- from a state to a greater one there is a next thing -/
theorem state_grow {R : Lore} {s t : Nat} (hs : state R s = true) (w : within t s = true) (hne : t ≠ s) : ∃ x, t.testBit x = false ∧ s.testBit x = true ∧ can R t x = true := by
  apply Classical.byContradiction
  intro hn
  apply hne
  apply within_antisymm w
  have : within (most R s) t = true := most_least fun x hx h1 c => by
    cases e : t.testBit x
    · exact absurd ⟨x, e, h1, c⟩ hn
    · rfl
  rw [state_iff.mp hs] at this; exact this
theorem tb_or_pow (s x i : Nat) : (s ||| 2 ^ x).testBit i = (s.testBit i || decide (x = i)) := by rw [Nat.testBit_or, Nat.testBit_two_pow]
theorem state_add {R : Lore} {s x : Nat} (hs : state R s = true) (hx : x < R.n) (c : can R s x = true) : state R (s ||| 2 ^ x) = true := by
  have w1 : within s (s ||| 2 ^ x) = true := within_iff.mpr fun i h => by rw [tb_or_pow, h]; rfl
  have w2 := state_within_most hs w1
  apply state_iff.mpr
  apply within_antisymm (most_within R _)
  apply within_iff.mpr
  intro i hi
  rw [tb_or_pow] at hi
  simp only [Bool.or_eq_true, decide_eq_true_eq] at hi
  rcases hi with hi | rfl
  · exact within_iff.mp w2 i hi
  · exact most_closed hx (by rw [tb_or_pow]; simp) (can_mono w2 c)
theorem state_or {R : Lore} {s t : Nat} (hs : state R s = true) (ht : state R t = true) : state R (s ||| t) = true := by
  have w1 : within s (s ||| t) = true := within_iff.mpr fun i h => by rw [Nat.testBit_or, h]; rfl
  have w2 : within t (s ||| t) = true := within_iff.mpr fun i h => by rw [Nat.testBit_or, h]; simp
  apply state_iff.mpr
  apply within_antisymm (most_within R _)
  apply within_iff.mpr
  intro i hi
  rw [Nat.testBit_or, Bool.or_eq_true] at hi
  rcases hi with hi | hi
  · exact within_iff.mp (state_within_most hs w1) i hi
  · exact within_iff.mp (state_within_most ht w2) i hi
end Lp
end
section
namespace Lp
open Rc83
set_option linter.all false

theorem add_disj : ∀ (a b : Nat), a &&& b = 0 → a + b = a ||| b := by
  intro a
  induction a using Nat.strongRecOn with
  | _ a ih =>
    intro b h
    by_cases ha : a = 0
    · subst ha; simp
    · have h2 : (a / 2) &&& (b / 2) = 0 := by rw [← Nat.and_div_two, h]
      have e := ih (a / 2) (by omega) (b / 2) h2
      have e2 : (a ||| b) / 2 = a / 2 ||| b / 2 := Nat.or_div_two
      have m : (a &&& b) % 2 = 0 := by rw [h]
      have hm : ¬ (a % 2 = 1 ∧ b % 2 = 1) := by
        intro ⟨h1, h2⟩
        have t1 : a.testBit 0 = true := by rw [Nat.testBit_zero]; simp [h1]
        have t2 : b.testBit 0 = true := by rw [Nat.testBit_zero]; simp [h2]
        have := congrArg (fun x => x.testBit 0) h
        simp only [Nat.testBit_and, t1, t2] at this
        simp at this
      have o : (a ||| b) % 2 = (a % 2 + b % 2) := by
        have q := Nat.testBit_or a b 0
        rw [Nat.testBit_zero, Nat.testBit_zero, Nat.testBit_zero] at q
        have c1 : a % 2 = 0 ∨ a % 2 = 1 := by omega
        have c2 : b % 2 = 0 ∨ b % 2 = 1 := by omega
        have c3 : (a ||| b) % 2 = 0 ∨ (a ||| b) % 2 = 1 := by omega
        rcases c1 with c1 | c1 <;> rcases c2 with c2 | c2 <;> rcases c3 with c3 | c3 <;> simp [c1, c2, c3] at q ⊢
        exact absurd ⟨c1, c2⟩ hm
      omega
theorem tb_sub {a b : Nat} (w : within b a = true) (i : Nat) : (a - b).testBit i = (a.testBit i && !b.testBit i) := by
  have e : (a ^^^ b) + b = a := by
    rw [add_disj]
    · apply Nat.eq_of_testBit_eq
      intro i
      rw [Nat.testBit_or, Nat.testBit_xor]
      have := within_iff.mp w i
      cases h1 : a.testBit i <;> cases h2 : b.testBit i <;> simp_all
    · apply Nat.eq_of_testBit_eq
      intro i
      rw [Nat.testBit_and, Nat.testBit_xor]
      have := within_iff.mp w i
      cases h1 : a.testBit i <;> cases h2 : b.testBit i <;> simp_all
  have e2 : a - b = a ^^^ b := by omega
  rw [e2, Nat.testBit_xor]
  have := within_iff.mp w i
  cases h1 : a.testBit i <;> cases h2 : b.testBit i <;> simp_all
theorem within_pow {s x : Nat} : within (2 ^ x) s = s.testBit x := by
  rw [Bool.eq_iff_iff, within_iff]
  constructor
  · intro h; exact h x (by rw [Nat.testBit_two_pow]; simp)
  · intro h i hi
    rw [Nat.testBit_two_pow] at hi
    have := of_decide_eq_true hi
    subst this; exact h
theorem tb_sub_pow {s x : Nat} (h : s.testBit x = true) (i : Nat) : (s - 2 ^ x).testBit i = (s.testBit i && !decide (x = i)) := by
  rw [tb_sub (by rw [within_pow]; exact h), Nat.testBit_two_pow]
theorem and_within (a b : Nat) : within (a &&& b) a = true := within_iff.mpr fun i h => by
  rw [Nat.testBit_and, Bool.and_eq_true] at h; exact h.1
theorem tb_less (a b i : Nat) : (less a b).testBit i = (a.testBit i && !b.testBit i) := by
  show (a - (a &&& b)).testBit i = _
  rw [tb_sub (and_within a b), Nat.testBit_and]
  cases a.testBit i <;> cases b.testBit i <;> rfl
theorem tb_all (n i : Nat) : (all n).testBit i = decide (i < n) := Nat.testBit_two_pow_sub_one n i
theorem lt_of_bits {n s : Nat} (h : ∀ x, s.testBit x = true → x < n) : s < 2 ^ n := by
  apply Nat.lt_pow_two_of_testBit
  intro i hi
  cases e : s.testBit i
  · rfl
  · have := h i e; omega
theorem bits_of_lt {n s x : Nat} (h : s < 2 ^ n) (hx : s.testBit x = true) : x < n := by
  apply Classical.byContradiction
  intro hn
  have := Nat.testBit_lt_two_pow (Nat.lt_of_lt_of_le h (Nat.pow_le_pow_right (by decide) (Nat.le_of_not_lt hn)))
  rw [this] at hx; cases hx
theorem within_all {n s : Nat} (h : s < 2 ^ n) : within s (all n) = true := within_iff.mpr fun i hi => by
  rw [tb_all]; exact decide_eq_true (bits_of_lt h hi)
theorem most_lt (R : Lore) (s : Nat) : most R s < 2 ^ R.n := lt_of_bits fun _ h => most_lt_n h
theorem state_lt_pow {R : Lore} {s : Nat} (h : state R s = true) : s < 2 ^ R.n := lt_of_bits fun _ hx => state_lt h hx

structure Wf (R : Lore) : Prop where
  lt : ∀ x t, (x, t) ∈ R.rules → x < R.n
  sm : ∀ x t, (x, t) ∈ R.rules → t < 2 ^ R.n
  no : ∀ x t, (x, t) ∈ R.rules → t.testBit x = false
theorem can_lt {R : Lore} (W : Wf R) {s x : Nat} (h : can R s x = true) : x < R.n := by
  obtain ⟨t, hm, _⟩ := can_iff.mp h; exact W.lt x t hm

/-! nexts, lasts -/
theorem tb_nexts (R : Lore) (s x : Nat) : (nexts R s).testBit x = (decide (x < R.n) && (!s.testBit x && can R s x)) := by
  unfold nexts
  rw [tb_mask]
  simp only [List.mem_filter, List.mem_range, Bool.decide_and, Bool.decide_eq_true]
theorem tb_lasts (R : Lore) (s x : Nat) : (lasts R s).testBit x = (decide (x < R.n) && (s.testBit x && state R (s - 2 ^ x))) := by
  unfold lasts
  rw [tb_mask]
  simp only [List.mem_filter, List.mem_range, Bool.decide_and, Bool.decide_eq_true]
/-- with the rules of the right form: s + x is a state iff x can be learnt -/
theorem can_of_state_add {R : Lore} (W : Wf R) {s x : Nat} (h : state R (s ||| 2 ^ x) = true) (hx : s.testBit x = false) : can R s x = true := by
  have hx' : (s ||| 2 ^ x).testBit x = true := by rw [tb_or_pow]; simp
  obtain ⟨t, hm, ht⟩ := can_iff.mp (state_can h hx')
  refine can_iff.mpr ⟨t, hm, within_iff.mpr fun i hi => ?_⟩
  have := within_iff.mp ht i hi
  rw [tb_or_pow, Bool.or_eq_true, decide_eq_true_eq] at this
  rcases this with this | rfl
  · exact this
  · rw [W.no x t hm] at hi; cases hi
theorem sub_or_pow {s x : Nat} (h : s.testBit x = true) : (s - 2 ^ x) ||| 2 ^ x = s := Nat.eq_of_testBit_eq fun i => by
  rw [tb_or_pow, tb_sub_pow h]
  by_cases e : x = i
  · subst e; simp [h]
  · simp [e]
theorem or_pow_sub {s x : Nat} (h : s.testBit x = false) : (s ||| 2 ^ x) - 2 ^ x = s := Nat.eq_of_testBit_eq fun i => by
  rw [tb_sub_pow (by rw [tb_or_pow]; simp), tb_or_pow]
  by_cases e : x = i
  · subst e; simp [h]
  · simp [e]
theorem filter_one {p q : Nat → Bool} {x : Nat} (hx : p x = false) (hq : ∀ i, q i = (p i || decide (x = i))) : ∀ {l : List Nat}, l.Nodup → (l.filter q).length = (l.filter p).length + (if x ∈ l then 1 else 0)
  | [], _ => rfl
  | a :: l, nd => by
    obtain ⟨h1, h2⟩ := List.nodup_cons.mp nd
    have ih := filter_one hx hq h2
    by_cases e : x = a
    · subst e
      rw [List.filter_cons_of_pos (by rw [hq]; simp), List.filter_cons_of_neg (by simp [hx])]
      rw [if_neg h1] at ih
      rw [if_pos (List.mem_cons_self ..), List.length_cons, ih]
    · have hm : (x ∈ a :: l) ↔ x ∈ l := by simp [e]
      have hqa : q a = p a := by rw [hq]; simp [e]
      cases f : p a
      · rw [List.filter_cons_of_neg (by simp [hqa, f]), List.filter_cons_of_neg (by simp [f]), ih]
        simp [hm]
      · rw [List.filter_cons_of_pos (by simp [hqa, f]), List.filter_cons_of_pos (by simp [f]), List.length_cons, List.length_cons, ih]
        simp only [hm]; omega
theorem size_add {n s x : Nat} (hx : x < n) (h : s.testBit x = false) : size n (s ||| 2 ^ x) = size n s + 1 := by
  unfold size
  rw [filter_one (p := fun i => s.testBit i) (x := x) h (fun i => tb_or_pow s x i) List.nodup_range, if_pos (List.mem_range.mpr hx)]
/-- between two states, one thing after another: P holds of each -/
theorem climb {R : Lore} {P : Nat → Prop} {t s : Nat} (hs : state R s = true) (ht : state R t = true) (w : within t s = true) (h0 : P t)
    (h : ∀ u x, state R u = true → within t u = true → within u s = true → u.testBit x = false → s.testBit x = true → can R u x = true → P u → P (u ||| 2 ^ x)) : P s := by
  have aux : ∀ (k u : Nat), size R.n s - size R.n u = k → state R u = true → within t u = true → within u s = true → P u → P s := by
    intro k
    induction k with
    | zero =>
      intro u hk hu wt wu pu
      by_cases e : u = s
      · subst e; exact pu
      · obtain ⟨x, h1, h2, _⟩ := state_grow hs wu e
        have := size_lt (n := R.n) wu (state_lt hs h2) h1 h2
        omega
    | succ k ih =>
      intro u hk hu wt wu pu
      have e : u ≠ s := by intro e; subst e; omega
      obtain ⟨x, h1, h2, h3⟩ := state_grow hs wu e
      have hx := state_lt hs h2
      have w1 : within u (u ||| 2 ^ x) = true := within_iff.mpr fun i h => by rw [tb_or_pow, h]; rfl
      have hsz : size R.n (u ||| 2 ^ x) = size R.n u + 1 := size_add hx h1
      refine ih (u ||| 2 ^ x) (by omega) (state_add hu hx h3) (within_trans wt w1) ?_ (h u x hu wt wu h1 h2 h3 pu)
      refine within_iff.mpr fun i hi => ?_
      rw [tb_or_pow, Bool.or_eq_true, decide_eq_true_eq] at hi
      rcases hi with hi | rfl
      · exact within_iff.mp wu i hi
      · exact h2
  exact aux _ t rfl ht (within_refl t) w h0
end Lp
end
section
namespace Lp
open Rc83
set_option linter.all false

/-! the loop that makes most -/
theorem grown_can {R : Lore} {s x : Nat} : ∀ k, (grown R s k).testBit x = true → can R (grown R s k) x = true
  | 0, h => by simp [grown] at h
  | k + 1, h => by
    rw [tb_grown_succ] at h
    simp only [Bool.or_eq_true, Bool.and_eq_true, decide_eq_true_eq] at h
    rcases h with h | h
    · exact can_mono (grown_step R s k) (grown_can k h)
    · exact can_mono (grown_step R s k) h.2.2
/-- what some rule teaches, as the program's fold over the rules -/
noncomputable def taught (rs : List Rule) (s : Nat) : Nat := rs.foldl (fun a r => if r.2 &&& s = r.2 then a ||| 2 ^ r.1 else a) 0
theorem tb_taught_aux (s i : Nat) : ∀ (rs : List Rule) (a : Nat), (rs.foldl (fun a r => if r.2 &&& s = r.2 then a ||| 2 ^ r.1 else a) a).testBit i = (a.testBit i || rs.any fun r => r.1 == i && within r.2 s)
  | [], a => by simp
  | r :: rs, a => by
    rw [List.foldl_cons, tb_taught_aux s i rs, List.any_cons]
    have hw : within r.2 s = decide (r.2 &&& s = r.2) := by
      unfold within; rw [Bool.eq_iff_iff, beq_iff_eq, decide_eq_true_eq]; exact Iff.rfl
    by_cases h : r.2 &&& s = r.2
    · rw [if_pos h, tb_or_pow, hw, decide_eq_true h]
      have : (r.1 == i) = decide (r.1 = i) := by rw [Bool.eq_iff_iff]; simp
      rw [this]; simp [Bool.or_assoc]
    · rw [if_neg h, hw, decide_eq_false h]; simp
theorem tb_taught (R : Lore) (s i : Nat) : (taught R.rules s).testBit i = can R s i := by
  unfold taught; rw [tb_taught_aux]; simp [can]
theorem taught_lt {R : Lore} (W : Wf R) (s : Nat) : taught R.rules s < 2 ^ R.n := lt_of_bits fun x h => by
  rw [tb_taught] at h; exact can_lt W h
theorem grown_next {R : Lore} (W : Wf R) (s k : Nat) : grown R s (k + 1) = taught R.rules (grown R s k) &&& s := Nat.eq_of_testBit_eq fun i => by
  rw [tb_grown_succ, Nat.testBit_and, tb_taught]
  cases h1 : (grown R s k).testBit i
  · cases h2 : can R (grown R s k) i
    · simp
    · simp [can_lt W h2]
  · rw [grown_can k h1, within_iff.mp (grown_within R s k) i h1]; rfl
theorem grown_fix {R : Lore} {s k : Nat} (h : grown R s (k + 1) = grown R s k) : ∀ m, grown R s (k + m) = grown R s k
  | 0 => rfl
  | m + 1 => by
    have ih := grown_fix h m
    have : grown R s (k + m + 1) = grown R s (k + 1) := by
      show (grown R s (k + m)) ||| _ = (grown R s k) ||| _
      rw [ih]
    rw [show k + (m + 1) = k + m + 1 from rfl, this, h]
/-- the loop ends with most -/
theorem grown_end {R : Lore} {s k : Nat} (h : grown R s (k + 1) = grown R s k) : grown R s k = most R s := by
  unfold most
  by_cases hk : k ≤ R.n
  · have := grown_fix h (R.n - k)
    rw [show k + (R.n - k) = R.n by omega] at this
    exact this.symm
  · have := grown_fix (grown_stable R s) (k - R.n)
    rw [show R.n + (k - R.n) = k by omega] at this
    exact this
/-- the loop goes on only k < n times -/
theorem grown_more {R : Lore} {s k : Nat} (h : grown R s (k + 1) ≠ grown R s k) : k < R.n := by
  have h1 := grown_size R s k h
  have h2 := size_le R.n (grown R s (k + 1))
  omega
theorem nexts_eq {R : Lore} (W : Wf R) (s : Nat) : nexts R s = less (taught R.rules s) s := Nat.eq_of_testBit_eq fun i => by
  rw [tb_nexts, tb_less, tb_taught]
  cases h : can R s i
  · simp
  · simp [can_lt W h]

/-! top -/
theorem state_top (R : Lore) : state R (top R) = true := state_most R _
theorem within_top {R : Lore} {s : Nat} (h : state R s = true) : within s (top R) = true := state_within_most h (within_all (state_lt_pow h))
theorem nexts_top {R : Lore} (W : Wf R) : nexts R (top R) = 0 := Nat.eq_of_testBit_eq fun i => by
  rw [tb_nexts, Nat.zero_testBit]
  cases h : can R (top R) i
  · simp
  · have hi := can_lt W h
    have : (top R).testBit i = true := most_closed hi (by rw [tb_all]; exact decide_eq_true hi) h
    simp [this]
theorem nexts_zero {R : Lore} {s : Nat} (hs : state R s = true) (h : nexts R s = 0) : s = top R := by
  apply Classical.byContradiction
  intro hne
  obtain ⟨x, h1, h2, h3⟩ := state_grow (state_top R) (within_top hs) hne
  have : (nexts R s).testBit x = true := by
    rw [tb_nexts, h1, h3]; simp [state_lt (state_top R) h2]
  rw [h, Nat.zero_testBit] at this; cases this
/-- how many things are still to be learnt -/
noncomputable def left (R : Lore) (s : Nat) : Nat := size R.n (top R) - size R.n s
theorem left_zero_iff {R : Lore} {s : Nat} (hs : state R s = true) : left R s = 0 ↔ s = top R := by
  constructor
  · intro h
    apply Classical.byContradiction
    intro hne
    obtain ⟨x, h1, h2, h3⟩ := state_grow (state_top R) (within_top hs) hne
    have := size_lt (n := R.n) (within_top hs) (state_lt (state_top R) h2) h1 h2
    unfold left at h; omega
  · rintro rfl; unfold left; omega
theorem left_add {R : Lore} {s x : Nat} (hs : state R s = true) (h : (nexts R s).testBit x = true) : left R s = left R (s ||| 2 ^ x) + 1 := by
  rw [tb_nexts] at h
  simp only [Bool.and_eq_true, decide_eq_true_eq, Bool.not_eq_true'] at h
  obtain ⟨hx, h1, h2⟩ := h
  have ha := state_add hs hx h2
  have := size_mono (n := R.n) (within_top ha)
  unfold left
  have e := size_add hx h1
  omega
theorem state_next {R : Lore} {s x : Nat} (hs : state R s = true) (h : (nexts R s).testBit x = true) : state R (s ||| 2 ^ x) = true := by
  rw [tb_nexts] at h
  simp only [Bool.and_eq_true, decide_eq_true_eq, Bool.not_eq_true'] at h
  exact state_add hs h.1 h.2.2
/-- the things that can be learnt next, rising -/
noncomputable def nextsL (R : Lore) (s : Nat) : List Nat := (List.range R.n).filter fun x => (nexts R s).testBit x
/-- orders from a state on -/
noncomputable def ords (R : Lore) (s : Nat) : List (List Nat) := orders R (left R s) s
theorem ords_top (R : Lore) : ords R (top R) = [[]] := by
  unfold ords
  rw [(left_zero_iff (state_top R)).mpr rfl]; rfl
theorem ords_step {R : Lore} {s : Nat} (hs : state R s = true) (hne : s ≠ top R) : ords R s = (nextsL R s).flatMap fun x => (ords R (s ||| 2 ^ x)).map fun r => x :: r := by
  unfold ords
  have h0 : left R s ≠ 0 := fun h => hne ((left_zero_iff hs).mp h)
  obtain ⟨k, hk⟩ := Nat.exists_eq_succ_of_ne_zero h0
  rw [hk]
  show ((List.range R.n).filter fun x => (nexts R s).testBit x).flatMap (fun x => (orders R k (Nat.lor s (2 ^ x))).map fun r => x :: r) = _
  unfold nextsL
  rw [List.flatMap_def, List.flatMap_def]
  congr 1
  apply List.map_congr_left
  intro x hx
  have := left_add hs (List.mem_filter.mp hx).2
  rw [show left R (s ||| 2 ^ x) = k by omega]
  rfl
theorem size_zero (n : Nat) : size n 0 = 0 := by simp [size]
theorem ways_eq (R : Lore) : ways R = ords R 0 := by
  unfold ways ords left; rw [size_zero]; rfl
/-- how many orders from a state on -/
noncomputable def cnt (R : Lore) (s : Nat) : Nat := (ords R s).length
theorem cnt_top (R : Lore) : cnt R (top R) = 1 := by unfold cnt; rw [ords_top]; rfl
theorem cnt_step {R : Lore} {s : Nat} (hs : state R s = true) (hne : s ≠ top R) : cnt R s = ((nextsL R s).map fun x => cnt R (s ||| 2 ^ x)).sum := by
  unfold cnt
  rw [ords_step hs hne, List.length_flatMap]
  congr 1
  apply List.map_congr_left
  intro x _
  rw [List.length_map]
/-- the order with k before it: by counting -/
noncomputable def pick (f : Nat → List (List Nat)) : List Nat → Nat → Option (Nat × Nat)
  | [], _ => none
  | x :: l, k => if k < (f x).length then some (x, k) else pick f l (k - (f x).length)
theorem flatMap_get (f : Nat → List (List Nat)) : ∀ (l : List Nat) (k : Nat), (l.flatMap fun x => (f x).map fun r => x :: r)[k]? = (pick f l k).bind fun p => (f p.1)[p.2]?.map fun r => p.1 :: r
  | [], k => by simp [pick]
  | x :: l, k => by
    rw [List.flatMap_cons]
    unfold pick
    by_cases h : k < (f x).length
    · rw [if_pos h, List.getElem?_append_left (by rw [List.length_map]; exact h), List.getElem?_map]; rfl
    · rw [if_neg h, List.getElem?_append_right (by rw [List.length_map]; omega), List.length_map]
      exact flatMap_get f l _

/-! paths -/
theorem has_last {R : Lore} {s t : Nat} (hs : state R s = true) (ht : state R t = true) (w : within t s = true) (hne : t ≠ s) :
    ∃ y, t.testBit y = false ∧ s.testBit y = true ∧ state R (s - 2 ^ y) = true := by
  have h := climb (P := fun u => u = t ∨ ∃ y, t.testBit y = false ∧ u.testBit y = true ∧ state R (u - 2 ^ y) = true) hs ht w (.inl rfl) ?_
  · rcases h with h | h
    · exact absurd h.symm hne
    · exact h
  · intro u x hu wt _ h1 _ _ _
    refine .inr ⟨x, ?_, by rw [tb_or_pow]; simp, by rw [or_pow_sub h1]; exact hu⟩
    cases e : t.testBit x
    · rfl
    · rw [within_iff.mp wt x e] at h1; cases h1
theorem mem_states {R : Lore} {s : Nat} : s ∈ states R ↔ state R s = true := by
  unfold states
  rw [List.mem_filter, List.mem_range]
  exact ⟨fun h => h.2, fun h => ⟨state_lt_pow h, h⟩⟩
theorem sub_pow_within {s y : Nat} (h : s.testBit y = true) : within (s - 2 ^ y) s = true := within_iff.mpr fun i hi => by
  rw [tb_sub_pow h, Bool.and_eq_true] at hi; exact hi.1
/-- a path: a state whose only last thing is x -/
theorem path_iff {R : Lore} {s x : Nat} (hs : state R s = true) (hx : s.testBit x = true) :
    ((states R).all fun t => !(t.testBit x && within t s) || t == s) = true ↔ ∀ y, s.testBit y = true → y ≠ x → state R (s - 2 ^ y) = false := by
  rw [List.all_eq_true]
  constructor
  · intro h y hy hne
    cases e : state R (s - 2 ^ y)
    · rfl
    · have := h _ (mem_states.mpr e)
      rw [tb_sub_pow hy, hx, sub_pow_within hy] at this
      simp only [hne, decide_false, Bool.not_false, Bool.and_self, Bool.not_true, Bool.false_or, beq_iff_eq] at this
      have h2 := Nat.two_pow_pos y
      have h3 : 2 ^ y ≤ s := within_le (by rw [within_pow]; exact hy)
      omega
  · intro h t ht
    cases h1 : t.testBit x
    · simp
    · cases h2 : within t s
      · simp
      · by_cases e : t = s
        · simp [e]
        · obtain ⟨y, y1, y2, y3⟩ := has_last hs (mem_states.mp ht) h2 e
          have hne : y ≠ x := by rintro rfl; rw [h1] at y1; cases y1
          rw [h y y2 hne] at y3; cases y3

/-! hull and corners -/
noncomputable def out (R : Lore) (s : Nat) : Nat := most R (less (all R.n) s)
theorem tb_hull (R : Lore) (s i : Nat) : (hull R s).testBit i = (decide (i < R.n) && !(out R s).testBit i) := by
  show (all R.n - out R s).testBit i = _
  rw [tb_sub (within_all (show out R s < 2 ^ R.n from most_lt R _)), tb_all]
theorem hull_out (R : Lore) (s : Nat) : less (all R.n) (hull R s) = out R s := Nat.eq_of_testBit_eq fun i => by
  rw [tb_less, tb_hull, tb_all]
  by_cases h : i < R.n
  · simp [h]
  · cases e : (out R s).testBit i
    · simp [h]
    · exact absurd (most_lt_n e) h
theorem convex_iff {R : Lore} {s : Nat} (hs : s < 2 ^ R.n) : convex R s = state R (less (all R.n) s) := by
  rw [Bool.eq_iff_iff]
  have ss : less (all R.n) (less (all R.n) s) = s := Nat.eq_of_testBit_eq fun i => by
    rw [tb_less, tb_less, tb_all]
    cases e : s.testBit i
    · simp
    · simp [bits_of_lt hs e]
  unfold convex
  rw [beq_iff_eq, state_iff]
  constructor
  · intro h
    show out R s = _
    rw [← hull_out, h]
  · intro h
    apply Nat.eq_of_testBit_eq
    intro i
    rw [tb_hull]
    show (_ && !(most R (less (all R.n) s)).testBit i) = _
    rw [h, tb_less, tb_all]
    cases e : s.testBit i
    · simp
    · simp [bits_of_lt hs e]
theorem corners_eq {R : Lore} (W : Wf R) (s : Nat) : corners R s = nexts R (out R s) := Nat.eq_of_testBit_eq fun i => by
  have ho : state R (out R s) = true := state_most R _
  have e1 : (corners R s).testBit i = (decide (i < R.n) && ((hull R s).testBit i && convex R (hull R s - 2 ^ i))) := by
    unfold corners; rw [tb_mask]; simp only [List.mem_filter, List.mem_range, Bool.decide_and, Bool.decide_eq_true]
  rw [e1, tb_nexts]
  by_cases hi : i < R.n
  · rw [tb_hull, decide_eq_true hi]
    cases e : (out R s).testBit i
    · have hb : (hull R s).testBit i = true := by rw [tb_hull, e]; simp [hi]
      have hlt : hull R s - 2 ^ i < 2 ^ R.n := Nat.lt_of_le_of_lt (Nat.sub_le _ _) (lt_of_bits fun x hx => by
        rw [tb_hull, Bool.and_eq_true] at hx; exact of_decide_eq_true hx.1)
      rw [convex_iff hlt]
      have e2 : less (all R.n) (hull R s - 2 ^ i) = out R s ||| 2 ^ i := Nat.eq_of_testBit_eq fun j => by
        rw [tb_less, tb_sub_pow hb, tb_hull, tb_all, tb_or_pow]
        by_cases hj : i = j
        · subst hj; simp [hi]
        · by_cases hjn : j < R.n
          · simp [hj, hjn]
          · cases f : (out R s).testBit j
            · simp [hj, hjn]
            · exact absurd (most_lt_n f) hjn
      rw [e2]
      simp only [Bool.not_false, Bool.true_and]
      rw [Bool.eq_iff_iff]
      exact ⟨fun h => can_of_state_add W h e, fun h => state_add ho hi h⟩
    · simp
  · simp [hi]
end Lp
end
section
namespace Lp
open Rc83
set_option linter.all false

/-- a number where nothing else is said -/
noncomputable def W32 (z : Int) : Prop := -2147483648 ≤ z ∧ z ≤ 2147483647
theorem w32_of {z : Int} (h : Rc83Neutral.whole32 z = true) : W32 z := by
  unfold Rc83Neutral.whole32 at h
  rw [Bool.and_eq_true, decide_eq_true_eq, decide_eq_true_eq] at h
  unfold W32; omega
/-- one call at the head of a list of numbers, and what stands behind it -/
inductive Line : List Int → Rc83.Call → List Int → Prop
  | begin (t : List Int) : Line (0 :: t) .init t
  | things (n : Int) (t : List Int) : W32 n → Line (1 :: n :: t) (.things n) t
  | rule (x : Int) (s : Nat) (t : List Int) : W32 x → s < 2 ^ 32 → Line (2 :: x :: (s : Int) :: t) (.rule x s) t
  | is (s : Nat) (t : List Int) : s < 2 ^ 32 → Line (3 :: (s : Int) :: t) (.is s) t
  | most (s : Nat) (t : List Int) : s < 2 ^ 32 → Line (4 :: (s : Int) :: t) (.most s) t
  | next (s : Nat) (t : List Int) : s < 2 ^ 32 → Line (5 :: (s : Int) :: t) (.next s) t
  | last (s : Nat) (t : List Int) : s < 2 ^ 32 → Line (6 :: (s : Int) :: t) (.last s) t
  | count (t : List Int) : Line (7 :: t) .count t
  | orders (t : List Int) : Line (8 :: t) .orders t
  | order (k : Nat) (m : Int) (t : List Int) : W32 m → k < 2 ^ 64 → Line (9 :: (k : Int) :: m :: t) (.order k m) t
  | paths (x m : Int) (t : List Int) : W32 x → W32 m → Line (10 :: x :: m :: t) (.paths x m) t
  | hull (s : Nat) (t : List Int) : s < 2 ^ 32 → Line (11 :: (s : Int) :: t) (.hull s) t
  | corners (s : Nat) (t : List Int) : s < 2 ^ 32 → Line (12 :: (s : Int) :: t) (.corners s) t
  | plan (m : Int) (c : List Nat) (t : List Int) : W32 m → (∀ z ∈ c, z < 2 ^ 32) → c.length ≤ 256 → Line (13 :: m :: (c.length : Int) :: (c.map (fun (z : Nat) => (z : Int)) ++ t)) (.plan c (c.length : Int) m) t

noncomputable def told1 (a : Ans) : List Int := ((a.numbers.length + 1 : Nat) : Int) :: a.value :: a.numbers.map fun (b : Nat) => (b : Int)

/-- the calls of a list, played from a state, and what is told -/
inductive Play : Nat → Lore → List Int → List Int → Prop
  | nil (S : Lore) : Play 0 S [] []
  | cons {k : Nat} {S : Lore} {l t : List Int} {x : Rc83.Call} {out : List Int} : Line l x t → Play k (does S x).1 t out → Play (k + 1) S l (told1 (does S x).2 ++ out)

theorem nat_of {z : Int} {b : Nat} (h : Rc83Neutral.natural z b = true) : ∃ k : Nat, z = (k : Int) ∧ k < 2 ^ b := by
  unfold Rc83Neutral.natural at h
  rw [Bool.and_eq_true, decide_eq_true_eq, decide_eq_true_eq] at h
  refine ⟨z.toNat, by omega, ?_⟩
  have h2 := h.2
  have e : z = (z.toNat : Int) := by omega
  rw [e] at h2
  exact_mod_cast h2
theorem natsOf_map : ∀ (c : List Nat), Rc83Neutral.natsOf (c.map fun (z : Nat) => (z : Int)) = c
  | [] => rfl
  | a :: c => by
    show ((a : Int).toNat) :: Rc83Neutral.natsOf _ = _
    rw [natsOf_map c]; simp
theorem nats_of : ∀ {l : List Int} {b : Nat}, (l.all fun (z : Int) => Rc83Neutral.natural z b) = true → ∃ c : List Nat, l = c.map (fun (z : Nat) => (z : Int)) ∧ ∀ z ∈ c, z < 2 ^ b
  | [], _, _ => ⟨[], rfl, fun _ h => nomatch h⟩
  | z :: l, b, h => by
    rw [List.all_cons, Bool.and_eq_true] at h
    obtain ⟨k, rfl, hk⟩ := nat_of h.1
    obtain ⟨c, rfl, hc⟩ := nats_of h.2
    exact ⟨k :: c, rfl, fun y hy => by
      rcases List.mem_cons.mp hy with rfl | hy
      · exact hk
      · exact hc y hy⟩

theorem rows0 (r : List Int) : PyFlat.rows 0 r = some ([], r) := rfl
theorem shape_none {p : Int} (e0 : ¬ p = 0) (e1 : ¬ p = 1) (e2 : ¬ p = 2) (e3 : ¬ p = 3) (e4 : ¬ p = 4) (e5 : ¬ p = 5) (e6 : ¬ p = 6) (e7 : ¬ p = 7) (e8 : ¬ p = 8) (e9 : ¬ p = 9) (e10 : ¬ p = 10) (e11 : ¬ p = 11) (e12 : ¬ p = 12) (e13 : ¬ p = 13) : PyRc83.shape p = none := by
  unfold PyRc83.shape
  exact (if_neg e0).trans ((if_neg e1).trans ((if_neg e2).trans ((if_neg e3).trans ((if_neg e4).trans ((if_neg e5).trans ((if_neg e6).trans ((if_neg e7).trans ((if_neg e8).trans ((if_neg e9).trans ((if_neg e10).trans ((if_neg e11).trans ((if_neg e12).trans ((if_neg e13).trans (rfl))))))))))))))
theorem call_in {p : Int} {n k : Nat} {r t : List Int} {c : List (List Int)} (hs : PyRc83.shape p = some (n, k)) (h : PyFlat.call PyRc83.shape (p :: r) = some (c, t)) :
    n ≤ r.length ∧ ∃ xs, PyFlat.rows k (r.drop n) = some (xs, t) ∧ c = (p :: r.take n) :: xs := by
  unfold PyFlat.call at h
  simp only [hs] at h
  by_cases hn : r.length < n
  · rw [if_pos hn] at h; cases h
  · rw [if_neg hn] at h
    cases hx : PyFlat.rows k (r.drop n) with
    | none => rw [hx] at h; cases h
    | some y =>
      obtain ⟨xs, t'⟩ := y
      rw [hx] at h
      cases h
      exact ⟨Nat.le_of_not_lt hn, xs, rfl, rfl⟩
theorem call0 {p : Int} {r t : List Int} {c : List (List Int)} (hs : PyRc83.shape p = some (0, 0)) (h : PyFlat.call PyRc83.shape (p :: r) = some (c, t)) : c = [[p]] ∧ t = r := by
  obtain ⟨_, xs, e, rfl⟩ := call_in hs h
  cases e
  exact ⟨rfl, rfl⟩
theorem call1 {p : Int} {r t : List Int} {c : List (List Int)} (hs : PyRc83.shape p = some (1, 0)) (h : PyFlat.call PyRc83.shape (p :: r) = some (c, t)) : ∃ x, r = x :: t ∧ c = [[p, x]] := by
  obtain ⟨hl, xs, e, rfl⟩ := call_in hs h
  cases r with
  | nil => cases hl
  | cons x r => cases e; exact ⟨x, rfl, rfl⟩
theorem call2 {p : Int} {r t : List Int} {c : List (List Int)} (hs : PyRc83.shape p = some (2, 0)) (h : PyFlat.call PyRc83.shape (p :: r) = some (c, t)) : ∃ x y, r = x :: y :: t ∧ c = [[p, x, y]] := by
  obtain ⟨hl, xs, e, rfl⟩ := call_in hs h
  cases r with
  | nil => cases hl
  | cons x r => cases r with
    | nil => exact absurd (show 2 ≤ 1 from hl) (by decide)
    | cons y r => cases e; exact ⟨x, y, rfl, rfl⟩
theorem and_of {x y : Bool} (h : (x && y) = true) : x = true ∧ y = true := by rw [Bool.and_eq_true] at h; exact h
theorem line_plan {r t : List Int} {c : List (List Int)} (h0 : PyFlat.call PyRc83.shape (13 :: r) = some (c, t)) (ha : Rc83Neutral.asked1 (PyRc83.whole c) = true) :
    ∃ x, Line (13 :: r) x t ∧ Rc83Neutral.callOf (PyRc83.whole c) = some x := by
  obtain ⟨hl, xs, h, rfl⟩ := call_in (n := 1) (k := 1) rfl h0
  clear h0
  match r, hl with
  | [], hl => cases hl
  | [m], _ => cases h
  | m :: z :: r, _ =>
    rw [show List.drop 1 (m :: z :: r) = z :: r from rfl] at h
    unfold PyFlat.rows PyFlat.row at h
    by_cases hz : 0 ≤ z ∧ z.toNat ≤ r.length
    · simp only [if_pos hz, rows0] at h
      cases h
      have ha' : ((r.take z.toNat).all (fun (z : Int) => Rc83Neutral.natural z 32) && Rc83Neutral.long (r.take z.toNat) ((r.take z.toNat).length : Int) 1 256 && (Rc83Neutral.whole32 ((r.take z.toNat).length : Int) && Rc83Neutral.whole32 m)) = true := ha
      rw [Bool.and_eq_true, Bool.and_eq_true, Bool.and_eq_true] at ha'
      obtain ⟨c, hc, hcb⟩ := nats_of ha'.1.1
      have hlen : (r.take z.toNat).length = z.toNat := by rw [List.length_take]; omega
      have hcl : c.length = z.toNat := by rw [← hlen, hc, List.length_map]
      have hl : c.length ≤ 256 := by
        have hh := ha'.1.2
        unfold Rc83Neutral.long at hh
        rw [decide_eq_true_eq, hlen] at hh
        by_cases hq : (1 : Int) ≤ (z.toNat : Int) ∧ (z.toNat : Int) ≤ 256
        · omega
        · rw [if_neg hq] at hh; omega
      have el : 13 :: m :: z :: r = 13 :: m :: (c.length : Int) :: (c.map (fun (z : Nat) => (z : Int)) ++ r.drop z.toNat) := by
        rw [← hc, List.take_append_drop, hcl]
        have : ((z.toNat : Nat) : Int) = z := by omega
        rw [this]
      refine ⟨.plan c (c.length : Int) m, ?_, ?_⟩
      · rw [el]; exact .plan m c _ (w32_of ha'.2.2) hcb hl
      · show some (Rc83.Call.plan (Rc83Neutral.natsOf (r.take z.toNat)) ((r.take z.toNat).length : Int) m) = _
        rw [hc, natsOf_map, List.length_map]
    · simp only [if_neg hz] at h; cases h
/-- one call of the list -/
theorem line_of {l t : List Int} {c : List (List Int)} (h : PyFlat.call PyRc83.shape l = some (c, t)) (ha : Rc83Neutral.asked1 (PyRc83.whole c) = true) :
    ∃ x, Line l x t ∧ Rc83Neutral.callOf (PyRc83.whole c) = some x := by
  cases l with
  | nil => cases h
  | cons p r =>
    by_cases e0 : p = 0
    · subst e0
      obtain ⟨rfl, rfl⟩ := call0 rfl h
      exact ⟨_, .begin _, rfl⟩
    by_cases e1 : p = 1
    · subst e1
      obtain ⟨x, rfl, rfl⟩ := call1 rfl h
      exact ⟨_, .things x t (w32_of ha), rfl⟩
    by_cases e2 : p = 2
    · subst e2
      obtain ⟨x, y, rfl, rfl⟩ := call2 rfl h
      have ha' := and_of (show (Rc83Neutral.whole32 x && Rc83Neutral.natural y 32) = true from ha)
      obtain ⟨s, rfl, hs⟩ := nat_of ha'.2
      exact ⟨_, .rule x s t (w32_of ha'.1) hs, rfl⟩
    by_cases e3 : p = 3
    · subst e3
      obtain ⟨x, rfl, rfl⟩ := call1 rfl h
      obtain ⟨s, rfl, hs⟩ := nat_of (show Rc83Neutral.natural x 32 = true from ha)
      exact ⟨_, .is s t hs, rfl⟩
    by_cases e4 : p = 4
    · subst e4
      obtain ⟨x, rfl, rfl⟩ := call1 rfl h
      obtain ⟨s, rfl, hs⟩ := nat_of (show Rc83Neutral.natural x 32 = true from ha)
      exact ⟨_, .most s t hs, rfl⟩
    by_cases e5 : p = 5
    · subst e5
      obtain ⟨x, rfl, rfl⟩ := call1 rfl h
      obtain ⟨s, rfl, hs⟩ := nat_of (show Rc83Neutral.natural x 32 = true from ha)
      exact ⟨_, .next s t hs, rfl⟩
    by_cases e6 : p = 6
    · subst e6
      obtain ⟨x, rfl, rfl⟩ := call1 rfl h
      obtain ⟨s, rfl, hs⟩ := nat_of (show Rc83Neutral.natural x 32 = true from ha)
      exact ⟨_, .last s t hs, rfl⟩
    by_cases e7 : p = 7
    · subst e7
      obtain ⟨rfl, rfl⟩ := call0 rfl h
      exact ⟨_, .count _, rfl⟩
    by_cases e8 : p = 8
    · subst e8
      obtain ⟨rfl, rfl⟩ := call0 rfl h
      exact ⟨_, .orders _, rfl⟩
    by_cases e9 : p = 9
    · subst e9
      obtain ⟨x, y, rfl, rfl⟩ := call2 rfl h
      have ha' := and_of (show (Rc83Neutral.natural x 64 && Rc83Neutral.whole32 y) = true from ha)
      obtain ⟨s, rfl, hs⟩ := nat_of ha'.1
      exact ⟨_, .order s y t (w32_of ha'.2) hs, rfl⟩
    by_cases e10 : p = 10
    · subst e10
      obtain ⟨x, y, rfl, rfl⟩ := call2 rfl h
      have ha' := and_of (show (Rc83Neutral.whole32 x && Rc83Neutral.whole32 y) = true from ha)
      exact ⟨_, .paths x y t (w32_of ha'.1) (w32_of ha'.2), rfl⟩
    by_cases e11 : p = 11
    · subst e11
      obtain ⟨x, rfl, rfl⟩ := call1 rfl h
      obtain ⟨s, rfl, hs⟩ := nat_of (show Rc83Neutral.natural x 32 = true from ha)
      exact ⟨_, .hull s t hs, rfl⟩
    by_cases e12 : p = 12
    · subst e12
      obtain ⟨x, rfl, rfl⟩ := call1 rfl h
      obtain ⟨s, rfl, hs⟩ := nat_of (show Rc83Neutral.natural x 32 = true from ha)
      exact ⟨_, .corners s t hs, rfl⟩
    by_cases e13 : p = 13
    · subst e13
      exact line_plan h ha
    unfold PyFlat.call at h
    simp only [shape_none e0 e1 e2 e3 e4 e5 e6 e7 e8 e9 e10 e11 e12 e13] at h
    cases h

theorem step_of {S : Lore} {c : List (List Int)} {x : Rc83.Call} (h : Rc83Neutral.callOf c = some x) :
    Rc83Neutral.step S c = ((does S x).1, (does S x).2.value :: (does S x).2.numbers.map fun (b : Nat) => (b : Int)) := by
  unfold Rc83Neutral.step; rw [h]

theorem play_calls : ∀ {f : Nat} {l : List Int} {cs : List (List (List Int))} {S : Lore}, PyFlat.calls PyRc83.shape f l = some cs → (cs.map PyRc83.whole).all Rc83Neutral.asked1 = true →
    Play cs.length S l (PyFlat.told (PyFlat.played Rc83Neutral.step S (cs.map PyRc83.whole)))
  | f, [], cs, S, h, ha => by
    have : cs = [] := by cases f <;> (simp [PyFlat.calls] at h; exact h) 
    subst this; exact .nil S
  | 0, p :: r, cs, S, h, ha => by simp [PyFlat.calls] at h
  | f + 1, p :: r, cs, S, h, ha => by
    unfold PyFlat.calls at h
    cases h1 : PyFlat.call PyRc83.shape (p :: r) with
    | none => rw [h1] at h; cases h
    | some ct =>
      obtain ⟨c, t⟩ := ct
      rw [h1] at h
      simp only at h
      cases h2 : PyFlat.calls PyRc83.shape f t with
      | none => rw [h2] at h; cases h
      | some cs' =>
        rw [h2] at h
        cases h
        rw [List.map_cons, List.all_cons, Bool.and_eq_true] at ha
        obtain ⟨x, hl, hx⟩ := line_of h1 ha.1
        have ih := play_calls (S := (does S x).1) h2 ha.2
        rw [List.map_cons]
        have e : PyFlat.told (PyFlat.played Rc83Neutral.step S (PyRc83.whole c :: cs'.map PyRc83.whole)) = told1 (does S x).2 ++ PyFlat.told (PyFlat.played Rc83Neutral.step (does S x).1 (cs'.map PyRc83.whole)) := by
          show PyFlat.told ((Rc83Neutral.step S (PyRc83.whole c)).2 :: PyFlat.played Rc83Neutral.step (Rc83Neutral.step S (PyRc83.whole c)).1 _) = _
          rw [step_of hx]
          unfold PyFlat.told told1
          rw [List.flatMap_cons]
          simp
        rw [e]
        exact .cons hl ih
theorem play_of {l : List Int} (h : PyRc83.answers_asked l = true) : ∃ k, k ≤ 300 ∧ Play k {} l (PyRc83.answers l) := by
  unfold PyRc83.answers_asked at h
  unfold PyRc83.answers
  cases hc : PyRc83.calls l with
  | none => rw [hc] at h; cases h
  | some cs =>
    rw [hc] at h
    unfold PyRc83.calls at hc
    cases h2 : PyFlat.calls PyRc83.shape l.length l with
    | none => rw [h2] at hc; cases hc
    | some cs' =>
      rw [h2] at hc
      cases hc
      simp only [Bool.and_eq_true, PyFlat.atMost, decide_eq_true_eq, List.length_map, Rc83Neutral.asked] at h
      exact ⟨cs'.length, h.1, play_calls h2 h.2.1⟩
end Lp
end
section
namespace Lp
open Rc83
set_option linter.all false

structure Good (S : Lore) : Prop where
  wf : Wf S
  n16 : S.n ≤ 16
  r256 : S.rules.length ≤ 256
theorem good_new (n : Nat) (h : n ≤ 16) : Good { n := n } := ⟨⟨(by intro _ _ h; cases h), (by intro _ _ h; cases h), (by intro _ _ h; cases h)⟩, h, Nat.zero_le _⟩
theorem good_rule {S : Lore} (G : Good S) {x t : Nat} (h1 : x < S.n) (h2 : t < 2 ^ S.n) (h3 : t.testBit x = false) (h4 : S.rules.length < 256) : Good { S with rules := S.rules ++ [(x, t)] } := by
  refine ⟨⟨fun y u h => ?_, fun y u h => ?_, fun y u h => ?_⟩, G.n16, by simp; omega⟩
  all_goals
    rcases List.mem_append.mp h with h | h
    · first | exact G.wf.lt y u h | exact G.wf.sm y u h | exact G.wf.no y u h
    · cases List.mem_singleton.mp h
      assumption
theorem good_does {S : Lore} (G : Good S) (c : Rc83.Call) : Good (does S c).1 := by
  cases c with
  | init => exact good_new 0 (by decide)
  | things n =>
    show Good (ite _ _ _ : Abs × Ans).1
    split
    · exact G
    · rename_i h
      refine good_new _ ?_
      rw [Bool.not_eq_false] at h
      unfold between MOST at h
      rw [Bool.and_eq_true, decide_eq_true_eq, decide_eq_true_eq] at h
      have h2 : n ≤ 16 := h.2
      show n.toNat ≤ 16
      omega
  | rule x t =>
    show Good (ite _ _ _ : Abs × Ans).1
    split
    · exact G
    · rename_i h
      split
      · exact G
      · rename_i h2
        simp only [thing, RULES, not_or, Bool.not_eq_false, Bool.and_eq_true, decide_eq_true_eq, Nat.not_le] at h h2
        exact good_rule G (by omega) h.2.1 (by simpa using h.2.2) h2
  | is t => show Good (ite _ _ _ : Abs × Ans).1; split <;> exact G
  | most t => show Good (ite _ _ _ : Abs × Ans).1; split <;> exact G
  | next t =>
    show Good (ite _ _ _ : Abs × Ans).1
    split
    · exact G
    · split <;> exact G
  | last t =>
    show Good (ite _ _ _ : Abs × Ans).1
    split
    · exact G
    · split <;> exact G
  | count => exact G
  | orders => exact G
  | order k m =>
    show Good (match (ways S)[k]? with | some l => (S, _) | none => (S, _) : Abs × Ans).1
    cases (ways S)[k]? <;> exact G
  | paths x m => show Good (ite _ _ _ : Abs × Ans).1; split <;> exact G
  | hull t => show Good (ite _ _ _ : Abs × Ans).1; split <;> exact G
  | corners t => show Good (ite _ _ _ : Abs × Ans).1; split <;> exact G
  | plan c m r => show Good (ite _ _ _ : Abs × Ans).1; split <;> exact G

/-! how long an answer is -/
theorem half_bits : ∀ (n x : Nat), x < n → ((List.range (2 ^ n)).filter fun s => s.testBit x).length = 2 ^ (n - 1)
  | 0, x, h => by omega
  | n + 1, x, h => by
    rw [Nat.pow_succ, Nat.mul_two, List.range_add, List.filter_append, List.length_append, List.filter_map, List.length_map]
    by_cases e : x = n
    · subst e
      have h1 : (List.range (2 ^ x)).filter (fun s => s.testBit x) = [] := by
        rw [List.filter_eq_nil_iff]
        intro a ha
        rw [Nat.testBit_lt_two_pow (List.mem_range.mp ha)]; simp
      have h2 : (List.range (2 ^ x)).filter ((fun s => s.testBit x) ∘ fun s => 2 ^ x + s) = List.range (2 ^ x) := by
        rw [List.filter_eq_self]
        intro a ha
        show (2 ^ x + a).testBit x = true
        rw [Nat.testBit_two_pow_add_eq, Nat.testBit_lt_two_pow (List.mem_range.mp ha)]; rfl
      rw [h1, h2]; simp
    · have hx : x < n := by omega
      have ih := half_bits n x hx
      have h2 : (List.range (2 ^ n)).filter ((fun s => s.testBit x) ∘ fun s => 2 ^ n + s) = (List.range (2 ^ n)).filter fun s => s.testBit x := by
        congr 1
        funext a
        show (2 ^ n + a).testBit x = _
        rw [Nat.testBit_two_pow_add_gt hx]
      rw [h2, ih, Nat.add_sub_cancel]
      have : 2 ^ n = 2 ^ (n - 1) * 2 := by rw [← Nat.pow_succ]; congr 1; omega
      omega
theorem filter_length_le {p q : Nat → Bool} (l : List Nat) (h : ∀ i ∈ l, p i = true → q i = true) : (l.filter p).length ≤ (l.filter q).length := filter_sub h
theorem paths_len {S : Lore} (G : Good S) {x : Nat} (hx : x < S.n) : (paths S x).length ≤ 32768 := by
  unfold paths states
  rw [List.filter_filter]
  refine Nat.le_trans (filter_length_le (q := fun s => s.testBit x) _ fun i _ h => ?_) ?_
  · simp only [Bool.and_eq_true] at h; exact h.1.1
  · rw [half_bits _ _ hx]
    have := G.n16
    exact Nat.le_trans (Nat.pow_le_pow_right (by decide) (show S.n - 1 ≤ 15 by omega)) (by decide)
theorem states_len {S : Lore} (G : Good S) : (states S).length ≤ 65536 := by
  unfold states
  refine Nat.le_trans (List.length_filter_le _ _) ?_
  rw [List.length_range]
  exact Nat.le_trans (Nat.pow_le_pow_right (by decide) G.n16) (by decide)
theorem room_le (m : Int) (k : Nat) : room_ m k ≤ k := by
  unfold room_; split <;> omega
theorem told_len {S : Lore} (G : Good S) (c : Rc83.Call) : (does S c).2.numbers.length ≤ 32768 := by
  have tk : ∀ (l : List Nat) (m : Int), (l.take (room_ m MOST)).length ≤ 32768 := fun l m => by
    have := room_le m MOST
    rw [List.length_take]
    have : MOST = 16 := rfl
    omega
  cases c with
  | init => exact Nat.zero_le _
  | things n => show (ite _ _ _ : Abs × Ans).2.numbers.length ≤ _; split <;> exact Nat.zero_le _
  | rule x t =>
    show (ite _ _ _ : Abs × Ans).2.numbers.length ≤ _
    split
    · exact Nat.zero_le _
    · split <;> exact Nat.zero_le _
  | is t => show (ite _ _ _ : Abs × Ans).2.numbers.length ≤ _; split <;> exact Nat.zero_le _
  | most t => show (ite _ _ _ : Abs × Ans).2.numbers.length ≤ _; split <;> (simp [refused, tells])
  | next t =>
    show (ite _ _ _ : Abs × Ans).2.numbers.length ≤ _
    split
    · exact Nat.zero_le _
    · split <;> simp [tells]
  | last t =>
    show (ite _ _ _ : Abs × Ans).2.numbers.length ≤ _
    split
    · exact Nat.zero_le _
    · split <;> simp [tells]
  | count => exact Nat.zero_le _
  | orders => simp [does, tells]
  | order k m =>
    show (match (ways S)[k]? with | some l => (S, ({ value := (l.length : Nat), numbers := l.take (room_ m MOST) } : Ans)) | none => (S, { value := -2 }) : Abs × Ans).2.numbers.length ≤ _
    cases (ways S)[k]? with
    | none => exact Nat.zero_le _
    | some l => exact tk l m
  | paths x m =>
    show (ite _ _ _ : Abs × Ans).2.numbers.length ≤ _
    split
    · exact Nat.zero_le _
    · rename_i h
      simp only [thing, Bool.not_eq_false, Bool.and_eq_true, decide_eq_true_eq] at h
      show ((paths S x.toNat).take _).length ≤ _
      rw [List.length_take]
      have := paths_len G (x := x.toNat) (by omega)
      omega
  | hull t => show (ite _ _ _ : Abs × Ans).2.numbers.length ≤ _; split <;> (simp [refused, tells])
  | corners t => show (ite _ _ _ : Abs × Ans).2.numbers.length ≤ _; split <;> (simp [refused, tells])
  | plan c m r =>
    show (ite _ _ _ : Abs × Ans).2.numbers.length ≤ _
    split
    · exact Nat.zero_le _
    · exact tk _ _
theorem told1_len {S : Lore} (G : Good S) (c : Rc83.Call) : (told1 (does S c).2).length ≤ 32770 := by
  have := told_len G c
  unfold told1
  simp; omega
theorem play_len {k : Nat} {S : Lore} {l out : List Int} (p : Play k S l out) : Good S → out.length ≤ k * 32770 := by
  induction p with
  | nil S => intro _; exact Nat.zero_le _
  | cons hl _ ih =>
    intro G
    have h1 := ih (good_does G _)
    have h2 := told1_len G (by assumption)
    rw [List.length_append]
    rw [Nat.succ_mul]
    first | omega | skip
end Lp
end
section
namespace Lp
open Rc83 PySem
set_option linter.all false

/-! Python's operators on bits, over numbers that are not below 0 -/
theorem bitAnd_nat (a b : Nat) : Builtin.bitAnd (a : Int) (b : Int) = ((a &&& b : Nat) : Int) := by
  unfold Builtin.bitAnd
  rw [decide_eq_true (show (0 : Int) ≤ (a : Int) by omega), decide_eq_true (show (0 : Int) ≤ (b : Int) by omega)]
  simp only [Int.toNat_natCast]
theorem bitNot_not (a : Int) : Builtin.bitNot (Builtin.bitNot a) = a := by unfold Builtin.bitNot; omega
theorem bitAnd_not (a b : Nat) : Builtin.bitAnd (a : Int) (Builtin.bitNot (b : Int)) = ((less a b : Nat) : Int) := by
  unfold Builtin.bitAnd
  rw [decide_eq_true (show (0 : Int) ≤ (a : Int) by omega), decide_eq_false (show ¬ (0 : Int) ≤ Builtin.bitNot (b : Int) by unfold Builtin.bitNot; omega)]
  simp only [bitNot_not, Int.toNat_natCast]
  unfold less
  have h : a &&& b ≤ a := Nat.and_le_left
  have : Nat.land a b = a &&& b := rfl
  omega
theorem bitOr_nat (a b : Nat) : Builtin.bitOr (a : Int) (b : Int) = ((a ||| b : Nat) : Int) := by
  unfold Builtin.bitOr Builtin.bitAnd
  rw [decide_eq_false (show ¬ (0 : Int) ≤ Builtin.bitNot (a : Int) by unfold Builtin.bitNot; omega), decide_eq_false (show ¬ (0 : Int) ≤ Builtin.bitNot (b : Int) by unfold Builtin.bitNot; omega)]
  simp only [bitNot_not, Int.toNat_natCast]
theorem shl_one (x : Nat) : (1 : Int) * 2 ^ ((x : Int)).toNat = ((2 ^ x : Nat) : Int) := by
  rw [Int.toNat_natCast, Int.one_mul]; exact (Int.natCast_pow 2 x).symm
theorem shr_nat (x n : Nat) : (x : Int) / 2 ^ ((n : Int)).toNat = ((x / 2 ^ n : Nat) : Int) := by
  rw [Int.toNat_natCast]
  have : (2 : Int) ^ n = ((2 ^ n : Nat) : Int) := (Int.natCast_pow 2 n).symm
  rw [this]
  exact (Int.natCast_ediv x (2 ^ n)).symm
theorem shr_zero (x n : Nat) : x / 2 ^ n = 0 ↔ x < 2 ^ n := by
  constructor
  · intro h
    rcases Nat.div_eq_zero_iff.mp h with h | h
    · have := Nat.two_pow_pos n; omega
    · exact h
  · exact Nat.div_eq_of_lt
theorem shr_bit (t y : Nat) : t / 2 ^ y &&& 1 = (t.testBit y).toNat := by
  rw [Nat.and_one_is_mod]
  have h : t.testBit y = decide (t / 2 ^ y % 2 = 1) := Nat.testBit_eq_decide_div_mod_eq
  rw [h]
  have : t / 2 ^ y % 2 = 0 ∨ t / 2 ^ y % 2 = 1 := by omega
  rcases this with e | e <;> rw [e] <;> rfl
end Lp
end
section
namespace Lp
open Rc83
set_option linter.all false

/-! the loop over the bits of a state: what may have been learnt last -/
theorem and_pow_ne (s j : Nat) : (s &&& 2 ^ j ≠ 0) ↔ s.testBit j = true := by
  constructor
  · intro h
    cases e : s.testBit j
    · exfalso
      apply h
      apply Nat.eq_of_testBit_eq
      intro i
      rw [Nat.testBit_and, Nat.testBit_two_pow, Nat.zero_testBit]
      by_cases hj : j = i
      · subst hj; simp [e]
      · simp [hj]
    · rfl
  · intro h e
    have := congrArg (fun x => x.testBit j) e
    simp only [Nat.testBit_and, h, Nat.testBit_two_pow, Nat.zero_testBit] at this
    simp at this
theorem lasts_within (R : Lore) (s : Nat) : within (lasts R s) s = true := within_iff.mpr fun i h => by
  rw [tb_lasts] at h
  simp only [Bool.and_eq_true] at h
  exact h.2.1
theorem mod_full {a s j : Nat} (w : within a s = true) (h : s < 2 ^ j) : a % 2 ^ j = a := Nat.mod_eq_of_lt (Nat.lt_of_le_of_lt (within_le w) h)
theorem mod_step (a j : Nat) : a % 2 ^ (j + 1) = if a.testBit j = true then a % 2 ^ j ||| 2 ^ j else a % 2 ^ j := Nat.eq_of_testBit_eq fun i => by
  rw [Nat.testBit_mod_two_pow]
  by_cases h : a.testBit j = true
  · rw [if_pos h, tb_or_pow, Nat.testBit_mod_two_pow]
    by_cases e : j = i
    · subst e; simp [h]
    · have : (i < j + 1) ↔ i < j := by omega
      simp [e, this]
  · rw [if_neg h, Nat.testBit_mod_two_pow]
    by_cases e : j = i
    · subst e; simp [h]
    · have : (i < j + 1) ↔ i < j := by omega
      simp [this]
theorem lasts_bit {R : Lore} {s j : Nat} (hs : s < 2 ^ R.n) : (lasts R s).testBit j = (s.testBit j && state R (s - 2 ^ j)) := by
  rw [tb_lasts]
  cases h : s.testBit j
  · simp
  · simp [bits_of_lt hs h]
theorem pow_le_of_bit {s j : Nat} (h : s.testBit j = true) : 2 ^ j ≤ s := within_le (by rw [within_pow]; exact h)
end Lp
end
section
namespace Lp
open Rc83
set_option linter.all false

/-! plan: of what can be learnt next the cheapest, the least of these -/
theorem mem_nextsL {R : Lore} {s x : Nat} : x ∈ nextsL R s ↔ (nexts R s).testBit x = true := by
  unfold nextsL
  rw [List.mem_filter, List.mem_range]
  constructor
  · exact fun h => h.2
  · intro h
    refine ⟨?_, h⟩
    rw [tb_nexts, Bool.and_eq_true] at h
    exact of_decide_eq_true h.1
theorem nextsL_nil {R : Lore} {s : Nat} (hs : state R s = true) : nextsL R s = [] ↔ s = top R := by
  constructor
  · intro h
    apply nexts_zero hs
    apply Nat.eq_of_testBit_eq
    intro i
    rw [Nat.zero_testBit]
    cases e : (nexts R s).testBit i
    · rfl
    · rw [← mem_nextsL, h] at e; cases e
  · rintro rfl
    cases e : nextsL R (top R) with
    | nil => rfl
    | cons x l =>
      exfalso
      have : x ∈ nextsL R (top R) := by rw [e]; exact List.mem_cons_self ..
      rw [mem_nextsL] at this
      have h0 : state R (top R ||| 2 ^ x) = true := state_next (state_top R) this
      have w := within_iff.mp (within_top h0) x (by rw [tb_or_pow]; simp)
      rw [tb_nexts, w] at this
      simp at this
/-- the fold of cheapest, over a list -/
noncomputable def best (f : Nat → Nat) (l : List Nat) (b : Option Nat) : Option Nat := l.foldl (fun (b : Option Nat) x => match b with
  | some y => if f x < f y then some x else some y
  | none => some x) b
theorem cheapest_eq (R : Lore) (c : List Nat) (s k : Nat) : cheapest R c s k = best (fun x => cost R.n c x k) (nextsL R s) none := rfl
theorem best_snoc (f : Nat → Nat) (l : List Nat) (x : Nat) (b : Option Nat) : best f (l ++ [x]) b = match best f l b with
  | some y => if f x < f y then some x else some y
  | none => some x := by unfold best; rw [List.foldl_append]; rfl
noncomputable def better (f : Nat → Nat) (x : Nat) : Option Nat → Nat
  | some y => if f x < f y then x else y
  | none => x
theorem best_cons (f : Nat → Nat) (x : Nat) (l : List Nat) (b : Option Nat) : best f (x :: l) b = best f l (some (better f x b)) := by
  unfold best
  rw [List.foldl_cons]
  congr 1
  cases b with
  | none => rfl
  | some y =>
    show (if f x < f y then some x else some y) = some (if f x < f y then x else y)
    split <;> rfl
theorem best_mem (f : Nat → Nat) : ∀ (l : List Nat) (b : Option Nat) (y : Nat), best f l b = some y → y ∈ l ∨ b = some y
  | [], b, y, h => .inr h
  | x :: l, b, y, h => by
    rw [best_cons] at h
    rcases best_mem f l _ y h with h | h
    · exact .inl (List.mem_cons_of_mem _ h)
    · cases b with
      | none => cases h; exact .inl (List.mem_cons_self ..)
      | some z =>
        have h := Option.some.inj h
        unfold better at h
        simp only at h
        split at h
        · subst h; exact .inl (List.mem_cons_self ..)
        · subst h; exact .inr rfl
theorem best_none (f : Nat → Nat) : ∀ (l : List Nat) (b : Option Nat), best f l b = none ↔ l = [] ∧ b = none
  | [], b => ⟨fun h => ⟨rfl, h⟩, fun h => h.2⟩
  | x :: l, b => by
    rw [best_cons, best_none f l]
    constructor
    · rintro ⟨_, h⟩; cases h
    · rintro ⟨h, _⟩; cases h
theorem forward_top (R : Lore) (c : List Nat) (k : Nat) : forward R c (left R (top R)) k (top R) = [] := by
  rw [(left_zero_iff (state_top R)).mpr rfl]; rfl
theorem forward_step {R : Lore} {s : Nat} (c : List Nat) (k : Nat) (hs : state R s = true) (hne : s ≠ top R) :
    ∃ x, cheapest R c s k = some x ∧ (nexts R s).testBit x = true ∧ forward R c (left R s) k s = x :: forward R c (left R (s ||| 2 ^ x)) (k + 1) (s ||| 2 ^ x) := by
  have h0 : left R s ≠ 0 := fun h => hne ((left_zero_iff hs).mp h)
  obtain ⟨m, hm⟩ := Nat.exists_eq_succ_of_ne_zero h0
  cases hc : cheapest R c s k with
  | none =>
    rw [cheapest_eq, best_none] at hc
    exact absurd ((nextsL_nil hs).mp hc.1) hne
  | some x =>
    have hx : (nexts R s).testBit x = true := by
      rw [cheapest_eq] at hc
      rcases best_mem _ _ _ _ hc with h | h
      · exact mem_nextsL.mp h
      · cases h
    refine ⟨x, rfl, hx, ?_⟩
    have hl := left_add hs hx
    rw [hm]
    show (match cheapest R c s k with | some x => x :: forward R c m (k + 1) (Nat.lor s (2 ^ x)) | none => []) = _
    rw [hc]
    have : left R (s ||| 2 ^ x) = m := by omega
    rw [this]
    rfl
theorem plan_eq (R : Lore) (c : List Nat) : plan R c = forward R c (left R 0) 0 0 := by
  unfold plan left; rw [size_zero]; rfl
/-- all states are reached from nothing by learning -/
theorem all_states {R : Lore} {Q : Nat → Prop} (h0 : Q 0) (h : ∀ u x, state R u = true → Q u → (nexts R u).testBit x = true → Q (u ||| 2 ^ x)) {s : Nat} (hs : state R s = true) : Q s := by
  refine climb (P := Q) hs (state_zero R) (zero_within s) h0 fun u x hu _ _ h1 h2 h3 q => h u x hu q ?_
  rw [tb_nexts, h1, h3]
  simp [state_lt hs h2]
theorem lor_add {s x : Nat} (h : s.testBit x = false) : s ||| 2 ^ x = s + 2 ^ x := by
  rw [add_disj]
  apply Nat.eq_of_testBit_eq
  intro i
  rw [Nat.testBit_and, Nat.testBit_two_pow, Nat.zero_testBit]
  by_cases e : x = i
  · subst e; simp [h]
  · simp [e]
theorem nexts_lt {R : Lore} {s x : Nat} (h : (nexts R s).testBit x = true) : x < R.n ∧ s.testBit x = false := by
  rw [tb_nexts] at h
  simp only [Bool.and_eq_true, decide_eq_true_eq, Bool.not_eq_true'] at h
  exact ⟨h.1, h.2.1⟩
end Lp
end
section
namespace Lp
open Rc83
set_option linter.all false

/-! tables: keys once, just those of D, the value of each by f -/
structure Tab (f : Nat → Nat) (D : Nat → Prop) (B : List (Nat × Nat)) : Prop where
  nd : (B.map (·.1)).Nodup
  mem : ∀ g, g ∈ B.map (·.1) ↔ D g
  val : ∀ p ∈ B, p.2 = f p.1
theorem Tab.nil {f : Nat → Nat} : Tab f (fun _ => False) [] := ⟨List.nodup_nil, fun g => by simp, fun p h => nomatch h⟩
theorem Tab.one (f : Nat → Nat) (g : Nat) : Tab f (fun x => x = g) [(g, f g)] := ⟨by simp, fun x => by simp, fun p h => by simp at h; subst h; rfl⟩
theorem Tab.congr {f : Nat → Nat} {D D' : Nat → Prop} {B : List (Nat × Nat)} (t : Tab f D B) (h : ∀ x, D' x ↔ D x) : Tab f D' B := ⟨t.nd, fun g => (t.mem g).trans (h g).symm, t.val⟩
theorem Tab.add {f : Nat → Nat} {D D' : Nat → Prop} {B : List (Nat × Nat)} {g : Nat} (t : Tab f D B) (h : ¬ D g) (hD : ∀ x, D' x ↔ D x ∨ x = g) : Tab f D' (B ++ [(g, f g)]) := by
  refine ⟨?_, fun x => ?_, fun p hp => ?_⟩
  · rw [List.map_append, List.nodup_append]
    refine ⟨t.nd, by simp, ?_⟩
    intro a ha b hb e
    simp at hb
    subst hb
    subst e
    exact h ((t.mem _).mp ha)
  · rw [List.map_append, List.mem_append, hD, t.mem]; simp
  · rcases List.mem_append.mp hp with hp | hp
    · exact t.val p hp
    · simp at hp; subst hp; rfl
theorem Tab.app {f : Nat → Nat} {D E D' : Nat → Prop} {B C : List (Nat × Nat)} (t : Tab f D B) (u : Tab f E C) (h : ∀ x, D x → ¬ E x) (hD : ∀ x, D' x ↔ D x ∨ E x) : Tab f D' (B ++ C) := by
  refine ⟨?_, fun x => ?_, fun p hp => ?_⟩
  · rw [List.map_append, List.nodup_append]
    refine ⟨t.nd, u.nd, ?_⟩
    intro a ha b hb e
    subst e
    exact h a ((t.mem _).mp ha) ((u.mem _).mp hb)
  · rw [List.map_append, List.mem_append, hD, t.mem, u.mem]
  · rcases List.mem_append.mp hp with hp | hp
    · exact t.val p hp
    · exact u.val p hp
theorem lookup_none {B : List (Nat × Nat)} {g : Nat} (h : g ∉ B.map (·.1)) : B.lookup g = none := by
  induction B with
  | nil => rfl
  | cons p r ih =>
    obtain ⟨a, b⟩ := p
    simp only [List.map_cons, List.mem_cons, not_or] at h
    rw [List.lookup_cons, beq_eq_false_iff_ne.mpr h.1]
    exact ih h.2
theorem lookup_mem {B : List (Nat × Nat)} {g v : Nat} (h : B.lookup g = some v) : (g, v) ∈ B := by
  induction B with
  | nil => cases h
  | cons p r ih =>
    obtain ⟨a, b⟩ := p
    rw [List.lookup_cons] at h
    by_cases e : g = a
    · subst e
      rw [beq_self_eq_true] at h
      cases h
      exact List.mem_cons_self ..
    · rw [beq_eq_false_iff_ne.mpr e] at h
      exact List.mem_cons_of_mem _ (ih h)
theorem lookup_some {B : List (Nat × Nat)} {g : Nat} (h : g ∈ B.map (·.1)) : ∃ v, B.lookup g = some v := by
  induction B with
  | nil => cases h
  | cons p r ih =>
    obtain ⟨a, b⟩ := p
    rw [List.lookup_cons]
    by_cases e : g = a
    · subst e
      rw [beq_self_eq_true]
      exact ⟨_, rfl⟩
    · rw [beq_eq_false_iff_ne.mpr e]
      simp only [List.map_cons, List.mem_cons] at h
      exact ih (h.resolve_left e)
theorem Tab.get {f : Nat → Nat} {D : Nat → Prop} {B : List (Nat × Nat)} {g : Nat} (t : Tab f D B) (h : D g) : B.lookup g = some (f g) := by
  obtain ⟨v, e⟩ := lookup_some ((t.mem g).mpr h)
  have := t.val _ (lookup_mem e)
  simp only at this
  rw [e, this]
theorem Tab.no {f : Nat → Nat} {D : Nat → Prop} {B : List (Nat × Nat)} {g : Nat} (t : Tab f D B) (h : ¬ D g) : B.lookup g = none := lookup_none fun z => h ((t.mem g).mp z)
theorem len_of_mem {l m : List Nat} (hl : l.Nodup) (hm : m.Nodup) (h : ∀ x, x ∈ l ↔ x ∈ m) : l.Perm m := (List.perm_ext_iff_of_nodup hl hm).mpr h

/-! the bits of a set, rising -/
noncomputable def bitsL (m f : Nat) : List Nat := (List.range m).filter fun x => f.testBit x
theorem bitsL_le {f m k : Nat} (h : f < 2 ^ m) (hk : m ≤ k) : bitsL k f = bitsL m f := by
  unfold bitsL
  obtain ⟨d, rfl⟩ := Nat.exists_eq_add_of_le hk
  rw [List.range_add, List.filter_append]
  have : (List.map (fun x => m + x) (List.range d)).filter (fun x => f.testBit x) = [] := by
    rw [List.filter_eq_nil_iff]
    intro a ha hb
    obtain ⟨j, _, rfl⟩ := List.mem_map.mp ha
    have := bits_of_lt h hb
    omega
  rw [this, List.append_nil]
theorem bitsL_eq {f m k : Nat} (h : f < 2 ^ m) (h2 : f < 2 ^ k) : bitsL k f = bitsL m f := by
  rcases Nat.le_total m k with hk | hk
  · exact bitsL_le h hk
  · exact (bitsL_le h2 hk).symm
theorem nexts_lt_pow (R : Lore) (s : Nat) : nexts R s < 2 ^ R.n := lt_of_bits fun x h => (nexts_lt h).1
theorem bits_nexts {R : Lore} {s m : Nat} (h : nexts R s < 2 ^ m) : bitsL m (nexts R s) = nextsL R s := bitsL_eq (nexts_lt_pow R s) h
theorem mem_bitsL {m f x : Nat} (h : f < 2 ^ m) : x ∈ bitsL m f ↔ f.testBit x = true := by
  unfold bitsL
  rw [List.mem_filter, List.mem_range]
  exact ⟨fun h => h.2, fun z => ⟨bits_of_lt h z, z⟩⟩

/-! one thing more: what can be learnt next then -/
noncomputable def needing (rs : List Rule) (x : Nat) : List Rule := rs.filter fun q => q.2.testBit x
theorem nexts_grow {R : Lore} (W : Wf R) {s x : Nat} (hx : (nexts R s).testBit x = true) :
    less (nexts R s ||| taught (needing R.rules x) (s ||| 2 ^ x)) (s ||| 2 ^ x) = nexts R (s ||| 2 ^ x) := Nat.eq_of_testBit_eq fun i => by
  have h2 := tb_taught { n := R.n, rules := needing R.rules x } (s ||| 2 ^ x) i
  have h2' : (taught (needing R.rules x) (s ||| 2 ^ x)).testBit i = can { n := R.n, rules := needing R.rules x } (s ||| 2 ^ x) i := h2
  have w1 : within s (s ||| 2 ^ x) = true := within_iff.mpr fun i h => by rw [tb_or_pow, h]; rfl
  rw [tb_less, Nat.testBit_or, h2', nexts_eq W (s ||| 2 ^ x), tb_less, tb_taught]
  cases hg : (s ||| 2 ^ x).testBit i
  · rw [Bool.not_false, Bool.and_true, Bool.and_true, Bool.eq_iff_iff, Bool.or_eq_true]
    have hs : s.testBit i = false := by
      rw [tb_or_pow, Bool.or_eq_false_iff] at hg; exact hg.1
    constructor
    · rintro (h | h)
      · rw [nexts_eq W, tb_less, tb_taught, Bool.and_eq_true] at h
        exact can_mono w1 h.1
      · obtain ⟨t, hm, ht⟩ := can_iff.mp h
        exact can_iff.mpr ⟨t, (List.mem_filter.mp hm).1, ht⟩
    · intro h
      obtain ⟨t, hm, ht⟩ := can_iff.mp h
      cases htx : t.testBit x
      · refine .inl ?_
        rw [nexts_eq W, tb_less, tb_taught, hs, Bool.not_false, Bool.and_true]
        refine can_iff.mpr ⟨t, hm, within_iff.mpr fun j hj => ?_⟩
        have := within_iff.mp ht j hj
        rw [tb_or_pow, Bool.or_eq_true, decide_eq_true_eq] at this
        rcases this with this | rfl
        · exact this
        · rw [htx] at hj; cases hj
      · exact .inr (can_iff.mpr ⟨t, List.mem_filter.mpr ⟨hm, htx⟩, ht⟩)
  · simp
/-- the states with so many things -/
noncomputable def Lv (R : Lore) (k s : Nat) : Prop := state R s = true ∧ size R.n s = k
theorem lv_zero (R : Lore) (s : Nat) : Lv R 0 s ↔ s = 0 := by
  constructor
  · rintro ⟨h1, h2⟩
    apply Classical.byContradiction
    intro hne
    obtain ⟨x, a, b⟩ := ne_bit (zero_within s) (Ne.symm hne)
    have := size_lt (n := R.n) (zero_within s) (state_lt h1 b) a b
    omega
  · rintro rfl
    exact ⟨state_zero R, size_zero _⟩
theorem lv_step {R : Lore} (W : Wf R) (k g : Nat) : Lv R (k + 1) g ↔ ∃ s x, Lv R k s ∧ (nexts R s).testBit x = true ∧ g = s ||| 2 ^ x := by
  constructor
  · rintro ⟨h1, h2⟩
    have hne : (0 : Nat) ≠ g := by rintro rfl; rw [size_zero] at h2; omega
    obtain ⟨y, _, hy, hs⟩ := has_last h1 (state_zero R) (zero_within g) hne
    have hb : (g - 2 ^ y).testBit y = false := by rw [tb_sub_pow hy]; simp
    have e := sub_or_pow hy
    have hn := state_lt h1 hy
    refine ⟨g - 2 ^ y, y, ⟨hs, ?_⟩, ?_, e.symm⟩
    · have := size_add hn hb
      rw [e] at this
      omega
    · rw [tb_nexts, hb, can_of_state_add W (by rw [e]; exact h1) hb]
      simp [hn]
  · rintro ⟨s, x, ⟨h1, h2⟩, hx, rfl⟩
    obtain ⟨a, b⟩ := nexts_lt hx
    exact ⟨state_next h1 hx, by rw [size_add a b, h2]⟩
theorem lv_none {R : Lore} (W : Wf R) {k : Nat} (h : ∀ s, ¬ Lv R k s) : ∀ m s, ¬ Lv R (k + m) s
  | 0, s => h s
  | m + 1, s => fun z => by
    obtain ⟨t, x, h1, _⟩ := (lv_step W (k + m) s).mp z
    exact lv_none W h m t h1
/-- all states with fewer than k things -/
noncomputable def Below (R : Lore) (k s : Nat) : Prop := state R s = true ∧ size R.n s < k
theorem below_succ (R : Lore) (k s : Nat) : Below R (k + 1) s ↔ Below R k s ∨ Lv R k s := by
  constructor
  · rintro ⟨h1, h2⟩
    by_cases e : size R.n s = k
    · exact .inr ⟨h1, e⟩
    · exact .inl ⟨h1, by omega⟩
  · rintro (⟨h1, h2⟩ | ⟨h1, h2⟩)
    · exact ⟨h1, by omega⟩
    · exact ⟨h1, by omega⟩
theorem below_end {R : Lore} (W : Wf R) {k : Nat} (h : ∀ s, ¬ Lv R k s) (s : Nat) : state R s = true ↔ Below R k s := by
  constructor
  · intro h1
    refine ⟨h1, ?_⟩
    apply Classical.byContradiction
    intro hn
    refine lv_none W h (size R.n s - k) s ⟨h1, by omega⟩
  · exact fun h => h.1
/-- the table of all states, those with fewer things first -/
structure Walk (R : Lore) (B : List (Nat × Nat)) : Prop where
  tab : Tab (nexts R) (fun s => state R s = true) B
  up : (B.map fun p => size R.n p.1).Pairwise (· ≤ ·)
theorem states_nodup (R : Lore) : (states R).Nodup := List.Pairwise.filter _ List.nodup_range
theorem Walk.len {R : Lore} {B : List (Nat × Nat)} (w : Walk R B) : B.length = (states R).length := by
  have := (len_of_mem w.tab.nd (states_nodup R) fun x => (w.tab.mem x).trans mem_states.symm).length_eq
  rw [List.length_map] at this
  exact this
theorem walk_add {R : Lore} {B L : List (Nat × Nat)} {k : Nat} (t : Tab (nexts R) (Below R k) B) (u : (B.map fun p => size R.n p.1).Pairwise (· ≤ ·)) (l : Tab (nexts R) (Lv R k) L) :
    Tab (nexts R) (Below R (k + 1)) (B ++ L) ∧ ((B ++ L).map fun p => size R.n p.1).Pairwise (· ≤ ·) := by
  refine ⟨t.app l (fun x h1 h2 => ?_) (below_succ R k), ?_⟩
  · have a := h1.2
    have b := h2.2
    omega
  · rw [List.map_append, List.pairwise_append]
    have hL : ∀ z ∈ L.map (fun p => size R.n p.1), z = k := fun z hz => by
      obtain ⟨p, hp, rfl⟩ := List.mem_map.mp hz
      exact ((l.mem p.1).mp (List.mem_map.mpr ⟨p, hp, rfl⟩)).2
    refine ⟨u, ?_, fun a ha b hb => ?_⟩
    · refine List.pairwise_iff_forall_sublist.mpr fun {a b} hs => ?_
      have h1 := hL a (hs.subset (by simp))
      have h2 := hL b (hs.subset (by simp))
      omega
    · obtain ⟨p, hp, rfl⟩ := List.mem_map.mp ha
      have h1 := ((t.mem p.1).mp (List.mem_map.mpr ⟨p, hp, rfl⟩)).2
      have h2 := hL b hb
      omega
theorem lv_le {R : Lore} {k s : Nat} (h : Lv R k s) : k ≤ R.n := by
  have := size_le R.n s
  rw [h.2] at this
  exact this
end Lp
end
section
namespace Lp
open Rc83
set_option linter.all false

/-! ways: from the end of the walk -/
theorem later {R : Lore} {l : List Nat} (up : (l.map fun s => size R.n s).Pairwise (· ≤ ·)) {i s g : Nat} (hs : l.reverse[i]? = some s) (hg : g ∈ l) (hlt : size R.n s < size R.n g) : g ∈ l.reverse.take i := by
  have hr : (l.reverse.map fun s => size R.n s).Pairwise (fun a b => b ≤ a) := by
    rw [List.map_reverse, List.pairwise_reverse]; exact up
  rw [List.pairwise_map] at hr
  have hg' : g ∈ l.reverse := List.mem_reverse.mpr hg
  obtain ⟨hi, es⟩ := List.getElem?_eq_some_iff.mp hs
  obtain ⟨j, hj, ej⟩ := List.getElem_of_mem hg'
  rw [List.mem_take_iff_getElem]
  rcases Nat.lt_trichotomy j i with h | h | h
  · exact ⟨j, by omega, ej⟩
  · subst h
    rw [es] at ej
    subst ej
    omega
  · have := List.pairwise_iff_getElem.mp hr i j hi hj h
    rw [es, ej] at this
    omega
theorem cnt_val {R : Lore} {s : Nat} (hs : state R s = true) : cnt R s = if 0 < (nextsL R s).length then ((nextsL R s).map fun x => cnt R (s ||| 2 ^ x)).sum else 1 := by
  by_cases h : 0 < (nextsL R s).length
  · rw [if_pos h]
    refine cnt_step hs fun e => ?_
    rw [(nextsL_nil hs).mpr e] at h
    exact absurd h (by decide)
  · rw [if_neg h]
    have : nextsL R s = [] := List.length_eq_zero_iff.mp (by omega)
    rw [(nextsL_nil hs).mp this, cnt_top]
theorem Walk.up' {R : Lore} {B : List (Nat × Nat)} (w : Walk R B) : ((B.map (·.1)).map fun s => size R.n s).Pairwise (· ≤ ·) := by
  rw [List.map_map]; exact w.up
theorem walk_later {R : Lore} {B : List (Nat × Nat)} (w : Walk R B) {i s x : Nat} (hs : (B.map (·.1)).reverse[i]? = some s) (hx : (nexts R s).testBit x = true) : (s ||| 2 ^ x) ∈ (B.map (·.1)).reverse.take i := by
  have hst : state R s = true := (w.tab.mem s).mp (List.mem_reverse.mp (List.mem_of_getElem? hs))
  obtain ⟨a, b⟩ := nexts_lt hx
  refine later w.up' hs ((w.tab.mem _).mpr (state_next hst hx)) ?_
  rw [size_add a b]; omega
theorem take_succ_mem {l : List Nat} {i s : Nat} (hs : l[i]? = some s) (x : Nat) : x ∈ l.take (i + 1) ↔ x ∈ l.take i ∨ x = s := by
  rw [List.take_add_one, hs]; simp
theorem not_mem_take {l : List Nat} (nd : l.Nodup) {i s : Nat} (hs : l[i]? = some s) : s ∉ l.take i := by
  intro h
  obtain ⟨j, hj, ej⟩ := List.mem_take_iff_getElem.mp h
  obtain ⟨hi, es⟩ := List.getElem?_eq_some_iff.mp hs
  have := (List.getElem_inj nd).mp (ej.trans es.symm)
  omega

/-! order: the one with k before it -/
theorem pick_mem {f : Nat → List (List Nat)} : ∀ {l : List Nat} {k x j : Nat}, pick f l k = some (x, j) → x ∈ l ∧ j < (f x).length
  | [], _, _, _, h => by cases h
  | y :: l, k, x, j, h => by
    unfold pick at h
    by_cases e : k < (f y).length
    · rw [if_pos e] at h
      cases h
      exact ⟨List.mem_cons_self .., e⟩
    · rw [if_neg e] at h
      obtain ⟨h1, h2⟩ := pick_mem h
      exact ⟨List.mem_cons_of_mem _ h1, h2⟩
theorem order_step {R : Lore} {s k : Nat} {rest : List Nat} (hs : state R s = true) (hne : s ≠ top R) (h : (ords R s)[k]? = some rest) :
    ∃ x j rest', pick (fun x => ords R (s ||| 2 ^ x)) (nextsL R s) k = some (x, j) ∧ (nexts R s).testBit x = true ∧ (ords R (s ||| 2 ^ x))[j]? = some rest' ∧ rest = x :: rest' := by
  rw [ords_step hs hne, flatMap_get (fun x => ords R (s ||| 2 ^ x))] at h
  cases hp : pick (fun x => ords R (s ||| 2 ^ x)) (nextsL R s) k with
  | none => rw [hp] at h; cases h
  | some p =>
    obtain ⟨x, j⟩ := p
    rw [hp] at h
    have h : ((ords R (s ||| 2 ^ x))[j]?.map fun r => x :: r) = some rest := h
    cases hr : (ords R (s ||| 2 ^ x))[j]? with
    | none => rw [hr] at h; cases h
    | some r =>
      rw [hr] at h
      refine ⟨x, j, r, rfl, mem_nextsL.mp (pick_mem hp).1, hr, ?_⟩
      exact (Option.some.inj h).symm
theorem pick_cons {f : Nat → List (List Nat)} {x k : Nat} {l : List Nat} : pick f (x :: l) k = if k < (f x).length then some (x, k) else pick f l (k - (f x).length) := rfl
theorem order_top {R : Lore} {k : Nat} {rest : List Nat} (h : (ords R (top R))[k]? = some rest) : rest = [] := by
  rw [ords_top] at h
  cases k with
  | zero => exact (Option.some.inj h).symm
  | succ k => simp at h
theorem ord_len {R : Lore} : ∀ {s : Nat}, state R s = true → ∀ r ∈ ords R s, r.length = left R s := by
  have aux : ∀ (m s : Nat), left R s = m → state R s = true → ∀ r ∈ ords R s, r.length = m := by
    intro m
    induction m with
    | zero =>
      intro s hm hs r hr
      rw [(left_zero_iff hs).mp hm, ords_top] at hr
      rw [List.mem_singleton.mp hr]; rfl
    | succ m ih =>
      intro s hm hs r hr
      have hne : s ≠ top R := fun e => by rw [(left_zero_iff hs).mpr e] at hm; omega
      rw [ords_step hs hne, List.mem_flatMap] at hr
      obtain ⟨x, hx, hr⟩ := hr
      obtain ⟨r', h1, rfl⟩ := List.mem_map.mp hr
      have hx' := mem_nextsL.mp hx
      have := left_add hs hx'
      rw [List.length_cons, ih (s ||| 2 ^ x) (by omega) (state_next hs hx') r' h1]
  exact fun {s} hs r hr => aux _ s rfl hs r hr
theorem left_le (R : Lore) (s : Nat) : left R s ≤ R.n := by
  unfold left
  have := size_le R.n (top R)
  omega

/-! lasts, by a table of what was learnt last -/
noncomputable def putN (B : List (Nat × Nat)) (g v : Nat) : List (Nat × Nat) := if (B.any fun p => decide (p.1 = g)) = true then B.map (fun p => if p.1 = g then (p.1, v) else p) else B ++ [(g, v)]
structure LTab (E : Nat → Nat → Prop) (B : List (Nat × Nat)) : Prop where
  nd : (B.map (·.1)).Nodup
  mem : ∀ g, g ∈ B.map (·.1) ↔ g = 0 ∨ ∃ y, E g y
  val : ∀ p ∈ B, ∀ y, p.2.testBit y = true ↔ E p.1 y
theorem LTab.start : LTab (fun _ _ => False) [(0, 0)] := ⟨by simp, fun g => by simp, fun p hp y => by simp at hp; subst hp; simp⟩
theorem LTab.congr {E E' : Nat → Nat → Prop} {B : List (Nat × Nat)} (t : LTab E B) (h : ∀ g y, E' g y ↔ E g y) : LTab E' B :=
  ⟨t.nd, fun g => (t.mem g).trans (or_congr Iff.rfl (exists_congr fun y => (h g y).symm)), fun p hp y => (t.val p hp y).trans (h p.1 y).symm⟩
theorem LTab.get {E : Nat → Nat → Prop} {B : List (Nat × Nat)} (t : LTab E B) (g y : Nat) : ((B.lookup g).getD 0).testBit y = true ↔ E g y := by
  cases h : B.lookup g with
  | none =>
    have hn : g ∉ B.map (·.1) := fun z => by
      obtain ⟨v, e⟩ := lookup_some z
      rw [h] at e; cases e
    rw [t.mem, not_or] at hn
    simp
    exact fun e => hn.2 ⟨y, e⟩
  | some v => exact t.val _ (lookup_mem h) y
theorem any_key {B : List (Nat × Nat)} {g : Nat} : (B.any fun p => decide (p.1 = g)) = true ↔ g ∈ B.map (·.1) := by
  rw [List.any_eq_true, List.mem_map]
  exact exists_congr fun p => and_congr Iff.rfl (by simp)
theorem LTab.put {E E' : Nat → Nat → Prop} {B : List (Nat × Nat)} {g y : Nat} (t : LTab E B) (hE : ∀ a b, E' a b ↔ E a b ∨ (a = g ∧ b = y)) : LTab E' (putN B g ((B.lookup g).getD 0 ||| 2 ^ y)) := by
  have hv : ∀ b, ((B.lookup g).getD 0 ||| 2 ^ y).testBit b = true ↔ E' g b := fun b => by
    rw [tb_or_pow, Bool.or_eq_true, t.get, hE, decide_eq_true_eq]
    exact or_congr Iff.rfl ⟨fun e => ⟨rfl, e.symm⟩, fun e => e.2.symm⟩
  unfold putN
  by_cases h : (B.any fun p => decide (p.1 = g)) = true
  · rw [if_pos h]
    have hk : (B.map fun p => if p.1 = g then (p.1, (B.lookup g).getD 0 ||| 2 ^ y) else p).map (·.1) = B.map (·.1) := by
      rw [List.map_map]
      apply List.map_congr_left
      intro p _
      show (if p.1 = g then (p.1, _) else p).1 = p.1
      split <;> rfl
    refine ⟨by rw [hk]; exact t.nd, fun a => ?_, fun p hp b => ?_⟩
    · rw [hk, t.mem]
      constructor
      · rintro (e | ⟨b, e⟩)
        · exact .inl e
        · exact .inr ⟨b, (hE a b).mpr (.inl e)⟩
      · rintro (e | ⟨b, e⟩)
        · exact .inl e
        · rcases (hE a b).mp e with e | ⟨rfl, _⟩
          · exact .inr ⟨b, e⟩
          · exact (t.mem a).mp (any_key.mp h)
    · obtain ⟨q, hq, rfl⟩ := List.mem_map.mp hp
      by_cases e : q.1 = g
      · rw [if_pos e]
        show ((B.lookup g).getD 0 ||| 2 ^ y).testBit b = true ↔ E' q.1 b
        rw [e]; exact hv b
      · rw [if_neg e, t.val q hq, hE]
        exact ⟨fun z => .inl z, fun z => z.elim id fun z => absurd z.1 e⟩
  · rw [if_neg h]
    have hn : g ∉ B.map (·.1) := fun z => h (any_key.mpr z)
    refine ⟨?_, fun a => ?_, fun p hp b => ?_⟩
    · rw [List.map_append, List.nodup_append]
      refine ⟨t.nd, by simp, ?_⟩
      intro a ha b hb e
      simp at hb
      subst hb
      subst e
      exact hn ha
    · rw [List.map_append, List.mem_append, t.mem]
      constructor
      · rintro ((e | ⟨b, e⟩) | e)
        · exact .inl e
        · exact .inr ⟨b, (hE a b).mpr (.inl e)⟩
        · simp at e
          exact .inr ⟨y, (hE a y).mpr (.inr ⟨e, rfl⟩)⟩
      · rintro (e | ⟨b, e⟩)
        · exact .inl (.inl e)
        · rcases (hE a b).mp e with e | ⟨rfl, _⟩
          · exact .inl (.inr ⟨b, e⟩)
          · exact .inr (by simp)
    · rcases List.mem_append.mp hp with hp | hp
      · rw [t.val p hp, hE]
        refine ⟨fun z => .inl z, fun z => z.elim id fun z => ?_⟩
        exact absurd (List.mem_map.mpr ⟨p, hp, z.1⟩) hn
      · simp at hp
        subst hp
        exact hv b
/-- an edge of the walk: g is a state with y learnt last -/
noncomputable def Edge (R : Lore) (g y : Nat) : Prop := ∃ s, state R s = true ∧ (nexts R s).testBit y = true ∧ g = s ||| 2 ^ y
theorem edge_iff {R : Lore} (W : Wf R) {g y : Nat} (hg : state R g = true) : Edge R g y ↔ (lasts R g).testBit y = true := by
  rw [lasts_bit (state_lt_pow hg)]
  constructor
  · rintro ⟨s, h1, h2, rfl⟩
    obtain ⟨_, b⟩ := nexts_lt h2
    rw [or_pow_sub b, h1, tb_or_pow]; simp
  · intro h
    rw [Bool.and_eq_true] at h
    have hb : (g - 2 ^ y).testBit y = false := by rw [tb_sub_pow h.1]; simp
    have e := sub_or_pow h.1
    refine ⟨g - 2 ^ y, h.2, ?_, e.symm⟩
    rw [tb_nexts, hb, can_of_state_add W (by rw [e]; exact hg) hb]
    simp [state_lt hg h.1]
theorem edge_state {R : Lore} {g y : Nat} (h : Edge R g y) : state R g = true := by
  obtain ⟨s, h1, h2, rfl⟩ := h
  exact state_next h1 h2
theorem lasts_tab {R : Lore} (W : Wf R) {B : List (Nat × Nat)} (t : LTab (Edge R) B) : Tab (lasts R) (fun s => state R s = true) B := by
  have hm : ∀ g, g ∈ B.map (·.1) ↔ state R g = true := fun g => by
    rw [t.mem]
    constructor
    · rintro (rfl | ⟨y, h⟩)
      · exact state_zero R
      · exact edge_state h
    · intro h
      by_cases e : g = 0
      · exact .inl e
      · obtain ⟨y, _, hy, hs⟩ := has_last h (state_zero R) (zero_within g) (Ne.symm e)
        exact .inr ⟨y, (edge_iff W h).mpr (by rw [lasts_bit (state_lt_pow h), hy, hs]; rfl)⟩
  refine ⟨t.nd, hm, fun p hp => ?_⟩
  have hs : state R p.1 = true := (hm _).mp (List.mem_map.mpr ⟨p, hp, rfl⟩)
  apply Nat.eq_of_testBit_eq
  intro i
  rw [Bool.eq_iff_iff, t.val p hp, edge_iff W hs]
theorem lasts_lt_pow (R : Lore) (s : Nat) : lasts R s < 2 ^ R.n := lt_of_bits fun x h => by
  rw [tb_lasts, Bool.and_eq_true] at h
  exact of_decide_eq_true h.1
/-- a path to x: a state of which nothing but x can be the last -/
theorem path_bits {R : Lore} {s x m : Nat} (hm : lasts R s < 2 ^ m) (hs : state R s = true) :
    (s.testBit x && (states R).all fun t => !(t.testBit x && within t s) || t == s) = decide (bitsL m (lasts R s) = [x]) := by
  rw [Bool.eq_iff_iff, Bool.and_eq_true, decide_eq_true_eq]
  have hb : ∀ j, (lasts R s).testBit j = (s.testBit j && state R (s - 2 ^ j)) := fun j => lasts_bit (state_lt_pow hs)
  constructor
  · rintro ⟨hx, h⟩
    have h := (path_iff hs hx).mp h
    have hne : (0 : Nat) ≠ s := by rintro rfl; simp at hx
    obtain ⟨y, _, hy, hys⟩ := has_last hs (state_zero R) (zero_within s) hne
    have hyx : y = x := by
      apply Classical.byContradiction
      intro e
      rw [h y hy e] at hys; cases hys
    subst hyx
    have mem : ∀ z, z ∈ bitsL m (lasts R s) ↔ z = y := fun z => by
      rw [mem_bitsL hm, hb, Bool.and_eq_true]
      constructor
      · rintro ⟨a, b⟩
        apply Classical.byContradiction
        intro e
        rw [h z a e] at b; cases b
      · rintro rfl; exact ⟨hy, hys⟩
    have nd : (bitsL m (lasts R s)).Nodup := List.Pairwise.filter _ List.nodup_range
    exact List.perm_singleton.mp ((List.perm_ext_iff_of_nodup nd (by simp)).mpr fun z => by rw [mem]; simp)
  · intro h
    have mem : ∀ z, (lasts R s).testBit z = true ↔ z = x := fun z => by rw [← mem_bitsL hm, h]; simp
    have hx := (mem x).mpr rfl
    rw [hb, Bool.and_eq_true] at hx
    refine ⟨hx.1, (path_iff hs hx.1).mpr fun y hy hne => ?_⟩
    cases e : state R (s - 2 ^ y)
    · rfl
    · exact absurd ((mem y).mp (by rw [hb, hy, e]; rfl)) hne
/-- the paths to x, as the program makes them -/
noncomputable def pathsOf (R : Lore) (m : Nat) (l : List Nat) (x : Nat) : List Nat := l.filter fun s => decide (bitsL m (lasts R s) = [x])
theorem paths_of {R : Lore} {m : Nat} (hm : R.n ≤ m) (x : Nat) : paths R x = pathsOf R m (states R) x := by
  unfold paths pathsOf
  apply List.filter_congr
  intro s hs
  exact path_bits (Nat.lt_of_lt_of_le (lasts_lt_pow R s) (Nat.pow_le_pow_right (by decide) hm)) (mem_states.mp hs)
theorem pathsOf_snoc (R : Lore) (m : Nat) (l : List Nat) (s x : Nat) : pathsOf R m (l ++ [s]) x = if bitsL m (lasts R s) = [x] then pathsOf R m l x ++ [s] else pathsOf R m l x := by
  unfold pathsOf
  rw [List.filter_append]
  by_cases h : bitsL m (lasts R s) = [x]
  · rw [if_pos h, List.filter_cons_of_pos (by simp [h])]; rfl
  · rw [if_neg h, List.filter_cons_of_neg (by simp [h])]; simp
theorem states_up (R : Lore) : (states R).Pairwise (· < ·) := List.Pairwise.filter _ List.pairwise_lt_range
theorem sorted_states {R : Lore} {l : List Nat} {ns : List Int} (nd : l.Nodup) (hm : ∀ s, s ∈ l ↔ state R s = true) (hp : ns.Perm (l.map fun (s : Nat) => (s : Int))) (ho : ns.Pairwise (· ≤ ·)) : ns = (states R).map fun (s : Nat) => (s : Int) := by
  have p1 : l.Perm (states R) := len_of_mem nd (states_nodup R) fun x => (hm x).trans mem_states.symm
  have p2 : ns.Perm ((states R).map fun (s : Nat) => (s : Int)) := hp.trans (p1.map _)
  refine List.Perm.eq_of_pairwise (le := (· ≤ ·)) (fun x y _ _ h1 h2 => Int.le_antisymm h1 h2) ho ?_ p2
  rw [List.pairwise_map]
  exact (states_up R).imp fun {a b} h => by omega

/-! the cheapest, the foremost of these -/
theorem best_first (f : Nat → Nat) : ∀ (l : List Nat) (y i x : Nat), (y :: l)[i]? = some x → (∀ j z, (y :: l)[j]? = some z → f x ≤ f z ∧ (j < i → f x < f z)) → best f l (some y) = some x
  | [], y, i, x, h, _ => by
    cases i with
    | zero => exact h
    | succ i => simp at h
  | z :: l, y, i, x, h, hb => by
    rw [best_cons]
    unfold better
    simp only
    by_cases e : f z < f y
    · rw [if_pos e]
      cases i with
      | zero =>
        have h : y = x := by simpa using h
        subst h
        have := (hb 1 z rfl).1
        omega
      | succ i => exact best_first f l z i x (by simpa using h) fun j w hw => ⟨(hb (j + 1) w (by simpa using hw)).1, fun hj => (hb (j + 1) w (by simpa using hw)).2 (by omega)⟩
    · rw [if_neg e]
      cases i with
      | zero =>
        refine best_first f l y 0 x h fun j w hw => ⟨?_, fun hj => absurd hj (Nat.not_lt_zero _)⟩
        cases j with
        | zero => exact (hb 0 w hw).1
        | succ j => exact (hb (j + 2) w (by simpa using hw)).1
      | succ i =>
        cases i with
        | zero =>
          have h : z = x := by simpa using h
          subst h
          have := (hb 0 y rfl).2 (by omega)
          omega
        | succ i =>
          refine best_first f l y (i + 1) x (by simpa using h) fun j w hw => ?_
          cases j with
          | zero => exact ⟨(hb 0 w hw).1, fun _ => (hb 0 w hw).2 (by omega)⟩
          | succ j => exact ⟨(hb (j + 2) w (by simpa using hw)).1, fun hj => (hb (j + 2) w (by simpa using hw)).2 (by omega)⟩
theorem best_min {f : Nat → Nat} {l : List Nat} {i x : Nat} (h : l[i]? = some x) (hb : ∀ j z, l[j]? = some z → f x ≤ f z ∧ (j < i → f x < f z)) : best f l none = some x := by
  cases l with
  | nil => simp at h
  | cons y l =>
    rw [best_cons]
    exact best_first f l y i x h hb

/-! a rule that adds nothing -/
structure Alike (R R' : Lore) : Prop where
  n : R'.n = R.n
  can : ∀ s x, can R' s x = can R s x
theorem Alike.refl (R : Lore) : Alike R R := ⟨rfl, fun _ _ => rfl⟩
theorem alike_rule {S : Lore} {x t : Nat} (h : (taught S.rules t).testBit x = true) : Alike S { S with rules := S.rules ++ [(x, t)] } := by
  refine ⟨rfl, fun s y => ?_⟩
  rw [tb_taught] at h
  obtain ⟨u, hm, hu⟩ := can_iff.mp h
  rw [Bool.eq_iff_iff, can_iff, can_iff]
  constructor
  · rintro ⟨v, hv, hw⟩
    rcases List.mem_append.mp hv with hv | hv
    · exact ⟨v, hv, hw⟩
    · have := List.mem_singleton.mp hv
      cases this
      exact ⟨u, hm, within_trans hu hw⟩
  · rintro ⟨v, hv, hw⟩
    exact ⟨v, List.mem_append_left _ hv, hw⟩
section
variable {R R' : Lore} (A : Alike R R')
include A
theorem Alike.grown (s : Nat) : ∀ k, grown R' s k = grown R s k
  | 0 => rfl
  | k + 1 => by
    show Nat.lor (Rc83.grown R' s k) (mask ((List.range R'.n).filter fun x => s.testBit x && Rc83.can R' (Rc83.grown R' s k) x)) = _
    rw [Alike.grown s k, A.n]
    simp only [A.can]
    rfl
theorem Alike.most (s : Nat) : most R' s = most R s := by unfold Rc83.most; rw [A.grown, A.n]
theorem Alike.state (s : Nat) : state R' s = state R s := by unfold Rc83.state; rw [A.most]
theorem Alike.nexts (s : Nat) : nexts R' s = nexts R s := by unfold Rc83.nexts; rw [A.n]; simp only [A.can]
theorem Alike.top : top R' = top R := by unfold Rc83.top; rw [A.most, A.n]
theorem Alike.states : states R' = states R := by unfold Rc83.states; rw [A.n]; congr 1; funext s; exact A.state s
theorem Alike.paths (x : Nat) : paths R' x = paths R x := by unfold Rc83.paths; rw [A.states]
theorem Alike.orders : ∀ k s, orders R' k s = orders R k s
  | 0, _ => rfl
  | k + 1, s => by
    show ((List.range R'.n).filter fun x => (Rc83.nexts R' s).testBit x).flatMap (fun x => (Rc83.orders R' k (Nat.lor s (2 ^ x))).map fun r => x :: r) = ((List.range R.n).filter fun x => (Rc83.nexts R s).testBit x).flatMap (fun x => (Rc83.orders R k (Nat.lor s (2 ^ x))).map fun r => x :: r)
    rw [A.n, A.nexts]
    simp only [Alike.orders k]
theorem Alike.cnt (s : Nat) : cnt R' s = cnt R s := by unfold Lp.cnt Lp.ords Lp.left; rw [A.orders, A.n, A.top]
theorem Alike.walk {B : List (Nat × Nat)} (w : Walk R B) : Walk R' B := by
  refine ⟨⟨w.tab.nd, fun g => (w.tab.mem g).trans (by rw [A.state]), fun p hp => (w.tab.val p hp).trans (A.nexts _).symm⟩, ?_⟩
  have := w.up
  rw [A.n]; exact this
theorem Alike.wtab {B : List (Nat × Nat)} (t : Tab (Lp.cnt R) (fun s => Rc83.state R s = true) B) : Tab (Lp.cnt R') (fun s => Rc83.state R' s = true) B :=
  ⟨t.nd, fun g => (t.mem g).trans (by rw [A.state]), fun p hp => (t.val p hp).trans (A.cnt _).symm⟩
end
end Lp
end
section
set_option Elab.async false
set_option linter.all false
set_option maxRecDepth 100000

/-! A SPEC ROW by the hand layer: one list of whole numbers in, a list of whole numbers out. -/
namespace Lq
open PySem PySem.Spec PyProof.Rows L2

/-- one list of whole numbers in, one out -/
noncomputable abbrev R1 (prog : Program) (name : Str) (least most : Nat) (lo hi : Int) (rl rm : Nat) (rlo rhi : Int) (asked : List Int → Bool) (f : List Int → List Int) : PySem.W.OpenSpec :=
  PySem.W.OpenSpec.mk prog name [.list least most (.int lo hi)] (.list rl rm (.int rlo rhi)) asked f

theorem readsW_ints {R : PySem.W.WRecords} {cl : Str → Option Addr} {h : Heap} : ∀ {us : List Value} {ns : List Int}, IntsAre us ns → PySem.W.ReadsAllW R cl h us (ns.map PySem.W.WData.int) []
  | _, _, .nil => .nil
  | _, _, .cons n t r => PySem.W.ReadsAllW.cons (as := []) (.int n t) (readsW_ints r)

/-- what is wanted of the answer: a new list of these numbers -/
noncomputable def Tells (out : List Int) : VK := fun v H' => ∃ b, v = .ref b ∧ H' b = some (.lst (out.map V.int))

/-! ### a table of the module: whole numbers to whole numbers, texts, functions -/
noncomputable def KTab (K : PySem.W.Frag) (d : Addr) (kvs : List (Int × V)) : Prop :=
  ∃ (es : Array DictEntry) (ep : Nat), K.lookup d = some ⟨.type "dict", none, .dict es ep, #[]⟩ ∧
    Paired (fun (e : DictEntry) (kv : Int × V) => (∃ t, e.key = Value.int kv.1 t) ∧ e.hash = hashInt kv.1 ∧ RelV kv.2 e.val) es.toList kvs ∧ (kvs.map (·.1)).Nodup
theorem ktab_pairs {P : Program} {w : World} : ∀ {es : List DictEntry} {kvs : List (Int × V)}, Paired (fun (e : DictEntry) (kv : Int × V) => (∃ t, e.key = Value.int kv.1 t) ∧ e.hash = hashInt kv.1 ∧ RelV kv.2 e.val) es kvs →
    ∃ vs : List (Key × Value), Pairs (mixKind P w) es vs ∧ KV (kvs.map fun kv => ((Sum.inl kv.1 : Key), kv.2)) vs ∧ (∀ e ∈ es, ∃ k, (mixKind P w).is k e.key = true ∧ e.hash = (mixKind P w).hash k)
  | _, _, .nil => ⟨[], .nil, .nil, fun _ h => (nomatch h)⟩
  | e :: _, kv :: _, .cons ⟨⟨t, h1⟩, h2, h3⟩ r => by
    obtain ⟨vs, a, b, c⟩ := ktab_pairs (P := P) (w := w) r
    have hk : (mixKind P w).is (Sum.inl kv.1) e.key = true := by rw [h1]; exact mixKind_int P w kv.1 t
    refine ⟨(Sum.inl kv.1, e.val) :: vs, .cons hk rfl a, .cons ⟨rfl, h3⟩ b, fun x hx => ?_⟩
    rcases List.mem_cons.mp hx with rfl | hx
    · exact ⟨_, hk, h2⟩
    · exact c x hx
theorem KTab.dict {P : Program} {w : World} {K : PySem.W.Frag} {d : Addr} {kvs : List (Int × V)} {h : Heap} (T : KTab K d kvs) (X : K.In h) :
    ∃ vs : List (Key × Value), KV (kvs.map fun kv => ((Sum.inl kv.1 : Key), kv.2)) vs ∧ h.DictOf (mixKind P w) d vs := by
  obtain ⟨es, ep, h1, h2, h3⟩ := T
  obtain ⟨vs, a, b, c⟩ := ktab_pairs (P := P) (w := w) h2
  refine ⟨vs, b, _, es, ep, X _ _ h1, ⟨rfl, rfl, rfl⟩, rfl, fun e he => c e (by simpa using he), a, ?_⟩
  rw [← KV.keys b, List.map_map]
  have e2 : (kvs.map ((fun x : Key × V => x.1) ∘ fun kv : Int × V => ((Sum.inl kv.1 : Key), kv.2))) = (kvs.map (·.1)).map (fun i : Int => (Sum.inl i : Key)) := by
    rw [List.map_map]; rfl
  rw [e2]
  exact List.Pairwise.map _ (fun a b hab h => hab (Sum.inl.inj h)) h3
theorem valV_inl {kvs : List (Int × V)} {k : Int} {v : V} (h : kvs.lookup k = some v) : valV (kvs.map fun kv => ((Sum.inl kv.1 : Key), kv.2)) (Sum.inl k : Key) = some v := by
  induction kvs with
  | nil => cases h
  | cons p r ih =>
    obtain ⟨a, b⟩ := p
    rw [List.lookup_cons] at h
    rw [List.map_cons]
    by_cases e : k = a
    · subst e
      rw [beq_self_eq_true] at h
      rw [valV_pos rfl]; exact h
    · rw [beq_eq_false_iff_ne.mpr e] at h
      rw [valV_neg (by intro z; exact e (Sum.inl.inj z).symm)]
      exact ih h
section
variable {X : Cx} {o i : Expr} {pos : Pos} {td ty : TE}
noncomputable def tTab (K : PySem.W.Frag) (td ty : TE) : TE := fun σ H Q => td σ H fun x H1 => ty σ H1 fun y H2 => ∃ d kvs k v, x = .ref d ∧ KTab K d kvs ∧ y = .int k ∧ kvs.lookup k = some v ∧ Q v H2
theorem pe_tab (ho : PE X o td) (hi : PE X i ty) (hs : NoSl i) : PE X (.Subscript o i pos) (tTab X.K td ty) := by
  intro pins s σ H Q I h
  refine subD_of PySem.F.slot_dict_getitem.lookup hs (thn (ho pins s σ H _ I h) fun u s1 ⟨x, H1, I1, rx, q1⟩ => thn (hi pins s1 σ H1 _ I1 q1) fun iv s2 ⟨y, H2, I2, ry, d, kvs, k, v, ex, T, ey, l, q2⟩ => ?_)
  subst ex
  subst ey
  obtain rfl : u = Value.ref d := rx
  obtain ⟨vs, rel, dd⟩ := T.dict (P := X.prog) (w := X.w) I2.kIn
  obtain ⟨w', hw, rw'⟩ := RelO.some_of (v := v) (o := valueAt vs (Sum.inl k : Key)) (by rw [← valV_inl l]; exact rel.val _)
  exact ⟨dd.typeIs, wpAny_getItem_of (kV_is (k := Sum.inl k) ry) dd.mapOf hw ⟨v, H2, I2.tok _, rw', q2⟩⟩
end

/-! ### a call of what a local name holds -/
section
variable {X : Cx} {x : Str} {p pos : Pos} {e : Expr} {es : List Expr} {t : TA}
noncomputable def tCallV (X : Cx) (i : Nat) (t : TA) : TE := fun σ H Q => ∃ (f : Addr) (fd : FuncData) (ps : List Str) (sp : Sp) (k : Nat), σ[i]? = some (some (.ref f)) ∧ FnOk X.prog X.w X.K X.mg X.base CX0 k f fd ps sp ∧ Room k X.A ∧ PySem.W.keepIn X.K (.ref f) = true ∧ Binds X.K fd ps [] ∧
  t σ H fun vs H1 => sp vs H1 Q E0
theorem pe_callV {i : Nat} (hN : X.N[i]? = some x) (hv : Vis X.env.scope x) (ha : PA X (e :: es) t) (hd : (x == ("__debug__" : Str)) = false := by decide) (hcd : (x == ("__classdict__" : Str)) = false := by decide)
    (he : starEach (e :: es) X.env = (false, eval e X.env) :: starEach es X.env := by rfl) (hpl : (backTo pos (starEach es X.env)).any (·.1) = false := by rfl) :
    PE X (.Call (.Name x p) (e :: es) [] pos) (tCallV X i t) := by
  intro pins s σ H Q I ⟨f, fd, ps, sp, k, hi, F, hr, hk, hb, h⟩
  refine wpAny_Call_Name_kw (thn (pe_var hN hv hd hcd pins s σ H (fun v H' => v = .ref f ∧ H' = H) I ⟨_, hi, rfl, rfl⟩) fun u s1 ⟨v, H1, I1, r, e1, e2⟩ => ?_)
  subst e1
  subst e2
  obtain rfl : u = Value.ref f := r
  refine PySem.W.callWith_K (h₀ := X.base) I.ok.mod.kin hk (thn (ha pos pins s1 σ H1 _ I1 h) fun us s2 ⟨vs, H2, I2, r2, q2⟩ => ⟨I2.kIn, ?_⟩) he hpl
  exact run_fn (dvs := []) (ds := []) F hr hb .nil pass0 I2 r2 (by rw [List.append_nil]; exact q2)
end
end Lq
end
section
set_option Elab.async false
set_option linter.all false
set_option maxRecDepth 100000
namespace Lq
open PySem L2

/-! ### more of the language: list(d), sorted(d), d.update(e), n.bit_length() -/
theorem paired_of {α β : Type} {R : α → β → Prop} : ∀ {l : List α} {m : List β}, l.length = m.length → (∀ (i : Nat) (x : α) (y : β), l[i]? = some x → m[i]? = some y → R x y) → Paired R l m
  | [], [], _, _ => .nil
  | [], _ :: _, h, _ => by simp at h
  | _ :: _, [], h, _ => by simp at h
  | x :: l, y :: m, h, k => .cons (k 0 x y rfl rfl) (paired_of (by simpa using h) fun i a b e f => k (i + 1) a b (by simpa using e) (by simpa using f))
theorem rel_key {P : Program} {w : World} {k : Key} {v : Value} (h : (mixKind P w).is k v = true) : RelV (kV k) v := by
  rcases keyIs_shape h with ⟨i, t, rfl, rfl⟩ | ⟨x, t, rfl, rfl⟩
  · exact ⟨t, rfl⟩
  · exact ⟨t, rfl⟩
theorem kv_at {κ : Type} : ∀ {kvs : List (κ × V)} {vs : List (κ × Value)} {i : Nat} {p : κ × V} {q : κ × Value}, KV kvs vs → kvs[i]? = some p → vs[i]? = some q → p.1 = q.1
  | _, _, _, _, _, .nil, e, _ => by simp at e
  | _, _, 0, _, _, .cons r _, e, f => by
    simp at e f
    subst e
    subst f
    exact r.1
  | _, _, i + 1, _, _, .cons _ t, e, f => kv_at (i := i) t (by simpa using e) (by simpa using f)
theorem keys_vals {P : Program} {w : World} {kvs : List (Key × V)} {vs : List (Key × Value)} {acc : Array Value} (rel : KV kvs vs) (hsz : acc.size = vs.length)
    (hit : ∀ (j : Nat) (v : Value), acc[j]? = some v → ∃ k x, vs[j]? = some (k, x) ∧ (mixKind P w).is k v = true) : Vals (kvs.map fun kv => kV kv.1) acc.toList := by
  have hl : kvs.length = vs.length := Paired.length rel
  have hla : acc.toList.length = vs.length := by rw [← hsz]; exact Array.length_toList
  refine paired_of (by rw [List.length_map, hla, hl]) fun i x y e f => ?_
  rw [List.getElem?_map] at e
  cases hp : kvs[i]? with
  | none => rw [hp] at e; cases e
  | some p =>
    rw [hp] at e
    cases e
    obtain ⟨k, z, h1, h2⟩ := hit i y (by rw [← Array.getElem?_toList]; exact f)
    have := kv_at rel hp h1
    show RelV (kV p.1) y
    rw [this]
    exact rel_key h2

theorem same_new {H : Hp} {b : Addr} {o : HO} (hb : H b = none) : Same H (upd H b o) := fun c u e => by
  rw [upd_ne (ne_of_none e hb)]; exact e
/-- all but what stands at d is as it was -/
noncomputable def But (d : Addr) (H H' : Hp) : Prop := ∀ b o, H b = some o → b ≠ d → H' b = some o
theorem But.refl (d : Addr) (H : Hp) : But d H H := fun _ _ e _ => e
theorem But.trans {d : Addr} {H H1 H2 : Hp} (a : But d H H1) (b : But d H1 H2) : But d H H2 := fun c o e h => b c o (a c o e h) h
theorem But.same {d : Addr} {H H1 H2 : Hp} (a : But d H H1) (b : Same H1 H2) : But d H H2 := fun c o e h => b c o (a c o e h)
theorem But.of {d : Addr} {H H1 : Hp} (a : Same H H1) : But d H H1 := fun c o e _ => a c o e
/-! ### loops over a dict's pairs, over a list from its end -/
theorem for_items {d : Addr} {o : Obj} {kvs : List (Key × V)} {g : TG} {tb : TS} {D : Ends} {σ : St} {H : Hp} (Pv : Nat → St → Hp → Prop) (h0 : Pv 0 σ H) (hl : ∀ i σ H, i ≤ kvs.length → Pv i σ H → H d = some (.frz o (.dK kvs)))
    (hs : ∀ i k v T σ H, kvs[i]? = some (k, v) → Pv i σ H → H T = none → g (.ref T) σ (upd H T (.tup [kV k, v])) fun σ2 H2 => tb { D with nx := Pv (i + 1), ct := Pv (i + 1), bk := D.nx } σ2 H2) (hd : ∀ σ H, Pv kvs.length σ H → D.nx σ H) :
    ∃ W : Nat → Nat → St → Hp → Prop, (∃ m, W 0 m σ H) ∧ ∀ i m σ H, W i m σ H →
      ((Iti d o kvs).stop i H ∧ D.nx σ H) ∨ ((Iti d o kvs).go i H ∧ ∃ N : St → Hp → Prop, (∀ σ' H', N σ' H' → ∃ m', m' < m ∧ W (i + 1) m' σ' H') ∧ ∀ x H', (Iti d o kvs).yld i H x H' → g x σ H' fun σ2 H2 => tb { D with nx := N, ct := N, bk := D.nx } σ2 H2) := by
  refine ⟨fun i m σ H => m = kvs.length - i ∧ i ≤ kvs.length ∧ Pv i σ H, ⟨kvs.length, by simp, Nat.zero_le _, h0⟩, ?_⟩
  rintro i m σ H ⟨rfl, hi, p⟩
  have q := hl i σ H hi p
  by_cases hlt : i < kvs.length
  · refine .inr ⟨⟨q, hlt⟩, Pv (i + 1), fun σ' H' p' => ⟨kvs.length - (i + 1), by omega, rfl, hlt, p'⟩, fun x H' y => ?_⟩
    obtain ⟨T, k, v, e, ex, hT, eH⟩ := y
    subst ex
    subst eH
    exact hs i k v T σ H e p hT
  · have e : i = kvs.length := by omega
    subst e
    exact .inl ⟨⟨q, Nat.le_refl _⟩, hd σ H p⟩
theorem for_rev {K : PySem.W.Frag} {a : Addr} {xs : List V} {g : TG} {tb : TS} {D : Ends} {σ : St} {H : Hp} (Pv : Nat → St → Hp → Prop) (h0 : Pv 0 σ H) (hl : ∀ i σ H, i ≤ xs.length → Pv i σ H → SqL K H a xs)
    (hs : ∀ i x σ H, xs.reverse[i]? = some x → Pv i σ H → g x σ H fun σ2 H2 => tb { D with nx := Pv (i + 1), ct := Pv (i + 1), bk := D.nx } σ2 H2) (hd : ∀ σ H, Pv xs.length σ H → D.nx σ H) :
    ∃ W : Nat → Nat → St → Hp → Prop, (∃ m, W 0 m σ H) ∧ ∀ i m σ H, W i m σ H →
      ((Itv K a xs.length).stop i H ∧ D.nx σ H) ∨ ((Itv K a xs.length).go i H ∧ ∃ N : St → Hp → Prop, (∀ σ' H', N σ' H' → ∃ m', m' < m ∧ W (i + 1) m' σ' H') ∧ ∀ x H', (Itv K a xs.length).yld i H x H' → g x σ H' fun σ2 H2 => tb { D with nx := N, ct := N, bk := D.nx } σ2 H2) := by
  refine ⟨fun i m σ H => m = xs.length - i ∧ i ≤ xs.length ∧ Pv i σ H, ⟨xs.length, by simp, Nat.zero_le _, h0⟩, ?_⟩
  rintro i m σ H ⟨rfl, hi, p⟩
  have q := hl i σ H hi p
  by_cases hlt : i < xs.length
  · have hix : xs.length - 1 - i < xs.length := by omega
    refine .inr ⟨⟨hlt, xs, xs[xs.length - 1 - i], q, List.getElem?_eq_getElem hix⟩, Pv (i + 1), fun σ' H' p' => ⟨xs.length - (i + 1), by omega, rfl, hlt, p'⟩, fun x H' y => ?_⟩
    obtain ⟨e, y⟩ := y
    subst e
    refine hs i x σ _ ?_ p
    rw [List.getElem?_reverse hlt]
    exact y xs q
  · have e : i = xs.length := by omega
    subst e
    exact .inl ⟨Nat.le_refl _, hd σ H p⟩
section
variable {X : Cx}
noncomputable def rListD : List V → Hp → VK → Prop := fun xs H Q => ∃ (d : Addr) (kvs : List (Key × V)), xs = [.ref d] ∧ Rd H d (.dK kvs) ∧ ∀ l, H l = none → Q (.ref l) (upd H l (.lst (kvs.map fun kv => kV kv.1)))
theorem call_listD (hc : X.calm = true) : CallR X (.type "list") rListD := by
  intro pins s σ H xs us Q I r h
  obtain ⟨d, kvs, rfl, hd, q⟩ := h
  rw [Vals.ref1 r]
  obtain ⟨z, lo, vs, rel, dd⟩ := dk_rd I.hok hd
  obtain ⟨ep, hat⟩ := dd.dictAt
  have hl : kvs.length = vs.length := Paired.length rel
  refine PySem.W.kdl_call (PySem.W.kdl_dict (knd := mixKind X.prog X.w) (kvs := vs) (ep := ep) lo) (I.ok.hd hc) hat (by omega) fun h' tk acc c' hk hD hacc => ?_
  have rv := keys_vals (P := X.prog) (w := X.w) rel hacc.1 fun j v e => hacc.2 j v e
  exact ⟨.ref s.heap.objs.size, _, I.laid (t' := tk) hk (Nat.le_refl _) (show ObjOk X.prog X.w _ h' _ (.lst _) from ⟨by rw [List.length_map]; exact z, acc.toList, c', rv, by simpa using hD⟩), rfl, q _ (I.hok.fresh (Nat.le_refl _))⟩

noncomputable def rSortedD : List V → Hp → VK → Prop := fun xs H Q => ∃ (d : Addr) (kvs : List (Key × V)) (ns : List Int), xs = [.ref d] ∧ Rd H d (.dK kvs) ∧ kvs.map (fun kv => kV kv.1) = ns.map V.int ∧
  ∀ (ns' : List Int) (p : Addr), ns'.Perm ns → ns'.Pairwise (· ≤ ·) → H p = none → Q (.ref p) (upd H p (.lst (ns'.map V.int)))
theorem cr_sortedD (hc : X.calm = true) : CallR X (.builtin "sorted") rSortedD := by
  intro pins s σ H xs us Q I r h
  obtain ⟨d, kvs, ns, rfl, hd, hns, q⟩ := h
  rw [Vals.ref1 r]
  obtain ⟨z, lo, vs, rel, dd⟩ := dk_rd I.hok hd
  obtain ⟨ep, hat⟩ := dd.dictAt
  have hl : kvs.length = vs.length := Paired.length rel
  refine Calls.call_function_entry PyProof.Rows.kind_sorted PyProof.Rows.plain_sorted PyProof.Rows.entry_sorted (PyProof.Rows.args_sorted1 _) ?_
  unfold Builtin.«sorted»
  refine wpAny_bind (m := checkCount "sorted" 1 1 _) (wpAny_pure ?_)
  refine wpAny_bind (PySem.W.kdu_collect (A := X.A.in1) (PySem.W.kdl_dict (knd := mixKind X.prog X.w) (kvs := vs) (ep := ep) lo) (I.ok.hd hc) hat (by omega) fun h' tk acc hk hacc => ?_)
  have rv := keys_vals (P := X.prog) (w := X.w) rel hacc.1 fun j v e => hacc.2 j v e
  rw [hns] at rv
  have hi := rv.ints
  have hla : acc.toList.length = kvs.length := by rw [Array.length_toList, hacc.1, hl]
  have hL : acc.toList.length ≤ sizeLine := by omega
  refine wpAny_bind (wpAny_newList ?_ hL)
  have I1 : Inv X pins σ H { s with heap := h', toks := tk } := I.kept (t' := tk) hk
  have hoL : (h'.push (PyProof.Rows.seqObj "list" acc.toList.toArray 0)).get? h'.objs.size = some (PyProof.Rows.seqObj "list" acc.toList.toArray 0) := Heap.get?_push_size _ rfl
  refine wpAny_bind (wpAny_holding (wpAny_call_entry PyProof.Rows.slot_list_sort ⟨_, hoL, rfl⟩ PyProof.Rows.entry_list_sort (PyProof.Rows.list_sort_treeAny hoL hi hL fun out ns' h1 h2 h3 => ⟨_, rfl, ?_⟩) (PyProof.Rows.args_list_sort _)))
  obtain ⟨e1, he⟩ := PyProof.Rows.sortedHeap_at (vs := acc.toList) (out := out) hoL
  have hlen : (ns'.map V.int).length ≤ sizeLine := by
    have e2 := h2.length_eq
    have e3 := hi.length
    rw [List.length_map]; omega
  have kp : ∀ b o, h'.get? b = some o → (PyProof.Rows.sortedHeap (h'.push (PyProof.Rows.seqObj "list" acc.toList.toArray 0)) h'.objs.size acc.toList out).get? b = some o := fun b o e => by
    have lt := Heap.lt_size e
    rw [PyProof.Rows.sortedHeap_old (Nat.ne_of_lt lt) (by rw [Heap.size_push]; exact Nat.lt_succ_of_lt lt)]
    exact Heap.get?_push_of_some _ e
  exact wpAny_pure ⟨_, rfl, .ref h'.objs.size, _, I1.laid (t' := tk) kp (Nat.le_refl _) (show ObjOk X.prog X.w _ _ _ (.lst _) from ⟨hlen, out.toList, e1, vals_of_ints h1, he⟩), rfl, q ns' _ h2 h3 (I1.hok.fresh (Nat.le_refl _))⟩

noncomputable def rUpdate : V → List V → Hp → VK → Prop := fun x vs H Q => ∃ (d o : Addr) (kvs more : List (Key × V)), x = .ref d ∧ vs = [.ref o] ∧ d ≠ o ∧ H d = some (.dK kvs) ∧ H o = some (.dK more) ∧ kvs.length + more.length ≤ sizeLine ∧ Q .non (upd H d (.dK (mergeK kvs more)))
theorem mt_update : MtR X "dict.update" rUpdate := by
  intro pins s σ H x vs v us Q I rx rv h
  obtain ⟨d, o, kvs, more, rfl, rfl, hne, hd, ho, hz, q⟩ := h
  cases rx
  rw [Vals.ref1 rv]
  obtain ⟨z1, lo1, vs1, rel1, dd1⟩ := dk_of I.hok hd
  obtain ⟨z2, lo2, vs2, rel2, dd2⟩ := dk_of I.hok ho
  have l1 : kvs.length = vs1.length := Paired.length rel1
  have l2 : more.length = vs2.length := Paired.length rel2
  refine call_meetsIn PySem.F.slot_dict_update dd1.typeIs PySem.F.entry_dict_update (PySem.F.args_dict_update_2 _ _) (meets_dict_update (mixKind X.prog X.w) d o hne lo2) ⟨vs1, vs2, dd1, dd2, by omega, fun h' dd' _ hs => ?_⟩
  have he : ∃ q, h'.get? d = some q := let ⟨q, _, _, hq, _⟩ := dd'; ⟨q, hq⟩
  have hl := length_mergeK more kvs
  exact ⟨.non, _, d_write (t' := s.toks) I (by rw [hd]; exact True.intro) hs he (dk_new (by omega) lo1 (rel2.merge rel1) dd'), rfl, q⟩

noncomputable def rBits : V → List V → Hp → VK → Prop := fun x vs H Q => ∃ i : Int, x = .int i ∧ vs = [] ∧ Q (.int ((Builtin.Int.intBits i : Nat) : Int)) H
theorem mt_bits : MtR X "int.bit_length" rBits := by
  intro pins s σ H x vs v us Q I rx rv h
  obtain ⟨i, rfl, rfl, q⟩ := h
  obtain ⟨t, rfl⟩ := rx
  cases rv
  exact PyProof.Rows.call_int_bit_length ⟨.int _, H, I.tok _, ⟨_, rfl⟩, q⟩
end
end Lq
end
section
set_option Elab.async false
set_option linter.all false
set_option maxRecDepth 100000
set_option maxHeartbeats 4000000
namespace Lq
open PySem L2 PyProof.Rows

/-! ### min(choices, key=lambda thing: costs[thing * amount + before]) -/
noncomputable abbrev lamArgs (p : Pos) : Arguments := { posonlyargs := [], args := [{ arg := "thing", annotation := none, pos := p }], vararg := none, kwonlyargs := [], kw_defaults := [], kwarg := none, defaults := [] }
noncomputable abbrev lamScope : Scope := { kind := .function, names := [(Str.ofString "thing", .local), (Str.ofString "amount", .free), (Str.ofString "before", .free), (Str.ofString "costs", .free)], isGenerator := false, isCoroutine := false, more := [] }
noncomputable abbrev lamBody (p1 p2 p3 p4 p5 p6 p7 : Pos) : Expr := .Subscript (.Name "costs" p1) (.BinOp (.BinOp (.Name "thing" p2) .Mult (.Name "amount" p3) p4) .Add (.Name "before" p5) p6) p7
noncomputable abbrev lamClos (cc cb ca : Addr) : List (Str × Addr) := [(Str.ofString "costs", cc), (Str.ofString "before", cb), (Str.ofString "amount", ca)]
section
variable {prog : Program} {w : World} {A : Around} {s : Shared} {f c' cc cb ca l : Addr} {pm ctv : Value} {qual : Str} {p0 p1 p2 p3 p4 p5 p6 p7 : Pos} {its : List Value} {ns : List Int}
theorem lam_call {n k x : Nat} {t tn tk : Tok} (hroom : A.depth < recursionLimit)
    (hf : s.heap.get? f = some (PySem.W.kla_obj "<lambda>" qual (lamArgs p0) (lamBody p1 p2 p3 p4 p5 p6 p7) lamScope (lamClos cc cb ca) pm c' ctv))
    (hcd : s.heap.CodeRec (.ref c') qual) (hlim : s.heap.NoLimit) (h1 : s.heap.IsCell cc (some (.ref l))) (h2 : s.heap.IsCell ca (some (.int (n : Int) tn))) (h3 : s.heap.IsCell cb (some (.int (k : Int) tk)))
    (hl : s.heap.IsList l its.toArray) (hi : IntsAre its ns) (hn : n < 2 ^ 32) (hx : x * n + k < ns.length) (hns : ns.length ≤ sizeLine) :
    wpAny (model prog w) A (call (.ref f) [.int (x : Int) t]) (fun v s' => ∃ h' tk' t', s' = { s with heap := h', toks := tk' } ∧ v = .int (ns.getD (x * n + k) 0) t' ∧ ∀ b o, s.heap.get? b = some o → h'.get? b = some o) (fun _ _ => False) s := by
  refine wpAny_call (PySem.W.kla_callFunE hroom hf rfl rfl rfl rfl hcd ?_)
  rw [show bindArgs (PySem.W.kla_fn "<lambda>" qual (lamArgs p0) (lamBody p1 p2 p3 p4 p5 p6 p7) lamScope (lamClos cc cb ca) pm (.ref c') ctv) ⟨[.int (x : Int) t], []⟩ = pure [(Str.ofString "thing", .int (x : Int) t)] from rfl]
  refine wpAny_pure (wpAny_newFunctionEnv (show ∀ x ∈ lamScope.names, x.2 ≠ .cell from by decide +kernel) (fun y hy => ?_) (fun h₁ hns1 hsb => ⟨hlim.fresh _ hsb, ?_⟩) rfl)
  · have e : y = (Str.ofString "thing", Value.int (x : Int) t) := by simpa using hy
    subst e
    rfl
  have hk : ∀ b o, s.heap.get? b = some o → h₁.get? b = some o := fun b o e => hsb.extBut b o (Nat.ne_of_lt (Heap.lt_size e)) (Heap.get?_push_of_some _ e)
  have cell : ∀ {c : Addr} {v : Option Value}, s.heap.IsCell c v → h₁.IsCell c v := fun ⟨o, e, d⟩ => ⟨o, hk _ _ e, d⟩
  have hl1 : h₁.IsList l its.toArray := let ⟨o, e, r⟩ := hl; ⟨o, hk _ _ e, r⟩
  show codeAny _ _ (.expr (lamBody p1 p2 p3 p4 p5 p6 p7) (PySem.W.envX qual lamScope s.heap.objs.size f (.ref c') (lamClos cc cb ca))) _ _
  refine PySem.W.kla_codeExpr (wpAny_mono (Q := fun v s' => ∃ h' tk' t', s' = { s with heap := h', toks := tk' } ∧ v = .int (ns.getD (x * n + k) 0) t' ∧ ∀ b o, s.heap.get? b = some o → h'.get? b = some o) (E := fun _ _ => False) ?_ (fun v s' h => h) fun _ _ h => h.elim)
  have hm : IntMulOk (x : Int) (n : Int) := .of_right (intBits_le_64 (by omega) (by omega))
  refine Subscript_ (wpAny_Name (wpAny_loadName_free (c := cc) rfl rfl rfl (cell h1) ?_ (by decide)) (by decide))
  refine wpAny_BinOp (wpAny_BinOp (wpAny_Name (wpAny_loadName_local rfl rfl hns1 rfl (wpAny_Name (wpAny_loadName_free (c := ca) rfl rfl rfl (cell h2) ?_ (by decide)) (by decide))) (by decide)))
  refine mul_int ?_ hm
  refine wpAny_Name (wpAny_loadName_free (c := cb) rfl rfl rfl (cell h3) ?_ (by decide)) (by decide)
  refine add_int ?_
  have e : (x : Int) * (n : Int) + (k : Int) = ((x * n + k : Nat) : Int) := by rw [Int.natCast_add, Int.natCast_mul]
  rw [e]
  have h63 := line63
  have hz : its[x * n + k]? = some (its[x * n + k]'(by rw [hi.length]; exact hx)) := List.getElem?_eq_getElem _
  refine item_listR (x := its[x * n + k]'(by rw [hi.length]; exact hx)) hl1 (by omega) (by omega) (by rw [Int.toNat_natCast]; simpa using hz) ?_ rfl
  obtain ⟨t', ht⟩ := hi.get (x * n + k) (ns[x * n + k]'hx) (List.getElem?_eq_getElem _)
  rw [hz] at ht
  refine ⟨h₁, _, t', rfl, ?_, hk⟩
  rw [Option.some.inj ht]
  simp [hx]
end

section
variable {X : Cx} {pins : List (Addr × Obj)} {σ : L2.St} {H : Hp} {s : Shared}
/-- all objects but the frame kept exactly, the frame's names too -/
theorem inv_news {h' : Heap} {tk : Nat} {m : Str → Option Value} (I : Inv X pins σ H s) (hm : s.heap.Ns X.env.locals m) (F : Fr X.base X.env.locals h' m) (N : News X.base X.env.locals h' (allNews X.base s.heap X.env.locals)) :
    Inv X pins σ H { s with heap := h', toks := tk } := by
  have kept : ∀ b o, b ≠ X.env.locals → s.heap.get? b = some o → h'.get? b = some o := fun b o hb e => by
    cases q : X.base.get? b with
    | some u =>
      have := I.bk b u q
      rw [e] at this
      cases this
      exact F.keep b _ q
    | none => exact (N (b, o) (mem_allNews hb q e)).1
  refine I.step (g' := s.gens) (d' := s.drawn) (ch := []) (fun _ z => nomatch z) (fun b o hb _ _ e _ => kept b o hb e) (fun b o hb _ _ e _ => ⟨o.slots, kept b o hb e⟩) (fun _ _ _ _ n => n) (fun b o _ e => ?_)
    (fun _ _ e => e) (fun _ _ _ e => e) (fun b ps e => ⟨#[], by rw [e]; simp⟩) (fun m' hm' => ?_) (fun b u e => ?_) I.bare
  · by_cases hb : b = X.env.locals
    · obtain ⟨o', _, _, e', _⟩ := F.ns
      exact ⟨o', by rw [hb]; exact e'⟩
    · exact ⟨o, kept b o hb e⟩
  · obtain ⟨o1, es1, ep1, g1, d1, k1, r1⟩ := hm
    obtain ⟨o2, es2, ep2, g2, d2, k2, r2⟩ := hm'
    rw [g1] at g2
    cases g2
    rw [d1] at d2
    cases d2
    have : m' = m := funext fun z => (r2 z).symm.trans (r1 z)
    rw [this]
    exact F.ns
  · refine (I.hok b u e).stay (fun c v hc q => kept c v (fun z => ?_) q) (fun _ q => q) fun _ _ q => q
    have hfree := I.free
    rcases hc with z2 | z2
    · rw [← z, z2, e] at hfree; cases hfree
    · rw [← z, z2] at hfree; cases hfree

noncomputable abbrev lamAt (qual : Str) (p0 p1 p2 p3 p4 p5 p6 p7 : Pos) (cc cb ca : Addr) (pm : Value) (f c' : Addr) (ctv : Value) : HO := .ext fun h => h.get? f = some (PySem.W.kla_obj "<lambda>" qual (lamArgs p0) (lamBody p1 p2 p3 p4 p5 p6 p7) lamScope (lamClos cc cb ca) pm c' ctv)
noncomputable abbrev codeAtH (qual : Str) (c' : Addr) : HO := .ext fun h => h.CodeRec (.ref c') qual
/-- where the least key stands, the foremost of these -/
noncomputable def Least (g : Nat → Nat) (ns : List Nat) (i x : Nat) : Prop := ns[i]? = some x ∧ ∀ j z, ns[j]? = some z → g x ≤ g z ∧ (j < i → g x < g z)

theorem min_lam {Q : VK} {l cs f c' cc cb ca : Addr} {pm ctv : Value} {qual : Str} {p0 p1 p2 p3 p4 p5 p6 p7 : Pos} {ns costs : List Nat} {n k j : Nat} {tn tk : Tok} (hr : Room (j + 1) X.A) (I : Inv X pins σ H s)
    (hl : H l = some (.lst (ns.map fun (z : Nat) => V.int (z : Int)))) (hcs : H cs = some (.lst (costs.map fun (z : Nat) => V.int (z : Int)))) (hf : H f = some (lamAt qual p0 p1 p2 p3 p4 p5 p6 p7 cc cb ca pm f c' ctv)) (hc' : H c' = some (codeAtH qual c'))
    (h1 : s.heap.IsCell cc (some (.ref cs))) (h2 : s.heap.IsCell ca (some (.int (n : Int) tn))) (h3 : s.heap.IsCell cb (some (.int (k : Int) tk))) (e1 : H cc = none) (e2 : H ca = none) (e3 : H cb = none)
    (hn : n < 2 ^ 32) (hne : 0 < ns.length) (hx : ∀ x ∈ ns, x * n + k < costs.length) (q : ∀ i x, Least (fun y => costs.getD (y * n + k) 0) ns i x → Q (.int (x : Int)) H) :
    wpAny (model X.prog X.w) X.A (call (.builtin "min") [.ref l] [(Str.ofString "key", .ref f)]) (EP X pins σ Q) X.xe s := by
  obtain ⟨zl, itl, nl, rl, ol⟩ := I.hok l _ hl
  obtain ⟨zc, itc, nc, rc, oc⟩ := I.hok cs _ hcs
  obtain ⟨gf, _, _⟩ := I.hok f _ hf
  obtain ⟨gc, _, _⟩ := I.hok c' _ hc'
  obtain ⟨m, hm, _⟩ := id I.loc
  have F0 : Fr X.base X.env.locals s.heap m := ⟨hm, I.bk, Nat.le_trans I.ok.bsz I.ok.above⟩
  have N0 : News X.base X.env.locals s.heap (allNews X.base s.heap X.env.locals) := news_all
  have notL : ∀ b u, H b = some u → b ≠ X.env.locals := fun b u e z => by rw [z, I.free] at e; cases e
  have il : IntsAre itl (ns.map fun (z : Nat) => (z : Int)) := by
    have : Vals ((ns.map fun (z : Nat) => (z : Int)).map V.int) itl := by rw [List.map_map]; exact rl
    exact this.ints
  have ic : IntsAre itc (costs.map fun (z : Nat) => (z : Int)) := by
    have : Vals ((costs.map fun (z : Nat) => (z : Int)).map V.int) itc := by rw [List.map_map]; exact rc
    exact this.ints
  have lenl : itl.length = ns.length := by rw [il.length, List.length_map]
  have lenc : itc.length = costs.length := by rw [ic.length, List.length_map]
  -- every object that stands at this moment, in a heap of the walk
  have old : ∀ {h : Heap} {more : List (Addr × Obj)}, Fr X.base X.env.locals h m → News X.base X.env.locals h (allNews X.base s.heap X.env.locals ++ more) → ∀ b o, b ≠ X.env.locals → s.heap.get? b = some o → h.get? b = some o := fun {h more} F N b o hb e => by
    cases z : X.base.get? b with
    | some u =>
      have := I.bk b u z
      rw [e] at this
      cases this
      exact F.keep b _ z
    | none => exact (N (b, o) (List.mem_append_left _ (mem_allNews hb z e))).1
  have cellNe : ∀ {c : Addr} {v : Option Value}, s.heap.IsCell c v → c ≠ X.env.locals := fun {c v} ⟨o, e, d⟩ z => by
    obtain ⟨o', es, ep, e', d', _⟩ := hm
    rw [z, e'] at e
    cases e
    rw [d'] at d
    cases d
  refine kmk_min (vs := itl) (fun i => (((ns[i]?).map fun x => costs.getD (x * n + k) 0).getD 0 : Nat)) hr.hd F0 N0 (fun h F N => ?_) (by omega) (fun i v hv h tkk own F N => ?_) fun i v h' tk' hv hb F N => ?_
  · exact ⟨_, old (more := []) F (by rw [List.append_nil]; exact N) l _ (notL l _ hl) ol, rfl, _, rfl⟩
  · have hi' : i < ns.length := by rw [← lenl]; exact (List.getElem?_eq_some_iff.mp hv).1
    have hni : ns[i]? = some ns[i] := List.getElem?_eq_getElem hi'
    obtain ⟨t, ht⟩ := il.get i ((ns[i] : Nat) : Int) (by rw [List.getElem?_map, hni]; rfl)
    rw [ht] at hv
    cases hv
    have mv := old F N
    have lim : h.NoLimit := I.ok.mod.nolimit.keeps F.keep
    obtain ⟨oc1, ec1, rc1⟩ := gc
    have cell : ∀ {c : Addr} {v : Option Value}, s.heap.IsCell c v → h.IsCell c v := fun {c v} z => let ⟨o, e, d⟩ := z; ⟨o, mv c o (cellNe z) e, d⟩
    have hcr : h.CodeRec (.ref c') qual := by
      obtain ⟨c0, o0, vs0, t0, q0, g0, d0, v0⟩ := (show s.heap.CodeRec (.ref c') qual from ⟨oc1, ec1, rc1⟩)
      cases q0
      exact ⟨_, o0, vs0, t0, rfl, mv _ _ (notL _ _ hc') g0, d0, v0⟩
    have hd1 : X.A.in1.depth < recursionLimit := hr.in1.depth
    have key := lam_call (prog := X.prog) (w := X.w) (A := X.A.in1) (s := { s with heap := h, toks := tkk }) (t := t) (n := n) (k := k) (x := ns[i]) hd1 (mv f _ (notL f _ hf) gf) hcr lim (cell h1) (cell h2) (cell h3)
      (⟨_, mv cs _ (notL cs _ hcs) oc, rfl, _, rfl⟩ : h.IsList cs itc.toArray) ic hn (by rw [List.length_map]; exact hx _ (List.getElem_mem hi')) (by rw [List.length_map]; rw [List.length_map] at zc; exact zc)
    refine wpAny_mono key (fun v s' ⟨h2', tk2, t2, es, ev, kp⟩ => ?_) fun _ _ z => z
    refine ⟨h2', tk2, t2, by rw [es], ?_, F.keeps kp, fun p hp => ⟨kp _ _ (N p hp).1, (N p hp).2⟩⟩
    rw [ev]
    have hlt : ns[i] * n + k < costs.length := hx _ (List.getElem_mem hi')
    simp [hni, hlt]
  · have hi' : i < ns.length := by rw [← lenl]; exact (List.getElem?_eq_some_iff.mp hv).1
    have hni : ns[i]? = some ns[i] := List.getElem?_eq_getElem hi'
    obtain ⟨t, ht⟩ := il.get i ((ns[i] : Nat) : Int) (by rw [List.getElem?_map, hni]; rfl)
    rw [ht] at hv
    cases hv
    refine ⟨.int ((ns[i] : Nat) : Int), H, inv_news I hm F N, ⟨t, rfl⟩, q i ns[i] ⟨hni, fun j z hz => ?_⟩⟩
    have hj : j < ns.length := (List.getElem?_eq_some_iff.mp hz).1
    have hb1 := hb j (by omega)
    simp only [hni, hz, Option.map_some, Option.getD_some] at hb1
    show costs.getD (ns[i] * n + k) 0 ≤ costs.getD (z * n + k) 0 ∧ (j < i → costs.getD (ns[i] * n + k) 0 < costs.getD (z * n + k) 0)
    exact ⟨by have := hb1.1; omega, fun hlt => by have := hb1.2 hlt; omega⟩

/-! ### the lambda itself -/
/-- the table of a code object: nothing yet, or the lambda's code -/
noncomputable def TabOk (Pt : Addr) (lp : Pos) (qual : Str) (H : Hp) (own : Addr → Prop) : Prop := own Pt ∧ (H Pt = some (.tbl #[]) ∨ ∃ c', own c' ∧ H Pt = some (.tbl #[rawInt lp.line, rawInt lp.col, .ref c']) ∧ H c' = some (codeAtH qual c'))
noncomputable def BM (mg : Str → Option Value) (base : Heap) : Prop := ∃ bm ob, mg "__builtins__" = some (.ref bm) ∧ bm ≠ builtinsNs ∧ base.get? bm = some ob ∧ ob.cls = .type "module" ∧ ob.dict = some builtinsNs ∧ ob.data = .plain
noncomputable def tLam (Pt : Addr) (lp : Pos) (qual : Str) (p0 p1 p2 p3 p4 p5 p6 p7 : Pos) (cc cb ca : Addr) (pm : Value) : TE := fun σ H Q => ∃ own, TabOk Pt lp qual H own ∧ ∀ (f c' : Addr) (ctv : Value) (own' : Addr → Prop) (H' : Hp),
  H f = none → H' f = some (lamAt qual p0 p1 p2 p3 p4 p5 p6 p7 cc cb ca pm f c' ctv) → H' c' = some (codeAtH qual c') → TabOk Pt lp qual H' own' → (∀ b, own b → own' b) → (∀ b, own' b → own b ∨ (H b = none ∧ H' b ≠ none)) →
  (∀ b o, H b = some o → b ≠ Pt → H' b = some o) → Q (.ref f) H'
theorem ext_get {P : Program} {w : World} {H : Hp} {h : Heap} {f : Addr} {o : Obj} (e : h.get? f = some o) : ObjOk P w H h f (.ext fun h => h.get? f = some o) := ⟨e, ⟨o, e⟩, fun h1 h2 e1 k => k _ e1⟩
theorem ext_code {P : Program} {w : World} {H : Hp} {h : Heap} {c : Addr} {qual : Str} (r : h.CodeRec (.ref c) qual) : ObjOk P w H h c (codeAtH qual c) := by
  refine ⟨r, ?_, fun h1 h2 r1 k => ?_⟩
  · obtain ⟨c0, o0, vs0, t0, q0, g0, d0, v0⟩ := r
    cases q0
    exact ⟨o0, g0⟩
  · obtain ⟨c0, o0, vs0, t0, q0, g0, d0, v0⟩ := r1
    cases q0
    exact ⟨_, o0, vs0, t0, rfl, k _ g0, d0, v0⟩
theorem pe_lam {Pt c cc cb ca : Addr} {lp p0 p1 p2 p3 p4 p5 p6 p7 : Pos} (B : BM X.mg X.base) (hcl : closureFor lamScope X.env = pure (lamClos cc cb ca)) (hcode : X.env.code = .ref c) (hhd : PySem.W.CodeHd X.base c Pt) :
    PE X (.Lambda (lamArgs p0) (lamBody p1 p2 p3 p4 p5 p6 p7) lamScope lp) (tLam Pt lp (X.env.qual ++ "<lambda>") p0 p1 p2 p3 p4 p5 p6 p7 cc cb ca ((X.mg "__name__").getD .none)) := by
  intro pins s σ H Q I ⟨own, ⟨hown, tab⟩, k⟩
  obtain ⟨bm, ob, b1, b2, b3, b4, b5, b6⟩ := B
  have hg : s.heap.Ns mainGlobals X.mg := I.mod.glob.keeps I.bk
  have hbase : ∀ ps, H Pt = some (.tbl ps) → mainGlobals ≠ Pt ∧ bm ≠ Pt := fun ps e => by
    constructor
    · intro z
      obtain ⟨o, es, ep, g, _⟩ := I.mod.glob
      have := (I.bs _ _ g).2
      rw [z, e] at this
      cases this
    · intro z
      have := (I.bs _ _ b3).2
      rw [z, e] at this
      cases this
  have hbG : bm ≠ mainGlobals := fun z => by
    obtain ⟨o, es, ep, g, d, _⟩ := I.mod.glob
    rw [z, g] at b3
    cases b3
    rw [d] at b6
    cases b6
  refine PySem.W.kla_eval rfl ?_
  rcases tab with e | ⟨c', hoc, e, ec⟩
  · have hP : s.heap.get? Pt = some (PySem.W.tabObj #[]) := I.hok Pt _ e
    obtain ⟨n1, n2⟩ := hbase _ e
    refine PySem.W.kla_makeFunction (mg := X.mg) hcl I.ok.glob hg hcode (hhd.keeps I.bk) hP trivial rfl n1 ⟨bm, ob, b1, b2, hbG, n2, I.bk _ _ b3, b4, b5, b6⟩ fun c' ctv h' tk hx hge hlt hrec htb => ?_
    have ltP : Pt < s.heap.objs.size := Heap.lt_size hP
    have nPc : Pt ≠ c' := Nat.ne_of_lt (Nat.lt_of_lt_of_le ltP hge)
    have nPf : Pt ≠ h'.objs.size := Nat.ne_of_lt (Nat.lt_trans (Nat.lt_of_lt_of_le ltP hge) hlt)
    have ncf : c' ≠ h'.objs.size := Nat.ne_of_lt hlt
    have fc : H c' = none := I.hok.fresh hge
    have ff : H h'.objs.size = none := I.hok.fresh (Nat.le_trans hge (Nat.le_of_lt hlt))
    have kp : ∀ b o, b ≠ Pt → s.heap.get? b = some o → h'.get? b = some o := fun b o hb q => hx b o hb q
    have hH : ∀ b u, H b = some u → b ≠ Pt → (upd (upd (upd H Pt (.tbl #[rawInt lp.line, rawInt lp.col, .ref c'])) c' (codeAtH (X.env.qual ++ "<lambda>") c')) h'.objs.size (lamAt (X.env.qual ++ "<lambda>") p0 p1 p2 p3 p4 p5 p6 p7 cc cb ca ((X.mg "__name__").getD .none) h'.objs.size c' ctv)) b = some u := fun b u q hb => by
      rw [upd_ne (ne_of_none q ff), upd_ne (ne_of_none q fc), upd_ne hb]; exact q
    have hN : ∀ b, H b = none → b < s.heap.objs.size → (upd (upd (upd H Pt (.tbl #[rawInt lp.line, rawInt lp.col, .ref c'])) c' (codeAtH (X.env.qual ++ "<lambda>") c')) h'.objs.size (lamAt (X.env.qual ++ "<lambda>") p0 p1 p2 p3 p4 p5 p6 p7 cc cb ca ((X.mg "__name__").getD .none) h'.objs.size c' ctv)) b = none := fun b q hb => by
      rw [upd_ne (Nat.ne_of_lt (Nat.lt_trans (Nat.lt_of_lt_of_le hb hge) hlt)), upd_ne (Nat.ne_of_lt (Nat.lt_of_lt_of_le hb hge)), upd_ne (fun z => by rw [z, e] at q; cases q)]; exact q
    have hPt : (upd (upd (upd H Pt (.tbl #[rawInt lp.line, rawInt lp.col, .ref c'])) c' (codeAtH (X.env.qual ++ "<lambda>") c')) h'.objs.size (lamAt (X.env.qual ++ "<lambda>") p0 p1 p2 p3 p4 p5 p6 p7 cc cb ca ((X.mg "__name__").getD .none) h'.objs.size c' ctv)) Pt = some (.tbl #[rawInt lp.line, rawInt lp.col, .ref c']) := by
      rw [upd_ne nPf, upd_ne nPc, upd_same]
    have hC : (upd (upd (upd H Pt (.tbl #[rawInt lp.line, rawInt lp.col, .ref c'])) c' (codeAtH (X.env.qual ++ "<lambda>") c')) h'.objs.size (lamAt (X.env.qual ++ "<lambda>") p0 p1 p2 p3 p4 p5 p6 p7 cc cb ca ((X.mg "__name__").getD .none) h'.objs.size c' ctv)) c' = some (codeAtH (X.env.qual ++ "<lambda>") c') := by
      rw [upd_ne ncf, upd_same]
    generalize hgen : (upd (upd (upd H Pt (.tbl #[rawInt lp.line, rawInt lp.col, .ref c'])) c' (codeAtH (X.env.qual ++ "<lambda>") c')) h'.objs.size (lamAt (X.env.qual ++ "<lambda>") p0 p1 p2 p3 p4 p5 p6 p7 cc cb ca ((X.mg "__name__").getD .none) h'.objs.size c' ctv)) = H' at hH hN hPt hC
    have hF : H' h'.objs.size = some (lamAt (X.env.qual ++ "<lambda>") p0 p1 p2 p3 p4 p5 p6 p7 cc cb ca ((X.mg "__name__").getD .none) h'.objs.size c' ctv) := by rw [← hgen, upd_same]
    refine ⟨.ref h'.objs.size, H', ?_, rfl, k h'.objs.size c' ctv (fun b => own b ∨ b = c') H' ff hF hC ⟨.inl hown, .inr ⟨c', .inr rfl, hPt, hC⟩⟩ (fun b z => .inl z) (fun b z => z.elim .inl fun z => .inr (by rw [z, hC]; exact ⟨fc, fun y => by cases y⟩)) fun b o q hb => hH b o q hb⟩
    · have kq : ∀ (b : Addr) (o nw : Obj), b ≠ Pt → s.heap.get? b = some o → (h'.push nw).get? b = some o := fun b o nw hb q => Heap.get?_push_of_some _ (kp b o hb q)
      refine I.un ⟨fun b o q n _ _ => kq b o _ (fun z => by rw [z, e] at n; cases n) q, fun b o q n _ _ => ⟨o.slots, kq b o _ (fun z => by rw [z, e] at n; cases n) q⟩, fun b o q n _ => hN b n (Heap.lt_size q), fun b o q _ => ?_, fun b xs q => hH b _ q (fun z => by rw [z, e] at q; cases q), fun b o u q => hH b _ q (fun z => by rw [z, e] at q; cases q), fun b ps q => ?_⟩ ?_
      · by_cases hb : b = Pt
        · exact ⟨_, by rw [hb]; exact Heap.get?_push_of_some _ htb⟩
        · exact ⟨o, kq b o _ hb q⟩
      · by_cases hb : b = Pt
        · subst hb
          rw [e] at q
          cases q
          exact ⟨#[rawInt lp.line, rawInt lp.col, .ref c'], by rw [hPt]; rfl⟩
        · exact ⟨#[], by rw [hH b _ q hb]; simp⟩
      · intro b u q
        by_cases hb : b = Pt
        · subst hb
          rw [hPt] at q
          cases q
          exact Heap.get?_push_of_some _ htb
        · by_cases hbc : b = c'
          · subst hbc
            rw [hC] at q
            cases q
            refine ext_code ?_
            obtain ⟨c0, o0, vs0, t0, q0, g0, d0, v0⟩ := hrec
            exact ⟨c0, o0, vs0, t0, q0, Heap.get?_push_of_some _ g0, d0, v0⟩
          · by_cases hbf : b = h'.objs.size
            · subst hbf
              rw [hF] at q
              cases q
              exact ext_get (Heap.get?_push_size _ rfl)
            · rw [← hgen, upd_ne hbf, upd_ne hbc, upd_ne hb] at q
              refine (I.hok b u q).stay (fun c v hc z => kq c v _ (fun y => ?_) z) (fun c z => hH c _ z fun y => by rw [y, e] at z; cases z) fun c xs z => hH c _ z fun y => by rw [y, e] at z; cases z
              rcases hc with hc | hc
              · exact hb (hc.symm.trans y)
              · rw [y, e] at hc; cases hc
  · have hP : s.heap.get? Pt = some (PySem.W.tabObj #[rawInt lp.line, rawInt lp.col, .ref c']) := I.hok Pt _ e
    obtain ⟨n1, n2⟩ := hbase _ e
    refine PySem.W.kla_makeFunctionHit (mg := X.mg) (cv := .ref c') hcl I.ok.glob hg hcode (hhd.keeps I.bk) hP ?_ ?_ ⟨bm, ob, b1, b2, hbG, n2, I.bk _ _ b3, b4, b5, b6⟩ fun ctv h' tk hk hsz => ?_
    · trivial
    · simp [codeAmong, rawInt]
    have I1 : Inv X pins σ H { s with heap := h', toks := tk } := I.kept (t' := tk) hk
    have ff : H h'.objs.size = none := I1.hok.fresh (Nat.le_refl _)
    have I2 := I1.laid (a := h'.objs.size) (o := lamAt (X.env.qual ++ "<lambda>") p0 p1 p2 p3 p4 p5 p6 p7 cc cb ca ((X.mg "__name__").getD .none) h'.objs.size c' ctv) (t' := tk) (fun b u q => Heap.get?_push_of_some (PySem.W.kla_obj "<lambda>" (X.env.qual ++ "<lambda>") (lamArgs p0) (lamBody p1 p2 p3 p4 p5 p6 p7) lamScope (lamClos cc cb ca) ((X.mg "__name__").getD .none) c' ctv) q) (Nat.le_refl _) (ext_get (Heap.get?_push_size _ rfl))
    refine ⟨.ref h'.objs.size, _, I2, rfl, k h'.objs.size c' ctv own _ ff upd_same (by rw [upd_ne (ne_of_none ec ff)]; exact ec) ⟨hown, .inr ⟨c', hoc, by rw [upd_ne (ne_of_none e ff)]; exact e, by rw [upd_ne (ne_of_none ec ff)]; exact ec⟩⟩ (fun _ z => z) (fun _ z => .inl z) fun b o q _ => by rw [upd_ne (ne_of_none q ff)]; exact q⟩
end
end Lq
end
section
set_option Elab.async false
set_option linter.all false
set_option maxRecDepth 100000
set_option maxHeartbeats 4000000
namespace Lq
open PySem L2
theorem ktab_of {K : PySem.W.Frag} {d : Addr} {es : Array DictEntry} {ep : Nat} {kvs : List (Int × V)} (h : K.lookup d = some ⟨.type "dict", none, .dict es ep, #[]⟩)
    (h2 : Paired (fun (e : DictEntry) (kv : Int × V) => (∃ t, e.key = Value.int kv.1 t) ∧ e.hash = hashInt kv.1 ∧ RelV kv.2 e.val) es.toList kvs) (h3 : (kvs.map (·.1)).Nodup) : KTab K d kvs := ⟨es, ep, h, h2, h3⟩
/-- the table of a code object's parts, by the object's fields -/
noncomputable def codeTab (c : Addr) (vs : Array Value) : Option Addr := match (vs[11]? : Option Value), vs.getD 18 .none, vs.getD 7 .none, vs.getD 9 .none, vs.getD 10 .none with
  | some (.ref Pt), .str _ _, .int _ _, .bool _, .int _ _ => if (c == Pt) = true then none else some Pt
  | _, _, _, _, _ => none
theorem codeTab_is {c Pt : Addr} {vs : Array Value} (h : codeTab c vs = some Pt) : (vs[11]? : Option Value) = some (.ref Pt) ∧ (∃ x t, vs.getD 18 .none = .str x t) ∧ (∃ x t, vs.getD 7 .none = .int x t) ∧ (∃ x, vs.getD 9 .none = .bool x) ∧ (∃ x t, vs.getD 10 .none = .int x t) ∧ c ≠ Pt := by
  unfold codeTab at h
  split at h
  · rename_i Q x t y u b z v e1 e2 e3 e4 e5
    by_cases hc : (c == Q) = true
    · rw [if_pos hc] at h; cases h
    · rw [if_neg hc] at h
      cases h
      exact ⟨e1, ⟨x, t, e2⟩, ⟨y, u, e3⟩, ⟨b, e4⟩, ⟨z, v, e5⟩, fun z => hc (by rw [z]; exact beq_self_eq_true _)⟩
  · cases h
theorem codeHd_mk {K : PySem.W.Frag} {c Pt : Addr} {od : Option Addr} {vs : Array Value} {sl : Array (Option Value)} (l : K.lookup c = some ⟨.type "code", od, .fields vs, sl⟩) (h : codeTab c vs = some Pt) : PySem.W.codeHdIn K c Pt = true := by
  obtain ⟨e1, ⟨_, _, e2⟩, ⟨_, _, e3⟩, ⟨_, e4⟩, ⟨_, _, e5⟩, e6⟩ := codeTab_is h
  unfold PySem.W.codeHdIn
  rw [l]
  simp only [e1, e2, e3, e4, e5, beq_self_eq_true, Bool.true_and, bne_iff_ne, ne_eq]
  exact e6
theorem tabIn_mk {K : PySem.W.Frag} {x name qual : Str} {args : Arguments} {body : List Stmt} {scope : Scope} {f c Pt : Addr} {oc dV kV doc pm cdv ct : Value} {an od od2 : Option Addr} {osl sl : Array (Option Value)} {vs : Array Value} (hn : PySem.W.nsIn K mainGlobals x = some (some (.ref f)))
    (hl : K.lookup f = some ⟨oc, od, .func (PySem.W.fnOf name qual args body scope dV kV doc pm an cdv ct), osl⟩) (hc : cdv = .ref c) (l : K.lookup c = some ⟨.type "code", od2, .fields vs, sl⟩) (h : codeTab c vs = some Pt) : PySem.W.tabIn K x = some (c, Pt) := by
  obtain ⟨e1, _⟩ := codeTab_is h
  subst hc
  unfold PySem.W.tabIn
  rw [hn]
  simp only [hl, l, e1]
/-! ### the text by places (made by tools/gen_txt.py) -/
noncomputable def top (i : Nat) : Stmt := PySem.Challenge.pw_learntpath_s01_answers.main.body.getD i (.Pass ⟨0, 0, 0, 0⟩)
noncomputable abbrev s_things_in : Stmt := top 1
theorem sc_things_in : FnScope ["known", "thing"] ["known"] (defScope s_things_in) := ⟨rfl, rfl, rfl, by decide +kernel, rfl, by decide +kernel, by decide +kernel⟩
noncomputable abbrev s_taught : Stmt := top 2
theorem sc_taught : FnScope ["rules", "known", "things", "thing", "needed"] ["rules", "known"] (defScope s_taught) := ⟨rfl, rfl, rfl, by decide +kernel, rfl, by decide +kernel, by decide +kernel⟩
noncomputable abbrev s_greatest_state : Stmt := top 3
theorem sc_greatest_state : FnScope ["rules", "within", "state", "grown"] ["rules", "within"] (defScope s_greatest_state) := ⟨rfl, rfl, rfl, by decide +kernel, rfl, by decide +kernel, by decide +kernel⟩
noncomputable abbrev s_is_state : Stmt := top 4
theorem sc_is_state : FnScope ["rules", "known"] ["rules", "known"] (defScope s_is_state) := ⟨rfl, rfl, rfl, by decide +kernel, rfl, by decide +kernel, by decide +kernel⟩
noncomputable abbrev s_things_next : Stmt := top 5
theorem sc_things_next : FnScope ["rules", "state"] ["rules", "state"] (defScope s_things_next) := ⟨rfl, rfl, rfl, by decide +kernel, rfl, by decide +kernel, by decide +kernel⟩
noncomputable abbrev s_things_last : Stmt := top 6
theorem sc_things_last : FnScope ["rules", "state", "found", "thing"] ["rules", "state"] (defScope s_things_last) := ⟨rfl, rfl, rfl, by decide +kernel, rfl, by decide +kernel, by decide +kernel⟩
noncomputable abbrev s_hull_of : Stmt := top 7
theorem sc_hull_of : FnScope ["rules", "everything", "known"] ["rules", "everything", "known"] (defScope s_hull_of) := ⟨rfl, rfl, rfl, by decide +kernel, rfl, by decide +kernel, by decide +kernel⟩
noncomputable abbrev s_corners_of : Stmt := top 8
theorem sc_corners_of : FnScope ["rules", "everything", "known", "outside"] ["rules", "everything", "known"] (defScope s_corners_of) := ⟨rfl, rfl, rfl, by decide +kernel, rfl, by decide +kernel, by decide +kernel⟩
noncomputable abbrev s_rules_needing : Stmt := top 10
theorem sc_rules_needing : FnScope ["rules", "thing", "rule"] ["rules", "thing"] (defScope s_rules_needing) := ⟨rfl, rfl, rfl, by decide +kernel, rfl, by decide +kernel, by decide +kernel⟩
noncomputable abbrev s_states_behind : Stmt := top 11
theorem sc_states_behind : FnScope ["level", "openers", "behind", "state", "found", "thing", "grown"] ["level", "openers"] (defScope s_states_behind) := ⟨rfl, rfl, rfl, by decide +kernel, rfl, by decide +kernel, by decide +kernel⟩
noncomputable abbrev s_nexts_by_state : Stmt := top 12
theorem sc_nexts_by_state : FnScope ["rules", "amount", "openers", "thing", "nexts", "level"] ["rules", "amount"] (defScope s_nexts_by_state) := ⟨rfl, rfl, rfl, by decide +kernel, rfl, by decide +kernel, by decide +kernel⟩
noncomputable abbrev s_ways_by_state : Stmt := top 13
theorem sc_ways_by_state : FnScope ["nexts", "ways", "state", "further", "thing"] ["nexts"] (defScope s_ways_by_state) := ⟨rfl, rfl, rfl, by decide +kernel, rfl, by decide +kernel, by decide +kernel⟩
noncomputable abbrev s_order_behind : Stmt := top 14
theorem sc_order_behind : FnScope ["nexts", "ways", "before", "order", "state", "left", "thing", "grown"] ["nexts", "ways", "before"] (defScope s_order_behind) := ⟨rfl, rfl, rfl, by decide +kernel, rfl, by decide +kernel, by decide +kernel⟩
noncomputable abbrev s_lasts_by_state : Stmt := top 15
theorem sc_lasts_by_state : FnScope ["nexts", "lasts", "state", "found", "thing", "grown"] ["nexts"] (defScope s_lasts_by_state) := ⟨rfl, rfl, rfl, by decide +kernel, rfl, by decide +kernel, by decide +kernel⟩
noncomputable abbrev s_paths_by_thing : Stmt := top 16
theorem sc_paths_by_thing : FnScope ["nexts", "amount", "lasts", "paths", "thing", "state", "endings"] ["nexts", "amount"] (defScope s_paths_by_thing) := ⟨rfl, rfl, rfl, by decide +kernel, rfl, by decide +kernel, by decide +kernel⟩
noncomputable abbrev s_cheapest : Stmt := top 17
theorem sc_cheapest : FnScope ["choices", "costs", "amount", "before"] ["choices", "costs", "amount", "before"] (defScope s_cheapest) := ⟨rfl, rfl, rfl, by decide +kernel, rfl, by decide +kernel, by decide +kernel⟩
noncomputable abbrev s_planned_order : Stmt := top 18
theorem sc_planned_order : FnScope ["rules", "amount", "costs", "order", "state", "found", "thing"] ["rules", "amount", "costs"] (defScope s_planned_order) := ⟨rfl, rfl, rfl, by decide +kernel, rfl, by decide +kernel, by decide +kernel⟩
noncomputable abbrev s_reply_begin : Stmt := top 25
theorem sc_reply_begin : FnScope ["learning", "numbers"] ["learning", "numbers"] (defScope s_reply_begin) := ⟨rfl, rfl, rfl, by decide +kernel, rfl, by decide +kernel, by decide +kernel⟩
noncomputable abbrev s_reply_things : Stmt := top 26
theorem sc_reply_things : FnScope ["learning", "numbers", "amount"] ["learning", "numbers"] (defScope s_reply_things) := ⟨rfl, rfl, rfl, by decide +kernel, rfl, by decide +kernel, by decide +kernel⟩
noncomputable abbrev s_reply_rule : Stmt := top 27
theorem sc_reply_rule : FnScope ["learning", "numbers", "thing", "needed"] ["learning", "numbers"] (defScope s_reply_rule) := ⟨rfl, rfl, rfl, by decide +kernel, rfl, by decide +kernel, by decide +kernel⟩
noncomputable abbrev s_reply_is : Stmt := top 28
theorem sc_reply_is : FnScope ["learning", "numbers", "known"] ["learning", "numbers"] (defScope s_reply_is) := ⟨rfl, rfl, rfl, by decide +kernel, rfl, by decide +kernel, by decide +kernel⟩
noncomputable abbrev s_reply_most : Stmt := top 29
theorem sc_reply_most : FnScope ["learning", "numbers", "within"] ["learning", "numbers"] (defScope s_reply_most) := ⟨rfl, rfl, rfl, by decide +kernel, rfl, by decide +kernel, by decide +kernel⟩
noncomputable abbrev s_state_refusal : Stmt := top 30
theorem sc_state_refusal : FnScope ["learning", "known"] ["learning", "known"] (defScope s_state_refusal) := ⟨rfl, rfl, rfl, by decide +kernel, rfl, by decide +kernel, by decide +kernel⟩
noncomputable abbrev s_reply_next : Stmt := top 31
theorem sc_reply_next : FnScope ["learning", "numbers", "refusal"] ["learning", "numbers"] (defScope s_reply_next) := ⟨rfl, rfl, rfl, by decide +kernel, rfl, by decide +kernel, by decide +kernel⟩
noncomputable abbrev s_reply_last : Stmt := top 32
theorem sc_reply_last : FnScope ["learning", "numbers", "refusal"] ["learning", "numbers"] (defScope s_reply_last) := ⟨rfl, rfl, rfl, by decide +kernel, rfl, by decide +kernel, by decide +kernel⟩
noncomputable abbrev s_first_of : Stmt := top 33
theorem sc_first_of : FnScope ["told", "most", "limit"] ["told", "most", "limit"] (defScope s_first_of) := ⟨rfl, rfl, rfl, by decide +kernel, rfl, by decide +kernel, by decide +kernel⟩
noncomputable abbrev s_reply_count : Stmt := top 34
theorem sc_reply_count : FnScope ["learning", "numbers"] ["learning", "numbers"] (defScope s_reply_count) := ⟨rfl, rfl, rfl, by decide +kernel, rfl, by decide +kernel, by decide +kernel⟩
noncomputable abbrev s_reply_orders : Stmt := top 35
theorem sc_reply_orders : FnScope ["learning", "numbers"] ["learning", "numbers"] (defScope s_reply_orders) := ⟨rfl, rfl, rfl, by decide +kernel, rfl, by decide +kernel, by decide +kernel⟩
noncomputable abbrev s_reply_order : Stmt := top 36
theorem sc_reply_order : FnScope ["learning", "numbers", "before", "ways", "order"] ["learning", "numbers"] (defScope s_reply_order) := ⟨rfl, rfl, rfl, by decide +kernel, rfl, by decide +kernel, by decide +kernel⟩
noncomputable abbrev s_reply_paths : Stmt := top 37
theorem sc_reply_paths : FnScope ["learning", "numbers", "thing", "paths"] ["learning", "numbers"] (defScope s_reply_paths) := ⟨rfl, rfl, rfl, by decide +kernel, rfl, by decide +kernel, by decide +kernel⟩
noncomputable abbrev s_reply_hull : Stmt := top 38
theorem sc_reply_hull : FnScope ["learning", "numbers", "known"] ["learning", "numbers"] (defScope s_reply_hull) := ⟨rfl, rfl, rfl, by decide +kernel, rfl, by decide +kernel, by decide +kernel⟩
noncomputable abbrev s_reply_corners : Stmt := top 39
theorem sc_reply_corners : FnScope ["learning", "numbers", "known"] ["learning", "numbers"] (defScope s_reply_corners) := ⟨rfl, rfl, rfl, by decide +kernel, rfl, by decide +kernel, by decide +kernel⟩
noncomputable abbrev s_reply_plan : Stmt := top 40
theorem sc_reply_plan : FnScope ["learning", "numbers", "costs", "order"] ["learning", "numbers"] (defScope s_reply_plan) := ⟨rfl, rfl, rfl, by decide +kernel, rfl, by decide +kernel, by decide +kernel⟩
noncomputable abbrev s_reply_to : Stmt := top 42
theorem sc_reply_to : FnScope ["number", "learning", "numbers", "reply"] ["number", "learning", "numbers"] (defScope s_reply_to) := ⟨rfl, rfl, rfl, by decide +kernel, rfl, by decide +kernel, by decide +kernel⟩
noncomputable abbrev s_call_end : Stmt := top 46
theorem sc_call_end : FnScope ["calls", "at", "end"] ["calls", "at"] (defScope s_call_end) := ⟨rfl, rfl, rfl, by decide +kernel, rfl, by decide +kernel, by decide +kernel⟩
noncomputable abbrev s_answers : Stmt := top 47
theorem sc_answers : FnScope ["calls", "learning", "told", "at", "end", "answer"] ["calls"] (defScope s_answers) := ⟨rfl, rfl, rfl, by decide +kernel, rfl, by decide +kernel, by decide +kernel⟩
noncomputable abbrev s_m_init : Stmt := inClass (top 22) 0
theorem sc_m_init : FnScope ["self"] ["self"] (defScope s_m_init) := ⟨rfl, rfl, rfl, by decide +kernel, rfl, by decide +kernel, by decide +kernel⟩
noncomputable abbrev s_m_restart : Stmt := inClass (top 22) 1
theorem sc_m_restart : FnScope ["self", "amount"] ["self", "amount"] (defScope s_m_restart) := ⟨rfl, rfl, rfl, by decide +kernel, rfl, by decide +kernel, by decide +kernel⟩
noncomputable abbrev s_m_add_rule : Stmt := inClass (top 22) 2
theorem sc_m_add_rule : FnScope ["self", "thing", "needed"] ["self", "thing", "needed"] (defScope s_m_add_rule) := ⟨rfl, rfl, rfl, by decide +kernel, rfl, by decide +kernel, by decide +kernel⟩
noncomputable abbrev s_m_forget : Stmt := inClass (top 22) 3
theorem sc_m_forget : FnScope ["self"] ["self"] (defScope s_m_forget) := ⟨rfl, rfl, rfl, by decide +kernel, rfl, by decide +kernel, by decide +kernel⟩
noncomputable abbrev s_m_has_thing : Stmt := inClass (top 22) 4
theorem sc_m_has_thing : FnScope ["self", "thing"] ["self", "thing"] (defScope s_m_has_thing) := ⟨rfl, rfl, rfl, by decide +kernel, rfl, by decide +kernel, by decide +kernel⟩
noncomputable abbrev s_m_holds : Stmt := inClass (top 22) 5
theorem sc_m_holds : FnScope ["self", "things"] ["self", "things"] (defScope s_m_holds) := ⟨rfl, rfl, rfl, by decide +kernel, rfl, by decide +kernel, by decide +kernel⟩
noncomputable abbrev s_m_everything : Stmt := inClass (top 22) 6
theorem sc_m_everything : FnScope ["self"] ["self"] (defScope s_m_everything) := ⟨rfl, rfl, rfl, by decide +kernel, rfl, by decide +kernel, by decide +kernel⟩
noncomputable abbrev s_m_takes_rule : Stmt := inClass (top 22) 7
theorem sc_m_takes_rule : FnScope ["self", "thing", "needed"] ["self", "thing", "needed"] (defScope s_m_takes_rule) := ⟨rfl, rfl, rfl, by decide +kernel, rfl, by decide +kernel, by decide +kernel⟩
noncomputable abbrev s_m_all_nexts : Stmt := inClass (top 22) 8
theorem sc_m_all_nexts : FnScope ["self"] ["self"] (defScope s_m_all_nexts) := ⟨rfl, rfl, rfl, by decide +kernel, rfl, by decide +kernel, by decide +kernel⟩
noncomputable abbrev s_m_all_ways : Stmt := inClass (top 22) 9
theorem sc_m_all_ways : FnScope ["self"] ["self"] (defScope s_m_all_ways) := ⟨rfl, rfl, rfl, by decide +kernel, rfl, by decide +kernel, by decide +kernel⟩
noncomputable abbrev s_m_all_paths : Stmt := inClass (top 22) 10
theorem sc_m_all_paths : FnScope ["self"] ["self"] (defScope s_m_all_paths) := ⟨rfl, rfl, rfl, by decide +kernel, rfl, by decide +kernel, by decide +kernel⟩
/-! ### what the top has written -/
set_option genInjectivity false
set_option genSizeOf false
structure Ad where
  Learning : Addr
  things_in : Addr
  things_inD : FuncData
  taught : Addr
  taughtD : FuncData
  greatest_state : Addr
  greatest_stateD : FuncData
  is_state : Addr
  is_stateD : FuncData
  things_next : Addr
  things_nextD : FuncData
  things_last : Addr
  things_lastD : FuncData
  hull_of : Addr
  hull_ofD : FuncData
  corners_of : Addr
  corners_ofD : FuncData
  rules_needing : Addr
  rules_needingD : FuncData
  states_behind : Addr
  states_behindD : FuncData
  nexts_by_state : Addr
  nexts_by_stateD : FuncData
  ways_by_state : Addr
  ways_by_stateD : FuncData
  order_behind : Addr
  order_behindD : FuncData
  lasts_by_state : Addr
  lasts_by_stateD : FuncData
  paths_by_thing : Addr
  paths_by_thingD : FuncData
  cheapest : Addr
  cheapestD : FuncData
  planned_order : Addr
  planned_orderD : FuncData
  reply_begin : Addr
  reply_beginD : FuncData
  reply_things : Addr
  reply_thingsD : FuncData
  reply_rule : Addr
  reply_ruleD : FuncData
  reply_is : Addr
  reply_isD : FuncData
  reply_most : Addr
  reply_mostD : FuncData
  state_refusal : Addr
  state_refusalD : FuncData
  reply_next : Addr
  reply_nextD : FuncData
  reply_last : Addr
  reply_lastD : FuncData
  first_of : Addr
  first_ofD : FuncData
  reply_count : Addr
  reply_countD : FuncData
  reply_orders : Addr
  reply_ordersD : FuncData
  reply_order : Addr
  reply_orderD : FuncData
  reply_paths : Addr
  reply_pathsD : FuncData
  reply_hull : Addr
  reply_hullD : FuncData
  reply_corners : Addr
  reply_cornersD : FuncData
  reply_plan : Addr
  reply_planD : FuncData
  reply_to : Addr
  reply_toD : FuncData
  call_end : Addr
  call_endD : FuncData
  answers : Addr
  answersD : FuncData
  m_init : Addr
  m_initD : FuncData
  m_restart : Addr
  m_restartD : FuncData
  m_add_rule : Addr
  m_add_ruleD : FuncData
  m_forget : Addr
  m_forgetD : FuncData
  m_has_thing : Addr
  m_has_thingD : FuncData
  m_holds : Addr
  m_holdsD : FuncData
  m_everything : Addr
  m_everythingD : FuncData
  m_takes_rule : Addr
  m_takes_ruleD : FuncData
  m_all_nexts : Addr
  m_all_nextsD : FuncData
  m_all_ways : Addr
  m_all_waysD : FuncData
  m_all_paths : Addr
  m_all_pathsD : FuncData
  REPLIES : Addr
  WIDTHS : Addr
  cheapestC : Addr
  cheapestP : Addr
/-- a def of the top, or a method -/
structure Def (K : PySem.W.Frag) (x qual : Str) (st : Stmt) (ps : List Str) (f : Addr) (fd : FuncData) : Prop where
  fn : Fun K x qual st f fd
  bi : Binds K fd ps []
structure Txt (K : PySem.W.Frag) (mg : Str → Option Value) (a : Ad) : Prop where
  things_in : Def K "things_in" "things_in" s_things_in ["known"] a.things_in a.things_inD
  things_in_mg : mg "things_in" = some (.ref a.things_in)
  taught : Def K "taught" "taught" s_taught ["rules", "known"] a.taught a.taughtD
  taught_mg : mg "taught" = some (.ref a.taught)
  greatest_state : Def K "greatest_state" "greatest_state" s_greatest_state ["rules", "within"] a.greatest_state a.greatest_stateD
  greatest_state_mg : mg "greatest_state" = some (.ref a.greatest_state)
  is_state : Def K "is_state" "is_state" s_is_state ["rules", "known"] a.is_state a.is_stateD
  is_state_mg : mg "is_state" = some (.ref a.is_state)
  things_next : Def K "things_next" "things_next" s_things_next ["rules", "state"] a.things_next a.things_nextD
  things_next_mg : mg "things_next" = some (.ref a.things_next)
  things_last : Def K "things_last" "things_last" s_things_last ["rules", "state"] a.things_last a.things_lastD
  things_last_mg : mg "things_last" = some (.ref a.things_last)
  hull_of : Def K "hull_of" "hull_of" s_hull_of ["rules", "everything", "known"] a.hull_of a.hull_ofD
  hull_of_mg : mg "hull_of" = some (.ref a.hull_of)
  corners_of : Def K "corners_of" "corners_of" s_corners_of ["rules", "everything", "known"] a.corners_of a.corners_ofD
  corners_of_mg : mg "corners_of" = some (.ref a.corners_of)
  rules_needing : Def K "rules_needing" "rules_needing" s_rules_needing ["rules", "thing"] a.rules_needing a.rules_needingD
  rules_needing_mg : mg "rules_needing" = some (.ref a.rules_needing)
  states_behind : Def K "states_behind" "states_behind" s_states_behind ["level", "openers"] a.states_behind a.states_behindD
  states_behind_mg : mg "states_behind" = some (.ref a.states_behind)
  nexts_by_state : Def K "nexts_by_state" "nexts_by_state" s_nexts_by_state ["rules", "amount"] a.nexts_by_state a.nexts_by_stateD
  nexts_by_state_mg : mg "nexts_by_state" = some (.ref a.nexts_by_state)
  ways_by_state : Def K "ways_by_state" "ways_by_state" s_ways_by_state ["nexts"] a.ways_by_state a.ways_by_stateD
  ways_by_state_mg : mg "ways_by_state" = some (.ref a.ways_by_state)
  order_behind : Def K "order_behind" "order_behind" s_order_behind ["nexts", "ways", "before"] a.order_behind a.order_behindD
  order_behind_mg : mg "order_behind" = some (.ref a.order_behind)
  lasts_by_state : Def K "lasts_by_state" "lasts_by_state" s_lasts_by_state ["nexts"] a.lasts_by_state a.lasts_by_stateD
  lasts_by_state_mg : mg "lasts_by_state" = some (.ref a.lasts_by_state)
  paths_by_thing : Def K "paths_by_thing" "paths_by_thing" s_paths_by_thing ["nexts", "amount"] a.paths_by_thing a.paths_by_thingD
  paths_by_thing_mg : mg "paths_by_thing" = some (.ref a.paths_by_thing)
  cheapest : Def K "cheapest" "cheapest" s_cheapest ["choices", "costs", "amount", "before"] a.cheapest a.cheapestD
  cheapest_mg : mg "cheapest" = some (.ref a.cheapest)
  planned_order : Def K "planned_order" "planned_order" s_planned_order ["rules", "amount", "costs"] a.planned_order a.planned_orderD
  planned_order_mg : mg "planned_order" = some (.ref a.planned_order)
  reply_begin : Def K "reply_begin" "reply_begin" s_reply_begin ["learning", "numbers"] a.reply_begin a.reply_beginD
  reply_begin_mg : mg "reply_begin" = some (.ref a.reply_begin)
  reply_things : Def K "reply_things" "reply_things" s_reply_things ["learning", "numbers"] a.reply_things a.reply_thingsD
  reply_things_mg : mg "reply_things" = some (.ref a.reply_things)
  reply_rule : Def K "reply_rule" "reply_rule" s_reply_rule ["learning", "numbers"] a.reply_rule a.reply_ruleD
  reply_rule_mg : mg "reply_rule" = some (.ref a.reply_rule)
  reply_is : Def K "reply_is" "reply_is" s_reply_is ["learning", "numbers"] a.reply_is a.reply_isD
  reply_is_mg : mg "reply_is" = some (.ref a.reply_is)
  reply_most : Def K "reply_most" "reply_most" s_reply_most ["learning", "numbers"] a.reply_most a.reply_mostD
  reply_most_mg : mg "reply_most" = some (.ref a.reply_most)
  state_refusal : Def K "state_refusal" "state_refusal" s_state_refusal ["learning", "known"] a.state_refusal a.state_refusalD
  state_refusal_mg : mg "state_refusal" = some (.ref a.state_refusal)
  reply_next : Def K "reply_next" "reply_next" s_reply_next ["learning", "numbers"] a.reply_next a.reply_nextD
  reply_next_mg : mg "reply_next" = some (.ref a.reply_next)
  reply_last : Def K "reply_last" "reply_last" s_reply_last ["learning", "numbers"] a.reply_last a.reply_lastD
  reply_last_mg : mg "reply_last" = some (.ref a.reply_last)
  first_of : Def K "first_of" "first_of" s_first_of ["told", "most", "limit"] a.first_of a.first_ofD
  first_of_mg : mg "first_of" = some (.ref a.first_of)
  reply_count : Def K "reply_count" "reply_count" s_reply_count ["learning", "numbers"] a.reply_count a.reply_countD
  reply_count_mg : mg "reply_count" = some (.ref a.reply_count)
  reply_orders : Def K "reply_orders" "reply_orders" s_reply_orders ["learning", "numbers"] a.reply_orders a.reply_ordersD
  reply_orders_mg : mg "reply_orders" = some (.ref a.reply_orders)
  reply_order : Def K "reply_order" "reply_order" s_reply_order ["learning", "numbers"] a.reply_order a.reply_orderD
  reply_order_mg : mg "reply_order" = some (.ref a.reply_order)
  reply_paths : Def K "reply_paths" "reply_paths" s_reply_paths ["learning", "numbers"] a.reply_paths a.reply_pathsD
  reply_paths_mg : mg "reply_paths" = some (.ref a.reply_paths)
  reply_hull : Def K "reply_hull" "reply_hull" s_reply_hull ["learning", "numbers"] a.reply_hull a.reply_hullD
  reply_hull_mg : mg "reply_hull" = some (.ref a.reply_hull)
  reply_corners : Def K "reply_corners" "reply_corners" s_reply_corners ["learning", "numbers"] a.reply_corners a.reply_cornersD
  reply_corners_mg : mg "reply_corners" = some (.ref a.reply_corners)
  reply_plan : Def K "reply_plan" "reply_plan" s_reply_plan ["learning", "numbers"] a.reply_plan a.reply_planD
  reply_plan_mg : mg "reply_plan" = some (.ref a.reply_plan)
  reply_to : Def K "reply_to" "reply_to" s_reply_to ["number", "learning", "numbers"] a.reply_to a.reply_toD
  reply_to_mg : mg "reply_to" = some (.ref a.reply_to)
  call_end : Def K "call_end" "call_end" s_call_end ["calls", "at"] a.call_end a.call_endD
  call_end_mg : mg "call_end" = some (.ref a.call_end)
  answers : Def K "answers" "answers" s_answers ["calls"] a.answers a.answersD
  answers_mg : mg "answers" = some (.ref a.answers)
  m_init : Def K "__init__" "Learning.__init__" s_m_init ["self"] a.m_init a.m_initD
  m_restart : Def K "restart" "Learning.restart" s_m_restart ["self", "amount"] a.m_restart a.m_restartD
  m_restart_me : Meth K a.Learning "restart" a.m_restart
  m_add_rule : Def K "add_rule" "Learning.add_rule" s_m_add_rule ["self", "thing", "needed"] a.m_add_rule a.m_add_ruleD
  m_add_rule_me : Meth K a.Learning "add_rule" a.m_add_rule
  m_forget : Def K "forget" "Learning.forget" s_m_forget ["self"] a.m_forget a.m_forgetD
  m_forget_me : Meth K a.Learning "forget" a.m_forget
  m_has_thing : Def K "has_thing" "Learning.has_thing" s_m_has_thing ["self", "thing"] a.m_has_thing a.m_has_thingD
  m_has_thing_me : Meth K a.Learning "has_thing" a.m_has_thing
  m_holds : Def K "holds" "Learning.holds" s_m_holds ["self", "things"] a.m_holds a.m_holdsD
  m_holds_me : Meth K a.Learning "holds" a.m_holds
  m_everything : Def K "everything" "Learning.everything" s_m_everything ["self"] a.m_everything a.m_everythingD
  m_everything_me : Meth K a.Learning "everything" a.m_everything
  m_takes_rule : Def K "takes_rule" "Learning.takes_rule" s_m_takes_rule ["self", "thing", "needed"] a.m_takes_rule a.m_takes_ruleD
  m_takes_rule_me : Meth K a.Learning "takes_rule" a.m_takes_rule
  m_all_nexts : Def K "all_nexts" "Learning.all_nexts" s_m_all_nexts ["self"] a.m_all_nexts a.m_all_nextsD
  m_all_nexts_me : Meth K a.Learning "all_nexts" a.m_all_nexts
  m_all_ways : Def K "all_ways" "Learning.all_ways" s_m_all_ways ["self"] a.m_all_ways a.m_all_waysD
  m_all_ways_me : Meth K a.Learning "all_ways" a.m_all_ways
  m_all_paths : Def K "all_paths" "Learning.all_paths" s_m_all_paths ["self"] a.m_all_paths a.m_all_pathsD
  m_all_paths_me : Meth K a.Learning "all_paths" a.m_all_paths
  Learning_cl : Cls K a.Learning
  Learning_mg : mg "Learning" = some (.ref a.Learning)
  Learning_mk : Mk K a.Learning a.m_init
  no_amount : NoAttr K a.Learning "amount"
  no_nexts : NoAttr K a.Learning "nexts"
  no_paths : NoAttr K a.Learning "paths"
  no_rules : NoAttr K a.Learning "rules"
  no_ways : NoAttr K a.Learning "ways"
  cheapest_code : a.cheapestD.code = .ref a.cheapestC
  cheapest_hd : PySem.W.codeHdIn K a.cheapestC a.cheapestP = true
  cheapest_tab : PySem.W.tabIn K "cheapest" = some (a.cheapestC, a.cheapestP)
  c_MOST_THINGS : ∃ t, mg "MOST_THINGS" = some (.int 16 t)
  c_MOST_RULES : ∃ t, mg "MOST_RULES" = some (.int 256 t)
  c_MOST_SETS : ∃ t, mg "MOST_SETS" = some (.int 65536 t)
  c_PLAN : ∃ t, mg "PLAN" = some (.int 13 t)
  b_len : mg "len" = none
  b_list : mg "list" = none
  b_min : mg "min" = none
  b_range : mg "range" = none
  b_reversed : mg "reversed" = none
  b_sorted : mg "sorted" = none
  b_sum : mg "sum" = none
  REPLIES_mg : mg "REPLIES" = some (.ref a.REPLIES)
  REPLIES_tab : KTab K a.REPLIES [(0, .ref a.reply_begin), (1, .ref a.reply_things), (2, .ref a.reply_rule), (3, .ref a.reply_is), (4, .ref a.reply_most), (5, .ref a.reply_next), (6, .ref a.reply_last), (7, .ref a.reply_count), (8, .ref a.reply_orders), (9, .ref a.reply_order), (10, .ref a.reply_paths), (11, .ref a.reply_hull), (12, .ref a.reply_corners), (13, .ref a.reply_plan)]
  WIDTHS_mg : mg "WIDTHS" = some (.ref a.WIDTHS)
  WIDTHS_tab : KTab K a.WIDTHS [(0, .int 0), (1, .int 1), (2, .int 2), (3, .int 1), (4, .int 1), (5, .int 1), (6, .int 1), (7, .int 0), (8, .int 0), (9, .int 2), (10, .int 2), (11, .int 1), (12, .int 1), (13, .int 2)]
theorem len1 {p : List Value → Prop} {us : List Value} (h : us.length = 1) (k : ∀ x, p [x]) : p us := by
  cases us with
  | nil => cases h
  | cons x l => cases l with
    | nil => exact k x
    | cons y l => exact absurd (Nat.succ.inj h) (Nat.succ_ne_zero _)
theorem len_s {p : List Value → Prop} {n : Nat} {us : List Value} (h : us.length = n + 1) (k : ∀ x l, l.length = n → p (x :: l)) : p us := by
  cases us with
  | nil => cases h
  | cons x l => exact k x l (Nat.succ.inj h)
theorem len2 {p : List Value → Prop} {us : List Value} (h : us.length = 2) (k : ∀ x y, p [x, y]) : p us := len_s h fun x _ h => len1 (p := fun l => p (x :: l)) h (k x)
theorem len3 {p : List Value → Prop} {us : List Value} (h : us.length = 3) (k : ∀ x y z, p [x, y, z]) : p us := len_s h fun x _ h => len2 (p := fun l => p (x :: l)) h (k x)
theorem len4 {p : List Value → Prop} {us : List Value} (h : us.length = 4) (k : ∀ x y z u, p [x, y, z, u]) : p us := len_s h fun x _ h => len3 (p := fun l => p (x :: l)) h (k x)
theorem binds1 {K : PySem.W.Frag} {x qual : Str} {st : Stmt} {f : Addr} {fd : FuncData} {y0 : Str} (F : Fun K x qual st f fd)
    (h : ∀ (kV doc pm : Value) (an : Option Addr) (cdv ct : Value) (u0 : Value), bindArgs (PySem.W.fnOf x qual (defArgs st) (defBody st) (defScope st) .none kV doc pm an cdv ct) ⟨[u0], []⟩ = pure ([(y0, u0)] : List (Str × Value))) : Binds K fd [y0] [] :=
  F.binds fun kV doc pm an cdv ct us hl => len1 (p := fun us => bindArgs (PySem.W.fnOf x qual (defArgs st) (defBody st) (defScope st) .none kV doc pm an cdv ct) ⟨us, []⟩ = pure (List.zip [y0] us)) hl (h kV doc pm an cdv ct)
theorem binds2 {K : PySem.W.Frag} {x qual : Str} {st : Stmt} {f : Addr} {fd : FuncData} {y0 y1 : Str} (F : Fun K x qual st f fd)
    (h : ∀ (kV doc pm : Value) (an : Option Addr) (cdv ct : Value) (u0 u1 : Value), bindArgs (PySem.W.fnOf x qual (defArgs st) (defBody st) (defScope st) .none kV doc pm an cdv ct) ⟨[u0, u1], []⟩ = pure ([(y0, u0), (y1, u1)] : List (Str × Value))) : Binds K fd [y0, y1] [] :=
  F.binds fun kV doc pm an cdv ct us hl => len2 (p := fun us => bindArgs (PySem.W.fnOf x qual (defArgs st) (defBody st) (defScope st) .none kV doc pm an cdv ct) ⟨us, []⟩ = pure (List.zip [y0, y1] us)) hl (h kV doc pm an cdv ct)
theorem binds3 {K : PySem.W.Frag} {x qual : Str} {st : Stmt} {f : Addr} {fd : FuncData} {y0 y1 y2 : Str} (F : Fun K x qual st f fd)
    (h : ∀ (kV doc pm : Value) (an : Option Addr) (cdv ct : Value) (u0 u1 u2 : Value), bindArgs (PySem.W.fnOf x qual (defArgs st) (defBody st) (defScope st) .none kV doc pm an cdv ct) ⟨[u0, u1, u2], []⟩ = pure ([(y0, u0), (y1, u1), (y2, u2)] : List (Str × Value))) : Binds K fd [y0, y1, y2] [] :=
  F.binds fun kV doc pm an cdv ct us hl => len3 (p := fun us => bindArgs (PySem.W.fnOf x qual (defArgs st) (defBody st) (defScope st) .none kV doc pm an cdv ct) ⟨us, []⟩ = pure (List.zip [y0, y1, y2] us)) hl (h kV doc pm an cdv ct)
theorem binds4 {K : PySem.W.Frag} {x qual : Str} {st : Stmt} {f : Addr} {fd : FuncData} {y0 y1 y2 y3 : Str} (F : Fun K x qual st f fd)
    (h : ∀ (kV doc pm : Value) (an : Option Addr) (cdv ct : Value) (u0 u1 u2 u3 : Value), bindArgs (PySem.W.fnOf x qual (defArgs st) (defBody st) (defScope st) .none kV doc pm an cdv ct) ⟨[u0, u1, u2, u3], []⟩ = pure ([(y0, u0), (y1, u1), (y2, u2), (y3, u3)] : List (Str × Value))) : Binds K fd [y0, y1, y2, y3] [] :=
  F.binds fun kV doc pm an cdv ct us hl => len4 (p := fun us => bindArgs (PySem.W.fnOf x qual (defArgs st) (defBody st) (defScope st) .none kV doc pm an cdv ct) ⟨us, []⟩ = pure (List.zip [y0, y1, y2, y3] us)) hl (h kV doc pm an cdv ct)
theorem txt_mk {K : PySem.W.Frag} {h : Heap} {mg : Str → Option Value} (X : K.In h) (G : h.Ns mainGlobals mg)
    {C_Learning : Addr}
    {f_things_in : Addr} {oc_things_in kV_things_in dc_things_in pm_things_in cd_things_in ct_things_in : Value} {od_things_in an_things_in : Option Addr} {sl_things_in : Array (Option Value)}
    {f_taught : Addr} {oc_taught kV_taught dc_taught pm_taught cd_taught ct_taught : Value} {od_taught an_taught : Option Addr} {sl_taught : Array (Option Value)}
    {f_greatest_state : Addr} {oc_greatest_state kV_greatest_state dc_greatest_state pm_greatest_state cd_greatest_state ct_greatest_state : Value} {od_greatest_state an_greatest_state : Option Addr} {sl_greatest_state : Array (Option Value)}
    {f_is_state : Addr} {oc_is_state kV_is_state dc_is_state pm_is_state cd_is_state ct_is_state : Value} {od_is_state an_is_state : Option Addr} {sl_is_state : Array (Option Value)}
    {f_things_next : Addr} {oc_things_next kV_things_next dc_things_next pm_things_next cd_things_next ct_things_next : Value} {od_things_next an_things_next : Option Addr} {sl_things_next : Array (Option Value)}
    {f_things_last : Addr} {oc_things_last kV_things_last dc_things_last pm_things_last cd_things_last ct_things_last : Value} {od_things_last an_things_last : Option Addr} {sl_things_last : Array (Option Value)}
    {f_hull_of : Addr} {oc_hull_of kV_hull_of dc_hull_of pm_hull_of cd_hull_of ct_hull_of : Value} {od_hull_of an_hull_of : Option Addr} {sl_hull_of : Array (Option Value)}
    {f_corners_of : Addr} {oc_corners_of kV_corners_of dc_corners_of pm_corners_of cd_corners_of ct_corners_of : Value} {od_corners_of an_corners_of : Option Addr} {sl_corners_of : Array (Option Value)}
    {f_rules_needing : Addr} {oc_rules_needing kV_rules_needing dc_rules_needing pm_rules_needing cd_rules_needing ct_rules_needing : Value} {od_rules_needing an_rules_needing : Option Addr} {sl_rules_needing : Array (Option Value)}
    {f_states_behind : Addr} {oc_states_behind kV_states_behind dc_states_behind pm_states_behind cd_states_behind ct_states_behind : Value} {od_states_behind an_states_behind : Option Addr} {sl_states_behind : Array (Option Value)}
    {f_nexts_by_state : Addr} {oc_nexts_by_state kV_nexts_by_state dc_nexts_by_state pm_nexts_by_state cd_nexts_by_state ct_nexts_by_state : Value} {od_nexts_by_state an_nexts_by_state : Option Addr} {sl_nexts_by_state : Array (Option Value)}
    {f_ways_by_state : Addr} {oc_ways_by_state kV_ways_by_state dc_ways_by_state pm_ways_by_state cd_ways_by_state ct_ways_by_state : Value} {od_ways_by_state an_ways_by_state : Option Addr} {sl_ways_by_state : Array (Option Value)}
    {f_order_behind : Addr} {oc_order_behind kV_order_behind dc_order_behind pm_order_behind cd_order_behind ct_order_behind : Value} {od_order_behind an_order_behind : Option Addr} {sl_order_behind : Array (Option Value)}
    {f_lasts_by_state : Addr} {oc_lasts_by_state kV_lasts_by_state dc_lasts_by_state pm_lasts_by_state cd_lasts_by_state ct_lasts_by_state : Value} {od_lasts_by_state an_lasts_by_state : Option Addr} {sl_lasts_by_state : Array (Option Value)}
    {f_paths_by_thing : Addr} {oc_paths_by_thing kV_paths_by_thing dc_paths_by_thing pm_paths_by_thing cd_paths_by_thing ct_paths_by_thing : Value} {od_paths_by_thing an_paths_by_thing : Option Addr} {sl_paths_by_thing : Array (Option Value)}
    {f_cheapest : Addr} {oc_cheapest kV_cheapest dc_cheapest pm_cheapest cd_cheapest ct_cheapest : Value} {od_cheapest an_cheapest : Option Addr} {sl_cheapest : Array (Option Value)}
    {f_planned_order : Addr} {oc_planned_order kV_planned_order dc_planned_order pm_planned_order cd_planned_order ct_planned_order : Value} {od_planned_order an_planned_order : Option Addr} {sl_planned_order : Array (Option Value)}
    {f_reply_begin : Addr} {oc_reply_begin kV_reply_begin dc_reply_begin pm_reply_begin cd_reply_begin ct_reply_begin : Value} {od_reply_begin an_reply_begin : Option Addr} {sl_reply_begin : Array (Option Value)}
    {f_reply_things : Addr} {oc_reply_things kV_reply_things dc_reply_things pm_reply_things cd_reply_things ct_reply_things : Value} {od_reply_things an_reply_things : Option Addr} {sl_reply_things : Array (Option Value)}
    {f_reply_rule : Addr} {oc_reply_rule kV_reply_rule dc_reply_rule pm_reply_rule cd_reply_rule ct_reply_rule : Value} {od_reply_rule an_reply_rule : Option Addr} {sl_reply_rule : Array (Option Value)}
    {f_reply_is : Addr} {oc_reply_is kV_reply_is dc_reply_is pm_reply_is cd_reply_is ct_reply_is : Value} {od_reply_is an_reply_is : Option Addr} {sl_reply_is : Array (Option Value)}
    {f_reply_most : Addr} {oc_reply_most kV_reply_most dc_reply_most pm_reply_most cd_reply_most ct_reply_most : Value} {od_reply_most an_reply_most : Option Addr} {sl_reply_most : Array (Option Value)}
    {f_state_refusal : Addr} {oc_state_refusal kV_state_refusal dc_state_refusal pm_state_refusal cd_state_refusal ct_state_refusal : Value} {od_state_refusal an_state_refusal : Option Addr} {sl_state_refusal : Array (Option Value)}
    {f_reply_next : Addr} {oc_reply_next kV_reply_next dc_reply_next pm_reply_next cd_reply_next ct_reply_next : Value} {od_reply_next an_reply_next : Option Addr} {sl_reply_next : Array (Option Value)}
    {f_reply_last : Addr} {oc_reply_last kV_reply_last dc_reply_last pm_reply_last cd_reply_last ct_reply_last : Value} {od_reply_last an_reply_last : Option Addr} {sl_reply_last : Array (Option Value)}
    {f_first_of : Addr} {oc_first_of kV_first_of dc_first_of pm_first_of cd_first_of ct_first_of : Value} {od_first_of an_first_of : Option Addr} {sl_first_of : Array (Option Value)}
    {f_reply_count : Addr} {oc_reply_count kV_reply_count dc_reply_count pm_reply_count cd_reply_count ct_reply_count : Value} {od_reply_count an_reply_count : Option Addr} {sl_reply_count : Array (Option Value)}
    {f_reply_orders : Addr} {oc_reply_orders kV_reply_orders dc_reply_orders pm_reply_orders cd_reply_orders ct_reply_orders : Value} {od_reply_orders an_reply_orders : Option Addr} {sl_reply_orders : Array (Option Value)}
    {f_reply_order : Addr} {oc_reply_order kV_reply_order dc_reply_order pm_reply_order cd_reply_order ct_reply_order : Value} {od_reply_order an_reply_order : Option Addr} {sl_reply_order : Array (Option Value)}
    {f_reply_paths : Addr} {oc_reply_paths kV_reply_paths dc_reply_paths pm_reply_paths cd_reply_paths ct_reply_paths : Value} {od_reply_paths an_reply_paths : Option Addr} {sl_reply_paths : Array (Option Value)}
    {f_reply_hull : Addr} {oc_reply_hull kV_reply_hull dc_reply_hull pm_reply_hull cd_reply_hull ct_reply_hull : Value} {od_reply_hull an_reply_hull : Option Addr} {sl_reply_hull : Array (Option Value)}
    {f_reply_corners : Addr} {oc_reply_corners kV_reply_corners dc_reply_corners pm_reply_corners cd_reply_corners ct_reply_corners : Value} {od_reply_corners an_reply_corners : Option Addr} {sl_reply_corners : Array (Option Value)}
    {f_reply_plan : Addr} {oc_reply_plan kV_reply_plan dc_reply_plan pm_reply_plan cd_reply_plan ct_reply_plan : Value} {od_reply_plan an_reply_plan : Option Addr} {sl_reply_plan : Array (Option Value)}
    {f_reply_to : Addr} {oc_reply_to kV_reply_to dc_reply_to pm_reply_to cd_reply_to ct_reply_to : Value} {od_reply_to an_reply_to : Option Addr} {sl_reply_to : Array (Option Value)}
    {f_call_end : Addr} {oc_call_end kV_call_end dc_call_end pm_call_end cd_call_end ct_call_end : Value} {od_call_end an_call_end : Option Addr} {sl_call_end : Array (Option Value)}
    {f_answers : Addr} {oc_answers kV_answers dc_answers pm_answers cd_answers ct_answers : Value} {od_answers an_answers : Option Addr} {sl_answers : Array (Option Value)}
    {f_m_init : Addr} {oc_m_init kV_m_init dc_m_init pm_m_init cd_m_init ct_m_init : Value} {od_m_init an_m_init : Option Addr} {sl_m_init : Array (Option Value)}
    {f_m_restart : Addr} {oc_m_restart kV_m_restart dc_m_restart pm_m_restart cd_m_restart ct_m_restart : Value} {od_m_restart an_m_restart : Option Addr} {sl_m_restart : Array (Option Value)}
    {f_m_add_rule : Addr} {oc_m_add_rule kV_m_add_rule dc_m_add_rule pm_m_add_rule cd_m_add_rule ct_m_add_rule : Value} {od_m_add_rule an_m_add_rule : Option Addr} {sl_m_add_rule : Array (Option Value)}
    {f_m_forget : Addr} {oc_m_forget kV_m_forget dc_m_forget pm_m_forget cd_m_forget ct_m_forget : Value} {od_m_forget an_m_forget : Option Addr} {sl_m_forget : Array (Option Value)}
    {f_m_has_thing : Addr} {oc_m_has_thing kV_m_has_thing dc_m_has_thing pm_m_has_thing cd_m_has_thing ct_m_has_thing : Value} {od_m_has_thing an_m_has_thing : Option Addr} {sl_m_has_thing : Array (Option Value)}
    {f_m_holds : Addr} {oc_m_holds kV_m_holds dc_m_holds pm_m_holds cd_m_holds ct_m_holds : Value} {od_m_holds an_m_holds : Option Addr} {sl_m_holds : Array (Option Value)}
    {f_m_everything : Addr} {oc_m_everything kV_m_everything dc_m_everything pm_m_everything cd_m_everything ct_m_everything : Value} {od_m_everything an_m_everything : Option Addr} {sl_m_everything : Array (Option Value)}
    {f_m_takes_rule : Addr} {oc_m_takes_rule kV_m_takes_rule dc_m_takes_rule pm_m_takes_rule cd_m_takes_rule ct_m_takes_rule : Value} {od_m_takes_rule an_m_takes_rule : Option Addr} {sl_m_takes_rule : Array (Option Value)}
    {f_m_all_nexts : Addr} {oc_m_all_nexts kV_m_all_nexts dc_m_all_nexts pm_m_all_nexts cd_m_all_nexts ct_m_all_nexts : Value} {od_m_all_nexts an_m_all_nexts : Option Addr} {sl_m_all_nexts : Array (Option Value)}
    {f_m_all_ways : Addr} {oc_m_all_ways kV_m_all_ways dc_m_all_ways pm_m_all_ways cd_m_all_ways ct_m_all_ways : Value} {od_m_all_ways an_m_all_ways : Option Addr} {sl_m_all_ways : Array (Option Value)}
    {f_m_all_paths : Addr} {oc_m_all_paths kV_m_all_paths dc_m_all_paths pm_m_all_paths cd_m_all_paths ct_m_all_paths : Value} {od_m_all_paths an_m_all_paths : Option Addr} {sl_m_all_paths : Array (Option Value)}
    {C_cheapest P_cheapest : Addr} {dc2_cheapest : Option Addr} {vs_cheapest : Array Value} {sl2_cheapest : Array (Option Value)}
    {t_MOST_THINGS : Tok}
    {t_MOST_RULES : Tok}
    {t_MOST_SETS : Tok}
    {t_PLAN : Tok}
    {d_REPLIES : Addr} {ep_REPLIES : Nat}
    {kt_REPLIES_0 : Tok}
    {kt_REPLIES_1 : Tok}
    {kt_REPLIES_2 : Tok}
    {kt_REPLIES_3 : Tok}
    {kt_REPLIES_4 : Tok}
    {kt_REPLIES_5 : Tok}
    {kt_REPLIES_6 : Tok}
    {kt_REPLIES_7 : Tok}
    {kt_REPLIES_8 : Tok}
    {kt_REPLIES_9 : Tok}
    {kt_REPLIES_10 : Tok}
    {kt_REPLIES_11 : Tok}
    {kt_REPLIES_12 : Tok}
    {kt_REPLIES_13 : Tok}
    {d_WIDTHS : Addr} {ep_WIDTHS : Nat}
    {kt_WIDTHS_0 vt_WIDTHS_0 : Tok}
    {kt_WIDTHS_1 vt_WIDTHS_1 : Tok}
    {kt_WIDTHS_2 vt_WIDTHS_2 : Tok}
    {kt_WIDTHS_3 vt_WIDTHS_3 : Tok}
    {kt_WIDTHS_4 vt_WIDTHS_4 : Tok}
    {kt_WIDTHS_5 vt_WIDTHS_5 : Tok}
    {kt_WIDTHS_6 vt_WIDTHS_6 : Tok}
    {kt_WIDTHS_7 vt_WIDTHS_7 : Tok}
    {kt_WIDTHS_8 vt_WIDTHS_8 : Tok}
    {kt_WIDTHS_9 vt_WIDTHS_9 : Tok}
    {kt_WIDTHS_10 vt_WIDTHS_10 : Tok}
    {kt_WIDTHS_11 vt_WIDTHS_11 : Tok}
    {kt_WIDTHS_12 vt_WIDTHS_12 : Tok}
    {kt_WIDTHS_13 vt_WIDTHS_13 : Tok}
    (e_Learning : PySem.W.nsIn K mainGlobals "Learning" = some (some (.ref C_Learning)))
    (a_things_in : PySem.W.nsIn K mainGlobals "things_in" = some (some (.ref f_things_in)))
    (l_things_in : K.lookup f_things_in = some ⟨oc_things_in, od_things_in, .func (PySem.W.fnOf "things_in" "things_in" (defArgs s_things_in) (defBody s_things_in) (defScope s_things_in) .none kV_things_in dc_things_in pm_things_in an_things_in cd_things_in ct_things_in), sl_things_in⟩)
    (c_things_in : PySem.W.codeIn K cd_things_in "things_in" = true)
    (k_things_in : PySem.W.keepIn K (.ref f_things_in) = true)
    (a_taught : PySem.W.nsIn K mainGlobals "taught" = some (some (.ref f_taught)))
    (l_taught : K.lookup f_taught = some ⟨oc_taught, od_taught, .func (PySem.W.fnOf "taught" "taught" (defArgs s_taught) (defBody s_taught) (defScope s_taught) .none kV_taught dc_taught pm_taught an_taught cd_taught ct_taught), sl_taught⟩)
    (c_taught : PySem.W.codeIn K cd_taught "taught" = true)
    (k_taught : PySem.W.keepIn K (.ref f_taught) = true)
    (a_greatest_state : PySem.W.nsIn K mainGlobals "greatest_state" = some (some (.ref f_greatest_state)))
    (l_greatest_state : K.lookup f_greatest_state = some ⟨oc_greatest_state, od_greatest_state, .func (PySem.W.fnOf "greatest_state" "greatest_state" (defArgs s_greatest_state) (defBody s_greatest_state) (defScope s_greatest_state) .none kV_greatest_state dc_greatest_state pm_greatest_state an_greatest_state cd_greatest_state ct_greatest_state), sl_greatest_state⟩)
    (c_greatest_state : PySem.W.codeIn K cd_greatest_state "greatest_state" = true)
    (k_greatest_state : PySem.W.keepIn K (.ref f_greatest_state) = true)
    (a_is_state : PySem.W.nsIn K mainGlobals "is_state" = some (some (.ref f_is_state)))
    (l_is_state : K.lookup f_is_state = some ⟨oc_is_state, od_is_state, .func (PySem.W.fnOf "is_state" "is_state" (defArgs s_is_state) (defBody s_is_state) (defScope s_is_state) .none kV_is_state dc_is_state pm_is_state an_is_state cd_is_state ct_is_state), sl_is_state⟩)
    (c_is_state : PySem.W.codeIn K cd_is_state "is_state" = true)
    (k_is_state : PySem.W.keepIn K (.ref f_is_state) = true)
    (a_things_next : PySem.W.nsIn K mainGlobals "things_next" = some (some (.ref f_things_next)))
    (l_things_next : K.lookup f_things_next = some ⟨oc_things_next, od_things_next, .func (PySem.W.fnOf "things_next" "things_next" (defArgs s_things_next) (defBody s_things_next) (defScope s_things_next) .none kV_things_next dc_things_next pm_things_next an_things_next cd_things_next ct_things_next), sl_things_next⟩)
    (c_things_next : PySem.W.codeIn K cd_things_next "things_next" = true)
    (k_things_next : PySem.W.keepIn K (.ref f_things_next) = true)
    (a_things_last : PySem.W.nsIn K mainGlobals "things_last" = some (some (.ref f_things_last)))
    (l_things_last : K.lookup f_things_last = some ⟨oc_things_last, od_things_last, .func (PySem.W.fnOf "things_last" "things_last" (defArgs s_things_last) (defBody s_things_last) (defScope s_things_last) .none kV_things_last dc_things_last pm_things_last an_things_last cd_things_last ct_things_last), sl_things_last⟩)
    (c_things_last : PySem.W.codeIn K cd_things_last "things_last" = true)
    (k_things_last : PySem.W.keepIn K (.ref f_things_last) = true)
    (a_hull_of : PySem.W.nsIn K mainGlobals "hull_of" = some (some (.ref f_hull_of)))
    (l_hull_of : K.lookup f_hull_of = some ⟨oc_hull_of, od_hull_of, .func (PySem.W.fnOf "hull_of" "hull_of" (defArgs s_hull_of) (defBody s_hull_of) (defScope s_hull_of) .none kV_hull_of dc_hull_of pm_hull_of an_hull_of cd_hull_of ct_hull_of), sl_hull_of⟩)
    (c_hull_of : PySem.W.codeIn K cd_hull_of "hull_of" = true)
    (k_hull_of : PySem.W.keepIn K (.ref f_hull_of) = true)
    (a_corners_of : PySem.W.nsIn K mainGlobals "corners_of" = some (some (.ref f_corners_of)))
    (l_corners_of : K.lookup f_corners_of = some ⟨oc_corners_of, od_corners_of, .func (PySem.W.fnOf "corners_of" "corners_of" (defArgs s_corners_of) (defBody s_corners_of) (defScope s_corners_of) .none kV_corners_of dc_corners_of pm_corners_of an_corners_of cd_corners_of ct_corners_of), sl_corners_of⟩)
    (c_corners_of : PySem.W.codeIn K cd_corners_of "corners_of" = true)
    (k_corners_of : PySem.W.keepIn K (.ref f_corners_of) = true)
    (a_rules_needing : PySem.W.nsIn K mainGlobals "rules_needing" = some (some (.ref f_rules_needing)))
    (l_rules_needing : K.lookup f_rules_needing = some ⟨oc_rules_needing, od_rules_needing, .func (PySem.W.fnOf "rules_needing" "rules_needing" (defArgs s_rules_needing) (defBody s_rules_needing) (defScope s_rules_needing) .none kV_rules_needing dc_rules_needing pm_rules_needing an_rules_needing cd_rules_needing ct_rules_needing), sl_rules_needing⟩)
    (c_rules_needing : PySem.W.codeIn K cd_rules_needing "rules_needing" = true)
    (k_rules_needing : PySem.W.keepIn K (.ref f_rules_needing) = true)
    (a_states_behind : PySem.W.nsIn K mainGlobals "states_behind" = some (some (.ref f_states_behind)))
    (l_states_behind : K.lookup f_states_behind = some ⟨oc_states_behind, od_states_behind, .func (PySem.W.fnOf "states_behind" "states_behind" (defArgs s_states_behind) (defBody s_states_behind) (defScope s_states_behind) .none kV_states_behind dc_states_behind pm_states_behind an_states_behind cd_states_behind ct_states_behind), sl_states_behind⟩)
    (c_states_behind : PySem.W.codeIn K cd_states_behind "states_behind" = true)
    (k_states_behind : PySem.W.keepIn K (.ref f_states_behind) = true)
    (a_nexts_by_state : PySem.W.nsIn K mainGlobals "nexts_by_state" = some (some (.ref f_nexts_by_state)))
    (l_nexts_by_state : K.lookup f_nexts_by_state = some ⟨oc_nexts_by_state, od_nexts_by_state, .func (PySem.W.fnOf "nexts_by_state" "nexts_by_state" (defArgs s_nexts_by_state) (defBody s_nexts_by_state) (defScope s_nexts_by_state) .none kV_nexts_by_state dc_nexts_by_state pm_nexts_by_state an_nexts_by_state cd_nexts_by_state ct_nexts_by_state), sl_nexts_by_state⟩)
    (c_nexts_by_state : PySem.W.codeIn K cd_nexts_by_state "nexts_by_state" = true)
    (k_nexts_by_state : PySem.W.keepIn K (.ref f_nexts_by_state) = true)
    (a_ways_by_state : PySem.W.nsIn K mainGlobals "ways_by_state" = some (some (.ref f_ways_by_state)))
    (l_ways_by_state : K.lookup f_ways_by_state = some ⟨oc_ways_by_state, od_ways_by_state, .func (PySem.W.fnOf "ways_by_state" "ways_by_state" (defArgs s_ways_by_state) (defBody s_ways_by_state) (defScope s_ways_by_state) .none kV_ways_by_state dc_ways_by_state pm_ways_by_state an_ways_by_state cd_ways_by_state ct_ways_by_state), sl_ways_by_state⟩)
    (c_ways_by_state : PySem.W.codeIn K cd_ways_by_state "ways_by_state" = true)
    (k_ways_by_state : PySem.W.keepIn K (.ref f_ways_by_state) = true)
    (a_order_behind : PySem.W.nsIn K mainGlobals "order_behind" = some (some (.ref f_order_behind)))
    (l_order_behind : K.lookup f_order_behind = some ⟨oc_order_behind, od_order_behind, .func (PySem.W.fnOf "order_behind" "order_behind" (defArgs s_order_behind) (defBody s_order_behind) (defScope s_order_behind) .none kV_order_behind dc_order_behind pm_order_behind an_order_behind cd_order_behind ct_order_behind), sl_order_behind⟩)
    (c_order_behind : PySem.W.codeIn K cd_order_behind "order_behind" = true)
    (k_order_behind : PySem.W.keepIn K (.ref f_order_behind) = true)
    (a_lasts_by_state : PySem.W.nsIn K mainGlobals "lasts_by_state" = some (some (.ref f_lasts_by_state)))
    (l_lasts_by_state : K.lookup f_lasts_by_state = some ⟨oc_lasts_by_state, od_lasts_by_state, .func (PySem.W.fnOf "lasts_by_state" "lasts_by_state" (defArgs s_lasts_by_state) (defBody s_lasts_by_state) (defScope s_lasts_by_state) .none kV_lasts_by_state dc_lasts_by_state pm_lasts_by_state an_lasts_by_state cd_lasts_by_state ct_lasts_by_state), sl_lasts_by_state⟩)
    (c_lasts_by_state : PySem.W.codeIn K cd_lasts_by_state "lasts_by_state" = true)
    (k_lasts_by_state : PySem.W.keepIn K (.ref f_lasts_by_state) = true)
    (a_paths_by_thing : PySem.W.nsIn K mainGlobals "paths_by_thing" = some (some (.ref f_paths_by_thing)))
    (l_paths_by_thing : K.lookup f_paths_by_thing = some ⟨oc_paths_by_thing, od_paths_by_thing, .func (PySem.W.fnOf "paths_by_thing" "paths_by_thing" (defArgs s_paths_by_thing) (defBody s_paths_by_thing) (defScope s_paths_by_thing) .none kV_paths_by_thing dc_paths_by_thing pm_paths_by_thing an_paths_by_thing cd_paths_by_thing ct_paths_by_thing), sl_paths_by_thing⟩)
    (c_paths_by_thing : PySem.W.codeIn K cd_paths_by_thing "paths_by_thing" = true)
    (k_paths_by_thing : PySem.W.keepIn K (.ref f_paths_by_thing) = true)
    (a_cheapest : PySem.W.nsIn K mainGlobals "cheapest" = some (some (.ref f_cheapest)))
    (l_cheapest : K.lookup f_cheapest = some ⟨oc_cheapest, od_cheapest, .func (PySem.W.fnOf "cheapest" "cheapest" (defArgs s_cheapest) (defBody s_cheapest) (defScope s_cheapest) .none kV_cheapest dc_cheapest pm_cheapest an_cheapest cd_cheapest ct_cheapest), sl_cheapest⟩)
    (c_cheapest : PySem.W.codeIn K cd_cheapest "cheapest" = true)
    (k_cheapest : PySem.W.keepIn K (.ref f_cheapest) = true)
    (a_planned_order : PySem.W.nsIn K mainGlobals "planned_order" = some (some (.ref f_planned_order)))
    (l_planned_order : K.lookup f_planned_order = some ⟨oc_planned_order, od_planned_order, .func (PySem.W.fnOf "planned_order" "planned_order" (defArgs s_planned_order) (defBody s_planned_order) (defScope s_planned_order) .none kV_planned_order dc_planned_order pm_planned_order an_planned_order cd_planned_order ct_planned_order), sl_planned_order⟩)
    (c_planned_order : PySem.W.codeIn K cd_planned_order "planned_order" = true)
    (k_planned_order : PySem.W.keepIn K (.ref f_planned_order) = true)
    (a_reply_begin : PySem.W.nsIn K mainGlobals "reply_begin" = some (some (.ref f_reply_begin)))
    (l_reply_begin : K.lookup f_reply_begin = some ⟨oc_reply_begin, od_reply_begin, .func (PySem.W.fnOf "reply_begin" "reply_begin" (defArgs s_reply_begin) (defBody s_reply_begin) (defScope s_reply_begin) .none kV_reply_begin dc_reply_begin pm_reply_begin an_reply_begin cd_reply_begin ct_reply_begin), sl_reply_begin⟩)
    (c_reply_begin : PySem.W.codeIn K cd_reply_begin "reply_begin" = true)
    (k_reply_begin : PySem.W.keepIn K (.ref f_reply_begin) = true)
    (a_reply_things : PySem.W.nsIn K mainGlobals "reply_things" = some (some (.ref f_reply_things)))
    (l_reply_things : K.lookup f_reply_things = some ⟨oc_reply_things, od_reply_things, .func (PySem.W.fnOf "reply_things" "reply_things" (defArgs s_reply_things) (defBody s_reply_things) (defScope s_reply_things) .none kV_reply_things dc_reply_things pm_reply_things an_reply_things cd_reply_things ct_reply_things), sl_reply_things⟩)
    (c_reply_things : PySem.W.codeIn K cd_reply_things "reply_things" = true)
    (k_reply_things : PySem.W.keepIn K (.ref f_reply_things) = true)
    (a_reply_rule : PySem.W.nsIn K mainGlobals "reply_rule" = some (some (.ref f_reply_rule)))
    (l_reply_rule : K.lookup f_reply_rule = some ⟨oc_reply_rule, od_reply_rule, .func (PySem.W.fnOf "reply_rule" "reply_rule" (defArgs s_reply_rule) (defBody s_reply_rule) (defScope s_reply_rule) .none kV_reply_rule dc_reply_rule pm_reply_rule an_reply_rule cd_reply_rule ct_reply_rule), sl_reply_rule⟩)
    (c_reply_rule : PySem.W.codeIn K cd_reply_rule "reply_rule" = true)
    (k_reply_rule : PySem.W.keepIn K (.ref f_reply_rule) = true)
    (a_reply_is : PySem.W.nsIn K mainGlobals "reply_is" = some (some (.ref f_reply_is)))
    (l_reply_is : K.lookup f_reply_is = some ⟨oc_reply_is, od_reply_is, .func (PySem.W.fnOf "reply_is" "reply_is" (defArgs s_reply_is) (defBody s_reply_is) (defScope s_reply_is) .none kV_reply_is dc_reply_is pm_reply_is an_reply_is cd_reply_is ct_reply_is), sl_reply_is⟩)
    (c_reply_is : PySem.W.codeIn K cd_reply_is "reply_is" = true)
    (k_reply_is : PySem.W.keepIn K (.ref f_reply_is) = true)
    (a_reply_most : PySem.W.nsIn K mainGlobals "reply_most" = some (some (.ref f_reply_most)))
    (l_reply_most : K.lookup f_reply_most = some ⟨oc_reply_most, od_reply_most, .func (PySem.W.fnOf "reply_most" "reply_most" (defArgs s_reply_most) (defBody s_reply_most) (defScope s_reply_most) .none kV_reply_most dc_reply_most pm_reply_most an_reply_most cd_reply_most ct_reply_most), sl_reply_most⟩)
    (c_reply_most : PySem.W.codeIn K cd_reply_most "reply_most" = true)
    (k_reply_most : PySem.W.keepIn K (.ref f_reply_most) = true)
    (a_state_refusal : PySem.W.nsIn K mainGlobals "state_refusal" = some (some (.ref f_state_refusal)))
    (l_state_refusal : K.lookup f_state_refusal = some ⟨oc_state_refusal, od_state_refusal, .func (PySem.W.fnOf "state_refusal" "state_refusal" (defArgs s_state_refusal) (defBody s_state_refusal) (defScope s_state_refusal) .none kV_state_refusal dc_state_refusal pm_state_refusal an_state_refusal cd_state_refusal ct_state_refusal), sl_state_refusal⟩)
    (c_state_refusal : PySem.W.codeIn K cd_state_refusal "state_refusal" = true)
    (k_state_refusal : PySem.W.keepIn K (.ref f_state_refusal) = true)
    (a_reply_next : PySem.W.nsIn K mainGlobals "reply_next" = some (some (.ref f_reply_next)))
    (l_reply_next : K.lookup f_reply_next = some ⟨oc_reply_next, od_reply_next, .func (PySem.W.fnOf "reply_next" "reply_next" (defArgs s_reply_next) (defBody s_reply_next) (defScope s_reply_next) .none kV_reply_next dc_reply_next pm_reply_next an_reply_next cd_reply_next ct_reply_next), sl_reply_next⟩)
    (c_reply_next : PySem.W.codeIn K cd_reply_next "reply_next" = true)
    (k_reply_next : PySem.W.keepIn K (.ref f_reply_next) = true)
    (a_reply_last : PySem.W.nsIn K mainGlobals "reply_last" = some (some (.ref f_reply_last)))
    (l_reply_last : K.lookup f_reply_last = some ⟨oc_reply_last, od_reply_last, .func (PySem.W.fnOf "reply_last" "reply_last" (defArgs s_reply_last) (defBody s_reply_last) (defScope s_reply_last) .none kV_reply_last dc_reply_last pm_reply_last an_reply_last cd_reply_last ct_reply_last), sl_reply_last⟩)
    (c_reply_last : PySem.W.codeIn K cd_reply_last "reply_last" = true)
    (k_reply_last : PySem.W.keepIn K (.ref f_reply_last) = true)
    (a_first_of : PySem.W.nsIn K mainGlobals "first_of" = some (some (.ref f_first_of)))
    (l_first_of : K.lookup f_first_of = some ⟨oc_first_of, od_first_of, .func (PySem.W.fnOf "first_of" "first_of" (defArgs s_first_of) (defBody s_first_of) (defScope s_first_of) .none kV_first_of dc_first_of pm_first_of an_first_of cd_first_of ct_first_of), sl_first_of⟩)
    (c_first_of : PySem.W.codeIn K cd_first_of "first_of" = true)
    (k_first_of : PySem.W.keepIn K (.ref f_first_of) = true)
    (a_reply_count : PySem.W.nsIn K mainGlobals "reply_count" = some (some (.ref f_reply_count)))
    (l_reply_count : K.lookup f_reply_count = some ⟨oc_reply_count, od_reply_count, .func (PySem.W.fnOf "reply_count" "reply_count" (defArgs s_reply_count) (defBody s_reply_count) (defScope s_reply_count) .none kV_reply_count dc_reply_count pm_reply_count an_reply_count cd_reply_count ct_reply_count), sl_reply_count⟩)
    (c_reply_count : PySem.W.codeIn K cd_reply_count "reply_count" = true)
    (k_reply_count : PySem.W.keepIn K (.ref f_reply_count) = true)
    (a_reply_orders : PySem.W.nsIn K mainGlobals "reply_orders" = some (some (.ref f_reply_orders)))
    (l_reply_orders : K.lookup f_reply_orders = some ⟨oc_reply_orders, od_reply_orders, .func (PySem.W.fnOf "reply_orders" "reply_orders" (defArgs s_reply_orders) (defBody s_reply_orders) (defScope s_reply_orders) .none kV_reply_orders dc_reply_orders pm_reply_orders an_reply_orders cd_reply_orders ct_reply_orders), sl_reply_orders⟩)
    (c_reply_orders : PySem.W.codeIn K cd_reply_orders "reply_orders" = true)
    (k_reply_orders : PySem.W.keepIn K (.ref f_reply_orders) = true)
    (a_reply_order : PySem.W.nsIn K mainGlobals "reply_order" = some (some (.ref f_reply_order)))
    (l_reply_order : K.lookup f_reply_order = some ⟨oc_reply_order, od_reply_order, .func (PySem.W.fnOf "reply_order" "reply_order" (defArgs s_reply_order) (defBody s_reply_order) (defScope s_reply_order) .none kV_reply_order dc_reply_order pm_reply_order an_reply_order cd_reply_order ct_reply_order), sl_reply_order⟩)
    (c_reply_order : PySem.W.codeIn K cd_reply_order "reply_order" = true)
    (k_reply_order : PySem.W.keepIn K (.ref f_reply_order) = true)
    (a_reply_paths : PySem.W.nsIn K mainGlobals "reply_paths" = some (some (.ref f_reply_paths)))
    (l_reply_paths : K.lookup f_reply_paths = some ⟨oc_reply_paths, od_reply_paths, .func (PySem.W.fnOf "reply_paths" "reply_paths" (defArgs s_reply_paths) (defBody s_reply_paths) (defScope s_reply_paths) .none kV_reply_paths dc_reply_paths pm_reply_paths an_reply_paths cd_reply_paths ct_reply_paths), sl_reply_paths⟩)
    (c_reply_paths : PySem.W.codeIn K cd_reply_paths "reply_paths" = true)
    (k_reply_paths : PySem.W.keepIn K (.ref f_reply_paths) = true)
    (a_reply_hull : PySem.W.nsIn K mainGlobals "reply_hull" = some (some (.ref f_reply_hull)))
    (l_reply_hull : K.lookup f_reply_hull = some ⟨oc_reply_hull, od_reply_hull, .func (PySem.W.fnOf "reply_hull" "reply_hull" (defArgs s_reply_hull) (defBody s_reply_hull) (defScope s_reply_hull) .none kV_reply_hull dc_reply_hull pm_reply_hull an_reply_hull cd_reply_hull ct_reply_hull), sl_reply_hull⟩)
    (c_reply_hull : PySem.W.codeIn K cd_reply_hull "reply_hull" = true)
    (k_reply_hull : PySem.W.keepIn K (.ref f_reply_hull) = true)
    (a_reply_corners : PySem.W.nsIn K mainGlobals "reply_corners" = some (some (.ref f_reply_corners)))
    (l_reply_corners : K.lookup f_reply_corners = some ⟨oc_reply_corners, od_reply_corners, .func (PySem.W.fnOf "reply_corners" "reply_corners" (defArgs s_reply_corners) (defBody s_reply_corners) (defScope s_reply_corners) .none kV_reply_corners dc_reply_corners pm_reply_corners an_reply_corners cd_reply_corners ct_reply_corners), sl_reply_corners⟩)
    (c_reply_corners : PySem.W.codeIn K cd_reply_corners "reply_corners" = true)
    (k_reply_corners : PySem.W.keepIn K (.ref f_reply_corners) = true)
    (a_reply_plan : PySem.W.nsIn K mainGlobals "reply_plan" = some (some (.ref f_reply_plan)))
    (l_reply_plan : K.lookup f_reply_plan = some ⟨oc_reply_plan, od_reply_plan, .func (PySem.W.fnOf "reply_plan" "reply_plan" (defArgs s_reply_plan) (defBody s_reply_plan) (defScope s_reply_plan) .none kV_reply_plan dc_reply_plan pm_reply_plan an_reply_plan cd_reply_plan ct_reply_plan), sl_reply_plan⟩)
    (c_reply_plan : PySem.W.codeIn K cd_reply_plan "reply_plan" = true)
    (k_reply_plan : PySem.W.keepIn K (.ref f_reply_plan) = true)
    (a_reply_to : PySem.W.nsIn K mainGlobals "reply_to" = some (some (.ref f_reply_to)))
    (l_reply_to : K.lookup f_reply_to = some ⟨oc_reply_to, od_reply_to, .func (PySem.W.fnOf "reply_to" "reply_to" (defArgs s_reply_to) (defBody s_reply_to) (defScope s_reply_to) .none kV_reply_to dc_reply_to pm_reply_to an_reply_to cd_reply_to ct_reply_to), sl_reply_to⟩)
    (c_reply_to : PySem.W.codeIn K cd_reply_to "reply_to" = true)
    (k_reply_to : PySem.W.keepIn K (.ref f_reply_to) = true)
    (a_call_end : PySem.W.nsIn K mainGlobals "call_end" = some (some (.ref f_call_end)))
    (l_call_end : K.lookup f_call_end = some ⟨oc_call_end, od_call_end, .func (PySem.W.fnOf "call_end" "call_end" (defArgs s_call_end) (defBody s_call_end) (defScope s_call_end) .none kV_call_end dc_call_end pm_call_end an_call_end cd_call_end ct_call_end), sl_call_end⟩)
    (c_call_end : PySem.W.codeIn K cd_call_end "call_end" = true)
    (k_call_end : PySem.W.keepIn K (.ref f_call_end) = true)
    (a_answers : PySem.W.nsIn K mainGlobals "answers" = some (some (.ref f_answers)))
    (l_answers : K.lookup f_answers = some ⟨oc_answers, od_answers, .func (PySem.W.fnOf "answers" "answers" (defArgs s_answers) (defBody s_answers) (defScope s_answers) .none kV_answers dc_answers pm_answers an_answers cd_answers ct_answers), sl_answers⟩)
    (c_answers : PySem.W.codeIn K cd_answers "answers" = true)
    (k_answers : PySem.W.keepIn K (.ref f_answers) = true)
    (a_m_init : PySem.W.findIn K (.ref C_Learning) "__init__" = some (some (.ref f_m_init)))
    (i_m_init : PySem.W.isFn K (.ref f_m_init) = true)
    (l_m_init : K.lookup f_m_init = some ⟨oc_m_init, od_m_init, .func (PySem.W.fnOf "__init__" "Learning.__init__" (defArgs s_m_init) (defBody s_m_init) (defScope s_m_init) .none kV_m_init dc_m_init pm_m_init an_m_init cd_m_init ct_m_init), sl_m_init⟩)
    (c_m_init : PySem.W.codeIn K cd_m_init "Learning.__init__" = true)
    (k_m_init : PySem.W.keepIn K (.ref f_m_init) = true)
    (a_m_restart : PySem.W.findIn K (.ref C_Learning) "restart" = some (some (.ref f_m_restart)))
    (i_m_restart : PySem.W.isFn K (.ref f_m_restart) = true)
    (l_m_restart : K.lookup f_m_restart = some ⟨oc_m_restart, od_m_restart, .func (PySem.W.fnOf "restart" "Learning.restart" (defArgs s_m_restart) (defBody s_m_restart) (defScope s_m_restart) .none kV_m_restart dc_m_restart pm_m_restart an_m_restart cd_m_restart ct_m_restart), sl_m_restart⟩)
    (c_m_restart : PySem.W.codeIn K cd_m_restart "Learning.restart" = true)
    (k_m_restart : PySem.W.keepIn K (.ref f_m_restart) = true)
    (a_m_add_rule : PySem.W.findIn K (.ref C_Learning) "add_rule" = some (some (.ref f_m_add_rule)))
    (i_m_add_rule : PySem.W.isFn K (.ref f_m_add_rule) = true)
    (l_m_add_rule : K.lookup f_m_add_rule = some ⟨oc_m_add_rule, od_m_add_rule, .func (PySem.W.fnOf "add_rule" "Learning.add_rule" (defArgs s_m_add_rule) (defBody s_m_add_rule) (defScope s_m_add_rule) .none kV_m_add_rule dc_m_add_rule pm_m_add_rule an_m_add_rule cd_m_add_rule ct_m_add_rule), sl_m_add_rule⟩)
    (c_m_add_rule : PySem.W.codeIn K cd_m_add_rule "Learning.add_rule" = true)
    (k_m_add_rule : PySem.W.keepIn K (.ref f_m_add_rule) = true)
    (a_m_forget : PySem.W.findIn K (.ref C_Learning) "forget" = some (some (.ref f_m_forget)))
    (i_m_forget : PySem.W.isFn K (.ref f_m_forget) = true)
    (l_m_forget : K.lookup f_m_forget = some ⟨oc_m_forget, od_m_forget, .func (PySem.W.fnOf "forget" "Learning.forget" (defArgs s_m_forget) (defBody s_m_forget) (defScope s_m_forget) .none kV_m_forget dc_m_forget pm_m_forget an_m_forget cd_m_forget ct_m_forget), sl_m_forget⟩)
    (c_m_forget : PySem.W.codeIn K cd_m_forget "Learning.forget" = true)
    (k_m_forget : PySem.W.keepIn K (.ref f_m_forget) = true)
    (a_m_has_thing : PySem.W.findIn K (.ref C_Learning) "has_thing" = some (some (.ref f_m_has_thing)))
    (i_m_has_thing : PySem.W.isFn K (.ref f_m_has_thing) = true)
    (l_m_has_thing : K.lookup f_m_has_thing = some ⟨oc_m_has_thing, od_m_has_thing, .func (PySem.W.fnOf "has_thing" "Learning.has_thing" (defArgs s_m_has_thing) (defBody s_m_has_thing) (defScope s_m_has_thing) .none kV_m_has_thing dc_m_has_thing pm_m_has_thing an_m_has_thing cd_m_has_thing ct_m_has_thing), sl_m_has_thing⟩)
    (c_m_has_thing : PySem.W.codeIn K cd_m_has_thing "Learning.has_thing" = true)
    (k_m_has_thing : PySem.W.keepIn K (.ref f_m_has_thing) = true)
    (a_m_holds : PySem.W.findIn K (.ref C_Learning) "holds" = some (some (.ref f_m_holds)))
    (i_m_holds : PySem.W.isFn K (.ref f_m_holds) = true)
    (l_m_holds : K.lookup f_m_holds = some ⟨oc_m_holds, od_m_holds, .func (PySem.W.fnOf "holds" "Learning.holds" (defArgs s_m_holds) (defBody s_m_holds) (defScope s_m_holds) .none kV_m_holds dc_m_holds pm_m_holds an_m_holds cd_m_holds ct_m_holds), sl_m_holds⟩)
    (c_m_holds : PySem.W.codeIn K cd_m_holds "Learning.holds" = true)
    (k_m_holds : PySem.W.keepIn K (.ref f_m_holds) = true)
    (a_m_everything : PySem.W.findIn K (.ref C_Learning) "everything" = some (some (.ref f_m_everything)))
    (i_m_everything : PySem.W.isFn K (.ref f_m_everything) = true)
    (l_m_everything : K.lookup f_m_everything = some ⟨oc_m_everything, od_m_everything, .func (PySem.W.fnOf "everything" "Learning.everything" (defArgs s_m_everything) (defBody s_m_everything) (defScope s_m_everything) .none kV_m_everything dc_m_everything pm_m_everything an_m_everything cd_m_everything ct_m_everything), sl_m_everything⟩)
    (c_m_everything : PySem.W.codeIn K cd_m_everything "Learning.everything" = true)
    (k_m_everything : PySem.W.keepIn K (.ref f_m_everything) = true)
    (a_m_takes_rule : PySem.W.findIn K (.ref C_Learning) "takes_rule" = some (some (.ref f_m_takes_rule)))
    (i_m_takes_rule : PySem.W.isFn K (.ref f_m_takes_rule) = true)
    (l_m_takes_rule : K.lookup f_m_takes_rule = some ⟨oc_m_takes_rule, od_m_takes_rule, .func (PySem.W.fnOf "takes_rule" "Learning.takes_rule" (defArgs s_m_takes_rule) (defBody s_m_takes_rule) (defScope s_m_takes_rule) .none kV_m_takes_rule dc_m_takes_rule pm_m_takes_rule an_m_takes_rule cd_m_takes_rule ct_m_takes_rule), sl_m_takes_rule⟩)
    (c_m_takes_rule : PySem.W.codeIn K cd_m_takes_rule "Learning.takes_rule" = true)
    (k_m_takes_rule : PySem.W.keepIn K (.ref f_m_takes_rule) = true)
    (a_m_all_nexts : PySem.W.findIn K (.ref C_Learning) "all_nexts" = some (some (.ref f_m_all_nexts)))
    (i_m_all_nexts : PySem.W.isFn K (.ref f_m_all_nexts) = true)
    (l_m_all_nexts : K.lookup f_m_all_nexts = some ⟨oc_m_all_nexts, od_m_all_nexts, .func (PySem.W.fnOf "all_nexts" "Learning.all_nexts" (defArgs s_m_all_nexts) (defBody s_m_all_nexts) (defScope s_m_all_nexts) .none kV_m_all_nexts dc_m_all_nexts pm_m_all_nexts an_m_all_nexts cd_m_all_nexts ct_m_all_nexts), sl_m_all_nexts⟩)
    (c_m_all_nexts : PySem.W.codeIn K cd_m_all_nexts "Learning.all_nexts" = true)
    (k_m_all_nexts : PySem.W.keepIn K (.ref f_m_all_nexts) = true)
    (a_m_all_ways : PySem.W.findIn K (.ref C_Learning) "all_ways" = some (some (.ref f_m_all_ways)))
    (i_m_all_ways : PySem.W.isFn K (.ref f_m_all_ways) = true)
    (l_m_all_ways : K.lookup f_m_all_ways = some ⟨oc_m_all_ways, od_m_all_ways, .func (PySem.W.fnOf "all_ways" "Learning.all_ways" (defArgs s_m_all_ways) (defBody s_m_all_ways) (defScope s_m_all_ways) .none kV_m_all_ways dc_m_all_ways pm_m_all_ways an_m_all_ways cd_m_all_ways ct_m_all_ways), sl_m_all_ways⟩)
    (c_m_all_ways : PySem.W.codeIn K cd_m_all_ways "Learning.all_ways" = true)
    (k_m_all_ways : PySem.W.keepIn K (.ref f_m_all_ways) = true)
    (a_m_all_paths : PySem.W.findIn K (.ref C_Learning) "all_paths" = some (some (.ref f_m_all_paths)))
    (i_m_all_paths : PySem.W.isFn K (.ref f_m_all_paths) = true)
    (l_m_all_paths : K.lookup f_m_all_paths = some ⟨oc_m_all_paths, od_m_all_paths, .func (PySem.W.fnOf "all_paths" "Learning.all_paths" (defArgs s_m_all_paths) (defBody s_m_all_paths) (defScope s_m_all_paths) .none kV_m_all_paths dc_m_all_paths pm_m_all_paths an_m_all_paths cd_m_all_paths ct_m_all_paths), sl_m_all_paths⟩)
    (c_m_all_paths : PySem.W.codeIn K cd_m_all_paths "Learning.all_paths" = true)
    (k_m_all_paths : PySem.W.keepIn K (.ref f_m_all_paths) = true)
    (pg : PySem.W.plainGet K C_Learning Str.empty = true)
    (hd : PySem.W.hasDictIn K C_Learning = true)
    (po : PySem.W.plainOver K C_Learning = true)
    (sa : PySem.W.findIn K (.ref C_Learning) "__setattr__" = some (some (.builtin "object.__setattr__")))
    (mk : PySem.W.makesIn K C_Learning = true)
    (kc : PySem.W.keepIn K (.ref C_Learning) = true)
    (n_amount : PySem.W.findIn K (.ref C_Learning) "amount" = some none)
    (n_nexts : PySem.W.findIn K (.ref C_Learning) "nexts" = some none)
    (n_paths : PySem.W.findIn K (.ref C_Learning) "paths" = some none)
    (n_rules : PySem.W.findIn K (.ref C_Learning) "rules" = some none)
    (n_ways : PySem.W.findIn K (.ref C_Learning) "ways" = some none)
    (cc_cheapest : cd_cheapest = .ref C_cheapest)
    (lc_cheapest : K.lookup C_cheapest = some ⟨.type "code", dc2_cheapest, .fields vs_cheapest, sl2_cheapest⟩)
    (cp_cheapest : codeTab C_cheapest vs_cheapest = some P_cheapest)
    (g_MOST_THINGS : PySem.W.nsIn K mainGlobals "MOST_THINGS" = some (some (.int 16 t_MOST_THINGS)))
    (g_MOST_RULES : PySem.W.nsIn K mainGlobals "MOST_RULES" = some (some (.int 256 t_MOST_RULES)))
    (g_MOST_SETS : PySem.W.nsIn K mainGlobals "MOST_SETS" = some (some (.int 65536 t_MOST_SETS)))
    (g_PLAN : PySem.W.nsIn K mainGlobals "PLAN" = some (some (.int 13 t_PLAN)))
    (z_len : PySem.W.nsIn K mainGlobals "len" = some none)
    (z_list : PySem.W.nsIn K mainGlobals "list" = some none)
    (z_min : PySem.W.nsIn K mainGlobals "min" = some none)
    (z_range : PySem.W.nsIn K mainGlobals "range" = some none)
    (z_reversed : PySem.W.nsIn K mainGlobals "reversed" = some none)
    (z_sorted : PySem.W.nsIn K mainGlobals "sorted" = some none)
    (z_sum : PySem.W.nsIn K mainGlobals "sum" = some none)
    (g_REPLIES : PySem.W.nsIn K mainGlobals "REPLIES" = some (some (.ref d_REPLIES)))
    (d_REPLIES_ : K.lookup d_REPLIES = some ⟨.type "dict", none, .dict #[⟨0, Value.int 0 kt_REPLIES_0, Value.ref f_reply_begin⟩, ⟨1, Value.int 1 kt_REPLIES_1, Value.ref f_reply_things⟩, ⟨2, Value.int 2 kt_REPLIES_2, Value.ref f_reply_rule⟩, ⟨3, Value.int 3 kt_REPLIES_3, Value.ref f_reply_is⟩, ⟨4, Value.int 4 kt_REPLIES_4, Value.ref f_reply_most⟩, ⟨5, Value.int 5 kt_REPLIES_5, Value.ref f_reply_next⟩, ⟨6, Value.int 6 kt_REPLIES_6, Value.ref f_reply_last⟩, ⟨7, Value.int 7 kt_REPLIES_7, Value.ref f_reply_count⟩, ⟨8, Value.int 8 kt_REPLIES_8, Value.ref f_reply_orders⟩, ⟨9, Value.int 9 kt_REPLIES_9, Value.ref f_reply_order⟩, ⟨10, Value.int 10 kt_REPLIES_10, Value.ref f_reply_paths⟩, ⟨11, Value.int 11 kt_REPLIES_11, Value.ref f_reply_hull⟩, ⟨12, Value.int 12 kt_REPLIES_12, Value.ref f_reply_corners⟩, ⟨13, Value.int 13 kt_REPLIES_13, Value.ref f_reply_plan⟩] ep_REPLIES, #[]⟩)
    (g_WIDTHS : PySem.W.nsIn K mainGlobals "WIDTHS" = some (some (.ref d_WIDTHS)))
    (d_WIDTHS_ : K.lookup d_WIDTHS = some ⟨.type "dict", none, .dict #[⟨0, Value.int 0 kt_WIDTHS_0, Value.int 0 vt_WIDTHS_0⟩, ⟨1, Value.int 1 kt_WIDTHS_1, Value.int 1 vt_WIDTHS_1⟩, ⟨2, Value.int 2 kt_WIDTHS_2, Value.int 2 vt_WIDTHS_2⟩, ⟨3, Value.int 3 kt_WIDTHS_3, Value.int 1 vt_WIDTHS_3⟩, ⟨4, Value.int 4 kt_WIDTHS_4, Value.int 1 vt_WIDTHS_4⟩, ⟨5, Value.int 5 kt_WIDTHS_5, Value.int 1 vt_WIDTHS_5⟩, ⟨6, Value.int 6 kt_WIDTHS_6, Value.int 1 vt_WIDTHS_6⟩, ⟨7, Value.int 7 kt_WIDTHS_7, Value.int 0 vt_WIDTHS_7⟩, ⟨8, Value.int 8 kt_WIDTHS_8, Value.int 0 vt_WIDTHS_8⟩, ⟨9, Value.int 9 kt_WIDTHS_9, Value.int 2 vt_WIDTHS_9⟩, ⟨10, Value.int 10 kt_WIDTHS_10, Value.int 2 vt_WIDTHS_10⟩, ⟨11, Value.int 11 kt_WIDTHS_11, Value.int 1 vt_WIDTHS_11⟩, ⟨12, Value.int 12 kt_WIDTHS_12, Value.int 1 vt_WIDTHS_12⟩, ⟨13, Value.int 13 kt_WIDTHS_13, Value.int 2 vt_WIDTHS_13⟩] ep_WIDTHS, #[]⟩)
    : ∃ a, Txt K mg a := by
  have F_things_in := fun_mk (st := s_things_in) l_things_in c_things_in k_things_in
  have B_things_in := binds1 (y0 := "known") F_things_in fun _ _ _ _ _ _ _ => rfl
  have F_taught := fun_mk (st := s_taught) l_taught c_taught k_taught
  have B_taught := binds2 (y0 := "rules") (y1 := "known") F_taught fun _ _ _ _ _ _ _ _ => rfl
  have F_greatest_state := fun_mk (st := s_greatest_state) l_greatest_state c_greatest_state k_greatest_state
  have B_greatest_state := binds2 (y0 := "rules") (y1 := "within") F_greatest_state fun _ _ _ _ _ _ _ _ => rfl
  have F_is_state := fun_mk (st := s_is_state) l_is_state c_is_state k_is_state
  have B_is_state := binds2 (y0 := "rules") (y1 := "known") F_is_state fun _ _ _ _ _ _ _ _ => rfl
  have F_things_next := fun_mk (st := s_things_next) l_things_next c_things_next k_things_next
  have B_things_next := binds2 (y0 := "rules") (y1 := "state") F_things_next fun _ _ _ _ _ _ _ _ => rfl
  have F_things_last := fun_mk (st := s_things_last) l_things_last c_things_last k_things_last
  have B_things_last := binds2 (y0 := "rules") (y1 := "state") F_things_last fun _ _ _ _ _ _ _ _ => rfl
  have F_hull_of := fun_mk (st := s_hull_of) l_hull_of c_hull_of k_hull_of
  have B_hull_of := binds3 (y0 := "rules") (y1 := "everything") (y2 := "known") F_hull_of fun _ _ _ _ _ _ _ _ _ => rfl
  have F_corners_of := fun_mk (st := s_corners_of) l_corners_of c_corners_of k_corners_of
  have B_corners_of := binds3 (y0 := "rules") (y1 := "everything") (y2 := "known") F_corners_of fun _ _ _ _ _ _ _ _ _ => rfl
  have F_rules_needing := fun_mk (st := s_rules_needing) l_rules_needing c_rules_needing k_rules_needing
  have B_rules_needing := binds2 (y0 := "rules") (y1 := "thing") F_rules_needing fun _ _ _ _ _ _ _ _ => rfl
  have F_states_behind := fun_mk (st := s_states_behind) l_states_behind c_states_behind k_states_behind
  have B_states_behind := binds2 (y0 := "level") (y1 := "openers") F_states_behind fun _ _ _ _ _ _ _ _ => rfl
  have F_nexts_by_state := fun_mk (st := s_nexts_by_state) l_nexts_by_state c_nexts_by_state k_nexts_by_state
  have B_nexts_by_state := binds2 (y0 := "rules") (y1 := "amount") F_nexts_by_state fun _ _ _ _ _ _ _ _ => rfl
  have F_ways_by_state := fun_mk (st := s_ways_by_state) l_ways_by_state c_ways_by_state k_ways_by_state
  have B_ways_by_state := binds1 (y0 := "nexts") F_ways_by_state fun _ _ _ _ _ _ _ => rfl
  have F_order_behind := fun_mk (st := s_order_behind) l_order_behind c_order_behind k_order_behind
  have B_order_behind := binds3 (y0 := "nexts") (y1 := "ways") (y2 := "before") F_order_behind fun _ _ _ _ _ _ _ _ _ => rfl
  have F_lasts_by_state := fun_mk (st := s_lasts_by_state) l_lasts_by_state c_lasts_by_state k_lasts_by_state
  have B_lasts_by_state := binds1 (y0 := "nexts") F_lasts_by_state fun _ _ _ _ _ _ _ => rfl
  have F_paths_by_thing := fun_mk (st := s_paths_by_thing) l_paths_by_thing c_paths_by_thing k_paths_by_thing
  have B_paths_by_thing := binds2 (y0 := "nexts") (y1 := "amount") F_paths_by_thing fun _ _ _ _ _ _ _ _ => rfl
  have F_cheapest := fun_mk (st := s_cheapest) l_cheapest c_cheapest k_cheapest
  have B_cheapest := binds4 (y0 := "choices") (y1 := "costs") (y2 := "amount") (y3 := "before") F_cheapest fun _ _ _ _ _ _ _ _ _ _ => rfl
  have F_planned_order := fun_mk (st := s_planned_order) l_planned_order c_planned_order k_planned_order
  have B_planned_order := binds3 (y0 := "rules") (y1 := "amount") (y2 := "costs") F_planned_order fun _ _ _ _ _ _ _ _ _ => rfl
  have F_reply_begin := fun_mk (st := s_reply_begin) l_reply_begin c_reply_begin k_reply_begin
  have B_reply_begin := binds2 (y0 := "learning") (y1 := "numbers") F_reply_begin fun _ _ _ _ _ _ _ _ => rfl
  have F_reply_things := fun_mk (st := s_reply_things) l_reply_things c_reply_things k_reply_things
  have B_reply_things := binds2 (y0 := "learning") (y1 := "numbers") F_reply_things fun _ _ _ _ _ _ _ _ => rfl
  have F_reply_rule := fun_mk (st := s_reply_rule) l_reply_rule c_reply_rule k_reply_rule
  have B_reply_rule := binds2 (y0 := "learning") (y1 := "numbers") F_reply_rule fun _ _ _ _ _ _ _ _ => rfl
  have F_reply_is := fun_mk (st := s_reply_is) l_reply_is c_reply_is k_reply_is
  have B_reply_is := binds2 (y0 := "learning") (y1 := "numbers") F_reply_is fun _ _ _ _ _ _ _ _ => rfl
  have F_reply_most := fun_mk (st := s_reply_most) l_reply_most c_reply_most k_reply_most
  have B_reply_most := binds2 (y0 := "learning") (y1 := "numbers") F_reply_most fun _ _ _ _ _ _ _ _ => rfl
  have F_state_refusal := fun_mk (st := s_state_refusal) l_state_refusal c_state_refusal k_state_refusal
  have B_state_refusal := binds2 (y0 := "learning") (y1 := "known") F_state_refusal fun _ _ _ _ _ _ _ _ => rfl
  have F_reply_next := fun_mk (st := s_reply_next) l_reply_next c_reply_next k_reply_next
  have B_reply_next := binds2 (y0 := "learning") (y1 := "numbers") F_reply_next fun _ _ _ _ _ _ _ _ => rfl
  have F_reply_last := fun_mk (st := s_reply_last) l_reply_last c_reply_last k_reply_last
  have B_reply_last := binds2 (y0 := "learning") (y1 := "numbers") F_reply_last fun _ _ _ _ _ _ _ _ => rfl
  have F_first_of := fun_mk (st := s_first_of) l_first_of c_first_of k_first_of
  have B_first_of := binds3 (y0 := "told") (y1 := "most") (y2 := "limit") F_first_of fun _ _ _ _ _ _ _ _ _ => rfl
  have F_reply_count := fun_mk (st := s_reply_count) l_reply_count c_reply_count k_reply_count
  have B_reply_count := binds2 (y0 := "learning") (y1 := "numbers") F_reply_count fun _ _ _ _ _ _ _ _ => rfl
  have F_reply_orders := fun_mk (st := s_reply_orders) l_reply_orders c_reply_orders k_reply_orders
  have B_reply_orders := binds2 (y0 := "learning") (y1 := "numbers") F_reply_orders fun _ _ _ _ _ _ _ _ => rfl
  have F_reply_order := fun_mk (st := s_reply_order) l_reply_order c_reply_order k_reply_order
  have B_reply_order := binds2 (y0 := "learning") (y1 := "numbers") F_reply_order fun _ _ _ _ _ _ _ _ => rfl
  have F_reply_paths := fun_mk (st := s_reply_paths) l_reply_paths c_reply_paths k_reply_paths
  have B_reply_paths := binds2 (y0 := "learning") (y1 := "numbers") F_reply_paths fun _ _ _ _ _ _ _ _ => rfl
  have F_reply_hull := fun_mk (st := s_reply_hull) l_reply_hull c_reply_hull k_reply_hull
  have B_reply_hull := binds2 (y0 := "learning") (y1 := "numbers") F_reply_hull fun _ _ _ _ _ _ _ _ => rfl
  have F_reply_corners := fun_mk (st := s_reply_corners) l_reply_corners c_reply_corners k_reply_corners
  have B_reply_corners := binds2 (y0 := "learning") (y1 := "numbers") F_reply_corners fun _ _ _ _ _ _ _ _ => rfl
  have F_reply_plan := fun_mk (st := s_reply_plan) l_reply_plan c_reply_plan k_reply_plan
  have B_reply_plan := binds2 (y0 := "learning") (y1 := "numbers") F_reply_plan fun _ _ _ _ _ _ _ _ => rfl
  have F_reply_to := fun_mk (st := s_reply_to) l_reply_to c_reply_to k_reply_to
  have B_reply_to := binds3 (y0 := "number") (y1 := "learning") (y2 := "numbers") F_reply_to fun _ _ _ _ _ _ _ _ _ => rfl
  have F_call_end := fun_mk (st := s_call_end) l_call_end c_call_end k_call_end
  have B_call_end := binds2 (y0 := "calls") (y1 := "at") F_call_end fun _ _ _ _ _ _ _ _ => rfl
  have F_answers := fun_mk (st := s_answers) l_answers c_answers k_answers
  have B_answers := binds1 (y0 := "calls") F_answers fun _ _ _ _ _ _ _ => rfl
  have F_m_init := fun_mk (st := s_m_init) l_m_init c_m_init k_m_init
  have B_m_init := binds1 (y0 := "self") F_m_init fun _ _ _ _ _ _ _ => rfl
  have F_m_restart := fun_mk (st := s_m_restart) l_m_restart c_m_restart k_m_restart
  have B_m_restart := binds2 (y0 := "self") (y1 := "amount") F_m_restart fun _ _ _ _ _ _ _ _ => rfl
  have F_m_add_rule := fun_mk (st := s_m_add_rule) l_m_add_rule c_m_add_rule k_m_add_rule
  have B_m_add_rule := binds3 (y0 := "self") (y1 := "thing") (y2 := "needed") F_m_add_rule fun _ _ _ _ _ _ _ _ _ => rfl
  have F_m_forget := fun_mk (st := s_m_forget) l_m_forget c_m_forget k_m_forget
  have B_m_forget := binds1 (y0 := "self") F_m_forget fun _ _ _ _ _ _ _ => rfl
  have F_m_has_thing := fun_mk (st := s_m_has_thing) l_m_has_thing c_m_has_thing k_m_has_thing
  have B_m_has_thing := binds2 (y0 := "self") (y1 := "thing") F_m_has_thing fun _ _ _ _ _ _ _ _ => rfl
  have F_m_holds := fun_mk (st := s_m_holds) l_m_holds c_m_holds k_m_holds
  have B_m_holds := binds2 (y0 := "self") (y1 := "things") F_m_holds fun _ _ _ _ _ _ _ _ => rfl
  have F_m_everything := fun_mk (st := s_m_everything) l_m_everything c_m_everything k_m_everything
  have B_m_everything := binds1 (y0 := "self") F_m_everything fun _ _ _ _ _ _ _ => rfl
  have F_m_takes_rule := fun_mk (st := s_m_takes_rule) l_m_takes_rule c_m_takes_rule k_m_takes_rule
  have B_m_takes_rule := binds3 (y0 := "self") (y1 := "thing") (y2 := "needed") F_m_takes_rule fun _ _ _ _ _ _ _ _ _ => rfl
  have F_m_all_nexts := fun_mk (st := s_m_all_nexts) l_m_all_nexts c_m_all_nexts k_m_all_nexts
  have B_m_all_nexts := binds1 (y0 := "self") F_m_all_nexts fun _ _ _ _ _ _ _ => rfl
  have F_m_all_ways := fun_mk (st := s_m_all_ways) l_m_all_ways c_m_all_ways k_m_all_ways
  have B_m_all_ways := binds1 (y0 := "self") F_m_all_ways fun _ _ _ _ _ _ _ => rfl
  have F_m_all_paths := fun_mk (st := s_m_all_paths) l_m_all_paths c_m_all_paths k_m_all_paths
  have B_m_all_paths := binds1 (y0 := "self") F_m_all_paths fun _ _ _ _ _ _ _ => rfl
  refine ⟨⟨C_Learning, f_things_in, PySem.W.fnOf "things_in" "things_in" (defArgs s_things_in) (defBody s_things_in) (defScope s_things_in) .none kV_things_in dc_things_in pm_things_in an_things_in cd_things_in ct_things_in, f_taught, PySem.W.fnOf "taught" "taught" (defArgs s_taught) (defBody s_taught) (defScope s_taught) .none kV_taught dc_taught pm_taught an_taught cd_taught ct_taught, f_greatest_state, PySem.W.fnOf "greatest_state" "greatest_state" (defArgs s_greatest_state) (defBody s_greatest_state) (defScope s_greatest_state) .none kV_greatest_state dc_greatest_state pm_greatest_state an_greatest_state cd_greatest_state ct_greatest_state, f_is_state, PySem.W.fnOf "is_state" "is_state" (defArgs s_is_state) (defBody s_is_state) (defScope s_is_state) .none kV_is_state dc_is_state pm_is_state an_is_state cd_is_state ct_is_state, f_things_next, PySem.W.fnOf "things_next" "things_next" (defArgs s_things_next) (defBody s_things_next) (defScope s_things_next) .none kV_things_next dc_things_next pm_things_next an_things_next cd_things_next ct_things_next, f_things_last, PySem.W.fnOf "things_last" "things_last" (defArgs s_things_last) (defBody s_things_last) (defScope s_things_last) .none kV_things_last dc_things_last pm_things_last an_things_last cd_things_last ct_things_last, f_hull_of, PySem.W.fnOf "hull_of" "hull_of" (defArgs s_hull_of) (defBody s_hull_of) (defScope s_hull_of) .none kV_hull_of dc_hull_of pm_hull_of an_hull_of cd_hull_of ct_hull_of, f_corners_of, PySem.W.fnOf "corners_of" "corners_of" (defArgs s_corners_of) (defBody s_corners_of) (defScope s_corners_of) .none kV_corners_of dc_corners_of pm_corners_of an_corners_of cd_corners_of ct_corners_of, f_rules_needing, PySem.W.fnOf "rules_needing" "rules_needing" (defArgs s_rules_needing) (defBody s_rules_needing) (defScope s_rules_needing) .none kV_rules_needing dc_rules_needing pm_rules_needing an_rules_needing cd_rules_needing ct_rules_needing, f_states_behind, PySem.W.fnOf "states_behind" "states_behind" (defArgs s_states_behind) (defBody s_states_behind) (defScope s_states_behind) .none kV_states_behind dc_states_behind pm_states_behind an_states_behind cd_states_behind ct_states_behind, f_nexts_by_state, PySem.W.fnOf "nexts_by_state" "nexts_by_state" (defArgs s_nexts_by_state) (defBody s_nexts_by_state) (defScope s_nexts_by_state) .none kV_nexts_by_state dc_nexts_by_state pm_nexts_by_state an_nexts_by_state cd_nexts_by_state ct_nexts_by_state, f_ways_by_state, PySem.W.fnOf "ways_by_state" "ways_by_state" (defArgs s_ways_by_state) (defBody s_ways_by_state) (defScope s_ways_by_state) .none kV_ways_by_state dc_ways_by_state pm_ways_by_state an_ways_by_state cd_ways_by_state ct_ways_by_state, f_order_behind, PySem.W.fnOf "order_behind" "order_behind" (defArgs s_order_behind) (defBody s_order_behind) (defScope s_order_behind) .none kV_order_behind dc_order_behind pm_order_behind an_order_behind cd_order_behind ct_order_behind, f_lasts_by_state, PySem.W.fnOf "lasts_by_state" "lasts_by_state" (defArgs s_lasts_by_state) (defBody s_lasts_by_state) (defScope s_lasts_by_state) .none kV_lasts_by_state dc_lasts_by_state pm_lasts_by_state an_lasts_by_state cd_lasts_by_state ct_lasts_by_state, f_paths_by_thing, PySem.W.fnOf "paths_by_thing" "paths_by_thing" (defArgs s_paths_by_thing) (defBody s_paths_by_thing) (defScope s_paths_by_thing) .none kV_paths_by_thing dc_paths_by_thing pm_paths_by_thing an_paths_by_thing cd_paths_by_thing ct_paths_by_thing, f_cheapest, PySem.W.fnOf "cheapest" "cheapest" (defArgs s_cheapest) (defBody s_cheapest) (defScope s_cheapest) .none kV_cheapest dc_cheapest pm_cheapest an_cheapest cd_cheapest ct_cheapest, f_planned_order, PySem.W.fnOf "planned_order" "planned_order" (defArgs s_planned_order) (defBody s_planned_order) (defScope s_planned_order) .none kV_planned_order dc_planned_order pm_planned_order an_planned_order cd_planned_order ct_planned_order, f_reply_begin, PySem.W.fnOf "reply_begin" "reply_begin" (defArgs s_reply_begin) (defBody s_reply_begin) (defScope s_reply_begin) .none kV_reply_begin dc_reply_begin pm_reply_begin an_reply_begin cd_reply_begin ct_reply_begin, f_reply_things, PySem.W.fnOf "reply_things" "reply_things" (defArgs s_reply_things) (defBody s_reply_things) (defScope s_reply_things) .none kV_reply_things dc_reply_things pm_reply_things an_reply_things cd_reply_things ct_reply_things, f_reply_rule, PySem.W.fnOf "reply_rule" "reply_rule" (defArgs s_reply_rule) (defBody s_reply_rule) (defScope s_reply_rule) .none kV_reply_rule dc_reply_rule pm_reply_rule an_reply_rule cd_reply_rule ct_reply_rule, f_reply_is, PySem.W.fnOf "reply_is" "reply_is" (defArgs s_reply_is) (defBody s_reply_is) (defScope s_reply_is) .none kV_reply_is dc_reply_is pm_reply_is an_reply_is cd_reply_is ct_reply_is, f_reply_most, PySem.W.fnOf "reply_most" "reply_most" (defArgs s_reply_most) (defBody s_reply_most) (defScope s_reply_most) .none kV_reply_most dc_reply_most pm_reply_most an_reply_most cd_reply_most ct_reply_most, f_state_refusal, PySem.W.fnOf "state_refusal" "state_refusal" (defArgs s_state_refusal) (defBody s_state_refusal) (defScope s_state_refusal) .none kV_state_refusal dc_state_refusal pm_state_refusal an_state_refusal cd_state_refusal ct_state_refusal, f_reply_next, PySem.W.fnOf "reply_next" "reply_next" (defArgs s_reply_next) (defBody s_reply_next) (defScope s_reply_next) .none kV_reply_next dc_reply_next pm_reply_next an_reply_next cd_reply_next ct_reply_next, f_reply_last, PySem.W.fnOf "reply_last" "reply_last" (defArgs s_reply_last) (defBody s_reply_last) (defScope s_reply_last) .none kV_reply_last dc_reply_last pm_reply_last an_reply_last cd_reply_last ct_reply_last, f_first_of, PySem.W.fnOf "first_of" "first_of" (defArgs s_first_of) (defBody s_first_of) (defScope s_first_of) .none kV_first_of dc_first_of pm_first_of an_first_of cd_first_of ct_first_of, f_reply_count, PySem.W.fnOf "reply_count" "reply_count" (defArgs s_reply_count) (defBody s_reply_count) (defScope s_reply_count) .none kV_reply_count dc_reply_count pm_reply_count an_reply_count cd_reply_count ct_reply_count, f_reply_orders, PySem.W.fnOf "reply_orders" "reply_orders" (defArgs s_reply_orders) (defBody s_reply_orders) (defScope s_reply_orders) .none kV_reply_orders dc_reply_orders pm_reply_orders an_reply_orders cd_reply_orders ct_reply_orders, f_reply_order, PySem.W.fnOf "reply_order" "reply_order" (defArgs s_reply_order) (defBody s_reply_order) (defScope s_reply_order) .none kV_reply_order dc_reply_order pm_reply_order an_reply_order cd_reply_order ct_reply_order, f_reply_paths, PySem.W.fnOf "reply_paths" "reply_paths" (defArgs s_reply_paths) (defBody s_reply_paths) (defScope s_reply_paths) .none kV_reply_paths dc_reply_paths pm_reply_paths an_reply_paths cd_reply_paths ct_reply_paths, f_reply_hull, PySem.W.fnOf "reply_hull" "reply_hull" (defArgs s_reply_hull) (defBody s_reply_hull) (defScope s_reply_hull) .none kV_reply_hull dc_reply_hull pm_reply_hull an_reply_hull cd_reply_hull ct_reply_hull, f_reply_corners, PySem.W.fnOf "reply_corners" "reply_corners" (defArgs s_reply_corners) (defBody s_reply_corners) (defScope s_reply_corners) .none kV_reply_corners dc_reply_corners pm_reply_corners an_reply_corners cd_reply_corners ct_reply_corners, f_reply_plan, PySem.W.fnOf "reply_plan" "reply_plan" (defArgs s_reply_plan) (defBody s_reply_plan) (defScope s_reply_plan) .none kV_reply_plan dc_reply_plan pm_reply_plan an_reply_plan cd_reply_plan ct_reply_plan, f_reply_to, PySem.W.fnOf "reply_to" "reply_to" (defArgs s_reply_to) (defBody s_reply_to) (defScope s_reply_to) .none kV_reply_to dc_reply_to pm_reply_to an_reply_to cd_reply_to ct_reply_to, f_call_end, PySem.W.fnOf "call_end" "call_end" (defArgs s_call_end) (defBody s_call_end) (defScope s_call_end) .none kV_call_end dc_call_end pm_call_end an_call_end cd_call_end ct_call_end, f_answers, PySem.W.fnOf "answers" "answers" (defArgs s_answers) (defBody s_answers) (defScope s_answers) .none kV_answers dc_answers pm_answers an_answers cd_answers ct_answers, f_m_init, PySem.W.fnOf "__init__" "Learning.__init__" (defArgs s_m_init) (defBody s_m_init) (defScope s_m_init) .none kV_m_init dc_m_init pm_m_init an_m_init cd_m_init ct_m_init, f_m_restart, PySem.W.fnOf "restart" "Learning.restart" (defArgs s_m_restart) (defBody s_m_restart) (defScope s_m_restart) .none kV_m_restart dc_m_restart pm_m_restart an_m_restart cd_m_restart ct_m_restart, f_m_add_rule, PySem.W.fnOf "add_rule" "Learning.add_rule" (defArgs s_m_add_rule) (defBody s_m_add_rule) (defScope s_m_add_rule) .none kV_m_add_rule dc_m_add_rule pm_m_add_rule an_m_add_rule cd_m_add_rule ct_m_add_rule, f_m_forget, PySem.W.fnOf "forget" "Learning.forget" (defArgs s_m_forget) (defBody s_m_forget) (defScope s_m_forget) .none kV_m_forget dc_m_forget pm_m_forget an_m_forget cd_m_forget ct_m_forget, f_m_has_thing, PySem.W.fnOf "has_thing" "Learning.has_thing" (defArgs s_m_has_thing) (defBody s_m_has_thing) (defScope s_m_has_thing) .none kV_m_has_thing dc_m_has_thing pm_m_has_thing an_m_has_thing cd_m_has_thing ct_m_has_thing, f_m_holds, PySem.W.fnOf "holds" "Learning.holds" (defArgs s_m_holds) (defBody s_m_holds) (defScope s_m_holds) .none kV_m_holds dc_m_holds pm_m_holds an_m_holds cd_m_holds ct_m_holds, f_m_everything, PySem.W.fnOf "everything" "Learning.everything" (defArgs s_m_everything) (defBody s_m_everything) (defScope s_m_everything) .none kV_m_everything dc_m_everything pm_m_everything an_m_everything cd_m_everything ct_m_everything, f_m_takes_rule, PySem.W.fnOf "takes_rule" "Learning.takes_rule" (defArgs s_m_takes_rule) (defBody s_m_takes_rule) (defScope s_m_takes_rule) .none kV_m_takes_rule dc_m_takes_rule pm_m_takes_rule an_m_takes_rule cd_m_takes_rule ct_m_takes_rule, f_m_all_nexts, PySem.W.fnOf "all_nexts" "Learning.all_nexts" (defArgs s_m_all_nexts) (defBody s_m_all_nexts) (defScope s_m_all_nexts) .none kV_m_all_nexts dc_m_all_nexts pm_m_all_nexts an_m_all_nexts cd_m_all_nexts ct_m_all_nexts, f_m_all_ways, PySem.W.fnOf "all_ways" "Learning.all_ways" (defArgs s_m_all_ways) (defBody s_m_all_ways) (defScope s_m_all_ways) .none kV_m_all_ways dc_m_all_ways pm_m_all_ways an_m_all_ways cd_m_all_ways ct_m_all_ways, f_m_all_paths, PySem.W.fnOf "all_paths" "Learning.all_paths" (defArgs s_m_all_paths) (defBody s_m_all_paths) (defScope s_m_all_paths) .none kV_m_all_paths dc_m_all_paths pm_m_all_paths an_m_all_paths cd_m_all_paths ct_m_all_paths, d_REPLIES, d_WIDTHS, C_cheapest, P_cheapest⟩, ?_⟩
  exact {
    things_in := ⟨F_things_in, B_things_in⟩
    things_in_mg := PySem.W.mg_of X G a_things_in
    taught := ⟨F_taught, B_taught⟩
    taught_mg := PySem.W.mg_of X G a_taught
    greatest_state := ⟨F_greatest_state, B_greatest_state⟩
    greatest_state_mg := PySem.W.mg_of X G a_greatest_state
    is_state := ⟨F_is_state, B_is_state⟩
    is_state_mg := PySem.W.mg_of X G a_is_state
    things_next := ⟨F_things_next, B_things_next⟩
    things_next_mg := PySem.W.mg_of X G a_things_next
    things_last := ⟨F_things_last, B_things_last⟩
    things_last_mg := PySem.W.mg_of X G a_things_last
    hull_of := ⟨F_hull_of, B_hull_of⟩
    hull_of_mg := PySem.W.mg_of X G a_hull_of
    corners_of := ⟨F_corners_of, B_corners_of⟩
    corners_of_mg := PySem.W.mg_of X G a_corners_of
    rules_needing := ⟨F_rules_needing, B_rules_needing⟩
    rules_needing_mg := PySem.W.mg_of X G a_rules_needing
    states_behind := ⟨F_states_behind, B_states_behind⟩
    states_behind_mg := PySem.W.mg_of X G a_states_behind
    nexts_by_state := ⟨F_nexts_by_state, B_nexts_by_state⟩
    nexts_by_state_mg := PySem.W.mg_of X G a_nexts_by_state
    ways_by_state := ⟨F_ways_by_state, B_ways_by_state⟩
    ways_by_state_mg := PySem.W.mg_of X G a_ways_by_state
    order_behind := ⟨F_order_behind, B_order_behind⟩
    order_behind_mg := PySem.W.mg_of X G a_order_behind
    lasts_by_state := ⟨F_lasts_by_state, B_lasts_by_state⟩
    lasts_by_state_mg := PySem.W.mg_of X G a_lasts_by_state
    paths_by_thing := ⟨F_paths_by_thing, B_paths_by_thing⟩
    paths_by_thing_mg := PySem.W.mg_of X G a_paths_by_thing
    cheapest := ⟨F_cheapest, B_cheapest⟩
    cheapest_mg := PySem.W.mg_of X G a_cheapest
    planned_order := ⟨F_planned_order, B_planned_order⟩
    planned_order_mg := PySem.W.mg_of X G a_planned_order
    reply_begin := ⟨F_reply_begin, B_reply_begin⟩
    reply_begin_mg := PySem.W.mg_of X G a_reply_begin
    reply_things := ⟨F_reply_things, B_reply_things⟩
    reply_things_mg := PySem.W.mg_of X G a_reply_things
    reply_rule := ⟨F_reply_rule, B_reply_rule⟩
    reply_rule_mg := PySem.W.mg_of X G a_reply_rule
    reply_is := ⟨F_reply_is, B_reply_is⟩
    reply_is_mg := PySem.W.mg_of X G a_reply_is
    reply_most := ⟨F_reply_most, B_reply_most⟩
    reply_most_mg := PySem.W.mg_of X G a_reply_most
    state_refusal := ⟨F_state_refusal, B_state_refusal⟩
    state_refusal_mg := PySem.W.mg_of X G a_state_refusal
    reply_next := ⟨F_reply_next, B_reply_next⟩
    reply_next_mg := PySem.W.mg_of X G a_reply_next
    reply_last := ⟨F_reply_last, B_reply_last⟩
    reply_last_mg := PySem.W.mg_of X G a_reply_last
    first_of := ⟨F_first_of, B_first_of⟩
    first_of_mg := PySem.W.mg_of X G a_first_of
    reply_count := ⟨F_reply_count, B_reply_count⟩
    reply_count_mg := PySem.W.mg_of X G a_reply_count
    reply_orders := ⟨F_reply_orders, B_reply_orders⟩
    reply_orders_mg := PySem.W.mg_of X G a_reply_orders
    reply_order := ⟨F_reply_order, B_reply_order⟩
    reply_order_mg := PySem.W.mg_of X G a_reply_order
    reply_paths := ⟨F_reply_paths, B_reply_paths⟩
    reply_paths_mg := PySem.W.mg_of X G a_reply_paths
    reply_hull := ⟨F_reply_hull, B_reply_hull⟩
    reply_hull_mg := PySem.W.mg_of X G a_reply_hull
    reply_corners := ⟨F_reply_corners, B_reply_corners⟩
    reply_corners_mg := PySem.W.mg_of X G a_reply_corners
    reply_plan := ⟨F_reply_plan, B_reply_plan⟩
    reply_plan_mg := PySem.W.mg_of X G a_reply_plan
    reply_to := ⟨F_reply_to, B_reply_to⟩
    reply_to_mg := PySem.W.mg_of X G a_reply_to
    call_end := ⟨F_call_end, B_call_end⟩
    call_end_mg := PySem.W.mg_of X G a_call_end
    answers := ⟨F_answers, B_answers⟩
    answers_mg := PySem.W.mg_of X G a_answers
    m_init := ⟨F_m_init, B_m_init⟩
    m_restart := ⟨F_m_restart, B_m_restart⟩
    m_restart_me := ⟨a_m_restart, i_m_restart, k_m_restart⟩
    m_add_rule := ⟨F_m_add_rule, B_m_add_rule⟩
    m_add_rule_me := ⟨a_m_add_rule, i_m_add_rule, k_m_add_rule⟩
    m_forget := ⟨F_m_forget, B_m_forget⟩
    m_forget_me := ⟨a_m_forget, i_m_forget, k_m_forget⟩
    m_has_thing := ⟨F_m_has_thing, B_m_has_thing⟩
    m_has_thing_me := ⟨a_m_has_thing, i_m_has_thing, k_m_has_thing⟩
    m_holds := ⟨F_m_holds, B_m_holds⟩
    m_holds_me := ⟨a_m_holds, i_m_holds, k_m_holds⟩
    m_everything := ⟨F_m_everything, B_m_everything⟩
    m_everything_me := ⟨a_m_everything, i_m_everything, k_m_everything⟩
    m_takes_rule := ⟨F_m_takes_rule, B_m_takes_rule⟩
    m_takes_rule_me := ⟨a_m_takes_rule, i_m_takes_rule, k_m_takes_rule⟩
    m_all_nexts := ⟨F_m_all_nexts, B_m_all_nexts⟩
    m_all_nexts_me := ⟨a_m_all_nexts, i_m_all_nexts, k_m_all_nexts⟩
    m_all_ways := ⟨F_m_all_ways, B_m_all_ways⟩
    m_all_ways_me := ⟨a_m_all_ways, i_m_all_ways, k_m_all_ways⟩
    m_all_paths := ⟨F_m_all_paths, B_m_all_paths⟩
    m_all_paths_me := ⟨a_m_all_paths, i_m_all_paths, k_m_all_paths⟩
    Learning_cl := ⟨pg, hd, po, sa⟩
    Learning_mg := PySem.W.mg_of X G e_Learning
    Learning_mk := ⟨mk, a_m_init, i_m_init, kc⟩
    no_amount := n_amount
    no_nexts := n_nexts
    no_paths := n_paths
    no_rules := n_rules
    no_ways := n_ways
    cheapest_code := cc_cheapest
    cheapest_hd := codeHd_mk lc_cheapest cp_cheapest
    cheapest_tab := tabIn_mk a_cheapest l_cheapest cc_cheapest lc_cheapest cp_cheapest
    c_MOST_THINGS := ⟨_, PySem.W.mg_of X G g_MOST_THINGS⟩
    c_MOST_RULES := ⟨_, PySem.W.mg_of X G g_MOST_RULES⟩
    c_MOST_SETS := ⟨_, PySem.W.mg_of X G g_MOST_SETS⟩
    c_PLAN := ⟨_, PySem.W.mg_of X G g_PLAN⟩
    b_len := PySem.W.mg_none_of X G z_len
    b_list := PySem.W.mg_none_of X G z_list
    b_min := PySem.W.mg_none_of X G z_min
    b_range := PySem.W.mg_none_of X G z_range
    b_reversed := PySem.W.mg_none_of X G z_reversed
    b_sorted := PySem.W.mg_none_of X G z_sorted
    b_sum := PySem.W.mg_none_of X G z_sum
    REPLIES_mg := PySem.W.mg_of X G g_REPLIES
    REPLIES_tab := ktab_of d_REPLIES_ (.cons ⟨⟨_, rfl⟩, (show (0 : Int) = hashInt 0 by decide +kernel), rfl⟩ (.cons ⟨⟨_, rfl⟩, (show (1 : Int) = hashInt 1 by decide +kernel), rfl⟩ (.cons ⟨⟨_, rfl⟩, (show (2 : Int) = hashInt 2 by decide +kernel), rfl⟩ (.cons ⟨⟨_, rfl⟩, (show (3 : Int) = hashInt 3 by decide +kernel), rfl⟩ (.cons ⟨⟨_, rfl⟩, (show (4 : Int) = hashInt 4 by decide +kernel), rfl⟩ (.cons ⟨⟨_, rfl⟩, (show (5 : Int) = hashInt 5 by decide +kernel), rfl⟩ (.cons ⟨⟨_, rfl⟩, (show (6 : Int) = hashInt 6 by decide +kernel), rfl⟩ (.cons ⟨⟨_, rfl⟩, (show (7 : Int) = hashInt 7 by decide +kernel), rfl⟩ (.cons ⟨⟨_, rfl⟩, (show (8 : Int) = hashInt 8 by decide +kernel), rfl⟩ (.cons ⟨⟨_, rfl⟩, (show (9 : Int) = hashInt 9 by decide +kernel), rfl⟩ (.cons ⟨⟨_, rfl⟩, (show (10 : Int) = hashInt 10 by decide +kernel), rfl⟩ (.cons ⟨⟨_, rfl⟩, (show (11 : Int) = hashInt 11 by decide +kernel), rfl⟩ (.cons ⟨⟨_, rfl⟩, (show (12 : Int) = hashInt 12 by decide +kernel), rfl⟩ (.cons ⟨⟨_, rfl⟩, (show (13 : Int) = hashInt 13 by decide +kernel), rfl⟩ .nil)))))))))))))) (show ([0, 1, 2, 3, 4, 5, 6, 7, 8, 9, 10, 11, 12, 13] : List Int).Nodup by decide)
    WIDTHS_mg := PySem.W.mg_of X G g_WIDTHS
    WIDTHS_tab := ktab_of d_WIDTHS_ (.cons ⟨⟨_, rfl⟩, (show (0 : Int) = hashInt 0 by decide +kernel), ⟨_, rfl⟩⟩ (.cons ⟨⟨_, rfl⟩, (show (1 : Int) = hashInt 1 by decide +kernel), ⟨_, rfl⟩⟩ (.cons ⟨⟨_, rfl⟩, (show (2 : Int) = hashInt 2 by decide +kernel), ⟨_, rfl⟩⟩ (.cons ⟨⟨_, rfl⟩, (show (3 : Int) = hashInt 3 by decide +kernel), ⟨_, rfl⟩⟩ (.cons ⟨⟨_, rfl⟩, (show (4 : Int) = hashInt 4 by decide +kernel), ⟨_, rfl⟩⟩ (.cons ⟨⟨_, rfl⟩, (show (5 : Int) = hashInt 5 by decide +kernel), ⟨_, rfl⟩⟩ (.cons ⟨⟨_, rfl⟩, (show (6 : Int) = hashInt 6 by decide +kernel), ⟨_, rfl⟩⟩ (.cons ⟨⟨_, rfl⟩, (show (7 : Int) = hashInt 7 by decide +kernel), ⟨_, rfl⟩⟩ (.cons ⟨⟨_, rfl⟩, (show (8 : Int) = hashInt 8 by decide +kernel), ⟨_, rfl⟩⟩ (.cons ⟨⟨_, rfl⟩, (show (9 : Int) = hashInt 9 by decide +kernel), ⟨_, rfl⟩⟩ (.cons ⟨⟨_, rfl⟩, (show (10 : Int) = hashInt 10 by decide +kernel), ⟨_, rfl⟩⟩ (.cons ⟨⟨_, rfl⟩, (show (11 : Int) = hashInt 11 by decide +kernel), ⟨_, rfl⟩⟩ (.cons ⟨⟨_, rfl⟩, (show (12 : Int) = hashInt 12 by decide +kernel), ⟨_, rfl⟩⟩ (.cons ⟨⟨_, rfl⟩, (show (13 : Int) = hashInt 13 by decide +kernel), ⟨_, rfl⟩⟩ .nil)))))))))))))) (show ([0, 1, 2, 3, 4, 5, 6, 7, 8, 9, 10, 11, 12, 13] : List Int).Nodup by decide)
  }
end Lq
end
section
set_option Elab.async false
set_option linter.all false
set_option maxRecDepth 100000
set_option maxHeartbeats 4000000
namespace Lq
open PySem L2

/-! ### the rules as they lie -/
theorem paired_get {α β : Type} {R : α → β → Prop} : ∀ {l₁ : List α} {l₂ : List β} {i : Nat} {x : α}, Paired R l₁ l₂ → l₁[i]? = some x → ∃ y, l₂[i]? = some y ∧ R x y
  | _, _, _, _, .nil, e => by simp at e
  | _, _, 0, _, .cons r _, e => by simp at e; subst e; exact ⟨_, rfl, r⟩
  | _, _, i + 1, x, .cons _ t, e => by
    obtain ⟨y, h1, h2⟩ := paired_get (i := i) (x := x) t (by simpa using e)
    exact ⟨y, by simpa using h1, h2⟩
noncomputable def RuleAt (H : Hp) (t : Addr) (q : Rc83.Rule) : Prop := H t = some (.tup [.int ((q.1 : Nat) : Int), .int ((q.2 : Nat) : Int)])
structure RulesAt (H : Hp) (r : Addr) (rs : List Rc83.Rule) : Prop where
  ex : ∃ ts : List Addr, H r = some (.lst (ts.map V.ref)) ∧ Paired (RuleAt H) ts rs
theorem RulesAt.keeps {H H' : Hp} {r : Addr} {rs : List Rc83.Rule} (h : RulesAt H r rs) (e : H' r = H r) (k : ∀ b xs, H b = some (.tup xs) → H' b = some (.tup xs)) : RulesAt H' r rs := by
  obtain ⟨ts, h1, h2⟩ := h.ex
  exact ⟨ts, e.trans h1, Paired.mapP h2 fun t q z => k _ _ z⟩
theorem RulesAt.same {H H' : Hp} {r : Addr} {rs : List Rc83.Rule} (h : RulesAt H r rs) (s : Same H H') : RulesAt H' r rs := by
  obtain ⟨ts, h1, h2⟩ := h.ex
  exact ⟨ts, s _ _ h1, Paired.mapP h2 fun t q z => s _ _ z⟩
theorem small_int {i j : Nat} : ((i : Int) = (j : Int)) ↔ i = j := by omega
theorem vint {i j : Int} : (V.int i = V.int j) ↔ i = j := ⟨fun h => V.int.inj h, fun h => congrArg V.int h⟩
theorem vnat {i j : Nat} : (V.int (i : Int) = V.int (j : Int)) ↔ i = j := vint.trans small_int

/-! ### what the defs of states.py promise -/
noncomputable def spTaught : Sp := fun vs H Q _ => ∃ (r : Addr) (rs : List Rc83.Rule) (s : Nat), vs = [.ref r, .int (s : Int)] ∧ RulesAt H r rs ∧ (∀ q ∈ rs, q.1 < 16) ∧ Q (.int ((Lp.taught rs s : Nat) : Int)) H
/-- a def of (rules, a set) that gives back a number g of the rules and the set -/
noncomputable def spOf (g : Rc83.Lore → Nat → Nat) : Sp := fun vs H Q _ => ∃ (r : Addr) (R : Rc83.Lore) (s : Nat), vs = [.ref r, .int (s : Int)] ∧ RulesAt H r R.rules ∧ Lp.Good R ∧ Q (.int ((g R s : Nat) : Int)) H
noncomputable def spOfB (g : Rc83.Lore → Nat → Bool) : Sp := fun vs H Q _ => ∃ (r : Addr) (R : Rc83.Lore) (s : Nat), vs = [.ref r, .int (s : Int)] ∧ RulesAt H r R.rules ∧ Lp.Good R ∧ Q (.bl (g R s)) H
noncomputable def spLast : Sp := fun vs H Q _ => ∃ (r : Addr) (R : Rc83.Lore) (s : Nat), vs = [.ref r, .int (s : Int)] ∧ RulesAt H r R.rules ∧ Lp.Good R ∧ s < 2 ^ R.n ∧ Q (.int ((Rc83.lasts R s : Nat) : Int)) H

/-- the numbers of a list, as values -/
noncomputable abbrev nv (l : List Nat) : List V := l.map fun (z : Nat) => V.int (z : Int)
noncomputable def spIn : Sp := fun vs H Q _ => ∃ s : Nat, vs = [.int (s : Int)] ∧ s < 2 ^ 16 ∧ ∀ (l : Addr) (H' : Hp), H l = none → Same H H' → H' l = some (.lst (nv (Lp.bitsL 16 s))) → Q (.ref l) H'
/-- a def of (rules, all things, a set) -/
noncomputable def spEv (g : Rc83.Lore → Nat → Nat) : Sp := fun vs H Q _ => ∃ (r : Addr) (R : Rc83.Lore) (s : Nat), vs = [.ref r, .int ((Rc83.all R.n : Nat) : Int), .int (s : Int)] ∧ RulesAt H r R.rules ∧ Lp.Good R ∧ Q (.int ((g R s : Nat) : Int)) H
noncomputable def lcScope : Expr → Scope
  | .ListComp _ _ sc _ => sc
  | _ => { kind := .function, names := [], isGenerator := false, isCoroutine := false }
noncomputable def retOf (st : Stmt) : Expr := match (defBody st).getLast? with
  | some (.Return (some e) _) => e
  | _ => .Constant .none 0 ⟨0, 0, 0, 0⟩
noncomputable def setOf (st : Stmt) (i : Nat) : Expr := match (defBody st)[i]? with
  | some (.Assign _ e _) => e
  | _ => .Constant .none 0 ⟨0, 0, 0, 0⟩
theorem good16 {R : Rc83.Lore} (G : Lp.Good R) : ∀ q ∈ R.rules, q.1 < 16 := fun q hq => Nat.lt_of_lt_of_le (G.wf.lt q.1 q.2 hq) G.n16

theorem taught_snoc (rs : List Rc83.Rule) (q : Rc83.Rule) (s : Nat) : Lp.taught (rs ++ [q]) s = if q.2 &&& s = q.2 then Lp.taught rs s ||| 2 ^ q.1 else Lp.taught rs s := by
  unfold Lp.taught; rw [List.foldl_append]; rfl

section
variable {P : Program} {w : World} {K : PySem.W.Frag} {mg : Str → Option Value} {base : Heap} {a : Ad}

theorem ok_taught (T : Txt K mg a) : FnOk P w K mg base CX0 1 a.taught a.taughtD ["rules", "known"] spTaught := by
  refine T.taught.fn.ok sc_taught (fun vs H Q E h => ?_) (fun cdv A outer s H vs Q E hr h => ?_)
  · obtain ⟨r, rs, s, rfl, _⟩ := h
    rfl
  · obtain ⟨r, rs, s0, rfl, hR, hb, k⟩ := h
    obtain ⟨ts, hr0, hp⟩ := hR.ex
    have hlen : ts.length = rs.length := Paired.length hp
    refine ⟨_, pss_cons (ps_set (i := 2) sc_taught.nd rfl (Or.inl rfl) pe_int)
      (pss_cons (ps_for PassesOwn.never rfl (pi_list (pv 0)) (pg_tup rfl (pgs_cons (pg_name (i := 3) sc_taught.nd rfl (Or.inl rfl)) (pgs_cons (pg_name (i := 4) sc_taught.nd rfl (Or.inl rfl)) pgs_nil)))
        (pss_one (ps_if (pt_cmpR op_eq (pe_op op_and (pv 4) (pv 1)) (pv 4) (nomark _)) (pss_one (ps_set (i := 2) sc_taught.nd rfl (Or.inl rfl) (pe_op op_or (pv 2) (pe_op op_shl pe_int (pv 3))))) pss_nil)))
      (pss_one (ps_ret (pv 2)))), ?_⟩
    refine ⟨_, rfl, r, rfl, ⟨_, SqL.of hr0⟩, for_list (K := K) (a := r) (xs := ts.map V.ref)
      (fun i σ H2 => H2 = H ∧ ∃ v1 v2, σ = [some (.ref r), some (.int (s0 : Int)), some (.int ((Lp.taught (rs.take i) s0 : Nat) : Int)), v1, v2])
      ⟨rfl, none, none, rfl⟩ (fun i σ H2 _ ⟨e, _⟩ => e ▸ SqL.of hr0) ?_ ?_⟩
    · rintro i x σ H2 hi ⟨rfl, v1, v2, rfl⟩
      rw [List.getElem?_map] at hi
      cases ht : ts[i]? with
      | none => rw [ht] at hi; cases hi
      | some t =>
        rw [ht] at hi
        cases hi
        obtain ⟨q, hq, hrule⟩ := paired_get hp ht
        have hq16 : q.1 < 16 := hb q (List.mem_of_getElem? hq)
        have htake : rs.take (i + 1) = rs.take i ++ [q] := by rw [List.take_add_one, hq]; rfl
        refine ⟨t, _, rfl, SqT.of hrule, rfl, _, _, rfl, _, _, rfl, rfl, ?_⟩
        refine ⟨_, rfl, _, rfl, _, _, rfl, rfl, _, rfl, rfl, _, rfl, ?_⟩
        have eb : (V.int (Builtin.bitAnd ((q.2 : Nat) : Int) (s0 : Int)) = V.int ((q.2 : Nat) : Int)) ↔ q.2 &&& s0 = q.2 := by rw [Lp.bitAnd_nat]; exact vnat
        refine ite2 (fun h => ?_) (fun h => ?_)
        · have hc : q.2 &&& s0 = q.2 := eb.mp (of_decide_eq_true h)
          refine ⟨_, rfl, _, rfl, _, _, rfl, rfl, ⟨by omega, by omega, by decide⟩, _, _, rfl, rfl, ?_⟩
          refine ⟨rfl, some (.int ((q.1 : Nat) : Int)), some (.int ((q.2 : Nat) : Int)), ?_⟩
          dsimp only
          rw [htake, taught_snoc, if_pos hc, Lp.shl_one, Lp.bitOr_nat]
          rfl
        · have hc : ¬ q.2 &&& s0 = q.2 := fun e => h (decide_eq_true (eb.mpr e))
          refine ⟨rfl, some (.int ((q.1 : Nat) : Int)), some (.int ((q.2 : Nat) : Int)), ?_⟩
          rw [htake, taught_snoc, if_neg hc]
          rfl
    · rintro σ H2 ⟨rfl, v1, v2, rfl⟩
      refine ⟨_, rfl, ?_⟩
      rw [List.length_map, hlen, List.take_length]
      exact k

theorem ok_greatest (T : Txt K mg a) : FnOk P w K mg base CX0 2 a.greatest_state a.greatest_stateD ["rules", "within"] (spOf Rc83.most) := by
  have GT : FnOk P w K mg base CX0 1 a.taught a.taughtD ["rules", "known"] spTaught := ok_taught T
  refine T.greatest_state.fn.ok sc_greatest_state (fun vs H Q E h => ?_) (fun cdv A outer s H vs Q E hr h => ?_)
  · obtain ⟨r, R, s, rfl, _⟩ := h
    rfl
  · obtain ⟨r, R, s0, rfl, hR, hG, k⟩ := h
    have hb := good16 hG
    refine ⟨_, pss_cons (ps_set (i := 2) sc_greatest_state.nd rfl (Or.inl rfl) pe_int)
      (pss_cons (ps_set (i := 3) sc_greatest_state.nd rfl (Or.inl rfl) (pe_op op_and (pe_call GT hr rfl T.taught_mg T.taught.fn.kp T.taught.bi .nil pass0 (pa_cons (pv 0) (pa_cons (pv 2) pa_nil))) (pv 1)))
      (pss_cons (ps_while PassesOwn.never (pt_cmpR op_ne (pv 3) (pv 2) (nomark _))
        (pss_cons (ps_set (i := 2) sc_greatest_state.nd rfl (Or.inl rfl) (pv 3))
        (pss_one (ps_set (i := 3) sc_greatest_state.nd rfl (Or.inl rfl) (pe_op op_and (pe_call GT hr rfl T.taught_mg T.taught.fn.kp T.taught.bi .nil pass0 (pa_cons (pv 0) (pa_cons (pv 2) pa_nil))) (pv 1))))))
      (pss_one (ps_ret (pv 2))))), ?_⟩
    refine ⟨_, rfl, _, rfl, r, R.rules, 0, rfl, hR, hb, _, rfl, _, _, rfl, rfl, ?_⟩
    dsimp only
    rw [Lp.bitAnd_nat]
    refine ⟨fun m σ H2 => H2 = H ∧ ∃ j, m = R.n + 1 - j ∧ σ = [some (.ref r), some (.int (s0 : Int)), some (.int ((Rc83.grown R s0 j : Nat) : Int)), some (.int ((Rc83.grown R s0 (j + 1) : Nat) : Int))],
      ⟨_, rfl, 0, rfl, ?_⟩, ?_⟩
    · rw [Lp.grown_next hG.wf]
      rfl
    · rintro m σ H2 ⟨rfl, j, rfl, rfl⟩
      refine ⟨_, rfl, _, rfl, rfl, _, rfl, ?_⟩
      refine ite2 (fun h => ?_) (fun h => ?_)
      · have hne : Rc83.grown R s0 (j + 1) ≠ Rc83.grown R s0 j := fun e => by
          rw [decide_eq_true (vnat.mpr e)] at h; cases h
        have hj := Lp.grown_more hne
        refine ⟨fun σ' H' => ∃ m', m' < R.n + 1 - j ∧ H' = H2 ∧ ∃ j', m' = R.n + 1 - j' ∧ σ' = [some (.ref r), some (.int (s0 : Int)), some (.int ((Rc83.grown R s0 j' : Nat) : Int)), some (.int ((Rc83.grown R s0 (j' + 1) : Nat) : Int))], fun _ _ h => h, ?_⟩
        refine ⟨_, rfl, _, rfl, _, rfl, r, R.rules, Rc83.grown R s0 (j + 1), rfl, hR, hb, _, rfl, _, _, rfl, rfl, ?_⟩
        refine ⟨R.n + 1 - (j + 1), by omega, rfl, j + 1, rfl, ?_⟩
        dsimp only
        rw [Lp.bitAnd_nat, ← Lp.grown_next hG.wf]
        rfl
      · have he : Rc83.grown R s0 (j + 1) = Rc83.grown R s0 j := by
          apply Classical.byContradiction
          intro hne
          apply h
          rw [decide_eq_false (fun e => hne (vnat.mp e))]
          rfl
        refine ⟨_, rfl, ?_⟩
        rw [Lp.grown_end he]
        exact k

theorem ok_is_state (T : Txt K mg a) : FnOk P w K mg base CX0 3 a.is_state a.is_stateD ["rules", "known"] (spOfB Rc83.state) := by
  have GG : FnOk P w K mg base CX0 2 a.greatest_state a.greatest_stateD ["rules", "within"] (spOf Rc83.most) := ok_greatest T
  refine T.is_state.fn.ok sc_is_state (fun vs H Q E h => ?_) (fun cdv A outer s H vs Q E hr h => ?_)
  · obtain ⟨r, R, s, rfl, _⟩ := h
    rfl
  · obtain ⟨r, R, s0, rfl, hR, hG, k⟩ := h
    refine ⟨_, pss_one (ps_ret (pe_cmpR op_eq (pe_call GG hr rfl T.greatest_state_mg T.greatest_state.fn.kp T.greatest_state.bi .nil pass0 (pa_cons (pv 0) (pa_cons (pv 1) pa_nil))) (pv 1) (nomark _))), ?_⟩
    refine ⟨_, rfl, _, rfl, r, R, s0, rfl, hR, hG, _, rfl, rfl, ?_⟩
    have e : decide (V.int ((Rc83.most R s0 : Nat) : Int) = V.int (s0 : Int)) = Rc83.state R s0 := by
      unfold Rc83.state
      rw [Bool.eq_iff_iff, decide_eq_true_eq, beq_iff_eq]
      exact vnat
    rw [e]
    exact k
theorem ok_things_next (T : Txt K mg a) : FnOk P w K mg base CX0 2 a.things_next a.things_nextD ["rules", "state"] (spOf Rc83.nexts) := by
  have GT : FnOk P w K mg base CX0 1 a.taught a.taughtD ["rules", "known"] spTaught := ok_taught T
  refine T.things_next.fn.ok sc_things_next (fun vs H Q E h => ?_) (fun cdv A outer s H vs Q E hr h => ?_)
  · obtain ⟨r, R, s, rfl, _⟩ := h
    rfl
  · obtain ⟨r, R, s0, rfl, hR, hG, k⟩ := h
    refine ⟨_, pss_one (ps_ret (pe_op op_and (pe_call GT hr rfl T.taught_mg T.taught.fn.kp T.taught.bi .nil pass0 (pa_cons (pv 0) (pa_cons (pv 1) pa_nil))) (pe_un un_inv (pv 1)))), ?_⟩
    refine ⟨_, rfl, _, rfl, r, R.rules, s0, rfl, hR, good16 hG, _, rfl, _, rfl, _, _, rfl, rfl, ?_⟩
    dsimp only
    rw [Lp.bitAnd_not, ← Lp.nexts_eq hG.wf]
    exact k
theorem ok_things_last (T : Txt K mg a) : FnOk P w K mg base CX0 4 a.things_last a.things_lastD ["rules", "state"] spLast := by
  have GS : FnOk P w K mg base CX0 3 a.is_state a.is_stateD ["rules", "known"] (spOfB Rc83.state) := ok_is_state T
  refine T.things_last.fn.ok sc_things_last (fun vs H Q E h => ?_) (fun cdv A outer s H vs Q E hr h => ?_)
  · obtain ⟨r, R, s, rfl, _⟩ := h
    rfl
  · obtain ⟨r, R, s0, rfl, hR, hG, hs, k⟩ := h
    have hs16 : s0 < 2 ^ 16 := Nat.lt_of_lt_of_le hs (Nat.pow_le_pow_right (by decide) hG.n16)
    refine ⟨_, pss_cons (ps_set (i := 2) sc_things_last.nd rfl (Or.inl rfl) pe_int)
      (pss_cons (ps_set (i := 3) sc_things_last.nd rfl (Or.inl rfl) pe_int)
      (pss_cons (ps_while PassesOwn.never (pt_cmpR op_le (pv 3) (pv 1) (nomark _))
        (pss_cons (ps_if (PW.pt (pw_and (pt_cmpR op_ne (pe_op op_and (pv 1) (pv 3)) pe_int (nomark _)) (pw_and1 (pt_val (pe_call GS hr rfl T.is_state_mg T.is_state.fn.kp T.is_state.bi .nil pass0 (pa_cons (pv 0) (pa_cons (pe_op op_sub (pv 1) (pv 3)) pa_nil)))))))
          (pss_one (ps_set (i := 2) sc_things_last.nd rfl (Or.inl rfl) (pe_op op_or (pv 2) (pv 3)))) pss_nil)
        (pss_one (ps_set (i := 3) sc_things_last.nd rfl (Or.inl rfl) (pe_op op_shl (pv 3) pe_int)))))
      (pss_one (ps_ret (pv 2))))), ?_⟩
    refine ⟨fun m σ H2 => H2 = H ∧ ∃ j, m = 17 - j ∧ σ = [some (.ref r), some (.int (s0 : Int)), some (.int ((Rc83.lasts R s0 % 2 ^ j : Nat) : Int)), some (.int ((2 ^ j : Nat) : Int))],
      ⟨_, rfl, 0, rfl, ?_⟩, ?_⟩
    · rw [Nat.pow_zero, Nat.mod_one]
      rfl
    · rintro m σ H2 ⟨rfl, j, rfl, rfl⟩
      refine ⟨_, rfl, _, rfl, _, _, rfl, rfl, _, rfl, ?_⟩
      refine ite2 (fun h => ?_) (fun h => ?_)
      · have hle : 2 ^ j ≤ s0 := by have := of_decide_eq_true h; omega
        have hj : j < 16 := by
          apply Classical.byContradiction
          intro hn
          have := Nat.pow_le_pow_right (n := 2) (by decide) (Nat.le_of_not_lt hn)
          omega
        have hp16 : 2 ^ j < 2 ^ 16 := Nat.pow_lt_pow_right (by decide) hj
        have hshl : ((2 ^ j : Nat) : Int) * 2 ^ (1 : Int).toNat = ((2 ^ (j + 1) : Nat) : Int) := by
          rw [Nat.pow_succ]; show ((2 ^ j : Nat) : Int) * 2 ^ 1 = _; omega
        refine ⟨fun σ' H' => ∃ m', m' < 17 - j ∧ H' = H2 ∧ ∃ j', m' = 17 - j' ∧ σ' = [some (.ref r), some (.int (s0 : Int)), some (.int ((Rc83.lasts R s0 % 2 ^ j' : Nat) : Int)), some (.int ((2 ^ j' : Nat) : Int))], fun _ _ h => h, ?_⟩
        refine ⟨_, rfl, _, rfl, _, _, rfl, rfl, rfl, _, rfl, ?_⟩
        have eb : (V.int (Builtin.bitAnd (s0 : Int) ((2 ^ j : Nat) : Int)) = V.int 0) ↔ s0 &&& 2 ^ j = 0 := by rw [Lp.bitAnd_nat]; exact vint.trans (by omega)
        have hstep := Lp.mod_step (Rc83.lasts R s0) j
        rw [Lp.lasts_bit hs] at hstep
        refine ite2 (fun h2 => ?_) (fun h2 => ?_)
        · have hbit : s0.testBit j = true := (Lp.and_pow_ne s0 j).mp fun e => by
            have h2' : (!decide (V.int (Builtin.bitAnd (s0 : Int) ((2 ^ j : Nat) : Int)) = V.int 0)) = true := h2
            rw [decide_eq_true (eb.mpr e)] at h2'; cases h2'
          rw [hbit, Bool.true_and] at hstep
          have hsub : (s0 : Int) - ((2 ^ j : Nat) : Int) = ((s0 - 2 ^ j : Nat) : Int) := by omega
          refine ⟨_, rfl, _, rfl, _, rfl, _, _, rfl, rfl, r, R, s0 - 2 ^ j, by rw [← hsub]; rfl, hR, hG, _, rfl, ?_⟩
          refine ite2 (fun h3 => ?_) (fun h3 => ?_)
          · rw [if_pos h3] at hstep
            refine ⟨_, rfl, _, rfl, _, _, rfl, rfl, ?_⟩
            refine ⟨_, rfl, _, _, rfl, rfl, ⟨by decide, by decide, by omega⟩, ?_⟩
            refine ⟨17 - (j + 1), by omega, rfl, j + 1, rfl, ?_⟩
            dsimp only
            rw [hshl, hstep, Lp.bitOr_nat]
            rfl
          · rw [if_neg h3] at hstep
            refine ⟨_, rfl, _, _, rfl, rfl, ⟨by decide, by decide, by omega⟩, ?_⟩
            refine ⟨17 - (j + 1), by omega, rfl, j + 1, rfl, ?_⟩
            dsimp only
            rw [hshl, hstep]
            rfl
        · have hbit : s0.testBit j = false := by
            cases e : s0.testBit j
            · rfl
            · exfalso
              apply h2
              show (!decide (V.int (Builtin.bitAnd (s0 : Int) ((2 ^ j : Nat) : Int)) = V.int 0)) = true
              rw [decide_eq_false (fun z => (Lp.and_pow_ne s0 j).mpr e (eb.mp z))]
              rfl
          rw [hbit, Bool.false_and, if_neg Bool.false_ne_true] at hstep
          refine iteF ?_
          refine ⟨_, rfl, _, _, rfl, rfl, ⟨by decide, by decide, by omega⟩, ?_⟩
          refine ⟨17 - (j + 1), by omega, rfl, j + 1, rfl, ?_⟩
          dsimp only
          rw [hshl, hstep]
          rfl
      · have hlt : s0 < 2 ^ j := by
          apply Classical.byContradiction
          intro hn
          exact h (decide_eq_true (by omega))
        refine ⟨_, rfl, ?_⟩
        rw [Lp.mod_full (Lp.lasts_within R s0) hlt]
        exact k


theorem ok_hull_of (T : Txt K mg a) : FnOk P w K mg base CX0 3 a.hull_of a.hull_ofD ["rules", "everything", "known"] (spEv fun R s => Rc83.hull R s) := by
  have GG : FnOk P w K mg base CX0 2 a.greatest_state a.greatest_stateD ["rules", "within"] (spOf Rc83.most) := ok_greatest T
  refine T.hull_of.fn.ok sc_hull_of (fun vs H Q E h => ?_) (fun cdv A outer s H vs Q E hr h => ?_)
  · obtain ⟨r, R, s, rfl, _⟩ := h
    rfl
  · obtain ⟨r, R, s0, rfl, hR, hG, k⟩ := h
    refine ⟨_, pss_one (ps_ret (pe_op op_sub (pv 1) (pe_call GG hr rfl T.greatest_state_mg T.greatest_state.fn.kp T.greatest_state.bi .nil pass0 (pa_cons (pv 0) (pa_cons (pe_op op_and (pv 1) (pe_un un_inv (pv 2))) pa_nil))))), ?_⟩
    have e1 : Builtin.bitAnd ((Rc83.all R.n : Nat) : Int) (Builtin.bitNot (s0 : Int)) = ((Rc83.less (Rc83.all R.n) s0 : Nat) : Int) := Lp.bitAnd_not _ _
    refine ⟨_, rfl, _, rfl, _, rfl, _, rfl, _, rfl, _, _, rfl, rfl, r, R, Rc83.less (Rc83.all R.n) s0, by rw [← e1]; rfl, hR, hG, _, _, rfl, rfl, ?_⟩
    have hle : Rc83.most R (Rc83.less (Rc83.all R.n) s0) ≤ Rc83.all R.n := Lp.within_le (Lp.within_all (Lp.most_lt R _))
    have e2 : ((Rc83.all R.n : Nat) : Int) - ((Rc83.most R (Rc83.less (Rc83.all R.n) s0) : Nat) : Int) = ((Rc83.hull R s0 : Nat) : Int) := by
      unfold Rc83.hull; omega
    dsimp only
    rw [e2]
    exact k
theorem ok_corners_of (T : Txt K mg a) : FnOk P w K mg base CX0 4 a.corners_of a.corners_ofD ["rules", "everything", "known"] (spEv fun R s => Rc83.corners R s) := by
  have GH : FnOk P w K mg base CX0 3 a.hull_of a.hull_ofD ["rules", "everything", "known"] (spEv fun R s => Rc83.hull R s) := ok_hull_of T
  have GN : FnOk P w K mg base CX0 2 a.things_next a.things_nextD ["rules", "state"] (spOf Rc83.nexts) := ok_things_next T
  refine T.corners_of.fn.ok sc_corners_of (fun vs H Q E h => ?_) (fun cdv A outer s H vs Q E hr h => ?_)
  · obtain ⟨r, R, s, rfl, _⟩ := h
    rfl
  · obtain ⟨r, R, s0, rfl, hR, hG, k⟩ := h
    have hr2 : Room 2 _ := hr.mono (by decide)
    refine ⟨_, pss_cons (ps_set (i := 3) sc_corners_of.nd rfl (Or.inl rfl) (pe_op op_sub (pv 1) (pe_call GH hr rfl T.hull_of_mg T.hull_of.fn.kp T.hull_of.bi .nil pass0 (pa_cons (pv 0) (pa_cons (pv 1) (pa_cons (pv 2) pa_nil))))))
      (pss_one (ps_ret (pe_call GN hr2 rfl T.things_next_mg T.things_next.fn.kp T.things_next.bi .nil pass0 (pa_cons (pv 0) (pa_cons (pv 3) pa_nil))))), ?_⟩
    have e1 : ((Rc83.all R.n : Nat) : Int) - ((Rc83.hull R s0 : Nat) : Int) = ((Lp.out R s0 : Nat) : Int) := by
      have hle : Lp.out R s0 ≤ Rc83.all R.n := Lp.within_le (Lp.within_all (Lp.most_lt R _))
      have : Rc83.hull R s0 = Rc83.all R.n - Lp.out R s0 := rfl
      omega
    refine ⟨_, rfl, _, rfl, _, rfl, _, rfl, r, R, s0, rfl, hR, hG, _, _, rfl, rfl, ?_⟩
    dsimp only
    rw [e1]
    refine ⟨_, rfl, _, rfl, r, R, Lp.out R s0, rfl, hR, hG, ?_⟩
    rw [← Lp.corners_eq hG.wf]
    exact k

/-! ### the things of a set -/
theorem bits_len (s : Nat) : s < 2 ^ (Builtin.Int.intBits (s : Int)) := by
  unfold Builtin.Int.intBits
  by_cases h : s = 0
  · subst h; decide
  · have h0 : ((s : Int) == 0) = false := by rw [beq_eq_false_iff_ne]; omega
    rw [h0]
    have : (s : Int).natAbs = s := Int.natAbs_natCast s
    simp only [Bool.false_eq_true, if_false, this]
    exact Nat.lt_log2_self
theorem bits_le {s m : Nat} (h : s < 2 ^ m) : Builtin.Int.intBits (s : Int) ≤ m := by
  unfold Builtin.Int.intBits
  by_cases h0 : s = 0
  · subst h0; exact Nat.zero_le _
  · have h1 : ((s : Int) == 0) = false := by rw [beq_eq_false_iff_ne]; omega
    rw [h1]
    have : (s : Int).natAbs = s := Int.natAbs_natCast s
    simp only [Bool.false_eq_true, if_false, this]
    exact (Nat.log2_lt h0).mpr h
theorem bitsL_snoc (m f : Nat) : Lp.bitsL (m + 1) f = if f.testBit m = true then Lp.bitsL m f ++ [m] else Lp.bitsL m f := by
  unfold Lp.bitsL
  rw [List.range_succ, List.filter_append]
  by_cases h : f.testBit m = true
  · rw [if_pos h, List.filter_cons_of_pos (by simpa using h)]; rfl
  · rw [if_neg h, List.filter_cons_of_neg (by simpa using h)]; simp
theorem bitsL_len (m f : Nat) : (Lp.bitsL m f).length ≤ m := by
  unfold Lp.bitsL
  have := List.length_filter_le (fun x => f.testBit x) (List.range m)
  rw [List.length_range] at this
  exact this
theorem bk_things_in : BlkOk ["known", "thing"] (defScope s_things_in) (lcScope (retOf s_things_in)) [("thing", 1)] := ⟨rfl, by decide +kernel, by decide +kernel, by decide +kernel, by decide +kernel⟩
theorem ok_things_in (T : Txt K mg a) : FnOk P w K mg base CX0 1 a.things_in a.things_inD ["known"] spIn := by
  refine T.things_in.fn.ok sc_things_in (fun vs H Q E h => ?_) (fun cdv A outer s H vs Q E hr h => ?_)
  · obtain ⟨s, rfl, _⟩ := h
    rfl
  · obtain ⟨s0, rfl, hs, k⟩ := h
    refine ⟨_, pss_one (ps_ret (pe_lc rfl sc_things_in.nd (pi_range1 rfl T.b_range (pa_cons (pe_bm0 PySem.F.plainAttrs_int PyProof.Rows.slot_int_bit_length PyProof.Rows.type_int_bit_length mt_bits (pv 0)) pa_nil)) bk_things_in
      (fun _ _ _ _ _ => pg_name (i := 1) sc_things_in.nd rfl (Or.inl rfl)) (fun _ _ _ _ _ => pts_one (pt_cmpR op_eq (pe_op op_and (pe_op op_shr (pv 0) (pv 1)) pe_int) pe_int (nomark _))) (fun _ _ _ _ _ => pv 1))), ?_⟩
    have hm := bits_len s0
    have hm2 := bits_le hs
    refine ⟨_, rfl, rfl, _, rfl, rfl, _, rfl, by omega, by omega, fun D hD => ?_⟩
    refine lc_range (lo := 0) (n := Builtin.Int.intBits (s0 : Int)) (fun i H2 => H2 = upd H D (.lst (nv (Lp.bitsL i s0)))) rfl (fun i H2 hi e => ?_) (fun H2 e => ?_)
    · subst e
      refine ⟨rfl, ?_⟩
      have eb : (V.int (Builtin.bitAnd ((s0 : Int) / 2 ^ ((0 : Int) + (i : Int)).toNat) 1) = V.int 1) ↔ s0.testBit i = true := by
        have e0 : (0 : Int) + (i : Int) = ((i : Nat) : Int) := by omega
        rw [e0, Lp.shr_nat, show (1 : Int) = ((1 : Nat) : Int) from rfl, Lp.bitAnd_nat, Lp.shr_bit]
        cases s0.testBit i <;> simp [vint]
      refine ⟨_, rfl, _, rfl, _, _, rfl, rfl, by omega, _, _, rfl, rfl, rfl, _, rfl, ?_⟩
      refine ite2 (fun h => ?_) (fun h => ?_)
      · have hb := eb.mp (of_decide_eq_true h)
        refine ⟨_, rfl, nv (Lp.bitsL i s0), upd_same, ?_, ?_⟩
        · have := bitsL_len i s0
          rw [List.length_map]
          exact small1000 (by omega)
        · rw [upd_upd, bitsL_snoc, if_pos hb]
          unfold nv
          rw [List.map_append]
          have e0 : (0 : Int) + (i : Int) = ((i : Nat) : Int) := by omega
          rw [e0]
          rfl
      · have hb : ¬ s0.testBit i = true := fun z => h (decide_eq_true (eb.mpr z))
        show upd H D (.lst (nv (Lp.bitsL i s0))) = _
        rw [bitsL_snoc, if_neg hb]
    · subst e
      have : Lp.bitsL (Builtin.Int.intBits (s0 : Int)) s0 = Lp.bitsL 16 s0 := Lp.bitsL_eq hs hm
      rw [this]
      exact k D _ hD (same_new hD) upd_same
end
end Lq
end
section
set_option Elab.async false
set_option linter.all false
set_option maxRecDepth 100000
set_option maxHeartbeats 4000000
namespace Lq
open PySem L2

/-! ### tables as they lie -/
noncomputable abbrev tabV (B : List (Nat × Nat)) : List (Key × V) := B.map fun p => ((Sum.inl (p.1 : Int) : Key), V.int (p.2 : Int))
theorem tabV_get (B : List (Nat × Nat)) (g : Nat) : valV (tabV B) (Sum.inl (g : Int) : Key) = (B.lookup g).map fun (v : Nat) => V.int (v : Int) := by
  induction B with
  | nil => rfl
  | cons p r ih =>
    obtain ⟨x, y⟩ := p
    show valV (((Sum.inl (x : Int) : Key), V.int (y : Int)) :: tabV r) _ = _
    rw [List.lookup_cons]
    by_cases e : g = x
    · subst e
      rw [valV_pos rfl, beq_self_eq_true]
      rfl
    · rw [valV_neg (fun z => e (by have := Sum.inl.inj z; omega)), beq_eq_false_iff_ne.mpr e]
      exact ih
theorem tabV_key (B : List (Nat × Nat)) : (tabV B).map (fun kv => kV kv.1) = (B.map fun p => (p.1 : Int)).map V.int := by
  rw [List.map_map, List.map_map]; rfl
theorem tabV_new {B : List (Nat × Nat)} {g : Nat} (v : Nat) (h : B.lookup g = none) : putK (tabV B) (Sum.inl (g : Int) : Key) (V.int (v : Int)) = tabV (B ++ [(g, v)]) := by
  rw [putK_new _ (by rw [tabV_get, h]; rfl)]
  show _ = (B ++ [(g, v)]).map _
  rw [List.map_append]
  rfl
theorem tab_small {f : Nat → Nat} {D : Nat → Prop} {B : List (Nat × Nat)} (t : Lp.Tab f D B) (h : ∀ g, D g → g < 65536) : B.length ≤ 65536 := by
  have nd : ((List.range 65536).filter fun x => decide (x ∈ B.map (·.1))).Nodup := List.Pairwise.filter _ List.nodup_range
  have p := Lp.len_of_mem t.nd nd fun x => by
    rw [List.mem_filter, List.mem_range, decide_eq_true_eq]
    exact ⟨fun z => ⟨h x ((t.mem x).mp z), z⟩, fun z => z.2⟩
  have e := p.length_eq
  rw [List.length_map] at e
  have := List.length_filter_le (fun x => decide (x ∈ B.map (·.1))) (List.range 65536)
  rw [List.length_range] at this
  omega
theorem state_small {R : Rc83.Lore} (G : Lp.Good R) {s : Nat} (h : Rc83.state R s = true) : s < 65536 :=
  Nat.lt_of_lt_of_le (Lp.state_lt_pow h) (Nat.le_trans (Nat.pow_le_pow_right (by decide) G.n16) (by decide))
theorem nexts16 {R : Rc83.Lore} (G : Lp.Good R) (s : Nat) : Rc83.nexts R s < 2 ^ 16 := Nat.lt_of_lt_of_le (Lp.nexts_lt_pow R s) (Nat.pow_le_pow_right (by decide) G.n16)
theorem tab_line {n : Nat} (h : n ≤ 65536) : n < sizeLine := Nat.lt_of_le_of_lt h (by decide)

/-! ### what the defs of walks.py promise -/
noncomputable def spNeed : Sp := fun vs H Q _ => ∃ (r : Addr) (rs : List Rc83.Rule) (x : Nat), vs = [.ref r, .int (x : Int)] ∧ RulesAt H r rs ∧ rs.length ≤ 256 ∧ ∀ (l : Addr) (H' : Hp), H l = none → Same H H' → RulesAt H' l (Lp.needing rs x) → Q (.ref l) H'
noncomputable def OpenAt (H : Hp) (op : Addr) (R : Rc83.Lore) : Prop := ∃ os : List Addr, H op = some (.lst (os.map V.ref)) ∧ os.length = R.n ∧ ∀ (x : Nat) (o : Addr), os[x]? = some o → RulesAt H o (Lp.needing R.rules x)
noncomputable def spBehind : Sp := fun vs H Q _ => ∃ (lv op : Addr) (B : List (Nat × Nat)) (R : Rc83.Lore) (k : Nat), vs = [.ref lv, .ref op] ∧ H lv = some (.dK (tabV B)) ∧ Lp.Tab (Rc83.nexts R) (Lp.Lv R k) B ∧ OpenAt H op R ∧ Lp.Good R ∧
  ∀ (d : Addr) (B' : List (Nat × Nat)) (H' : Hp), H d = none → Same H H' → H' d = some (.dK (tabV B')) → Lp.Tab (Rc83.nexts R) (Lp.Lv R (k + 1)) B' → Q (.ref d) H'
noncomputable def spNexts : Sp := fun vs H Q _ => ∃ (r : Addr) (R : Rc83.Lore), vs = [.ref r, .int (R.n : Int)] ∧ RulesAt H r R.rules ∧ Lp.Good R ∧ ∀ (d : Addr) (B : List (Nat × Nat)) (H' : Hp), H d = none → Same H H' → H' d = some (.dK (tabV B)) → Lp.Walk R B → Q (.ref d) H'

theorem needing_snoc (rs : List Rc83.Rule) (q : Rc83.Rule) (x : Nat) : Lp.needing (rs ++ [q]) x = if q.2.testBit x = true then Lp.needing rs x ++ [q] else Lp.needing rs x := by
  unfold Lp.needing
  rw [List.filter_append]
  by_cases h : q.2.testBit x = true
  · rw [if_pos h, List.filter_cons_of_pos (by simpa using h)]; rfl
  · rw [if_neg h, List.filter_cons_of_neg (by simpa using h)]; simp
theorem needing_len (rs : List Rc83.Rule) (x : Nat) : (Lp.needing rs x).length ≤ rs.length := List.length_filter_le _ _
theorem RulesAt.but {H H' : Hp} {r : Addr} {rs : List Rc83.Rule} {d : Addr} {kvs : List (Key × V)} (h : RulesAt H r rs) (hd : H d = some (.dK kvs)) (k : But d H H') : RulesAt H' r rs := by
  obtain ⟨ts, h1, h2⟩ := h.ex
  exact ⟨ts, k _ _ h1 (ne_of h1 hd (by intro z; cases z)), Paired.mapP h2 fun t q z => k _ _ z (ne_of z hd (by intro z; cases z))⟩

section
variable {P : Program} {w : World} {K : PySem.W.Frag} {mg : Str → Option Value} {base : Heap} {a : Ad}
theorem bk_rules_needing : BlkOk ["rules", "thing", "rule"] (defScope s_rules_needing) (lcScope (retOf s_rules_needing)) [("rule", 2)] := ⟨rfl, by decide +kernel, by decide +kernel, by decide +kernel, by decide +kernel⟩
theorem ok_rules_needing (T : Txt K mg a) : FnOk P w K mg base CX0 1 a.rules_needing a.rules_needingD ["rules", "thing"] spNeed := by
  refine T.rules_needing.fn.ok sc_rules_needing (fun vs H Q E h => ?_) (fun cdv A outer s H vs Q E hr h => ?_)
  · obtain ⟨r, rs, x, rfl, _⟩ := h
    rfl
  · obtain ⟨r, rs, x, rfl, hR, hlen, k⟩ := h
    obtain ⟨ts, hr0, hp⟩ := hR.ex
    have hl : ts.length = rs.length := Paired.length hp
    refine ⟨_, pss_one (ps_ret (pe_lc rfl sc_rules_needing.nd (pi_list (pv 0)) bk_rules_needing
      (fun _ _ _ _ _ => pg_name (i := 2) sc_rules_needing.nd rfl (Or.inl rfl))
      (fun _ _ _ _ _ => pts_one (pt_cmpR op_eq (pe_op op_and (pe_op op_shr (pe_ix (show IxR _ (rIxT K) from ix_tup) (pv 2) pe_int (fun _ _ => rfl)) (pv 1)) pe_int) pe_int (nomark _))) (fun _ _ _ _ _ => pv 2))), ?_⟩
    refine ⟨_, rfl, r, rfl, ⟨_, SqL.of hr0⟩, fun D hD => ?_⟩
    have nDr : r ≠ D := ne_of_none hr0 hD
    refine lc_list (K := K) (a := r) (xs := ts.map V.ref) (fun i H2 => ∃ ts' : List Addr, H2 = upd H D (.lst (ts'.map V.ref)) ∧ Paired (RuleAt H) ts' (Lp.needing (rs.take i) x)) ⟨[], rfl, .nil⟩ (fun i H2 _ ⟨ts', e, _⟩ => ?_) (fun i y H2 hi ⟨ts', e, hp'⟩ => ?_) (fun H2 ⟨ts', e, hp'⟩ => ?_)
    · subst e
      exact SqL.of (by rw [upd_ne nDr]; exact hr0)
    · subst e
      rw [List.getElem?_map] at hi
      cases ht : ts[i]? with
      | none => rw [ht] at hi; cases hi
      | some t =>
        rw [ht] at hi
        cases hi
        obtain ⟨q, hq, hrule⟩ := paired_get hp ht
        have htake : rs.take (i + 1) = rs.take i ++ [q] := by rw [List.take_add_one, hq]; rfl
        have hrule' : (upd H D (.lst (ts'.map V.ref))) t = some (.tup [.int ((q.1 : Nat) : Int), .int ((q.2 : Nat) : Int)]) := by
          rw [upd_ne (ne_of_none hrule hD)]; exact hrule
        have eb : (V.int (Builtin.bitAnd (((q.2 : Nat) : Int) / 2 ^ ((x : Int)).toNat) 1) = V.int 1) ↔ q.2.testBit x = true := by
          rw [Lp.shr_nat, show (1 : Int) = ((1 : Nat) : Int) from rfl, Lp.bitAnd_nat, Lp.shr_bit]
          cases q.2.testBit x <;> simp [vint]
        refine ⟨rfl, ?_⟩
        refine ⟨_, rfl, t, _, _, _, rfl, rfl, SqT.of hrule', atI_nat (j := 1) (v := .int ((q.2 : Nat) : Int)) rfl, _, rfl, _, _, rfl, rfl, by omega, _, _, rfl, rfl, rfl, _, rfl, ?_⟩
        refine ite2 (fun h => ?_) (fun h => ?_)
        · have hb := eb.mp (of_decide_eq_true h)
          refine ⟨_, rfl, ts'.map V.ref, upd_same, ?_, ts' ++ [t], ?_, ?_⟩
          · have h1 : ts'.length = (Lp.needing (rs.take i) x).length := Paired.length hp'
            have h2 := needing_len (rs.take i) x
            have h3 : (rs.take i).length ≤ rs.length := by rw [List.length_take]; omega
            rw [List.length_map]
            exact small1000 (by omega)
          · rw [upd_upd, List.map_append]; rfl
          · rw [htake, needing_snoc, if_pos hb]
            exact Paired.snoc hp' hrule
        · have hb : ¬ q.2.testBit x = true := fun z => h (decide_eq_true (eb.mpr z))
          refine ⟨ts', rfl, ?_⟩
          rw [htake, needing_snoc, if_neg hb]
          exact hp'
    · subst e
      rw [List.length_map, hl, List.take_length] at hp'
      exact k D _ hD (same_new hD) ⟨ts', upd_same, Paired.mapP hp' fun t q z => same_new hD _ _ z⟩
end
end Lq
end
section
set_option Elab.async false
set_option linter.all false
set_option maxRecDepth 100000
set_option maxHeartbeats 4000000
namespace Lq
open PySem L2

theorem or_one (s x : Nat) : Builtin.bitOr (s : Int) ((1 : Int) * 2 ^ ((x : Int)).toNat) = ((s ||| 2 ^ x : Nat) : Int) := by rw [Lp.shl_one, Lp.bitOr_nat]
theorem take_succ_ex {α : Type} {l : List α} {i : Nat} {q : α} (h : l[i]? = some q) : l.take (i + 1) = l.take i ++ [q] := by rw [List.take_add_one, h]; rfl
/-- what is reached in one step from some states -/
noncomputable def Reach (R : Rc83.Lore) (l : List (Nat × Nat)) (g : Nat) : Prop := ∃ p ∈ l, ∃ x, (Rc83.nexts R p.1).testBit x = true ∧ g = p.1 ||| 2 ^ x
theorem reach_snoc {R : Rc83.Lore} {l : List (Nat × Nat)} {p : Nat × Nat} (g : Nat) : Reach R (l ++ [p]) g ↔ Reach R l g ∨ ∃ x ∈ Lp.nextsL R p.1, g = p.1 ||| 2 ^ x := by
  constructor
  · rintro ⟨q, hq, x, h1, h2⟩
    rcases List.mem_append.mp hq with hq | hq
    · exact .inl ⟨q, hq, x, h1, h2⟩
    · have e := List.mem_singleton.mp hq
      subst e
      exact .inr ⟨x, Lp.mem_nextsL.mpr h1, h2⟩
  · rintro (⟨q, hq, x, h1, h2⟩ | ⟨x, h1, h2⟩)
    · exact ⟨q, List.mem_append_left _ hq, x, h1, h2⟩
    · exact ⟨p, List.mem_append_right _ (by simp), x, Lp.mem_nextsL.mp h1, h2⟩
theorem reach_lv {R : Rc83.Lore} (W : Lp.Wf R) {B : List (Nat × Nat)} {k : Nat} (t : Lp.Tab (Rc83.nexts R) (Lp.Lv R k) B) (g : Nat) : Lp.Lv R (k + 1) g ↔ Reach R B g := by
  rw [Lp.lv_step W]
  constructor
  · rintro ⟨s, x, h1, h2, h3⟩
    obtain ⟨p, hp, rfl⟩ := List.mem_map.mp ((t.mem s).mpr h1)
    exact ⟨p, hp, x, h2, h3⟩
  · rintro ⟨p, hp, x, h2, h3⟩
    exact ⟨p.1, x, (t.mem p.1).mp (List.mem_map.mpr ⟨p, hp, rfl⟩), h2, h3⟩
theorem reach_state {R : Rc83.Lore} {D : Nat → Prop} {f : Nat → Nat} {B : List (Nat × Nat)} (t : Lp.Tab f D B) (hD : ∀ s, D s → Rc83.state R s = true) {l : List (Nat × Nat)} (hl : ∀ p ∈ l, p ∈ B) {g : Nat} (h : Reach R l g) : Rc83.state R g = true := by
  obtain ⟨p, hp, x, h1, rfl⟩ := h
  exact Lp.state_next (hD _ ((t.mem p.1).mp (List.mem_map.mpr ⟨p, hl p hp, rfl⟩))) h1
theorem OpenAt.but {H H' : Hp} {op d : Addr} {R : Rc83.Lore} {kvs : List (Key × V)} (h : OpenAt H op R) (hd : H d = some (.dK kvs)) (k : But d H H') : OpenAt H' op R := by
  obtain ⟨os, h1, h2, h3⟩ := h
  exact ⟨os, k _ _ h1 (ne_of h1 hd (by intro z; cases z)), h2, fun x o e => (h3 x o e).but hd k⟩
theorem nodup_nextsL (R : Rc83.Lore) (s : Nat) : (Lp.nextsL R s).Nodup := List.Pairwise.filter _ List.nodup_range
section
variable {P : Program} {w : World} {K : PySem.W.Frag} {mg : Str → Option Value} {base : Heap} {a : Ad}
noncomputable abbrev invB1 (lv op bd : Addr) (od : Obj) (B : List (Nat × Nat)) (R : Rc83.Lore) (H : Hp) (i : Nat) (σ : St) (H2 : Hp) : Prop := ∃ (B' : List (Nat × Nat)) (v3 v4 v5 v6 : Option V), σ = [some (.ref lv), some (.ref op), some (.ref bd), v3, v4, v5, v6] ∧ H2 lv = some (.frz od (.dK (tabV B))) ∧ H2 bd = some (.dK (tabV B')) ∧ But lv H H2 ∧ Lp.Tab (Rc83.nexts R) (Reach R (B.take i)) B'
noncomputable abbrev invB2 (lv op bd l : Addr) (od : Obj) (B : List (Nat × Nat)) (R : Rc83.Lore) (H : Hp) (st i : Nat) (j : Nat) (σ : St) (H4 : Hp) : Prop := ∃ (B'' : List (Nat × Nat)) (v5 v6 : Option V), σ = [some (.ref lv), some (.ref op), some (.ref bd), some (.int (st : Int)), some (.int ((Rc83.nexts R st : Nat) : Int)), v5, v6] ∧ H4 lv = some (.frz od (.dK (tabV B))) ∧ H4 bd = some (.dK (tabV B'')) ∧ But lv H H4 ∧ H4 l = some (.lst (nv (Lp.nextsL R st))) ∧ Lp.Tab (Rc83.nexts R) (fun g => Reach R (B.take i) g ∨ ∃ x ∈ (Lp.nextsL R st).take j, g = st ||| 2 ^ x) B''
theorem ok_states_behind (T : Txt K mg a) : FnOk P w K mg base CX0 2 a.states_behind a.states_behindD ["level", "openers"] spBehind := by
  have GI : FnOk P w K mg base CX0 1 a.things_in a.things_inD ["known"] spIn := ok_things_in T
  have GT : FnOk P w K mg base CX0 1 a.taught a.taughtD ["rules", "known"] spTaught := ok_taught T
  refine T.states_behind.fn.ok sc_states_behind (fun vs H Q E h => ?_) (fun cdv A outer s H vs Q E hr h => ?_)
  · obtain ⟨lv, op, B, R, kk, rfl, _⟩ := h
    rfl
  · obtain ⟨lv, op, B, R, kk, rfl, hlv, tB, hO, hG, k⟩ := h
    have hu := hu_of hr
    refine ⟨_, pss_cons (ps_set (i := 2) sc_states_behind.nd rfl (Or.inl rfl) pe_dnewK)
      (pss_cons (ps_lock (ps_for PassesOwn.never rfl (pi_items (pv 0)) (pg_tup rfl (pgs_cons (pg_name (i := 3) sc_states_behind.nd rfl (Or.inl rfl)) (pgs_cons (pg_name (i := 4) sc_states_behind.nd rfl (Or.inl rfl)) pgs_nil)))
        (pss_one (ps_for PassesOwn.never rfl (pi_list (pe_call GI hr rfl T.things_in_mg T.things_in.fn.kp T.things_in.bi .nil pass0 (pa_cons (pv 4) pa_nil))) (pg_name (i := 5) sc_states_behind.nd rfl (Or.inl rfl))
          (pss_cons (ps_set (i := 6) sc_states_behind.nd rfl (Or.inl rfl) (pe_op op_or (pv 3) (pe_op op_shl pe_int (pv 5))))
          (pss_one (ps_if (pt_cmp (pc_dnotin hu (pv 6) (pv 2)))
            (pss_one (ps_dput hu (pv 2) (pv 6) (pe_op op_and (pe_op op_or (pv 4) (pe_call GT hr rfl T.taught_mg T.taught.fn.kp T.taught.bi .nil pass0 (pa_cons (pe_ix ix_list (pv 1) (pv 5) (fun _ _ => rfl)) (pa_cons (pv 6) pa_nil)))) (pe_un un_inv (pv 6))) rfl))
            pss_nil)))))))
      (pss_one (ps_ret (pv 2)))), ?_⟩
    -- behind = {}
    intro bd hbd
    have nlb : lv ≠ bd := ne_of_none hlv hbd
    have hlv1 : (upd H bd (.dK [])) lv = some (.dK (tabV B)) := by rw [upd_ne nlb]; exact hlv
    refine ⟨lv, .dK (tabV B), hlv1, True.intro, fun od => ?_⟩
    refine ⟨_, rfl, lv, od, tabV B, rfl, upd_same, ?_⟩
    -- the frame: all that H has but lv
    refine for_items (d := lv) (o := od) (kvs := tabV B) (invB1 lv op bd od B R H)
      ⟨[], none, none, none, none, rfl, upd_same, by rw [upd_ne nlb.symm, upd_same]; rfl, fun b o e hb => by rw [upd_ne hb, upd_ne (ne_of_none e hbd)]; exact e, Lp.Tab.nil.congr fun x => ⟨fun ⟨p, hp, _⟩ => (nomatch hp), fun z => z.elim⟩⟩
      (fun i σ H2 _ ⟨B', v3, v4, v5, v6, _, e, _⟩ => e) ?_ ?_
    · rintro i ky vl tt σ H2 hi ⟨B', v3, v4, v5, v6, rfl, hlk, hbd2, fr, tB'⟩ hT
      rw [List.getElem?_map] at hi
      cases hp : B[i]? with
      | none => rw [hp] at hi; cases hi
      | some p =>
        obtain ⟨st, fd⟩ := p
        rw [hp] at hi
        cases hi
        have hmem : (st, fd) ∈ B := List.mem_of_getElem? hp
        have hfd : fd = Rc83.nexts R st := tB.val _ hmem
        have hlvst : Lp.Lv R kk st := (tB.mem st).mp (List.mem_map.mpr ⟨_, hmem, rfl⟩)
        subst hfd
        have htk := take_succ_ex hp
        refine ⟨tt, _, rfl, SqT.of upd_same, rfl, _, _, rfl, _, _, rfl, rfl, ?_⟩
        -- for thing in things_in(found)
        refine ⟨_, rfl, Rc83.nexts R st, rfl, nexts16 hG st, fun l H3 hl s3 hl3 => ?_⟩
        have hbits : Lp.bitsL 16 (Rc83.nexts R st) = Lp.nextsL R st := Lp.bits_nexts (nexts16 hG st)
        rw [hbits] at hl3
        have sT : Same H2 H3 := (same_new hT).trans s3
        refine ⟨l, rfl, ⟨_, SqL.of hl3⟩, for_list (K := K) (a := l) (xs := nv (Lp.nextsL R st))
          (invB2 lv op bd l od B R H st i)
          ⟨B', v5, v6, rfl, sT _ _ hlk, sT _ _ hbd2, fr.same sT, hl3, tB'.congr fun x => ⟨fun z => z.elim id fun ⟨y, hy, _⟩ => (nomatch hy), .inl⟩⟩ (fun j σ H4 _ ⟨B'', v5, v6, _, _, _, _, e, _⟩ => SqL.of e) ?_ ?_⟩
        · rintro j y σ H4 hj ⟨B'', v5, v6, rfl, hlk4, hbd4, fr4, hl4, tB''⟩
          rw [List.getElem?_map] at hj
          cases hxj : (Lp.nextsL R st)[j]? with
          | none => rw [hxj] at hj; cases hj
          | some x =>
            rw [hxj] at hj
            cases hj
            have hxn : (Rc83.nexts R st).testBit x = true := Lp.mem_nextsL.mp (List.mem_of_getElem? hxj)
            obtain ⟨hxR, hxs⟩ := Lp.nexts_lt hxn
            have hx16 : x < 16 := Nat.lt_of_lt_of_le hxR hG.n16
            have htj := take_succ_ex hxj
            have hgst : Rc83.state R (st ||| 2 ^ x) = true := Lp.state_next hlvst.1 hxn
            have hD : ∀ g, (Reach R (B.take i) g ∨ ∃ x ∈ (Lp.nextsL R st).take (j + 1), g = st ||| 2 ^ x) ↔ (Reach R (B.take i) g ∨ ∃ x ∈ (Lp.nextsL R st).take j, g = st ||| 2 ^ x) ∨ g = st ||| 2 ^ x := fun g => by
              rw [htj]
              constructor
              · rintro (z | ⟨y, hy, e⟩)
                · exact .inl (.inl z)
                · rcases List.mem_append.mp hy with hy | hy
                  · exact .inl (.inr ⟨y, hy, e⟩)
                  · rw [List.mem_singleton.mp hy] at e; exact .inr e
              · rintro ((z | ⟨y, hy, e⟩) | e)
                · exact .inl z
                · exact .inr ⟨y, List.mem_append_left _ hy, e⟩
                · exact .inr ⟨x, List.mem_append_right _ (by simp), e⟩
            refine ⟨_, rfl, _, rfl, _, _, rfl, rfl, ⟨by omega, by omega, by decide⟩, _, _, rfl, rfl, ?_⟩
            dsimp only
            rw [or_one]
            refine ⟨_, rfl, _, rfl, bd, _, rfl, DGet.k (k := Sum.inl ((st ||| 2 ^ x : Nat) : Int)) hbd4, _, rfl, ?_⟩
            rw [tabV_get]
            by_cases hg : Reach R (B.take i) (st ||| 2 ^ x) ∨ ∃ y ∈ (Lp.nextsL R st).take j, st ||| 2 ^ x = st ||| 2 ^ y
            · rw [tB''.get hg]
              refine iteF ?_
              refine ⟨B'', some (.int (x : Int)), some (.int ((st ||| 2 ^ x : Nat) : Int)), rfl, hlk4, hbd4, fr4, hl4, tB''.congr fun g => (hD g).trans ⟨fun z => z.elim id fun e => by rw [e]; exact hg, .inl⟩⟩
            · rw [tB''.no hg]
              refine iteT ?_
              obtain ⟨os, ho1, ho2, ho3⟩ := hO
              have nopl : op ≠ lv := ne_of ho1 hlv (by intro z; cases z)
              have hxo : x < os.length := by omega
              have hox : os[x]? = some (os[x]'hxo) := List.getElem?_eq_getElem hxo
              have hRx : RulesAt H4 (os[x]'hxo) (Lp.needing R.rules x) := (ho3 x _ hox).but hlv fr4
              have hval : Builtin.bitAnd (Builtin.bitOr ((Rc83.nexts R st : Nat) : Int) ((Lp.taught (Lp.needing R.rules x) (st ||| 2 ^ x) : Nat) : Int)) (Builtin.bitNot ((st ||| 2 ^ x : Nat) : Int)) = ((Rc83.nexts R (st ||| 2 ^ x) : Nat) : Int) := by
                rw [Lp.bitOr_nat, Lp.bitAnd_not, Lp.nexts_grow hG.wf hxn]
              refine ⟨_, rfl, _, rfl, _, rfl, op, _, _, _, rfl, rfl, SqL.of (fr4 _ _ ho1 nopl), atI_nat (j := x) (v := .ref (os[x]'hxo)) (by rw [List.getElem?_map, hox, Option.map_some]), _, rfl,
                os[x]'hxo, Lp.needing R.rules x, st ||| 2 ^ x, rfl, hRx, fun q hq => good16 hG q (List.mem_filter.mp hq).1, _, _, rfl, rfl, _, rfl, _, rfl, _, _, rfl, rfl, ?_⟩
              dsimp only
              rw [hval]
              have hsm : B''.length ≤ 65536 := tab_small tB'' fun g z => by
                refine state_small hG ?_
                rcases z with z | ⟨y, hy, rfl⟩
                · exact reach_state tB (fun _ q => q.1) (fun p hp => List.mem_of_mem_take hp) z
                · exact Lp.state_next hlvst.1 (Lp.mem_nextsL.mp (List.mem_of_mem_take hy))
              refine ⟨_, rfl, _, rfl, bd, _, rfl, DPut.k (k := Sum.inl ((st ||| 2 ^ x : Nat) : Int)) hbd4 (by rw [List.length_map]; exact tab_line hsm), ?_⟩
              have nbl : lv ≠ bd := nlb
              have nlbd : l ≠ bd := ne_of hl4 hbd4 (by intro z; cases z)
              refine ⟨B'' ++ [(st ||| 2 ^ x, Rc83.nexts R (st ||| 2 ^ x))], some (.int (x : Int)), some (.int ((st ||| 2 ^ x : Nat) : Int)), rfl, by rw [upd_ne nbl]; exact hlk4, ?_, fun b o e hb => ?_, by rw [upd_ne nlbd]; exact hl4, tB''.add hg hD⟩
              · rw [upd_same, tabV_new _ (tB''.no hg)]
              · rw [upd_ne (ne_of_none e hbd)]
                exact fr4 b o e hb
        · rintro σ H4 ⟨B'', v5, v6, rfl, hlk4, hbd4, fr4, hl4, tB''⟩
          refine ⟨B'', some (.int (st : Int)), some (.int ((Rc83.nexts R st : Nat) : Int)), v5, v6, rfl, hlk4, hbd4, fr4, ?_⟩
          rw [List.length_map, List.take_length] at tB''
          rw [htk]
          exact tB''.congr fun g => reach_snoc g
    · rintro σ H2 ⟨B', v3, v4, v5, v6, rfl, hlk, hbd2, fr, tB'⟩
      refine ⟨hlk, _, rfl, ?_⟩
      rw [List.length_map, List.take_length] at tB'
      refine k bd B' _ hbd (fun b o e => ?_) (by rw [upd_ne nlb.symm]; exact hbd2) (tB'.congr (reach_lv hG.wf tB))
      by_cases hb : b = lv
      · subst hb
        rw [upd_same, ← e, hlv]
      · rw [upd_ne hb]
        exact fr b o e hb
end
end Lq
end
section
set_option Elab.async false
set_option linter.all false
set_option maxRecDepth 100000
set_option maxHeartbeats 4000000
namespace Lq
open PySem L2

theorem bt_list : bootBuiltins "list" = some (.type "list") := by decide +kernel
theorem bt_sum : bootBuiltins "sum" = some (.builtin "sum") := by decide +kernel
theorem bt_sorted : bootBuiltins "sorted" = some (.builtin "sorted") := by decide +kernel
theorem bt_min : bootBuiltins "min" = some (.builtin "min") := by decide +kernel
theorem less_zero (x : Nat) : Rc83.less x 0 = x := by
  unfold Rc83.less
  have : Nat.land x 0 = 0 := Nat.and_zero x
  rw [this]; rfl
theorem merge_tab : ∀ {L N : List (Nat × Nat)}, (∀ g ∈ L.map (·.1), g ∉ N.map (·.1)) → (L.map (·.1)).Nodup → mergeK (tabV N) (tabV L) = tabV (N ++ L)
  | [], N, _, _ => by rw [List.append_nil]; rfl
  | (g, v) :: L, N, h, nd => by
    obtain ⟨h1, h2⟩ := List.nodup_cons.mp nd
    have hn : N.lookup g = none := Lp.lookup_none (h g (by simp))
    show mergeK (putK (tabV N) (Sum.inl (g : Int)) (V.int (v : Int))) (tabV L) = _
    rw [tabV_new v hn, merge_tab (L := L) (N := N ++ [(g, v)]) (fun x hx hm => ?_) h2]
    · rw [List.append_assoc]; rfl
    · rw [List.map_append, List.mem_append] at hm
      rcases hm with hm | hm
      · exact h x (List.mem_cons_of_mem _ hx) hm
      · have e : x = g := by simpa using hm
        subst e
        exact h1 hx

noncomputable def spWays : Sp := fun vs H Q _ => ∃ (d : Addr) (B : List (Nat × Nat)) (R : Rc83.Lore), vs = [.ref d] ∧ H d = some (.dK (tabV B)) ∧ Lp.Walk R B ∧ Lp.Good R ∧
  ∀ (u : Addr) (B' : List (Nat × Nat)) (H' : Hp), H u = none → Same H H' → H' u = some (.dK (tabV B')) → Lp.Tab (Lp.cnt R) (fun s => Rc83.state R s = true) B' → Q (.ref u) H'
noncomputable def spOrder : Sp := fun vs H Q _ => ∃ (d u : Addr) (B C : List (Nat × Nat)) (R : Rc83.Lore) (k : Nat) (l : List Nat), vs = [.ref d, .ref u, .int (k : Int)] ∧ H d = some (.dK (tabV B)) ∧ Lp.Walk R B ∧ H u = some (.dK (tabV C)) ∧ Lp.Tab (Lp.cnt R) (fun s => Rc83.state R s = true) C ∧ Lp.Good R ∧ (Lp.ords R 0)[k]? = some l ∧
  ∀ (b : Addr) (H' : Hp), H b = none → Same H H' → H' b = some (.lst (nv l)) → Q (.ref b) H'

section
variable {P : Program} {w : World} {K : PySem.W.Frag} {mg : Str → Option Value} {base : Heap} {a : Ad}
theorem bk_nexts : BlkOk ["rules", "amount", "openers", "thing", "nexts", "level"] (defScope s_nexts_by_state) (lcScope (setOf s_nexts_by_state 0)) [("thing", 3)] := ⟨rfl, by decide +kernel, by decide +kernel, by decide +kernel, by decide +kernel⟩
noncomputable abbrev invN (r D nd : Addr) (R : Rc83.Lore) (H : Hp) (m : Nat) (σ : St) (H5 : Hp) : Prop := ∃ (j : Nat) (N L : List (Nat × Nat)) (lv : Addr) (v3 : Option V), m = R.n + 1 - j ∧ σ = [some (.ref r), some (.int (R.n : Int)), some (.ref D), v3, some (.ref nd), some (.ref lv)] ∧ nd ≠ lv ∧ H5 nd = some (.dK (tabV N)) ∧ H5 lv = some (.dK (tabV L)) ∧ Same H H5 ∧ OpenAt H5 D R ∧ Lp.Tab (Rc83.nexts R) (Lp.Below R j) N ∧ (N.map fun p => Rc83.size R.n p.1).Pairwise (· ≤ ·) ∧ Lp.Tab (Rc83.nexts R) (Lp.Lv R j) L
theorem ok_nexts_by_state (T : Txt K mg a) : FnOk P w K mg base CX0 3 a.nexts_by_state a.nexts_by_stateD ["rules", "amount"] spNexts := by
  have GN : FnOk P w K mg base CX0 1 a.rules_needing a.rules_needingD ["rules", "thing"] spNeed := ok_rules_needing T
  have GT : FnOk P w K mg base CX0 1 a.taught a.taughtD ["rules", "known"] spTaught := ok_taught T
  have GB : FnOk P w K mg base CX0 2 a.states_behind a.states_behindD ["level", "openers"] spBehind := ok_states_behind T
  refine T.nexts_by_state.fn.ok sc_nexts_by_state (fun vs H Q E h => ?_) (fun cdv A outer s H vs Q E hr h => ?_)
  · obtain ⟨r, R, rfl, _⟩ := h
    rfl
  · obtain ⟨r, R, rfl, hR, hG, k⟩ := h
    have hu := hu_of hr
    have hr1 : Room 1 _ := hr.mono (by decide)
    refine ⟨_, pss_cons (ps_setLc (i := 2) rfl sc_nexts_by_state.nd rfl rfl (sw_true rfl rfl rfl rfl) (pi_range1 rfl T.b_range (pa_cons (pv 1) pa_nil)) bk_nexts
        (fun _ _ _ _ _ => pg_name (i := 3) sc_nexts_by_state.nd rfl (Or.inl rfl)) (fun _ _ _ _ _ => pts_nil)
        (fun _ _ _ _ _ => pe_call GN hr1 rfl T.rules_needing_mg T.rules_needing.fn.kp T.rules_needing.bi .nil pass0 (pa_cons (pv 0) (pa_cons (pv 3) pa_nil))))
      (pss_cons (ps_set (i := 4) sc_nexts_by_state.nd rfl (Or.inl rfl) pe_dnewK)
      (pss_cons (ps_set (i := 5) sc_nexts_by_state.nd rfl (Or.inl rfl) (pe_disp (pps_cons pe_int (pe_call GT hr1 rfl T.taught_mg T.taught.fn.kp T.taught.bi .nil pass0 (pa_cons (pv 0) (pa_cons pe_int pa_nil))) pps_nil) rfl rfl (by simp) (by simp)))
      (pss_cons (ps_while PassesOwn.never (pt_cmpR op_gt (pe_callB call_lenD (by rfl) T.b_len PySem.boot_len (pa_cons (pv 5) pa_nil)) pe_int (nomark _))
        (pss_cons (ps_expr (pe_bm PySem.F.plainAttrs_dict PySem.F.slot_dict_update PySem.F.type_dict_update mt_update (pv 4) (pa_cons (pv 5) pa_nil)))
        (pss_one (ps_set (i := 5) sc_nexts_by_state.nd rfl (Or.inl rfl) (pe_call GB hr rfl T.states_behind_mg T.states_behind.fn.kp T.states_behind.bi .nil pass0 (pa_cons (pv 5) (pa_cons (pv 2) pa_nil)))))))
      (pss_one (ps_ret (pv 4)))))), ?_⟩
    -- openers
    have hn16 := hG.n16
    refine ⟨_, rfl, _, rfl, by omega, by omega, fun D hD => ?_⟩
    refine lc_range (lo := 0) (n := ((R.n : Int)).toNat) (fun i H2 => ∃ os : List Addr, H2 D = some (.lst (os.map V.ref)) ∧ os.length = i ∧ Same H H2 ∧ ∀ (x : Nat) (o : Addr), os[x]? = some o → o ≠ D ∧ RulesAt H2 o (Lp.needing R.rules x))
      ⟨[], upd_same, rfl, same_new hD, fun x o e => by simp at e⟩ (fun i H2 hi ⟨os, h1, h2, h3, h4⟩ => ?_) (fun H2 ⟨os, h1, h2, h3, h4⟩ => ?_)
    · refine ⟨rfl, ?_⟩
      have e0 : (0 : Int) + (i : Int) = ((i : Nat) : Int) := by omega
      refine ⟨_, rfl, _, rfl, r, R.rules, i, by show [V.ref r, V.int ((0 : Int) + (i : Int))] = [V.ref r, V.int (i : Int)]; rw [e0], hR.same h3, hG.r256, fun l H3 hl s3 hRl => ?_⟩
      have hD3 := s3 _ _ h1
      have nlD : l ≠ D := (ne_of_none h1 hl).symm
      refine ⟨_, hD3, by rw [List.length_map]; exact small1000 (by omega), os ++ [l], ?_, by rw [List.length_append, h2]; rfl, fun b o e => ?_, fun x o e => ?_⟩
      · rw [upd_same, List.map_append]; rfl
      · rw [upd_ne (ne_of_none e hD)]
        exact s3 _ _ (h3 _ _ e)
      · have kp : ∀ b xs, H3 b = some (.tup xs) → (upd H3 D (.lst (os.map V.ref ++ [V.ref l]))) b = some (.tup xs) := fun b xs z => by
          rw [upd_ne (ne_of z hD3 (by intro z; cases z))]; exact z
        by_cases hx : x < os.length
        · rw [List.getElem?_append_left hx] at e
          obtain ⟨noD, hRo⟩ := h4 x o e
          exact ⟨noD, (hRo.same s3).keeps (upd_ne noD) kp⟩
        · rw [List.getElem?_append_right (by omega)] at e
          have hx0 : x - os.length = 0 := by
            apply Classical.byContradiction
            intro hne
            rw [List.getElem?_eq_none (by simp; omega)] at e
            cases e
          rw [hx0] at e
          cases e
          have hxi : x = i := by omega
          subst hxi
          exact ⟨nlD, hRl.keeps (upd_ne nlD) kp⟩
    · have hop : OpenAt H2 D R := ⟨os, h1, by rw [h2]; omega, fun x o e => (h4 x o e).2⟩
      have s2 := h3
      -- nexts = {}; level = {0: ..}
      intro nd hnd
      intro lv hlv0
      have hHnd : H nd = none := s2.free hnd
      have nlv : nd ≠ lv := by
        intro z
        rw [← z, upd_same] at hlv0
        cases hlv0
      have hlv1 : H2 lv = none := by rw [upd_ne nlv.symm] at hlv0; exact hlv0
      have s3 : Same H2 (upd (upd H2 nd (.dK [])) lv (.dK [])) := (same_new hnd).trans (same_new hlv0)
      refine ⟨_, rfl, r, R.rules, 0, rfl, (hR.same s2).same s3, good16 hG, upd_same, [((Sum.inl 0 : Key), V.int ((Lp.taught R.rules 0 : Nat) : Int))], rfl, by simp, ?_⟩
      have hlev : mergeK [] [((Sum.inl 0 : Key), V.int ((Lp.taught R.rules 0 : Nat) : Int))] = tabV [(0, Rc83.nexts R 0)] := by
        rw [Lp.nexts_eq hG.wf, less_zero]; rfl
      rw [hlev, upd_upd]
      have s4 : Same H2 (upd (upd H2 nd (.dK [])) lv (.dK (tabV [(0, Rc83.nexts R 0)]))) := (same_new hnd).trans (same_new hlv0)
      -- the loop
      refine ⟨invN r D nd R H,
        ⟨_, 0, [], [(0, Rc83.nexts R 0)], lv, _, rfl, rfl, nlv, by rw [upd_ne nlv, upd_same]; rfl, upd_same, s2.trans s4, ?_, Lp.Tab.nil.congr fun x => ⟨fun z => absurd z.2 (Nat.not_lt_zero _), fun z => z.elim⟩, List.Pairwise.nil, (Lp.Tab.one (Rc83.nexts R) 0).congr (Lp.lv_zero R)⟩, ?_⟩
      · obtain ⟨os, a1, a2, a3⟩ := hop
        exact ⟨os, s4 _ _ a1, a2, fun x o e => (a3 x o e).same s4⟩
      · rintro m σ H5 ⟨j, N, L, lv, v3, rfl, rfl, nlv, hN5, hL5, s5, hO5, tN, up, tL⟩
        refine ⟨_, rfl, lv, _, rfl, hL5, _, _, rfl, rfl, _, rfl, ?_⟩
        refine ite2 (fun h => ?_) (fun h => ?_)
        · have hpos : 0 < L.length := by have := of_decide_eq_true h; rw [List.length_map] at this; omega
          have hj : j ≤ R.n := by
            have hm : L[0] ∈ L := List.getElem_mem hpos
            exact Lp.lv_le ((tL.mem _).mp (List.mem_map.mpr ⟨_, hm, rfl⟩))
          have hsN : N.length ≤ 65536 := tab_small tN fun g z => state_small hG z.1
          have hsL : L.length ≤ 65536 := tab_small tL fun g z => state_small hG z.1
          have hadd := Lp.walk_add tN up tL
          have hmerge : mergeK (tabV N) (tabV L) = tabV (N ++ L) := merge_tab (fun g hg hm => by
            have a1 := ((tL.mem g).mp hg).2
            have a2 := ((tN.mem g).mp hm).2
            omega) tL.nd
          refine ⟨fun σ' H' => ∃ m', m' < R.n + 1 - j ∧ ∃ (j : Nat) (N L : List (Nat × Nat)) (lv : Addr) (v3 : Option V), m' = R.n + 1 - j ∧ σ' = [some (.ref r), some (.int (R.n : Int)), some (.ref D), v3, some (.ref nd), some (.ref lv)] ∧ nd ≠ lv ∧
            H' nd = some (.dK (tabV N)) ∧ H' lv = some (.dK (tabV L)) ∧ Same H H' ∧ OpenAt H' D R ∧ Lp.Tab (Rc83.nexts R) (Lp.Below R j) N ∧ (N.map fun p => Rc83.size R.n p.1).Pairwise (· ≤ ·) ∧ Lp.Tab (Rc83.nexts R) (Lp.Lv R j) L, fun _ _ h => h, ?_⟩
          refine ⟨_, rfl, .inr (.inr (.inl ⟨rfl, .inl ⟨_, hN5⟩⟩)), _, rfl, nd, lv, tabV N, tabV L, rfl, rfl, nlv, hN5, hL5, ?_, ?_⟩
          · rw [List.length_map, List.length_map]
            have : (65536 : Nat) + 65536 ≤ sizeLine := by decide
            omega
          rw [hmerge]
          have bu : But nd H5 (upd H5 nd (.dK (tabV (N ++ L)))) := fun b o e hb => by rw [upd_ne hb]; exact e
          refine ⟨_, rfl, _, rfl, lv, D, L, R, j, rfl, by rw [upd_ne nlv.symm]; exact hL5, tL, hO5.but hN5 bu, hG, fun d B' H6 hd s6 hd6 tB' => ?_⟩
          have hnd6 : H6 nd = some (.dK (tabV (N ++ L))) := s6 _ _ upd_same
          have s56 : Same H H6 := fun b o e => s6 _ _ (by rw [upd_ne (ne_of_none e hHnd)]; exact s5 b o e)
          refine ⟨R.n + 1 - (j + 1), by omega, j + 1, N ++ L, B', d, v3, rfl, rfl, ne_of_none upd_same hd, hnd6, hd6, s56, ?_, hadd.1, hadd.2, tB'⟩
          obtain ⟨os, a1, a2, a3⟩ := hO5.but hN5 bu
          exact ⟨os, s6 _ _ a1, a2, fun x o e => (a3 x o e).same s6⟩
        · have hnil : L = [] := by
            apply Classical.byContradiction
            intro hne
            exact h (decide_eq_true (by rw [List.length_map]; have := List.length_pos_iff.mpr hne; omega))
          subst hnil
          have hno : ∀ g, ¬ Lp.Lv R j g := fun g z => by
            have := (tL.mem g).mpr z
            simp at this
          exact ⟨_, rfl, k nd N H5 hHnd s5 hN5 ⟨tN.congr (Lp.below_end hG.wf hno), up⟩⟩
end
end Lq
end
section
set_option Elab.async false
set_option linter.all false
set_option maxRecDepth 100000
set_option maxHeartbeats 4000000
namespace Lq
open PySem L2
theorem sum_ints (l : List Nat) : (l.map fun (z : Nat) => (z : Int)).sum = ((l.sum : Nat) : Int) := by
  induction l with
  | nil => rfl
  | cons x r ih => rw [List.map_cons, List.sum_cons, List.sum_cons, ih]; omega
theorem nv_snoc (l : List Nat) (x : Nat) : nv (l ++ [x]) = nv l ++ [V.int (x : Int)] := List.map_append
theorem nv_ints (l : List Nat) : nv l = (l.map fun (z : Nat) => (z : Int)).map V.int := by rw [List.map_map]; rfl
section
variable {P : Program} {w : World} {K : PySem.W.Frag} {mg : Str → Option Value} {base : Heap} {a : Ad}
noncomputable def forBody (st : Stmt) (i : Nat) : List Stmt := match (defBody st)[i]? with
  | some (.For _ _ b _ _) => b
  | _ => []
noncomputable def asgOf : Option Stmt → Expr
  | some (.Assign _ e _) => e
  | _ => .Constant .none 0 ⟨0, 0, 0, 0⟩
theorem bk_ways : BlkOk ["nexts", "ways", "state", "further", "thing"] (defScope s_ways_by_state) (lcScope (asgOf (forBody s_ways_by_state 1)[0]?)) [("thing", 4)] := ⟨rfl, by decide +kernel, by decide +kernel, by decide +kernel, by decide +kernel⟩
noncomputable abbrev invW (d u kl : Addr) (B : List (Nat × Nat)) (R : Rc83.Lore) (H : Hp) (i : Nat) (σ : St) (H2 : Hp) : Prop := ∃ (C : List (Nat × Nat)) (v2 v3 v4 : Option V), σ = [some (.ref d), some (.ref u), v2, v3, v4] ∧ H2 u = some (.dK (tabV C)) ∧ H2 kl = some (.lst ((B.map fun p => (p.1 : Int)).map V.int)) ∧ Same H H2 ∧ Lp.Tab (Lp.cnt R) (fun s => s ∈ (B.map (·.1)).reverse.take i) C
theorem ok_ways_by_state (T : Txt K mg a) : FnOk P w K mg base CX0 2 a.ways_by_state a.ways_by_stateD ["nexts"] spWays := by
  have GI : FnOk P w K mg base CX0 1 a.things_in a.things_inD ["known"] spIn := ok_things_in T
  refine T.ways_by_state.fn.ok sc_ways_by_state (fun vs H Q E h => ?_) (fun cdv A outer s H vs Q E hr h => ?_)
  · obtain ⟨d, B, R, rfl, _⟩ := h
    rfl
  · obtain ⟨d, B, R, rfl, hd, hW, hG, k⟩ := h
    have hu := hu_of hr
    refine ⟨_, pss_cons (ps_set (i := 1) sc_ways_by_state.nd rfl (Or.inr rfl) pe_dnewK)
      (pss_cons (ps_for PassesOwn.never rfl (pi_reversed rfl T.b_reversed (pa_cons (pe_callTy (call_listD rfl) rfl T.b_list bt_list (pa_cons (pv 0) pa_nil)) pa_nil)) (pg_name (i := 2) sc_ways_by_state.nd rfl (Or.inr rfl))
        (pss_cons (ps_setLc (i := 3) rfl sc_ways_by_state.nd rfl rfl (sw_true rfl rfl rfl rfl) (pi_list (pe_call GI hr rfl T.things_in_mg T.things_in.fn.kp T.things_in.bi .nil pass0 (pa_cons (pe_dget hu (pv 0) (pv 2) (fun _ _ => rfl)) pa_nil))) bk_ways
          (fun _ _ _ _ _ => pg_name (i := 4) sc_ways_by_state.nd rfl (Or.inl rfl)) (fun _ _ _ _ _ => pts_nil)
          (fun _ _ _ _ _ => pe_dget hu (pv 1) (pe_op op_or (pv 2) (pe_op op_shl pe_int (pv 4))) (fun _ _ => rfl)))
        (pss_one (ps_dput hu (pv 1) (pv 2) (pe_ifExp (pt_cmpR op_gt (pe_callB call_len_seq (by rfl) T.b_len PySem.boot_len (pa_cons (pv 3) pa_nil)) pe_int (nomark _)) (pe_callB (cr_sum rfl) (by rfl) T.b_sum bt_sum (pa_cons (pv 3) pa_nil)) pe_int) rfl))))
      (pss_one (ps_ret (pv 1)))), ?_⟩
    intro u hu0
    have ndu : d ≠ u := ne_of_none hd hu0
    have s1 : Same H (upd H u (.dK [])) := same_new hu0
    refine ⟨_, rfl, d, tabV B, rfl, .inl (s1 _ _ hd), fun kl hkl => ?_⟩
    have hkl0 : H kl = none := s1.free hkl
    have nku : kl ≠ u := (ne_of_none upd_same hkl).symm
    rw [tabV_key]
    have hlenB : (B.map (·.1)).length = B.length := List.length_map _
    refine ⟨kl, _, rfl, SqL.of upd_same, ?_⟩
    refine for_rev (K := K) (a := kl) (xs := (B.map fun p => (p.1 : Int)).map V.int) (invW d u kl B R H)
      ⟨[], none, none, none, rfl, by rw [upd_ne nku.symm, upd_same]; rfl, upd_same, s1.trans (same_new hkl), Lp.Tab.nil.congr fun x => by simp⟩ (fun i σ H2 _ ⟨C, v2, v3, v4, _, _, e, _⟩ => SqL.of e) ?_ ?_
    · rintro i x σ H2 hi ⟨C, v2, v3, v4, rfl, hC, hk2, s2, tC⟩
      have hi' : ((B.map (·.1)).reverse[i]?).map (fun (z : Nat) => V.int (z : Int)) = some x := by
        rw [← List.getElem?_map, ← hi, List.map_reverse, List.map_map, List.map_map]; rfl
      cases hst : (B.map (·.1)).reverse[i]? with
      | none => rw [hst] at hi'; cases hi'
      | some st =>
        rw [hst] at hi'
        cases hi'
        have hmem : st ∈ B.map (·.1) := List.mem_reverse.mp (List.mem_of_getElem? hst)
        have hstate : Rc83.state R st = true := (hW.tab.mem st).mp hmem
        have hbits : Lp.bitsL 16 (Rc83.nexts R st) = Lp.nextsL R st := Lp.bits_nexts (nexts16 hG st)
        refine ⟨_, rfl, _, rfl, d, _, rfl, (show DGet H2 d (.int (st : Int)) (some (.int ((Rc83.nexts R st : Nat) : Int))) from ?_), Rc83.nexts R st, rfl, nexts16 hG st, fun l H3 hl s3 hl3 => ?_⟩
        · have := DGet.k (H := H2) (a := d) (kvs := tabV B) (k := Sum.inl (st : Int)) (s2 _ _ hd)
          rw [tabV_get, hW.tab.get hstate] at this
          exact this
        rw [hbits] at hl3
        refine ⟨l, rfl, ⟨_, SqL.of hl3⟩, fun D hD => ?_⟩
        have hC3 := s3 _ _ hC
        have nDu : D ≠ u := (ne_of_none hC3 hD).symm
        have nDl : D ≠ l := (ne_of_none hl3 hD).symm
        refine lc_list (K := K) (a := l) (xs := nv (Lp.nextsL R st)) (fun j H4 => H4 = upd H3 D (.lst (nv (((Lp.nextsL R st).take j).map fun y => Lp.cnt R (st ||| 2 ^ y))))) rfl (fun j H4 _ e => ?_) (fun j y H4 hj e => ?_) (fun H4 e => ?_)
        · subst e
          exact SqL.of (by rw [upd_ne nDl.symm]; exact hl3)
        · subst e
          rw [List.getElem?_map] at hj
          cases hxj : (Lp.nextsL R st)[j]? with
          | none => rw [hxj] at hj; cases hj
          | some y =>
            rw [hxj] at hj
            cases hj
            have hyn : (Rc83.nexts R st).testBit y = true := Lp.mem_nextsL.mp (List.mem_of_getElem? hxj)
            have hy16 : y < 16 := Nat.lt_of_lt_of_le (Lp.nexts_lt hyn).1 hG.n16
            have hlat := Lp.walk_later hW hst hyn
            refine ⟨rfl, ?_⟩
            refine ⟨_, rfl, _, rfl, _, rfl, _, _, rfl, rfl, ⟨by omega, by omega, by decide⟩, _, _, rfl, rfl, ?_⟩
            dsimp only
            rw [or_one]
            refine ⟨u, V.int ((Lp.cnt R (st ||| 2 ^ y) : Nat) : Int), rfl, ?_, _, upd_same, ?_, ?_⟩
            · have := DGet.k (H := upd H3 D (.lst (nv (((Lp.nextsL R st).take j).map fun y => Lp.cnt R (st ||| 2 ^ y))))) (a := u) (kvs := tabV C) (k := Sum.inl ((st ||| 2 ^ y : Nat) : Int)) (by rw [upd_ne nDu.symm]; exact hC3)
              rw [tabV_get, tC.get hlat] at this
              exact this
            · rw [List.length_map, List.length_map]
              have h1 : ((Lp.nextsL R st).take j).length ≤ (Lp.nextsL R st).length := by rw [List.length_take]; omega
              have h2 := bitsL_len 16 (Rc83.nexts R st)
              rw [hbits] at h2
              exact small1000 (by omega)
            · rw [upd_upd, take_succ_ex hxj]
              unfold nv
              rw [List.map_append, List.map_append]
              rfl
        · subst e
          have hfull : (Lp.nextsL R st).take (nv (Lp.nextsL R st)).length = Lp.nextsL R st := by rw [List.length_map, List.take_length]
          rw [hfull]
          have hu4 : (upd H3 D (.lst (nv ((Lp.nextsL R st).map fun y => Lp.cnt R (st ||| 2 ^ y))))) u = some (.dK (tabV C)) := by rw [upd_ne nDu.symm]; exact hC3
          have hD4 : (upd H3 D (.lst (nv ((Lp.nextsL R st).map fun y => Lp.cnt R (st ||| 2 ^ y))))) D = some (.lst (nv ((Lp.nextsL R st).map fun y => Lp.cnt R (st ||| 2 ^ y)))) := upd_same
          have s4 : Same H (upd H3 D (.lst (nv ((Lp.nextsL R st).map fun y => Lp.cnt R (st ||| 2 ^ y))))) := (s2.trans s3).trans (same_new hD)
          have hk4 := ((s3.trans (same_new (o := .lst (nv ((Lp.nextsL R st).map fun y => Lp.cnt R (st ||| 2 ^ y)))) hD)) _ _ hk2)
          have hcv := Lp.cnt_val hstate
          have hnew : st ∉ (B.map (·.1)).reverse.take i := Lp.not_mem_take (List.pairwise_reverse.mpr (hW.tab.nd.imp fun h => Ne.symm h)) hst
          have hsm : C.length ≤ 65536 := tab_small tC fun g z => state_small hG ((hW.tab.mem g).mp (List.mem_reverse.mp (List.mem_of_mem_take z)))
          have fin : ∀ v4' : Option V, ∃ (C' : List (Nat × Nat)) (v2 v3 v4 : Option V), [some (V.ref d), some (.ref u), some (.int (st : Int)), some (.ref D), v4'] = [some (.ref d), some (.ref u), v2, v3, v4] ∧
              (upd (upd H3 D (.lst (nv ((Lp.nextsL R st).map fun y => Lp.cnt R (st ||| 2 ^ y))))) u (.dK (putK (tabV C) (Sum.inl (st : Int)) (V.int ((Lp.cnt R st : Nat) : Int))))) u = some (.dK (tabV C')) ∧
              (upd (upd H3 D (.lst (nv ((Lp.nextsL R st).map fun y => Lp.cnt R (st ||| 2 ^ y))))) u (.dK (putK (tabV C) (Sum.inl (st : Int)) (V.int ((Lp.cnt R st : Nat) : Int))))) kl = some (.lst ((B.map fun p => (p.1 : Int)).map V.int)) ∧
              Same H (upd (upd H3 D (.lst (nv ((Lp.nextsL R st).map fun y => Lp.cnt R (st ||| 2 ^ y))))) u (.dK (putK (tabV C) (Sum.inl (st : Int)) (V.int ((Lp.cnt R st : Nat) : Int))))) ∧ Lp.Tab (Lp.cnt R) (fun s => s ∈ (B.map (·.1)).reverse.take (i + 1)) C' := fun v4' =>
            ⟨C ++ [(st, Lp.cnt R st)], _, _, _, rfl, by rw [upd_same, tabV_new _ (tC.no hnew)], by rw [upd_ne nku]; exact hk4, fun b o e => by rw [upd_ne (ne_of_none e hu0)]; exact s4 b o e, tC.add hnew fun x => Lp.take_succ_mem hst x⟩
          refine ⟨_, rfl, D, _, rfl, .inl (SqL.of hD4), _, _, rfl, rfl, _, rfl, ?_⟩
          refine ite2 (fun h => ?_) (fun h => ?_)
          · have hpos : 0 < (Lp.nextsL R st).length := by have := of_decide_eq_true h; rw [List.length_map, List.length_map] at this; omega
            rw [if_pos hpos] at hcv
            have hsum : (((Lp.nextsL R st).map fun y => Lp.cnt R (st ||| 2 ^ y)).map fun (z : Nat) => (z : Int)).sum = ((Lp.cnt R st : Nat) : Int) := by rw [sum_ints, ← hcv]
            refine ⟨_, rfl, D, _, rfl, (by rw [nv_ints] at hD4 ⊢; exact SqL.of hD4), ?_⟩
            dsimp only
            rw [hsum]
            exact ⟨_, rfl, _, rfl, u, _, rfl, DPut.k (k := Sum.inl (st : Int)) hu4 (by rw [List.length_map]; exact tab_line hsm), fin _⟩
          · have hz : ¬ 0 < (Lp.nextsL R st).length := fun z => h (decide_eq_true (by rw [List.length_map, List.length_map]; omega))
            rw [if_neg hz] at hcv
            have e1 : (1 : Int) = ((Lp.cnt R st : Nat) : Int) := by rw [hcv]; rfl
            rw [e1]
            exact ⟨_, rfl, _, rfl, u, _, rfl, DPut.k (k := Sum.inl (st : Int)) hu4 (by rw [List.length_map]; exact tab_line hsm), fin _⟩
    · rintro σ H2 ⟨C, v2, v3, v4, rfl, hC, hk2, s2, tC⟩
      refine ⟨_, rfl, k u C H2 hu0 s2 hC (tC.congr fun x => ?_)⟩
      have hl : ((B.map fun p => (p.1 : Int)).map V.int).length = (B.map (·.1)).reverse.length := by simp
      rw [hl, List.take_length, List.mem_reverse]
      exact (hW.tab.mem x).symm

noncomputable abbrev invO1 (d u od : Addr) (R : Rc83.Lore) (H : Hp) (k0 : Nat) (l : List Nat) (m : Nat) (σ : St) (H2 : Hp) : Prop := ∃ (st kk : Nat) (done rest : List Nat) (v6 v7 : Option V), m = Lp.left R st ∧ σ = [some (.ref d), some (.ref u), some (.int (k0 : Int)), some (.ref od), some (.int (st : Int)), some (.int (kk : Int)), v6, v7] ∧ H2 od = some (.lst (nv done)) ∧ Same H H2 ∧ Rc83.state R st = true ∧ (Lp.ords R st)[kk]? = some rest ∧ done ++ rest = l
noncomputable abbrev invO2 (d u od : Addr) (R : Rc83.Lore) (H3 : Hp) (k0 st x0 j0 : Nat) (i : Nat) (σ : St) (H4 : Hp) : Prop := H4 = H3 ∧ ∃ (k1 : Nat) (v6 v7 : Option V), σ = [some (.ref d), some (.ref u), some (.int (k0 : Int)), some (.ref od), some (.int (st : Int)), some (.int (k1 : Int)), v6, v7] ∧ Lp.pick (fun x => Lp.ords R (st ||| 2 ^ x)) ((Lp.nextsL R st).drop i) k1 = some (x0, j0)
theorem ok_order_behind (T : Txt K mg a) : FnOk P w K mg base CX0 2 a.order_behind a.order_behindD ["nexts", "ways", "before"] spOrder := by
  have GI : FnOk P w K mg base CX0 1 a.things_in a.things_inD ["known"] spIn := ok_things_in T
  refine T.order_behind.fn.ok sc_order_behind (fun vs H Q E h => ?_) (fun cdv A outer s H vs Q E hr h => ?_)
  · obtain ⟨d, u, B, C, R, k0, l, rfl, _⟩ := h
    rfl
  · obtain ⟨d, u, B, C, R, k0, l, rfl, hd, hW, hu0, hC, hG, hord, k⟩ := h
    have hu := hu_of hr
    have getN : ∀ {H2 : Hp} {st : Nat}, Same H H2 → Rc83.state R st = true → DGet H2 d (.int (st : Int)) (some (.int ((Rc83.nexts R st : Nat) : Int))) := fun {H2 st} s2 hst => by
      have := DGet.k (H := H2) (a := d) (kvs := tabV B) (k := Sum.inl (st : Int)) (s2 _ _ hd)
      rw [tabV_get, hW.tab.get hst] at this
      exact this
    have getC : ∀ {H2 : Hp} {st : Nat}, Same H H2 → Rc83.state R st = true → DGet H2 u (.int (st : Int)) (some (.int ((Lp.cnt R st : Nat) : Int))) := fun {H2 st} s2 hst => by
      have := DGet.k (H := H2) (a := u) (kvs := tabV C) (k := Sum.inl (st : Int)) (s2 _ _ hu0)
      rw [tabV_get, hC.get hst] at this
      exact this
    refine ⟨_, pss_cons (ps_set (i := 3) sc_order_behind.nd rfl (Or.inl rfl) (pe_lst pa_nil))
      (pss_cons (ps_set (i := 4) sc_order_behind.nd rfl (Or.inl rfl) pe_int)
      (pss_cons (ps_set (i := 5) sc_order_behind.nd rfl (Or.inl rfl) (pv 2))
      (pss_cons (ps_while PassesOwn.never (pt_cmpR op_ne (pe_dget hu (pv 0) (pv 4) (fun _ _ => rfl)) pe_int (nomark _))
        (pss_one (ps_for PassesOwn.never rfl (pi_list (pe_call GI hr rfl T.things_in_mg T.things_in.fn.kp T.things_in.bi .nil pass0 (pa_cons (pe_dget hu (pv 0) (pv 4) (fun _ _ => rfl)) pa_nil))) (pg_name (i := 6) sc_order_behind.nd rfl (Or.inl rfl))
          (pss_cons (ps_set (i := 7) sc_order_behind.nd rfl (Or.inl rfl) (pe_op op_or (pv 4) (pe_op op_shl pe_int (pv 6))))
          (pss_cons (ps_if (pt_cmpR op_lt (pv 5) (pe_dget hu (pv 1) (pv 7) (fun _ _ => rfl)) (nomark _))
            (pss_cons (ps_expr (pe_bm PySem.F.plainAttrs_list PySem.F.slot_list_append PySem.F.type_list_append mt_append (pv 3) (pa_cons (pv 6) pa_nil)))
            (pss_cons (ps_set (i := 4) sc_order_behind.nd rfl (Or.inl rfl) (pv 7))
            (pss_one ps_break))) pss_nil)
          (pss_one (ps_set (i := 5) sc_order_behind.nd rfl (Or.inl rfl) (pe_op op_sub (pv 5) (pe_dget hu (pv 1) (pv 7) (fun _ _ => rfl))))))))))
      (pss_one (ps_ret (pv 3)))))), ?_⟩
    refine ⟨Nat.zero_le _, fun od hod => ?_⟩
    refine ⟨_, rfl, ?_⟩
    have lenl : l.length ≤ 16 := by
      have h1 := Lp.ord_len (Lp.state_zero R) l (List.mem_of_getElem? hord)
      have h2 := Lp.left_le R 0
      have := hG.n16
      omega
    refine ⟨invO1 d u od R H k0 l,
      ⟨_, 0, k0, [], l, none, none, rfl, rfl, upd_same, same_new hod, Lp.state_zero R, hord, rfl⟩, ?_⟩
    rintro m σ H2 ⟨st, kk, done, rest, v6, v7, rfl, rfl, hod2, s2, hst, hrest, hl⟩
    refine ⟨_, rfl, _, rfl, d, _, rfl, getN s2 hst, rfl, _, rfl, ?_⟩
    refine ite2 (fun h => ?_) (fun h => ?_)
    · have hne : st ≠ Rc83.top R := fun e => by
        rw [e, Lp.nexts_top hG.wf] at h
        exact absurd h (by decide)
      obtain ⟨x0, j0, rest', hpick, hx0, hrest', erest⟩ := Lp.order_step hst hne hrest
      have hbits : Lp.bitsL 16 (Rc83.nexts R st) = Lp.nextsL R st := Lp.bits_nexts (nexts16 hG st)
      refine ⟨fun σ' H' => ∃ m', m' < Lp.left R st ∧ ∃ (st kk : Nat) (done rest : List Nat) (v6 v7 : Option V), m' = Lp.left R st ∧ σ' = [some (.ref d), some (.ref u), some (.int (k0 : Int)), some (.ref od), some (.int (st : Int)), some (.int (kk : Int)), v6, v7] ∧
        H' od = some (.lst (nv done)) ∧ Same H H' ∧ Rc83.state R st = true ∧ (Lp.ords R st)[kk]? = some rest ∧ done ++ rest = l, fun _ _ h => h, ?_⟩
      refine ⟨_, rfl, _, rfl, d, _, rfl, getN s2 hst, Rc83.nexts R st, rfl, nexts16 hG st, fun tl H3 htl s3 htl3 => ?_⟩
      rw [hbits] at htl3
      have hod3 := s3 _ _ hod2
      have s23 := s2.trans s3
      refine ⟨tl, rfl, ⟨_, SqL.of htl3⟩, for_list (K := K) (a := tl) (xs := nv (Lp.nextsL R st))
        (invO2 d u od R H3 k0 st x0 j0)
        ⟨rfl, kk, v6, v7, rfl, hpick⟩ (fun i σ H4 _ ⟨e, _⟩ => e ▸ SqL.of htl3) ?_ ?_⟩
      · rintro i y σ H4 hi ⟨rfl, k1, v6, v7, rfl, hp1⟩
        rw [List.getElem?_map] at hi
        cases hxi : (Lp.nextsL R st)[i]? with
        | none => rw [hxi] at hi; cases hi
        | some x =>
          rw [hxi] at hi
          cases hi
          have hxn : (Rc83.nexts R st).testBit x = true := Lp.mem_nextsL.mp (List.mem_of_getElem? hxi)
          have hx16 : x < 16 := Nat.lt_of_lt_of_le (Lp.nexts_lt hxn).1 hG.n16
          have hgs : Rc83.state R (st ||| 2 ^ x) = true := Lp.state_next hst hxn
          obtain ⟨hil, exi⟩ := List.getElem?_eq_some_iff.mp hxi
          rw [List.drop_eq_getElem_cons hil, exi, Lp.pick_cons] at hp1
          refine ⟨_, rfl, _, rfl, _, _, rfl, rfl, ⟨by omega, by omega, by decide⟩, _, _, rfl, rfl, ?_⟩
          dsimp only
          rw [or_one]
          refine ⟨_, rfl, _, rfl, _, rfl, u, _, rfl, getC s23 hgs, _, _, rfl, rfl, _, rfl, ?_⟩
          refine ite2 (fun h2 => ?_) (fun h2 => ?_)
          · have hlt : k1 < (Lp.ords R (st ||| 2 ^ x)).length := by have := of_decide_eq_true h2; unfold Lp.cnt at this; omega
            rw [if_pos hlt] at hp1
            cases hp1
            refine ⟨_, rfl, .inl ⟨rfl, _, SqL.of hod3⟩, _, rfl, od, _, _, rfl, rfl, hod3, ?_, ?_⟩
            · rw [List.length_map]
              have : done.length ≤ l.length := by rw [← hl, List.length_append]; omega
              exact small1000 (by omega)
            refine ⟨_, rfl, Lp.left R (st ||| 2 ^ x0), by have := Lp.left_add hst hxn; omega, st ||| 2 ^ x0, j0, done ++ [x0], rest', some (.int (x0 : Int)), some (.int ((st ||| 2 ^ x0 : Nat) : Int)), rfl, rfl, ?_, fun b o e => ?_, hgs, hrest', ?_⟩
            · rw [upd_same, nv_snoc]
            · rw [upd_ne (ne_of_none e hod)]; exact s23 b o e
            · rw [← hl, erest, List.append_assoc]; rfl
          · have hge : ¬ k1 < (Lp.ords R (st ||| 2 ^ x)).length := fun z => h2 (decide_eq_true (by unfold Lp.cnt; omega))
            rw [if_neg hge] at hp1
            refine ⟨_, rfl, _, rfl, _, rfl, u, _, rfl, getC s23 hgs, _, _, rfl, rfl, ?_⟩
            refine ⟨rfl, k1 - (Lp.ords R (st ||| 2 ^ x)).length, some (.int (x : Int)), some (.int ((st ||| 2 ^ x : Nat) : Int)), ?_, hp1⟩
            have e1 : (k1 : Int) - ((Lp.cnt R (st ||| 2 ^ x) : Nat) : Int) = ((k1 - (Lp.ords R (st ||| 2 ^ x)).length : Nat) : Int) := by unfold Lp.cnt; omega
            dsimp only
            rw [e1]
            rfl
      · rintro σ H4 ⟨rfl, k1, v6, v7, rfl, hp1⟩
        rw [List.length_map, List.drop_length] at hp1
        cases hp1
    · have hz : Rc83.nexts R st = 0 := by
        apply Classical.byContradiction
        intro hne
        apply h
        rw [decide_eq_false (fun e => hne (by have := vint.mp e; omega))]
        rfl
      have e := Lp.nexts_zero hst hz
      subst e
      have er := Lp.order_top hrest
      subst er
      rw [List.append_nil] at hl
      subst hl
      exact ⟨_, rfl, k od H2 hod s2 hod2⟩
end
end Lq
end
section
set_option Elab.async false
set_option linter.all false
set_option maxRecDepth 100000
set_option maxHeartbeats 4000000
namespace Lq
open PySem L2
theorem tabV_put (B : List (Nat × Nat)) (g v : Nat) : putK (tabV B) (Sum.inl (g : Int) : Key) (V.int (v : Int)) = tabV (Lp.putN B g v) := by
  have hk : ∀ x : Nat, ((Sum.inl (x : Int) : Key) = Sum.inl (g : Int)) ↔ x = g := fun x => ⟨fun z => by have := Sum.inl.inj z; omega, fun z => by rw [z]⟩
  have ha : ((tabV B).any fun kv => decide (kv.1 = (Sum.inl (g : Int) : Key))) = B.any fun p => decide (p.1 = g) := by
    rw [List.any_map]
    congr 1
    funext p
    show decide ((Sum.inl (p.1 : Int) : Key) = Sum.inl (g : Int)) = decide (p.1 = g)
    rw [decide_eq_decide]
    exact hk p.1
  unfold putK Lp.putN
  rw [ha]
  by_cases h : (B.any fun p => decide (p.1 = g)) = true
  · rw [if_pos h, if_pos h, List.map_map]
    show _ = (B.map fun p => if p.1 = g then (p.1, v) else p).map _
    rw [List.map_map]
    apply List.map_congr_left
    intro p _
    show (if (Sum.inl (p.1 : Int) : Key) = Sum.inl (g : Int) then ((Sum.inl (p.1 : Int) : Key), V.int (v : Int)) else ((Sum.inl (p.1 : Int) : Key), V.int (p.2 : Int))) = ((Sum.inl ((if p.1 = g then (p.1, v) else p).1 : Int) : Key), V.int ((if p.1 = g then (p.1, v) else p).2 : Int))
    by_cases e : p.1 = g
    · rw [if_pos ((hk p.1).mpr e), if_pos e]
    · rw [if_neg (fun z => e ((hk p.1).mp z)), if_neg e]
  · rw [if_neg h, if_neg h]
    show _ = (B ++ [(g, v)]).map _
    rw [List.map_append]
    rfl
theorem ltab_small {E : Nat → Nat → Prop} {B : List (Nat × Nat)} (t : Lp.LTab E B) (h : ∀ g y, E g y → g < 65536) : B.length ≤ 65536 := by
  have nd : ((List.range 65536).filter fun x => decide (x ∈ B.map (·.1))).Nodup := List.Pairwise.filter _ List.nodup_range
  have p := Lp.len_of_mem t.nd nd fun x => by
    rw [List.mem_filter, List.mem_range, decide_eq_true_eq]
    refine ⟨fun z => ⟨?_, z⟩, fun z => z.2⟩
    rcases (t.mem x).mp z with rfl | ⟨y, e⟩
    · decide
    · exact h x y e
  have e := p.length_eq
  rw [List.length_map] at e
  have := List.length_filter_le (fun x => decide (x ∈ B.map (·.1))) (List.range 65536)
  rw [List.length_range] at this
  omega
/-- the edges that go out of some states -/
noncomputable def EdgeL (R : Rc83.Lore) (l : List (Nat × Nat)) (g y : Nat) : Prop := ∃ p ∈ l, (Rc83.nexts R p.1).testBit y = true ∧ g = p.1 ||| 2 ^ y
noncomputable def spLasts : Sp := fun vs H Q _ => ∃ (d : Addr) (B : List (Nat × Nat)) (R : Rc83.Lore), vs = [.ref d] ∧ H d = some (.dK (tabV B)) ∧ Lp.Walk R B ∧ Lp.Good R ∧
  ∀ (u : Addr) (B' : List (Nat × Nat)) (H' : Hp), H u = none → Same H H' → H' u = some (.dK (tabV B')) → Lp.Tab (Rc83.lasts R) (fun s => Rc83.state R s = true) B' → Q (.ref u) H'
noncomputable def spPaths : Sp := fun vs H Q _ => ∃ (d : Addr) (B : List (Nat × Nat)) (R : Rc83.Lore), vs = [.ref d, .int (R.n : Int)] ∧ H d = some (.dK (tabV B)) ∧ Lp.Walk R B ∧ Lp.Good R ∧
  ∀ (u : Addr) (qs : List Addr) (H' : Hp), H u = none → Same H H' → H' u = some (.lst (qs.map V.ref)) → qs.length = R.n → (∀ (x : Nat) (q : Addr), qs[x]? = some q → H q = none ∧ H' q = some (.lst (nv (Rc83.paths R x)))) → Q (.ref u) H'
section
variable {P : Program} {w : World} {K : PySem.W.Frag} {mg : Str → Option Value} {base : Heap} {a : Ad}
noncomputable abbrev invL1 (lv bd : Addr) (od : Obj) (B : List (Nat × Nat)) (R : Rc83.Lore) (H : Hp) (i : Nat) (σ : St) (H2 : Hp) : Prop := ∃ (B' : List (Nat × Nat)) (v3 v4 v5 v6 : Option V), σ = [some (.ref lv), some (.ref bd), v3, v4, v5, v6] ∧ H2 lv = some (.frz od (.dK (tabV B))) ∧ H2 bd = some (.dK (tabV B')) ∧ But lv H H2 ∧ Lp.LTab (EdgeL R (B.take i)) B'
noncomputable abbrev invL2 (lv bd l : Addr) (od : Obj) (B : List (Nat × Nat)) (R : Rc83.Lore) (H : Hp) (st i : Nat) (j : Nat) (σ : St) (H4 : Hp) : Prop := ∃ (B'' : List (Nat × Nat)) (v5 v6 : Option V), σ = [some (.ref lv), some (.ref bd), some (.int (st : Int)), some (.int ((Rc83.nexts R st : Nat) : Int)), v5, v6] ∧ H4 lv = some (.frz od (.dK (tabV B))) ∧ H4 bd = some (.dK (tabV B'')) ∧ But lv H H4 ∧ H4 l = some (.lst (nv (Lp.nextsL R st))) ∧ Lp.LTab (fun g y => EdgeL R (B.take i) g y ∨ ∃ x ∈ (Lp.nextsL R st).take j, g = st ||| 2 ^ x ∧ y = x) B''
theorem ok_lasts_by_state (T : Txt K mg a) : FnOk P w K mg base CX0 2 a.lasts_by_state a.lasts_by_stateD ["nexts"] spLasts := by
  have GI : FnOk P w K mg base CX0 1 a.things_in a.things_inD ["known"] spIn := ok_things_in T
  refine T.lasts_by_state.fn.ok sc_lasts_by_state (fun vs H Q E h => ?_) (fun cdv A outer s H vs Q E hr h => ?_)
  · obtain ⟨d, B, R, rfl, _⟩ := h
    rfl
  · obtain ⟨lv, B, R, rfl, hlv, hW, hG, k⟩ := h
    have hu := hu_of hr
    refine ⟨_, pss_cons (ps_set (i := 1) sc_lasts_by_state.nd rfl (Or.inl rfl) (pe_disp (pps_cons pe_int pe_int pps_nil) rfl rfl (by simp) (by simp)))
      (pss_cons (ps_lock (ps_for PassesOwn.never rfl (pi_items (pv 0)) (pg_tup rfl (pgs_cons (pg_name (i := 2) sc_lasts_by_state.nd rfl (Or.inl rfl)) (pgs_cons (pg_name (i := 3) sc_lasts_by_state.nd rfl (Or.inl rfl)) pgs_nil)))
        (pss_one (ps_for PassesOwn.never rfl (pi_list (pe_call GI hr rfl T.things_in_mg T.things_in.fn.kp T.things_in.bi .nil pass0 (pa_cons (pv 3) pa_nil))) (pg_name (i := 4) sc_lasts_by_state.nd rfl (Or.inl rfl))
          (pss_cons (ps_set (i := 5) sc_lasts_by_state.nd rfl (Or.inl rfl) (pe_op op_or (pv 2) (pe_op op_shl pe_int (pv 4))))
          (pss_one (ps_dput hu (pv 1) (pv 5) (pe_op op_or (pe_dget2 hu (pv 1) (pv 5) pe_int ⟨rfl, rfl, rfl, rfl⟩) (pe_op op_shl pe_int (pv 4))) rfl)))))))
      (pss_one (ps_ret (pv 1)))), ?_⟩
    intro bd hbd
    have nlb : lv ≠ bd := ne_of_none hlv hbd
    refine ⟨upd_same, [((Sum.inl 0 : Key), V.int 0)], rfl, by simp, ?_⟩
    rw [upd_upd]
    have hlv1 : (upd H bd (.dK (mergeK [] [((Sum.inl 0 : Key), V.int 0)]))) lv = some (.dK (tabV B)) := by rw [upd_ne nlb]; exact hlv
    refine ⟨lv, .dK (tabV B), hlv1, True.intro, fun od => ?_⟩
    refine ⟨_, rfl, lv, od, tabV B, rfl, upd_same, ?_⟩
    refine for_items (d := lv) (o := od) (kvs := tabV B) (invL1 lv bd od B R H)
      ⟨[(0, 0)], none, none, none, none, rfl, upd_same, by rw [upd_ne nlb.symm, upd_same]; rfl, fun b o e hb => by rw [upd_ne hb, upd_ne (ne_of_none e hbd)]; exact e, Lp.LTab.start.congr fun g y => ⟨fun ⟨p, hp, _⟩ => (nomatch hp), fun z => z.elim⟩⟩
      (fun i σ H2 _ ⟨B', v3, v4, v5, v6, _, e, _⟩ => e) ?_ ?_
    · rintro i ky vl tt σ H2 hi ⟨B', v3, v4, v5, v6, rfl, hlk, hbd2, fr, tB'⟩ hT
      rw [List.getElem?_map] at hi
      cases hp : B[i]? with
      | none => rw [hp] at hi; cases hi
      | some p =>
        obtain ⟨st, fd⟩ := p
        rw [hp] at hi
        cases hi
        have hmem : (st, fd) ∈ B := List.mem_of_getElem? hp
        have hfd : fd = Rc83.nexts R st := hW.tab.val _ hmem
        have hst : Rc83.state R st = true := (hW.tab.mem st).mp (List.mem_map.mpr ⟨_, hmem, rfl⟩)
        subst hfd
        have htk := take_succ_ex hp
        refine ⟨tt, _, rfl, SqT.of upd_same, rfl, _, _, rfl, _, _, rfl, rfl, ?_⟩
        refine ⟨_, rfl, Rc83.nexts R st, rfl, nexts16 hG st, fun l H3 hl s3 hl3 => ?_⟩
        have hbits : Lp.bitsL 16 (Rc83.nexts R st) = Lp.nextsL R st := Lp.bits_nexts (nexts16 hG st)
        rw [hbits] at hl3
        have sT : Same H2 H3 := (same_new hT).trans s3
        refine ⟨l, rfl, ⟨_, SqL.of hl3⟩, for_list (K := K) (a := l) (xs := nv (Lp.nextsL R st))
          (invL2 lv bd l od B R H st i)
          ⟨B', v5, v6, rfl, sT _ _ hlk, sT _ _ hbd2, fr.same sT, hl3, tB'.congr fun g y => ⟨fun z => z.elim id fun ⟨x, hx, _⟩ => (nomatch hx), .inl⟩⟩ (fun j σ H4 _ ⟨B'', v5, v6, _, _, _, _, e, _⟩ => SqL.of e) ?_ ?_⟩
        · rintro j y σ H4 hj ⟨B'', v5, v6, rfl, hlk4, hbd4, fr4, hl4, tB''⟩
          rw [List.getElem?_map] at hj
          cases hxj : (Lp.nextsL R st)[j]? with
          | none => rw [hxj] at hj; cases hj
          | some x =>
            rw [hxj] at hj
            cases hj
            have hxn : (Rc83.nexts R st).testBit x = true := Lp.mem_nextsL.mp (List.mem_of_getElem? hxj)
            have hx16 : x < 16 := Nat.lt_of_lt_of_le (Lp.nexts_lt hxn).1 hG.n16
            have htj := take_succ_ex hxj
            have hD : ∀ g y, (EdgeL R (B.take i) g y ∨ ∃ x ∈ (Lp.nextsL R st).take (j + 1), g = st ||| 2 ^ x ∧ y = x) ↔ (EdgeL R (B.take i) g y ∨ ∃ x ∈ (Lp.nextsL R st).take j, g = st ||| 2 ^ x ∧ y = x) ∨ (g = st ||| 2 ^ x ∧ y = x) := fun g y => by
              rw [htj]
              constructor
              · rintro (z | ⟨v, hv, e⟩)
                · exact .inl (.inl z)
                · rcases List.mem_append.mp hv with hv | hv
                  · exact .inl (.inr ⟨v, hv, e⟩)
                  · rw [List.mem_singleton.mp hv] at e; exact .inr e
              · rintro ((z | ⟨v, hv, e⟩) | e)
                · exact .inl z
                · exact .inr ⟨v, List.mem_append_left _ hv, e⟩
                · exact .inr ⟨x, List.mem_append_right _ (by simp), e⟩
            refine ⟨_, rfl, _, rfl, _, _, rfl, rfl, ⟨by omega, by omega, by decide⟩, _, _, rfl, rfl, ?_⟩
            dsimp only
            rw [or_one]
            refine ⟨_, rfl, bd, rfl, .inl ⟨_, .inl hbd4⟩, _, rfl, _, DGet.k (k := Sum.inl ((st ||| 2 ^ x : Nat) : Int)) hbd4, ?_⟩
            have eget : (valV (tabV B'') (Sum.inl ((st ||| 2 ^ x : Nat) : Int) : Key)).getD (V.int 0) = V.int (((B''.lookup (st ||| 2 ^ x)).getD 0 : Nat) : Int) := by
              rw [tabV_get]
              cases B''.lookup (st ||| 2 ^ x) <;> rfl
            rw [eget]
            refine ⟨_, rfl, _, _, rfl, rfl, ⟨by omega, by omega, by decide⟩, _, _, rfl, rfl, ?_⟩
            dsimp only
            rw [or_one]
            have hsm : B''.length ≤ 65536 := ltab_small tB'' fun g y z => by
              refine state_small hG ?_
              rcases z with ⟨p, hp, z1, rfl⟩ | ⟨v, hv, rfl, _⟩
              · exact Lp.state_next ((hW.tab.mem p.1).mp (List.mem_map.mpr ⟨p, List.mem_of_mem_take hp, rfl⟩)) z1
              · exact Lp.state_next hst (Lp.mem_nextsL.mp (List.mem_of_mem_take hv))
            refine ⟨_, rfl, _, rfl, bd, _, rfl, DPut.k (k := Sum.inl ((st ||| 2 ^ x : Nat) : Int)) hbd4 (by rw [List.length_map]; exact tab_line hsm), ?_⟩
            have nlbd : l ≠ bd := ne_of hl4 hbd4 (by intro z; cases z)
            refine ⟨Lp.putN B'' (st ||| 2 ^ x) ((B''.lookup (st ||| 2 ^ x)).getD 0 ||| 2 ^ x), some (.int (x : Int)), some (.int ((st ||| 2 ^ x : Nat) : Int)), rfl, by rw [upd_ne nlb]; exact hlk4, by rw [upd_same, tabV_put], fun b o e hb => ?_, by rw [upd_ne nlbd]; exact hl4, tB''.put hD⟩
            rw [upd_ne (ne_of_none e hbd)]
            exact fr4 b o e hb
        · rintro σ H4 ⟨B'', v5, v6, rfl, hlk4, hbd4, fr4, hl4, tB''⟩
          refine ⟨B'', some (.int (st : Int)), some (.int ((Rc83.nexts R st : Nat) : Int)), v5, v6, rfl, hlk4, hbd4, fr4, ?_⟩
          rw [List.length_map, List.take_length] at tB''
          rw [htk]
          refine tB''.congr fun g y => ?_
          constructor
          · rintro ⟨p, hp, z1, z2⟩
            rcases List.mem_append.mp hp with hp | hp
            · exact .inl ⟨p, hp, z1, z2⟩
            · have e := List.mem_singleton.mp hp
              subst e
              exact .inr ⟨y, Lp.mem_nextsL.mpr z1, z2, rfl⟩
          · rintro (⟨p, hp, z1, z2⟩ | ⟨x, hx, z2, rfl⟩)
            · exact ⟨p, List.mem_append_left _ hp, z1, z2⟩
            · exact ⟨_, List.mem_append_right _ (List.mem_singleton.mpr rfl), Lp.mem_nextsL.mp hx, z2⟩
    · rintro σ H2 ⟨B', v3, v4, v5, v6, rfl, hlk, hbd2, fr, tB'⟩
      refine ⟨hlk, _, rfl, ?_⟩
      rw [List.length_map, List.take_length] at tB'
      refine k bd B' _ hbd (fun b o e => ?_) (by rw [upd_ne nlb.symm]; exact hbd2) (Lp.lasts_tab hG.wf (tB'.congr fun g y => ?_))
      · by_cases hb : b = lv
        · subst hb
          rw [upd_same, ← e, hlv]
        · rw [upd_ne hb]
          exact fr b o e hb
      · constructor
        · rintro ⟨s, h1, h2, h3⟩
          obtain ⟨p, hp, rfl⟩ := List.mem_map.mp ((hW.tab.mem s).mpr h1)
          exact ⟨p, hp, h2, h3⟩
        · rintro ⟨p, hp, h2, h3⟩
          exact ⟨p.1, (hW.tab.mem p.1).mp (List.mem_map.mpr ⟨p, hp, rfl⟩), h2, h3⟩

theorem bk_paths : BlkOk ["nexts", "amount", "lasts", "paths", "thing", "state", "endings"] (defScope s_paths_by_thing) (lcScope (setOf s_paths_by_thing 1)) [("thing", 4)] := ⟨rfl, by decide +kernel, by decide +kernel, by decide +kernel, by decide +kernel⟩
noncomputable abbrev invP (d la D so : Addr) (qs : List Addr) (C : List (Nat × Nat)) (R : Rc83.Lore) (H1 : Hp) (i : Nat) (σ : St) (H3 : Hp) : Prop := ∃ (v4 v5 v6 : Option V), σ = [some (.ref d), some (.int (R.n : Int)), some (.ref la), some (.ref D), v4, v5, v6] ∧ H3 D = some (.lst (qs.map V.ref)) ∧ H3 la = some (.dK (tabV C)) ∧ H3 so = some (.lst (((Rc83.states R).map fun (z : Nat) => (z : Int)).map V.int)) ∧ Same H1 H3 ∧ ∀ (x : Nat) (q : Addr), qs[x]? = some q → H3 q = some (.lst (nv (Lp.pathsOf R 16 ((Rc83.states R).take i) x)))
theorem ok_paths_by_thing (T : Txt K mg a) : FnOk P w K mg base CX0 3 a.paths_by_thing a.paths_by_thingD ["nexts", "amount"] spPaths := by
  have GI : FnOk P w K mg base CX0 1 a.things_in a.things_inD ["known"] spIn := ok_things_in T
  have GL : FnOk P w K mg base CX0 2 a.lasts_by_state a.lasts_by_stateD ["nexts"] spLasts := ok_lasts_by_state T
  refine T.paths_by_thing.fn.ok sc_paths_by_thing (fun vs H Q E h => ?_) (fun cdv A outer s H vs Q E hr h => ?_)
  · obtain ⟨d, B, R, rfl, _⟩ := h
    rfl
  · obtain ⟨d, B, R, rfl, hd, hW, hG, k⟩ := h
    have hu := hu_of hr
    have hr1 : Room 1 _ := hr.mono (by decide)
    have hn16 := hG.n16
    refine ⟨_, pss_cons (ps_set (i := 2) sc_paths_by_thing.nd rfl (Or.inl rfl) (pe_call GL hr rfl T.lasts_by_state_mg T.lasts_by_state.fn.kp T.lasts_by_state.bi .nil pass0 (pa_cons (pv 0) pa_nil)))
      (pss_cons (ps_setLc (i := 3) rfl sc_paths_by_thing.nd rfl rfl (sw_true rfl rfl rfl rfl) (pi_range1 rfl T.b_range (pa_cons (pv 1) pa_nil)) bk_paths
        (fun _ _ _ _ _ => pg_name (i := 4) sc_paths_by_thing.nd rfl (Or.inl rfl)) (fun _ _ _ _ _ => pts_nil) (fun _ _ _ _ _ => pe_lst pa_nil))
      (pss_cons (ps_for PassesOwn.never rfl (pi_list (pe_callB (cr_sortedD rfl) (by rfl) T.b_sorted bt_sorted (pa_cons (pv 2) pa_nil))) (pg_name (i := 5) sc_paths_by_thing.nd rfl (Or.inl rfl))
        (pss_cons (ps_set (i := 6) sc_paths_by_thing.nd rfl (Or.inl rfl) (pe_call GI hr1 rfl T.things_in_mg T.things_in.fn.kp T.things_in.bi .nil pass0 (pa_cons (pe_dget hu (pv 2) (pv 5) (fun _ _ => rfl)) pa_nil)))
        (pss_one (ps_if (pt_cmpR op_eq (pe_callB call_len_seq (by rfl) T.b_len PySem.boot_len (pa_cons (pv 6) pa_nil)) pe_int (nomark _))
          (pss_one (ps_expr (pe_bm PySem.F.plainAttrs_list PySem.F.slot_list_append PySem.F.type_list_append mt_append (pe_ix ix_list (pv 3) (pe_ix ix_list (pv 6) pe_int (fun _ _ => rfl)) (fun _ _ => rfl)) (pa_cons (pv 5) pa_nil)))) pss_nil))))
      (pss_one (ps_ret (pv 3))))), ?_⟩
    refine ⟨_, rfl, d, B, R, rfl, hd, hW, hG, fun la C H1 hla s1 hla1 tC => ?_⟩
    -- paths = [[] for ..]
    refine ⟨_, rfl, _, rfl, by omega, by omega, fun D hD => ?_⟩
    have hHD : H D = none := s1.free hD
    refine lc_range (lo := 0) (n := ((R.n : Int)).toNat) (fun i H2 => ∃ qs : List Addr, H2 D = some (.lst (qs.map V.ref)) ∧ qs.length = i ∧ qs.Nodup ∧ Same H1 H2 ∧ ∀ q ∈ qs, q ≠ D ∧ H1 q = none ∧ H2 q = some (.lst []))
      ⟨[], upd_same, rfl, List.nodup_nil, same_new hD, fun q h => nomatch h⟩ (fun i H2 hi ⟨qs, h1, h2, h3, h4, h5⟩ => ?_) (fun H2 ⟨qs, h1, h2, h3, h4, h5⟩ => ?_)
    · refine ⟨rfl, ?_⟩
      refine ⟨Nat.zero_le _, fun l hl => ?_⟩
      have nDl : D ≠ l := ne_of_none h1 hl
      refine ⟨_, by rw [upd_ne nDl]; exact h1, by rw [List.length_map]; exact small1000 (by omega), qs ++ [l], by rw [upd_same, List.map_append]; rfl, by rw [List.length_append, h2]; rfl, ?_, fun b o e => ?_, fun q hq => ?_⟩
      · refine List.nodup_append.mpr ⟨h3, by simp, ?_⟩
        intro q hq r hr e
        have er : r = l := by simpa using hr
        subst er
        subst e
        have := (h5 q hq).2.2
        rw [hl] at this
        cases this
      · rw [upd_ne (ne_of_none e hD), upd_ne (ne_of_none (h4 _ _ e) hl)]
        exact h4 _ _ e
      · rcases List.mem_append.mp hq with hq | hq
        · obtain ⟨a1, a2, a3⟩ := h5 q hq
          exact ⟨a1, a2, by rw [upd_ne a1, upd_ne (ne_of_none a3 hl)]; exact a3⟩
        · have eq : q = l := by simpa using hq
          subst eq
          exact ⟨nDl.symm, h4.free hl, by rw [upd_ne nDl.symm, upd_same]⟩
    · have hqs : qs.length = R.n := by rw [h2]; omega
      have hla2 := h4 _ _ hla1
      have nDla : D ≠ la := (ne_of_none hla1 hD).symm
      -- for state in sorted(lasts)
      refine ⟨_, rfl, la, tabV C, C.map fun p => (p.1 : Int), rfl, .inl hla2, tabV_key C, fun ns so hperm hsort hso => ?_⟩
      have hns : ns = (Rc83.states R).map fun (z : Nat) => (z : Int) := Lp.sorted_states tC.nd tC.mem (by rw [List.map_map]; exact hperm) hsort
      subst hns
      have hso2 : H2 so = none := hso
      refine ⟨so, rfl, ⟨_, SqL.of upd_same⟩, for_list (K := K) (a := so) (xs := ((Rc83.states R).map fun (z : Nat) => (z : Int)).map V.int)
        (invP d la D so qs C R H1)
        ⟨_, _, _, rfl, same_new hso2 _ _ h1, same_new hso2 _ _ hla2, upd_same, h4.trans (same_new hso2), fun x q e => same_new hso2 _ _ (h5 q (List.mem_of_getElem? e)).2.2⟩ (fun i σ H3 _ ⟨v4, v5, v6, _, _, _, e, _⟩ => SqL.of e) ?_ ?_⟩
      · rintro i y σ H3 hi ⟨v4, v5, v6, rfl, hD3, hla3, hso3, s3, hq3⟩
        rw [List.getElem?_map, List.getElem?_map] at hi
        cases hst : (Rc83.states R)[i]? with
        | none => rw [hst] at hi; cases hi
        | some st =>
          rw [hst] at hi
          cases hi
          have hstate : Rc83.state R st = true := Lp.mem_states.mp (List.mem_of_getElem? hst)
          have hl16 : Rc83.lasts R st < 2 ^ 16 := Nat.lt_of_lt_of_le (Lp.lasts_lt_pow R st) (Nat.pow_le_pow_right (by decide) hn16)
          have htk := take_succ_ex hst
          have hget : DGet H3 la (.int (st : Int)) (some (.int ((Rc83.lasts R st : Nat) : Int))) := by
            have := DGet.k (H := H3) (a := la) (kvs := tabV C) (k := Sum.inl (st : Int)) hla3
            rw [tabV_get, tC.get hstate] at this
            exact this
          refine ⟨_, rfl, _, rfl, la, _, rfl, hget, Rc83.lasts R st, rfl, hl16, fun en H4 hen s4 hen4 => ?_⟩
          refine ⟨_, rfl, en, _, rfl, .inl (SqL.of hen4), rfl, _, rfl, ?_⟩
          refine ite2 (fun h => ?_) (fun h => ?_)
          · have hlen : (Lp.bitsL 16 (Rc83.lasts R st)).length = 1 := by
              have := vint.mp (of_decide_eq_true h)
              rw [List.length_map] at this
              omega
            obtain ⟨x, hx⟩ := List.length_eq_one_iff.mp hlen
            have hxR : x < R.n := by
              have : x ∈ Lp.bitsL 16 (Rc83.lasts R st) := by rw [hx]; simp
              exact Lp.bits_of_lt (Lp.lasts_lt_pow R st) ((Lp.mem_bitsL hl16).mp this)
            have hxo : x < qs.length := by omega
            have hqx : qs[x]? = some (qs[x]'hxo) := List.getElem?_eq_getElem hxo
            have hqq := hq3 x _ hqx
            have hq4 := s4 _ _ hqq
            refine ⟨_, rfl, _, rfl, en, _, _, _, rfl, rfl, SqL.of hen4, atI_nat (j := 0) (v := .int (x : Int)) (by rw [hx]; rfl), D, _, _, _, rfl, rfl, SqL.of (s4 _ _ hD3), atI_nat (j := x) (v := .ref (qs[x]'hxo)) (by rw [List.getElem?_map, hqx]; rfl), ?_⟩
            refine ⟨.inl ⟨rfl, _, SqL.of hq4⟩, _, rfl, qs[x]'hxo, _, _, rfl, rfl, hq4, ?_, ?_⟩
            · rw [List.length_map]
              have h1 : (Lp.pathsOf R 16 ((Rc83.states R).take i) x).length ≤ ((Rc83.states R).take i).length := List.length_filter_le _ _
              have h2 := Lp.states_len hG
              have h3 : ((Rc83.states R).take i).length ≤ (Rc83.states R).length := by rw [List.length_take]; omega
              exact tab_line (by omega)
            obtain ⟨nqD, hq1, _⟩ := h5 (qs[x]'hxo) (List.mem_of_getElem? hqx)
            have nqla : la ≠ qs[x]'hxo := ne_of_none hla1 hq1
            have nqso : so ≠ qs[x]'hxo := by
              intro z
              have := (h5 (qs[x]'hxo) (List.mem_of_getElem? hqx)).2.2
              rw [← z, hso2] at this
              cases this
            refine ⟨v4, some (.int (st : Int)), some (.ref en), rfl, by rw [upd_ne nqD.symm]; exact s4 _ _ hD3, by rw [upd_ne nqla]; exact s4 _ _ hla3, by rw [upd_ne nqso]; exact s4 _ _ hso3, fun b o e => ?_, fun y q e => ?_⟩
            · rw [upd_ne (ne_of_none e hq1)]
              exact s4 _ _ (s3 _ _ e)
            · rw [htk, Lp.pathsOf_snoc]
              by_cases hxy : y = x
              · subst hxy
                rw [hqx] at e
                cases e
                rw [if_pos hx, upd_same]
                unfold nv
                rw [List.map_append]
                rfl
              · have hne : q ≠ qs[x]'hxo := fun z => hxy (nd_ix h3 e (by rw [z]; exact hqx))
                rw [upd_ne hne, if_neg (fun z => hxy (by rw [hx] at z; exact (List.cons.inj z).1.symm))]
                exact s4 _ _ (hq3 y q e)
          · refine ⟨v4, some (.int (st : Int)), some (.ref en), rfl, s4 _ _ hD3, s4 _ _ hla3, s4 _ _ hso3, s3.trans s4, fun y q e => ?_⟩
            have hne : ¬ Lp.bitsL 16 (Rc83.lasts R st) = [y] := fun z => h (decide_eq_true (vint.mpr (by rw [List.length_map, z]; rfl)))
            rw [htk, Lp.pathsOf_snoc, if_neg hne]
            exact s4 _ _ (hq3 y q e)
      · rintro σ H3 ⟨v4, v5, v6, rfl, hD3, hla3, hso3, s3, hq3⟩
        refine ⟨_, rfl, k D qs H3 hHD (s1.trans s3) hD3 hqs fun x q e => ⟨s1.free (h5 q (List.mem_of_getElem? e)).2.1, ?_⟩⟩
        have hl : (((Rc83.states R).map fun (z : Nat) => (z : Int)).map V.int).length = (Rc83.states R).length := by simp
        have := hq3 x q e
        rw [hl, List.take_length, ← Lp.paths_of hn16] at this
        exact this
end
end Lq
end
section
set_option Elab.async false
set_option linter.all false
set_option maxRecDepth 100000
set_option maxHeartbeats 4000000
namespace Lq
open PySem L2
noncomputable abbrev lpos : Pos := ⟨88, 28, 88, 72⟩
noncomputable abbrev qualL : Str := (("cheapest" : Str) ++ ".<locals>.") ++ "<lambda>"
noncomputable abbrev TabL (Pt : Addr) (H : Hp) (own : Addr → Prop) : Prop := TabOk Pt lpos qualL H own
noncomputable def spCheap (Pt : Addr) : Sp := fun vs H Q _ => ∃ (l cs : Addr) (ns costs : List Nat) (n k : Nat) (own : Addr → Prop), vs = [.ref l, .ref cs, .int (n : Int), .int (k : Int)] ∧ H l = some (.lst (nv ns)) ∧ H cs = some (.lst (nv costs)) ∧ 0 < ns.length ∧ (∀ x ∈ ns, x * n + k < costs.length) ∧ n ≤ 16 ∧ TabL Pt H own ∧
  ∀ (i x : Nat) (own' : Addr → Prop) (H' : Hp), Least (fun y => costs.getD (y * n + k) 0) ns i x → TabL Pt H' own' → (∀ b, own b → own' b) → (∀ b, own' b → own b ∨ (H b = none ∧ H' b ≠ none)) → But Pt H H' → Q (.int (x : Int)) H'
noncomputable def spPlan (Pt : Addr) : Sp := fun vs H Q _ => ∃ (r cs : Addr) (R : Rc83.Lore) (costs : List Nat) (own : Addr → Prop), vs = [.ref r, .int (R.n : Int), .ref cs] ∧ RulesAt H r R.rules ∧ Lp.Good R ∧ H cs = some (.lst (nv costs)) ∧ costs.length = R.n * R.n ∧ TabL Pt H own ∧ (∀ b, own b → H b ≠ none) ∧
  ∀ (b : Addr) (own' : Addr → Prop) (H' : Hp), H b = none → H' b = some (.lst (nv (Rc83.plan R costs))) → ¬ own' b → TabL Pt H' own' → (∀ b, own b → own' b) → (∀ b, own' b → own b ∨ (H b = none ∧ H' b ≠ none)) → But Pt H H' → Q (.ref b) H'

theorem TabOk.got {Pt : Addr} {lp : Pos} {qual : Str} {H : Hp} {own : Addr → Prop} (h : TabOk Pt lp qual H own) : ∃ ps, H Pt = some (.tbl ps) := by
  rcases h.2 with e | ⟨c, _, e, _⟩
  · exact ⟨_, e⟩
  · exact ⟨_, e⟩
theorem TabOk.same {Pt : Addr} {lp : Pos} {qual : Str} {H H' : Hp} {own : Addr → Prop} (h : TabOk Pt lp qual H own) (s : Same H H') : TabOk Pt lp qual H' own := by
  refine ⟨h.1, ?_⟩
  rcases h.2 with e | ⟨c, o, e, f⟩
  · exact .inl (s _ _ e)
  · exact .inr ⟨c, o, s _ _ e, s _ _ f⟩
theorem TabOk.set {Pt d : Addr} {lp : Pos} {qual : Str} {H : Hp} {own : Addr → Prop} {xs : List V} {o : HO} (h : TabOk Pt lp qual H own) (hd : H d = some (.lst xs)) : TabOk Pt lp qual (upd H d o) own := by
  refine ⟨h.1, ?_⟩
  rcases h.2 with e | ⟨c, q, e, f⟩
  · exact .inl (by rw [upd_ne (ne_of e hd (by intro z; cases z))]; exact e)
  · exact .inr ⟨c, q, by rw [upd_ne (ne_of e hd (by intro z; cases z))]; exact e, by rw [upd_ne (ne_of f hd (by intro z; cases z))]; exact f⟩

section
variable {X : Cx} {p pos kp p0 p1 p2 p3 p4 p5 p6 p7 : Pos} {e lam : Expr} {ta tk : TA} {cc cb ca : Addr} {pm : Value} {qual : Str}
noncomputable def tMin (qual : Str) (p0 p1 p2 p3 p4 p5 p6 p7 : Pos) (cc cb ca : Addr) (pm : Value) (ta tk : TA) : TE := fun σ H Q => ta σ H fun vs H1 => tk σ H1 fun zs H2 => ∃ (l cs f c' : Addr) (ctv : Value) (ns costs : List Nat) (n k : Nat),
  vs = [.ref l] ∧ zs = [.ref f] ∧ σ[1]? = some (some (.ref cs)) ∧ σ[2]? = some (some (.int (n : Int))) ∧ σ[3]? = some (some (.int (k : Int))) ∧ H2 l = some (.lst (nv ns)) ∧ H2 cs = some (.lst (nv costs)) ∧
  H2 f = some (lamAt qual p0 p1 p2 p3 p4 p5 p6 p7 cc cb ca pm f c' ctv) ∧ H2 c' = some (codeAtH qual c') ∧ n < 2 ^ 32 ∧ 0 < ns.length ∧ (∀ x ∈ ns, x * n + k < costs.length) ∧ ∀ i x, Least (fun y => costs.getD (y * n + k) 0) ns i x → Q (.int (x : Int)) H2
theorem pe_min {j : Nat} (hr : Room (j + 1) X.A) (hg : Gl X "min") (hm : X.mg "min" = none) (h1 : X.N[1]? = some ("costs" : Str)) (h2 : X.N[2]? = some ("amount" : Str)) (h3 : X.N[3]? = some ("before" : Str))
    (k1 : X.env.kindOf "costs" = some .cell) (k2 : X.env.kindOf "amount" = some .cell) (k3 : X.env.kindOf "before" = some .cell) (c1 : X.env.cells.lookup ("costs" : Str) = some cc) (c2 : X.env.cells.lookup ("amount" : Str) = some ca) (c3 : X.env.cells.lookup ("before" : Str) = some cb)
    (ha : PA X [e] ta) (hk : PK X [⟨some "key", lam, kp⟩] tk) (he : backTo pos (starEach [e] X.env) = (false, eval e X.env) :: backTo pos (starEach [] X.env) := by rfl) (hpl : (backTo pos (starEach [e] X.env)).any (·.1) = false := by rfl) :
    PE X (.Call (.Name "min" p) [e] [⟨some "key", lam, kp⟩] pos) (tMin qual p0 p1 p2 p3 p4 p5 p6 p7 cc cb ca pm ta tk) := by
  intro pins s σ H Q I h
  refine wpAny_Call_Name_kw (ld_blt I hg hm bt_min ?_)
  refine PyProof.Rows.callWith_kw (thn (ha pos pins s σ H _ I h) fun us s1 ⟨vs, H1, I1, r1, q1⟩ => thn (hk pos pins s1 σ H1 _ I1 q1) fun ws s2 ⟨zs, H2, I2, r2, q2⟩ => ?_) he hpl
  obtain ⟨l, cs, f, c', ctv, ns, costs, n, k, rfl, rfl, e1, e2, e3, hl, hcs, hf, hc', hn, hne, hx, q⟩ := q2
  rw [Vals.ref1 r1, Vals.ref1 r2]
  obtain ⟨m, hn1, hlk⟩ := id I2.loc
  have vis : ∀ {x : Str}, X.env.kindOf x = some .cell → Vis X.env.scope x := fun hx => .inr (.inl hx)
  have cellOf : ∀ {x : Str} {i : Nat} {v : V} {c : Addr}, X.N[i]? = some x → σ[i]? = some (some v) → X.env.kindOf x = some .cell → X.env.cells.lookup x = some c → ∃ u, RelV v u ∧ s2.heap.IsCell c (some u) := fun {x i v c} a1 a2 a3 a4 => by
    obtain ⟨u, ru, lk⟩ := hlk i x v a1 a2 (vis a3)
    rcases lk with ⟨z, _⟩ | ⟨_, c0, b1, b2⟩
    · rw [a3] at z; cases z
    · rw [a4] at b1
      cases b1
      exact ⟨u, ru, b2⟩
  obtain ⟨u1, ru1, g1⟩ := cellOf h1 e1 k1 c1
  obtain ⟨u2, ⟨t2, ru2⟩, g2⟩ := cellOf h2 e2 k2 c2
  obtain ⟨u3, ⟨t3, ru3⟩, g3⟩ := cellOf h3 e3 k3 c3
  cases ru1
  subst ru2
  subst ru3
  exact min_lam hr I2 hl hcs hf hc' g1 g2 g3 (I2.freeC _ _ c1) (I2.freeC _ _ c2) (I2.freeC _ _ c3) hn hne hx q
end
section
variable {P : Program} {w : World} {K : PySem.W.Frag} {mg : Str → Option Value} {base : Heap} {a : Ad}
/-- a def whose code object is known -/
theorem Fun.okC {x qual : Str} {st : Stmt} {f c : Addr} {fd : FuncData} {N ps : List Str} {k : Nat} {sp : Sp} (F : Fun K x qual st f fd) (hc : fd.code = .ref c) (S : FnScope N ps (defScope st)) (len : ∀ vs H Q E, sp vs H Q E → vs.length = ps.length)
    (hbody : ∀ (A : Around) (outer : List Env) (s : Shared) (H : Hp) (vs : List V) (Q : VK) (E : XK), Room k (A.deeper (PyProof.Rows.envOfC qual (defScope st) s.heap.objs.size f (.ref c))) → sp vs H Q E →
      ∃ t, PSs (cxOf CX0 P w K mg base N qual (defScope st) f (.ref c) A outer s H E).nox (defBody st) t ∧ t { nx := fun _ H' => Q .non H', rt := Q } (start N vs) H) : FnOk P w K mg base CX0 (k + 1) f fd ps sp := by
  obtain ⟨oc, od, kV, doc, pm, an, cdv, ct, osl, rfl, lk, hcd⟩ := F.ex
  have e : cdv = .ref c := hc
  subst e
  refine fn_of lk hcd S len fun A outer s H vs Q E hr hsp => ?_
  obtain ⟨t, h, q⟩ := hbody A outer s H vs Q E hr hsp
  exact ⟨t, h.nox, q⟩
theorem ok_cheapest (T : Txt K mg a) (B : BM mg base) (KB : K.In base) : FnOk P w K mg base CX0 2 a.cheapest a.cheapestD ["choices", "costs", "amount", "before"] (spCheap a.cheapestP) := by
  refine Fun.okC T.cheapest.fn T.cheapest_code sc_cheapest (fun vs H Q E h => ?_) (fun A outer s H vs Q E hr h => ?_)
  · obtain ⟨l, cs, ns, costs, n, k, own, rfl, _⟩ := h
    rfl
  · obtain ⟨l, cs, ns, costs, n, k, own, rfl, hl, hcs, hne, hx, hn, hT, kq⟩ := h
    refine ⟨_, pss_one (ps_ret (pe_min (cc := s.heap.objs.size + 1) (ca := s.heap.objs.size + 1 + 1) (cb := s.heap.objs.size + 1 + 1 + 1) (qual := qualL) (pm := (mg "__name__").getD .none) (p0 := ⟨88, 35, 88, 40⟩) (p1 := ⟨88, 42, 88, 47⟩) (p2 := ⟨88, 48, 88, 53⟩) (p3 := ⟨88, 56, 88, 62⟩) (p4 := ⟨88, 48, 88, 62⟩) (p5 := ⟨88, 65, 88, 71⟩) (p6 := ⟨88, 48, 88, 71⟩) (p7 := ⟨88, 42, 88, 72⟩) hr rfl T.b_min rfl rfl rfl rfl rfl rfl rfl rfl rfl (pa_cons (pv 0) pa_nil) (pk_cons (pe_lam (Pt := a.cheapestP) (c := a.cheapestC) B rfl rfl (PySem.W.codeHd_of_K KB T.cheapest_hd)) pk_nil))), ?_⟩
    refine ⟨_, rfl, own, hT, fun f c' ctv own' H' hf0 hf hc' hT' ho1 ho2 fr => ?_⟩
    have hP := hT.got
    obtain ⟨ps, hP⟩ := hP
    refine ⟨l, cs, f, c', ctv, ns, costs, n, k, rfl, rfl, rfl, rfl, rfl, fr _ _ hl (ne_of hl hP (by intro z; cases z)), fr _ _ hcs (ne_of hcs hP (by intro z; cases z)), hf, hc', by omega, hne, hx, fun i x hL => ?_⟩
    exact kq i x own' H' hL hT' ho1 ho2 fr

noncomputable abbrev invPl (r cs od cp : Addr) (own : Addr → Prop) (costs : List Nat) (R : Rc83.Lore) (H : Hp) (m : Nat) (σ : St) (H2 : Hp) : Prop := ∃ (st : Nat) (done rest : List Nat) (own2 : Addr → Prop) (v6 : Option V), m = Lp.left R st ∧ σ = [some (.ref r), some (.int (R.n : Int)), some (.ref cs), some (.ref od), some (.int (st : Int)), some (.int ((Rc83.nexts R st : Nat) : Int)), v6] ∧ H2 od = some (.lst (nv done)) ∧ ¬ own2 od ∧ But cp H H2 ∧ TabL cp H2 own2 ∧ (∀ b, own b → own2 b) ∧ (∀ b, own2 b → own b ∨ (H b = none ∧ H2 b ≠ none)) ∧ Rc83.state R st = true ∧ done.length + Lp.left R st = Lp.left R 0 ∧ Rc83.forward R costs (Lp.left R st) done.length st = rest ∧ done ++ rest = Rc83.plan R costs
theorem ok_planned_order (T : Txt K mg a) (B : BM mg base) (KB : K.In base) : FnOk P w K mg base CX0 3 a.planned_order a.planned_orderD ["rules", "amount", "costs"] (spPlan a.cheapestP) := by
  have GI : FnOk P w K mg base CX0 1 a.things_in a.things_inD ["known"] spIn := ok_things_in T
  have GN : FnOk P w K mg base CX0 2 a.things_next a.things_nextD ["rules", "state"] (spOf Rc83.nexts) := ok_things_next T
  have GC : FnOk P w K mg base CX0 2 a.cheapest a.cheapestD ["choices", "costs", "amount", "before"] (spCheap a.cheapestP) := ok_cheapest T B KB
  refine T.planned_order.fn.ok sc_planned_order (fun vs H Q E h => ?_) (fun cdv A outer s H vs Q E hr h => ?_)
  · obtain ⟨r, cs, R, costs, own, rfl, _⟩ := h
    rfl
  · obtain ⟨r, cs, R, costs, own, rfl, hR, hG, hcs, hlen, hT, al, kq⟩ := h
    have hr1 : Room 1 _ := hr.mono (by decide)
    obtain ⟨ps0, hP0⟩ := hT.got
    have hn16 := hG.n16
    refine ⟨_, pss_cons (ps_set (i := 3) sc_planned_order.nd rfl (Or.inl rfl) (pe_lst pa_nil))
      (pss_cons (ps_set (i := 4) sc_planned_order.nd rfl (Or.inl rfl) pe_int)
      (pss_cons (ps_set (i := 5) sc_planned_order.nd rfl (Or.inl rfl) (pe_call GN hr rfl T.things_next_mg T.things_next.fn.kp T.things_next.bi .nil pass0 (pa_cons (pv 0) (pa_cons (pv 4) pa_nil))))
      (pss_cons (ps_while PassesOwn.never (pt_cmpR op_ne (pv 5) pe_int (nomark _))
        (pss_cons (ps_set (i := 6) sc_planned_order.nd rfl (Or.inl rfl) (pe_call GC hr rfl T.cheapest_mg T.cheapest.fn.kp T.cheapest.bi .nil pass0 (pa_cons (pe_call GI hr1 rfl T.things_in_mg T.things_in.fn.kp T.things_in.bi .nil pass0 (pa_cons (pv 5) pa_nil)) (pa_cons (pv 2) (pa_cons (pv 1) (pa_cons (pe_callB call_len_seq (by rfl) T.b_len PySem.boot_len (pa_cons (pv 3) pa_nil)) pa_nil))))))
        (pss_cons (ps_expr (pe_bm PySem.F.plainAttrs_list PySem.F.slot_list_append PySem.F.type_list_append mt_append (pv 3) (pa_cons (pv 6) pa_nil)))
        (pss_cons (ps_set (i := 4) sc_planned_order.nd rfl (Or.inl rfl) (pe_op op_or (pv 4) (pe_op op_shl pe_int (pv 6))))
        (pss_one (ps_set (i := 5) sc_planned_order.nd rfl (Or.inl rfl) (pe_call GN hr rfl T.things_next_mg T.things_next.fn.kp T.things_next.bi .nil pass0 (pa_cons (pv 0) (pa_cons (pv 4) pa_nil)))))))))
      (pss_one (ps_ret (pv 3)))))), ?_⟩
    refine ⟨Nat.zero_le _, fun od hod => ?_⟩
    refine ⟨_, rfl, _, rfl, r, R, 0, rfl, hR.same (same_new hod), hG, ?_⟩
    refine ⟨invPl r cs od a.cheapestP own costs R H,
      ⟨_, 0, [], Rc83.plan R costs, own, none, rfl, rfl, upd_same, fun z => al _ z hod, But.of (same_new hod), hT.same (same_new hod), fun _ z => z, fun b z => .inl z, Lp.state_zero R, by simp, (Lp.plan_eq R costs).symm, rfl⟩, ?_⟩
    rintro m σ H2 ⟨st, done, rest, own2, v6, rfl, rfl, hod2, nod, fr, hT2, ho1, ho2, hst, hcount, hfw, hall⟩
    refine ⟨_, rfl, rfl, _, rfl, ?_⟩
    refine ite2 (fun h => ?_) (fun h => ?_)
    · have hne : st ≠ Rc83.top R := fun e => by
        rw [e, Lp.nexts_top hG.wf] at h
        exact absurd h (by decide)
      obtain ⟨x0, hch, hx0, hstep⟩ := Lp.forward_step costs done.length hst hne
      have hbits : Lp.bitsL 16 (Rc83.nexts R st) = Lp.nextsL R st := Lp.bits_nexts (nexts16 hG st)
      have hleft : 0 < Lp.left R st := Nat.pos_of_ne_zero fun z => hne ((Lp.left_zero_iff hst).mp z)
      have hl0 := Lp.left_le R 0
      refine ⟨fun σ' H' => ∃ m', m' < Lp.left R st ∧ ∃ (st : Nat) (done rest : List Nat) (own2 : Addr → Prop) (v6 : Option V), m' = Lp.left R st ∧ σ' = [some (.ref r), some (.int (R.n : Int)), some (.ref cs), some (.ref od), some (.int (st : Int)), some (.int ((Rc83.nexts R st : Nat) : Int)), v6] ∧
        H' od = some (.lst (nv done)) ∧ ¬ own2 od ∧ But a.cheapestP H H' ∧ TabL a.cheapestP H' own2 ∧ (∀ b, own b → own2 b) ∧ (∀ b, own2 b → own b ∨ (H b = none ∧ H' b ≠ none)) ∧ Rc83.state R st = true ∧ done.length + Lp.left R st = Lp.left R 0 ∧
        Rc83.forward R costs (Lp.left R st) done.length st = rest ∧ done ++ rest = Rc83.plan R costs, fun _ _ h => h, ?_⟩
      refine ⟨_, rfl, Rc83.nexts R st, rfl, nexts16 hG st, fun tl H3 htl s3 htl3 => ?_⟩
      rw [hbits] at htl3
      have hod3 := s3 _ _ hod2
      have ncsP : cs ≠ a.cheapestP := ne_of hcs hP0 (by intro z; cases z)
      refine ⟨_, rfl, _, rfl, _, rfl, od, _, rfl, .inl (SqL.of hod3), tl, cs, Lp.nextsL R st, costs, R.n, done.length, own2, by rw [List.length_map]; rfl, htl3, s3 _ _ (fr _ _ hcs ncsP), ?_, fun x hx => ?_, hn16, hT2.same s3, fun i x own' H4 hL hT4 hp1 hp2 fr4 => ?_⟩
      · apply Nat.pos_of_ne_zero
        intro z
        have := List.length_eq_zero_iff.mp z
        exact hne ((Lp.nextsL_nil hst).mp this)
      · have hxR := (Lp.nexts_lt (Lp.mem_nextsL.mp hx)).1
        rw [hlen]
        have h1 : (x + 1) * R.n ≤ R.n * R.n := Nat.mul_le_mul_right _ hxR
        rw [Nat.succ_mul] at h1
        omega
      · have hbest : Rc83.cheapest R costs st done.length = some x := by
          rw [Lp.cheapest_eq]
          exact Lp.best_min hL.1 hL.2
        rw [hch] at hbest
        have hxx : x = x0 := (Option.some.inj hbest).symm
        subst hxx
        have hx16 : x < 16 := Nat.lt_of_lt_of_le (Lp.nexts_lt hx0).1 hn16
        obtain ⟨ps3, hP3⟩ := (hT2.same s3).got
        have hod4 : H4 od = some (.lst (nv done)) := fr4 _ _ hod3 (ne_of hod3 hP3 (by intro z; cases z))
        have nodP : od ≠ a.cheapestP := ne_of hod3 hP3 (by intro z; cases z)
        have frA : But a.cheapestP H H4 := fun b o e hb => fr4 b o (s3 _ _ (fr b o e hb)) hb
        have nod' : ¬ own' od := fun z => by
          rcases hp2 od z with z | z
          · exact nod z
          · rw [hod3] at z; cases z.1
        refine ⟨_, rfl, .inl ⟨rfl, _, SqL.of hod4⟩, _, rfl, od, _, _, rfl, rfl, hod4, ?_, ?_⟩
        · rw [List.length_map]
          exact small1000 (by omega)
        refine ⟨_, rfl, _, rfl, _, _, rfl, rfl, ⟨by omega, by omega, by decide⟩, _, _, rfl, rfl, ?_⟩
        dsimp only
        rw [or_one]
        have fr5 : But a.cheapestP H (upd H4 od (.lst (nv done ++ [.int (x : Int)]))) := fun b o e hb => by
          rw [upd_ne (ne_of_none e hod)]
          exact frA b o e hb
        have hR5 : RulesAt (upd H4 od (.lst (nv done ++ [.int (x : Int)]))) r R.rules := by
          obtain ⟨ts, g1, g2⟩ := hR.ex
          exact ⟨ts, fr5 _ _ g1 (ne_of g1 hP0 (by intro z; cases z)), Paired.mapP g2 fun t q z => fr5 _ _ z (ne_of z hP0 (by intro z; cases z))⟩
        refine ⟨_, rfl, _, rfl, r, R, st ||| 2 ^ x, rfl, hR5, hG, ?_⟩
        have hla := Lp.left_add hst hx0
        refine ⟨Lp.left R (st ||| 2 ^ x), by omega, st ||| 2 ^ x, done ++ [x], Rc83.forward R costs (Lp.left R (st ||| 2 ^ x)) (done.length + 1) (st ||| 2 ^ x), own', some (.int (x : Int)), rfl, rfl, ?_, nod', fr5, hT4.set hod4, fun b z => hp1 b (ho1 b z), fun b z => ?_, Lp.state_next hst hx0, ?_, ?_, ?_⟩
        · rw [upd_same, nv_snoc]
        · have up : ∀ c, H3 c ≠ none → (upd H4 od (.lst (nv done ++ [.int (x : Int)]))) c ≠ none := fun c hc y => by
            by_cases hco : c = od
            · rw [hco, upd_same] at y; cases y
            · rw [upd_ne hco] at y
              cases q : H3 c with
              | none => exact hc q
              | some o =>
                by_cases hcP : c = a.cheapestP
                · obtain ⟨ps4, hP4⟩ := hT4.got
                  rw [hcP, hP4] at y; cases y
                · rw [fr4 c o q hcP] at y; cases y
          have s3' : ∀ c, H2 c ≠ none → H3 c ≠ none := fun c hc y => by
            cases q : H2 c with
            | none => exact hc q
            | some o => rw [s3 _ _ q] at y; cases y
          rcases hp2 b z with z | z
          · rcases ho2 b z with z | z
            · exact .inl z
            · exact .inr ⟨z.1, up b (s3' b z.2)⟩
          · refine .inr ⟨?_, fun y => z.2 ?_⟩
            · cases q : H b with
              | none => rfl
              | some o =>
                by_cases hb : b = a.cheapestP
                · have := z.1
                  rw [hb, hP3] at this; cases this
                · have := z.1
                  rw [s3 _ _ (fr b o q hb)] at this; cases this
            · by_cases hbo : b = od
              · rw [hbo, upd_same] at y; cases y
              · rw [upd_ne hbo] at y; exact y
        · rw [List.length_append, List.length_singleton]; omega
        · rw [List.length_append, List.length_singleton]
        · rw [← hall, ← hfw, hstep, List.append_assoc]; rfl
    · have hz : Rc83.nexts R st = 0 := by
        apply Classical.byContradiction
        intro hne
        apply h
        rw [decide_eq_false (fun e => hne (by have := vint.mp e; omega))]
        rfl
      have e := Lp.nexts_zero hst hz
      subst e
      rw [Lp.forward_top] at hfw
      subst hfw
      rw [List.append_nil] at hall
      subst hall
      exact ⟨_, rfl, kq od own2 H2 hod hod2 nod hT2 ho1 ho2 fr⟩
end
end Lq
end
section
set_option Elab.async false
set_option linter.all false
set_option maxRecDepth 100000
set_option maxHeartbeats 4000000
namespace Lq
open PySem L2

/-! ### the object's fields -/
noncomputable def flds (z : Int) (r : Addr) (x y v : V) : List (Str × V) := [("amount", V.int z), ("rules", V.ref r), ("nexts", x), ("ways", y), ("paths", v)]
theorem ar : ¬ (("amount" : Str) = "rules") := by decide +kernel
theorem an : ¬ (("amount" : Str) = "nexts") := by decide +kernel
theorem aw : ¬ (("amount" : Str) = "ways") := by decide +kernel
theorem ap : ¬ (("amount" : Str) = "paths") := by decide +kernel
theorem rn : ¬ (("rules" : Str) = "nexts") := by decide +kernel
theorem rw_ : ¬ (("rules" : Str) = "ways") := by decide +kernel
theorem rp : ¬ (("rules" : Str) = "paths") := by decide +kernel
theorem nw : ¬ (("nexts" : Str) = "ways") := by decide +kernel
theorem np : ¬ (("nexts" : Str) = "paths") := by decide +kernel
theorem wp_ : ¬ (("ways" : Str) = "paths") := by decide +kernel
theorem putF_cons (f : Str) (v : V) (g : Str) (x : V) (r : List (Str × V)) : putF f v ((g, x) :: r) = if g = f then (g, v) :: r else (g, x) :: putF f v r := rfl
theorem putF_nil (f : Str) (v : V) : putF f v [] = [(f, v)] := rfl
section
variable (z u : Int) (r q : Addr) (x y v t : V)
theorem put_nexts : putF "nexts" t (flds z r x y v) = flds z r t y v := by
  unfold flds
  rw [putF_cons, if_neg an, putF_cons, if_neg rn, putF_cons, if_pos rfl]
theorem put_ways : putF "ways" t (flds z r x y v) = flds z r x t v := by
  unfold flds
  rw [putF_cons, if_neg aw, putF_cons, if_neg rw_, putF_cons, if_neg nw, putF_cons, if_pos rfl]
theorem put_paths : putF "paths" t (flds z r x y v) = flds z r x y t := by
  unfold flds
  rw [putF_cons, if_neg ap, putF_cons, if_neg rp, putF_cons, if_neg np, putF_cons, if_neg wp_, putF_cons, if_pos rfl]
theorem put_amount : putF "amount" (.int u) (flds z r x y v) = flds u r x y v := by
  unfold flds
  rw [putF_cons, if_pos rfl]
theorem put_rules : putF "rules" (.ref q) (flds z r x y v) = flds z q x y v := by
  unfold flds
  rw [putF_cons, if_neg ar, putF_cons, if_pos rfl]
theorem put_start : putF "paths" v (putF "ways" y (putF "nexts" x (putF "rules" (.ref r) (putF "amount" (.int z) [])))) = flds z r x y v := by
  unfold flds
  simp only [putF_nil, putF_cons, if_neg ar, if_neg an, if_neg aw, if_neg ap, if_neg rn, if_neg rw_, if_neg rp, if_neg nw, if_neg np, if_neg wp_]
theorem look_cons (f g : Str) (w : V) (l : List (Str × V)) : ((g, w) :: l).lookup f = if f = g then some w else l.lookup f := by
  rw [List.lookup_cons]
  by_cases h : f = g
  · rw [if_pos h, beq_iff_eq.mpr h]
  · rw [if_neg h, beq_eq_false_iff_ne.mpr h]
theorem get_amount : (flds z r x y v).lookup ("amount" : Str) = some (.int z) := by
  unfold flds; rw [look_cons, if_pos rfl]
theorem get_rules : (flds z r x y v).lookup ("rules" : Str) = some (.ref r) := by
  unfold flds; rw [look_cons, if_neg (Ne.symm ar), look_cons, if_pos rfl]
theorem get_nexts : (flds z r x y v).lookup ("nexts" : Str) = some x := by
  unfold flds; rw [look_cons, if_neg (Ne.symm an), look_cons, if_neg (Ne.symm rn), look_cons, if_pos rfl]
theorem get_ways : (flds z r x y v).lookup ("ways" : Str) = some y := by
  unfold flds; rw [look_cons, if_neg (Ne.symm aw), look_cons, if_neg (Ne.symm rw_), look_cons, if_neg (Ne.symm nw), look_cons, if_pos rfl]
theorem get_paths : (flds z r x y v).lookup ("paths" : Str) = some v := by
  unfold flds; rw [look_cons, if_neg (Ne.symm ap), look_cons, if_neg (Ne.symm rp), look_cons, if_neg (Ne.symm np), look_cons, if_neg (Ne.symm wp_), look_cons, if_pos rfl]
theorem flds_no {m : Str} (h1 : ¬ m = "amount") (h2 : ¬ m = "rules") (h3 : ¬ m = "nexts") (h4 : ¬ m = "ways") (h5 : ¬ m = "paths") : (flds z r x y v).lookup m = none := by
  unfold flds
  rw [look_cons, if_neg h1, look_cons, if_neg h2, look_cons, if_neg h3, look_cons, if_neg h4, look_cons, if_neg h5]
  rfl
theorem flds_len : (flds z r x y v).length = 5 := rfl
end

/-! ### the object, with what it has worked out -/
noncomputable def CNext (H : Hp) (own : Addr → Prop) (S : Rc83.Lore) (x : V) : Prop := x = .non ∨ ∃ (d : Addr) (B : List (Nat × Nat)), x = .ref d ∧ own d ∧ H d = some (.dK (tabV B)) ∧ Lp.Walk S B
noncomputable def CWays (H : Hp) (own : Addr → Prop) (S : Rc83.Lore) (y : V) : Prop := y = .non ∨ ∃ (d : Addr) (B : List (Nat × Nat)), y = .ref d ∧ own d ∧ H d = some (.dK (tabV B)) ∧ Lp.Tab (Lp.cnt S) (fun s => Rc83.state S s = true) B
noncomputable def CPaths (H : Hp) (own : Addr → Prop) (r : Addr) (S : Rc83.Lore) (v : V) : Prop := v = .non ∨ ∃ (q : Addr) (qs : List Addr), v = .ref q ∧ own q ∧ q ≠ r ∧ H q = some (.lst (qs.map V.ref)) ∧ qs.length = S.n ∧ ∀ (x : Nat) (q' : Addr), qs[x]? = some q' → own q' ∧ q' ≠ r ∧ H q' = some (.lst (nv (Rc83.paths S x)))
structure Parts (C : Addr) (H : Hp) (p : Addr) (own : Addr → Prop) (S : Rc83.Lore) (dx r : Addr) (ts : List Addr) (x y v : V) : Prop where
  hp : H p = some (.ins C dx (flds (S.n : Int) r x y v))
  op : own p
  hr : H r = some (.lst (ts.map V.ref))
  or : own r
  hq : Paired (fun t q => own t ∧ RuleAt H t q) ts S.rules
  cn : CNext H own S x
  cw : CWays H own S y
  cp : CPaths H own r S v
structure LoreAt (C Pt : Addr) (H : Hp) (p : Addr) (own : Addr → Prop) (S : Rc83.Lore) : Prop where
  good : Lp.Good S
  al : ∀ b, own b → H b ≠ none
  tab : TabL Pt H own
  ex : ∃ (dx r : Addr) (ts : List Addr) (x y v : V), Parts C H p own S dx r ts x y v
section
variable {C Pt : Addr} {H H' : Hp} {p : Addr} {own own' : Addr → Prop} {S : Rc83.Lore} {dx r : Addr} {ts : List Addr} {x y v : V}
theorem Parts.rules (h : Parts C H p own S dx r ts x y v) : RulesAt H r S.rules := ⟨ts, h.hr, Paired.mapP h.hq fun _ _ z => z.2⟩
theorem CNext.keep (h : CNext H own S x) (k : ∀ b o, own b → H b = some o → H' b = some o) (w : ∀ b, own b → own' b) : CNext H' own' S x := by
  rcases h with h | ⟨d, B, h1, h2, h3, h4⟩
  · exact .inl h
  · exact .inr ⟨d, B, h1, w _ h2, k _ _ h2 h3, h4⟩
theorem CWays.keep (h : CWays H own S y) (k : ∀ b o, own b → H b = some o → H' b = some o) (w : ∀ b, own b → own' b) : CWays H' own' S y := by
  rcases h with h | ⟨d, B, h1, h2, h3, h4⟩
  · exact .inl h
  · exact .inr ⟨d, B, h1, w _ h2, k _ _ h2 h3, h4⟩
theorem CPaths.keep (h : CPaths H own r S v) (k : ∀ b o, own b → b ≠ r → H b = some o → H' b = some o) (w : ∀ b, own b → own' b) : CPaths H' own' r S v := by
  rcases h with h | ⟨q, qs, h1, h2, h3, h4, h5, h6⟩
  · exact .inl h
  · exact .inr ⟨q, qs, h1, w _ h2, h3, k _ _ h2 h3 h4, h5, fun x q' e => ⟨w _ (h6 x q' e).1, (h6 x q' e).2.1, k _ _ (h6 x q' e).1 (h6 x q' e).2.1 (h6 x q' e).2.2⟩⟩
theorem Parts.keep (h : Parts C H p own S dx r ts x y v) (k : ∀ b o, own b → H b = some o → H' b = some o) (w : ∀ b, own b → own' b) : Parts C H' p own' S dx r ts x y v :=
  ⟨k _ _ h.op h.hp, w _ h.op, k _ _ h.or h.hr, w _ h.or, Paired.mapP h.hq fun t q z => ⟨w _ z.1, k _ _ z.1 z.2⟩, h.cn.keep k w, h.cw.keep k w, h.cp.keep (fun b o hb _ e => k b o hb e) w⟩
theorem TabOk.keep {lp : Pos} {qual : Str} (h : TabOk Pt lp qual H own) (k : ∀ b o, own b → H b = some o → H' b = some o) (w : ∀ b, own b → own' b) : TabOk Pt lp qual H' own' := by
  refine ⟨w _ h.1, ?_⟩
  rcases h.2 with e | ⟨c, o, e, f⟩
  · exact .inl (k _ _ h.1 e)
  · exact .inr ⟨c, w _ o, k _ _ h.1 e, k _ _ o f⟩
theorem LoreAt.keep (h : LoreAt C Pt H p own S) (k : ∀ b o, own b → H b = some o → H' b = some o) : LoreAt C Pt H' p own S := by
  obtain ⟨dx, r, ts, x, y, v, e⟩ := h.ex
  refine ⟨h.good, fun b z q => ?_, h.tab.keep k fun _ z => z, dx, r, ts, x, y, v, e.keep k fun _ z => z⟩
  cases f : H b with
  | none => exact h.al b z f
  | some o => rw [k b o z f] at q; cases q
theorem LoreAt.same (h : LoreAt C Pt H p own S) (s : Same H H') : LoreAt C Pt H' p own S := h.keep fun b o _ e => s b o e
/-- the table is another kind of thing than those at p and r -/
theorem LoreAt.ne (h : LoreAt C Pt H p own S) {d : Addr} {o : HO} (hd : H d = some o) (n1 : ∀ ps, o ≠ .tbl ps) (n2 : ∀ φ, o ≠ .ext φ) (k : ∀ b o, own b → b ≠ d → H b = some o → H' b = some o) : TabL Pt H' own := by
  refine ⟨h.tab.1, ?_⟩
  rcases h.tab.2 with e | ⟨c, q, e, f⟩
  · exact .inl (k _ _ h.tab.1 (fun z => by rw [z, hd] at e; exact n1 _ (Option.some.inj e)) e)
  · exact .inr ⟨c, q, k _ _ h.tab.1 (fun z => by rw [z, hd] at e; exact n1 _ (Option.some.inj e)) e, k _ _ q (fun z => by rw [z, hd] at f; exact n2 _ (Option.some.inj f)) f⟩
end
/-- what a call may move: its own things, and new ones; nothing goes -/
structure Moves (own : Addr → Prop) (H : Hp) (own' : Addr → Prop) (H' : Hp) : Prop where
  ow : ∀ b, own' b → own b ∨ H b = none
  fr : ∀ b o, H b = some o → ¬ own b → H' b = some o
  st : ∀ b, H' b = none → H b = none
theorem Moves.new {own : Addr → Prop} {H H' : Hp} (s : Same H H') : Moves own H own H' := ⟨fun _ z => .inl z, fun b o e _ => s b o e, fun _ z => s.free z⟩
theorem Moves.trans {own own1 own2 : Addr → Prop} {H H1 H2 : Hp} (a : Moves own H own1 H1) (b : Moves own1 H1 own2 H2) : Moves own H own2 H2 := by
  refine ⟨fun c z => ?_, fun c o e hc => b.fr c o (a.fr c o e hc) fun z => ?_, fun c z => a.st c (b.st c z)⟩
  · rcases b.ow c z with z | z
    · exact a.ow c z
    · exact .inr (a.st c z)
  · rcases a.ow c z with z | z
    · exact hc z
    · rw [e] at z; cases z
/-- what changes the object alone, and lays new things -/
structure Adds (p : Addr) (own : Addr → Prop) (H : Hp) (own' : Addr → Prop) (H' : Hp) : Prop where
  ow : ∀ b, own' b → own b ∨ H b = none
  bt : But p H H'
  hp : H' p ≠ none
theorem Adds.st {p : Addr} {own own' : Addr → Prop} {H H' : Hp} (a : Adds p own H own' H') : ∀ b, H' b = none → H b = none := fun b z => by
  cases e : H b with
  | none => rfl
  | some o =>
    by_cases hb : b = p
    · rw [hb] at z; exact absurd z a.hp
    · rw [a.bt b o e hb] at z; cases z
theorem Adds.moves {p : Addr} {own own' : Addr → Prop} {H H' : Hp} (a : Adds p own H own' H') (op : own p) : Moves own H own' H' := ⟨a.ow, fun b o e hb => a.bt b o e fun z => hb (by rw [z]; exact op), a.st⟩
theorem Adds.trans {p : Addr} {own own1 own2 : Addr → Prop} {H H1 H2 : Hp} (a : Adds p own H own1 H1) (b : Adds p own1 H1 own2 H2) : Adds p own H own2 H2 :=
  ⟨fun c z => (b.ow c z).elim (a.ow c) fun z => .inr (a.st c z), a.bt.trans b.bt, b.hp⟩
theorem Adds.refl {p : Addr} {own : Addr → Prop} {H : Hp} (hp : H p ≠ none) : Adds p own H own H := ⟨fun _ z => .inl z, But.refl p H, hp⟩
theorem some_ne {H : Hp} {p : Addr} {o : HO} (h : H p = some o) : H p ≠ none := by rw [h]; intro z; cases z

/-! ### promises of the methods -/
noncomputable def spForget (C : Addr) : Sp := fun vs H Q _ => ∃ (p dx : Addr) (fs : List (Str × V)), vs = [.ref p] ∧ H p = some (.ins C dx fs) ∧ fs.length < 900 ∧ Q .non (upd H p (.ins C dx (putF "paths" .non (putF "ways" .non (putF "nexts" .non fs)))))
noncomputable def spRestart (C Pt : Addr) : Sp := fun vs H Q _ => ∃ (p dx : Addr) (fs : List (Str × V)) (own : Addr → Prop) (n : Nat), vs = [.ref p, .int (n : Int)] ∧ H p = some (.ins C dx fs) ∧ (fs = [] ∨ ∃ z r x y v, fs = flds z r x y v) ∧ n ≤ 16 ∧ TabL Pt H own ∧ (∀ b, own b → H b ≠ none) ∧
  ∀ (own' : Addr → Prop) (H' : Hp), LoreAt C Pt H' p own' { n := n } → (∀ b, own' b → own b ∨ b = p ∨ H b = none) → (∀ b o, H b = some o → b ≠ p → H' b = some o) → Q .non H'
noncomputable def spInit (C Pt : Addr) : Sp := fun vs H Q _ => ∃ (p dx : Addr) (own : Addr → Prop), vs = [.ref p] ∧ H p = some (.ins C dx []) ∧ TabL Pt H own ∧ (∀ b, own b → H b ≠ none) ∧
  ∀ (own' : Addr → Prop) (H' : Hp), LoreAt C Pt H' p own' {} → (∀ b, own' b → own b ∨ b = p ∨ H b = none) → (∀ b o, H b = some o → b ≠ p → H' b = some o) → Q .non H'
noncomputable def spAdd (C Pt : Addr) : Sp := fun vs H Q _ => ∃ (p : Addr) (own : Addr → Prop) (S : Rc83.Lore) (x t : Nat), vs = [.ref p, .int (x : Int), .int (t : Int)] ∧ LoreAt C Pt H p own S ∧ x < S.n ∧ t < 2 ^ S.n ∧ t.testBit x = false ∧ S.rules.length < 256 ∧
  ∀ (own' : Addr → Prop) (H' : Hp), LoreAt C Pt H' p own' { S with rules := S.rules ++ [(x, t)] } → Moves own H own' H' → Q .non H'
noncomputable def spHas (C Pt : Addr) : Sp := fun vs H Q _ => ∃ (p : Addr) (own : Addr → Prop) (S : Rc83.Lore) (x : Int), vs = [.ref p, .int x] ∧ LoreAt C Pt H p own S ∧ Q (.bl (Rc83.thing S.n x)) H
noncomputable def spHolds (C Pt : Addr) : Sp := fun vs H Q _ => ∃ (p : Addr) (own : Addr → Prop) (S : Rc83.Lore) (s : Nat), vs = [.ref p, .int (s : Int)] ∧ LoreAt C Pt H p own S ∧ Q (.bl (decide (s < 2 ^ S.n))) H
noncomputable def spTakes (C Pt : Addr) : Sp := fun vs H Q _ => ∃ (p : Addr) (own : Addr → Prop) (S : Rc83.Lore) (x : Int) (s : Nat), vs = [.ref p, .int x, .int (s : Int)] ∧ LoreAt C Pt H p own S ∧ Q (.bl (Rc83.thing S.n x && (decide (s < 2 ^ S.n) && !s.testBit x.toNat))) H
noncomputable def spAll (C Pt : Addr) : Sp := fun vs H Q _ => ∃ (p : Addr) (own : Addr → Prop) (S : Rc83.Lore), vs = [.ref p] ∧ LoreAt C Pt H p own S ∧ Q (.int ((Rc83.all S.n : Nat) : Int)) H
noncomputable def spAllN (C Pt : Addr) : Sp := fun vs H Q _ => ∃ (p : Addr) (own : Addr → Prop) (S : Rc83.Lore), vs = [.ref p] ∧ LoreAt C Pt H p own S ∧ ∀ (d : Addr) (B : List (Nat × Nat)) (own' : Addr → Prop) (H' : Hp), LoreAt C Pt H' p own' S → Adds p own H own' H' → own' d → H' d = some (.dK (tabV B)) → Lp.Walk S B → Q (.ref d) H'
noncomputable def spAllW (C Pt : Addr) : Sp := fun vs H Q _ => ∃ (p : Addr) (own : Addr → Prop) (S : Rc83.Lore), vs = [.ref p] ∧ LoreAt C Pt H p own S ∧ ∀ (d : Addr) (B : List (Nat × Nat)) (own' : Addr → Prop) (H' : Hp), LoreAt C Pt H' p own' S → Adds p own H own' H' → own' d → H' d = some (.dK (tabV B)) → Lp.Tab (Lp.cnt S) (fun s => Rc83.state S s = true) B → Q (.ref d) H'
noncomputable def spAllP (C Pt : Addr) : Sp := fun vs H Q _ => ∃ (p : Addr) (own : Addr → Prop) (S : Rc83.Lore), vs = [.ref p] ∧ LoreAt C Pt H p own S ∧ ∀ (q : Addr) (qs : List Addr) (own' : Addr → Prop) (H' : Hp), LoreAt C Pt H' p own' S → Adds p own H own' H' → H' q = some (.lst (qs.map V.ref)) → qs.length = S.n → (∀ (x : Nat) (q' : Addr), qs[x]? = some q' → H' q' = some (.lst (nv (Rc83.paths S x)))) → Q (.ref q) H'

section
variable {P : Program} {w : World} {K : PySem.W.Frag} {mg : Str → Option Value} {base : Heap} {a : Ad}
theorem ok_m_forget (T : Txt K mg a) : FnOk P w K mg base CX0 1 a.m_forget a.m_forgetD ["self"] (spForget a.Learning) := by
  refine T.m_forget.fn.ok sc_m_forget (fun vs H Q E h => ?_) (fun cdv A outer s H vs Q E hr h => ?_)
  · obtain ⟨p, dx, fs, rfl, _⟩ := h
    rfl
  · obtain ⟨p, dx, fs, rfl, hp, hlen, k⟩ := h
    have l1 := length_putF "nexts" .non fs
    have l2 := length_putF "ways" .non (putF "nexts" .non fs)
    refine ⟨_, pss_cons (ps_fld (pv 0) pe_non rfl) (pss_cons (ps_fld (pv 0) pe_non rfl) (pss_one (ps_fld (pv 0) pe_non rfl))), ?_⟩
    refine ⟨_, rfl, p, a.Learning, dx, _, rfl, hp, T.Learning_cl, T.no_nexts, by omega, ?_⟩
    refine ⟨_, rfl, p, a.Learning, dx, _, rfl, upd_same, T.Learning_cl, T.no_ways, by omega, ?_⟩
    refine ⟨_, rfl, p, a.Learning, dx, _, rfl, upd_same, T.Learning_cl, T.no_paths, by omega, ?_⟩
    rw [upd_upd, upd_upd]
    exact k
theorem ok_m_restart (T : Txt K mg a) : FnOk P w K mg base CX0 2 a.m_restart a.m_restartD ["self", "amount"] (spRestart a.Learning a.cheapestP) := by
  have GF : FnOk P w K mg base CX0 1 a.m_forget a.m_forgetD ["self"] (spForget a.Learning) := ok_m_forget T
  refine T.m_restart.fn.ok sc_m_restart (fun vs H Q E h => ?_) (fun cdv A outer s H vs Q E hr h => ?_)
  · obtain ⟨p, dx, fs, own, n, rfl, _⟩ := h
    rfl
  · obtain ⟨p, dx, fs, own, n, rfl, hp, hfs, hn, hT, al, k⟩ := h
    have hlen : fs.length ≤ 5 := by
      rcases hfs with rfl | ⟨z, r, x, y, v, rfl⟩
      · exact Nat.zero_le _
      · rw [flds_len]; exact Nat.le_refl 5
    have l1 := length_putF "amount" (.int (n : Int)) fs
    refine ⟨_, pss_cons (ps_fld (pv 0) (pv 1) rfl) (pss_cons (ps_fld (pv 0) (pe_lst pa_nil) rfl) (pss_one (ps_expr (pe_meth0 (pv 0) T.Learning_cl T.m_forget_me GF hr T.m_forget.bi .nil pass0)))), ?_⟩
    refine ⟨_, rfl, _, rfl, p, a.Learning, dx, _, rfl, hp, T.Learning_cl, T.no_amount, by omega, ?_⟩
    refine ⟨Nat.zero_le _, fun r hr0 => ?_⟩
    have npr : p ≠ r := ne_of_none upd_same hr0
    have hr1 : H r = none := by rw [upd_ne npr.symm] at hr0; exact hr0
    have l2 := length_putF "rules" (.ref r) (putF "amount" (.int (n : Int)) fs)
    have hfin : putF "paths" .non (putF "ways" .non (putF "nexts" .non (putF "rules" (.ref r) (putF "amount" (.int (n : Int)) fs)))) = flds (n : Int) r .non .non .non := by
      rcases hfs with rfl | ⟨z, q, x, y, v, rfl⟩
      · exact put_start _ _ _ _ _
      · rw [put_amount, put_rules, put_nexts, put_ways, put_paths]
    have hno : (putF "rules" (.ref r) (putF "amount" (.int (n : Int)) fs)).lookup ("forget" : Str) = none := by
      rw [lookup_putF, if_neg (by decide +kernel), lookup_putF, if_neg (by decide +kernel)]
      rcases hfs with rfl | ⟨z, q, x, y, v, rfl⟩
      · rfl
      · exact flds_no _ _ _ _ _ (by decide +kernel) (by decide +kernel) (by decide +kernel) (by decide +kernel) (by decide +kernel)
    refine ⟨_, rfl, p, a.Learning, dx, _, rfl, (by rw [upd_ne npr, upd_same]), T.Learning_cl, T.no_rules, by omega, ?_⟩
    refine ⟨_, rfl, p, dx, _, rfl, upd_same, hno, p, dx, _, rfl, upd_same, by omega, ?_⟩
    rw [hfin]
    have fr : ∀ b o, H b = some o → b ≠ p → (upd (upd (upd (upd H p (.ins a.Learning dx (putF "amount" (.int (n : Int)) fs))) r (.lst [])) p (.ins a.Learning dx (putF "rules" (.ref r) (putF "amount" (.int (n : Int)) fs)))) p (.ins a.Learning dx (flds (n : Int) r .non .non .non))) b = some o := fun b o e hb => by
      rw [upd_ne hb, upd_ne hb, upd_ne (ne_of_none e hr1), upd_ne hb]; exact e
    have hr2 : (upd (upd (upd (upd H p (.ins a.Learning dx (putF "amount" (.int (n : Int)) fs))) r (.lst [])) p (.ins a.Learning dx (putF "rules" (.ref r) (putF "amount" (.int (n : Int)) fs)))) p (.ins a.Learning dx (flds (n : Int) r .non .non .non))) r = some (.lst []) := by
      rw [upd_ne npr.symm, upd_ne npr.symm, upd_same]
    refine k (fun b => own b ∨ b = p ∨ b = r) _ ⟨Lp.good_new n hn, fun b z => ?_, ⟨.inl hT.1, ?_⟩, dx, r, [], .non, .non, .non, ⟨upd_same, .inr (.inl rfl), hr2, .inr (.inr rfl), .nil, .inl rfl, .inl rfl, .inl rfl⟩⟩ (fun b z => ?_) fr
    · rcases z with z | rfl | rfl
      · intro q
        by_cases hb : b = p
        · rw [hb, upd_same] at q; cases q
        · cases e : H b with
          | none => exact al b z e
          | some o => rw [fr b o e hb] at q; cases q
      · rw [upd_same]; intro q; cases q
      · rw [hr2]; intro q; cases q
    · rcases hT.2 with e | ⟨c, o, e, f⟩
      · exact .inl (fr _ _ e (ne_of e hp (by intro z; cases z)))
      · exact .inr ⟨c, .inl o, fr _ _ e (ne_of e hp (by intro z; cases z)), fr _ _ f (ne_of f hp (by intro z; cases z))⟩
    · rcases z with z | z | z
      · exact .inl z
      · exact .inr (.inl z)
      · exact .inr (.inr (by rw [z]; exact hr1))
theorem ok_m_init (T : Txt K mg a) : FnOk P w K mg base CX0 3 a.m_init a.m_initD ["self"] (spInit a.Learning a.cheapestP) := by
  have GR : FnOk P w K mg base CX0 2 a.m_restart a.m_restartD ["self", "amount"] (spRestart a.Learning a.cheapestP) := ok_m_restart T
  refine T.m_init.fn.ok sc_m_init (fun vs H Q E h => ?_) (fun cdv A outer s H vs Q E hr h => ?_)
  · obtain ⟨p, dx, own, rfl, _⟩ := h
    rfl
  · obtain ⟨p, dx, own, rfl, hp, hT, al, k⟩ := h
    refine ⟨_, pss_one (ps_expr (pe_meth (pv 0) T.Learning_cl T.m_restart_me GR hr T.m_restart.bi .nil pass0 (pa_cons pe_int pa_nil))), ?_⟩
    exact ⟨_, rfl, p, dx, _, rfl, hp, rfl, p, dx, [], own, 0, rfl, hp, .inl rfl, by decide, hT, al, fun own' H' hL h1 h2 => k own' H' hL h1 h2⟩
theorem ok_m_has_thing (T : Txt K mg a) : FnOk P w K mg base CX0 1 a.m_has_thing a.m_has_thingD ["self", "thing"] (spHas a.Learning a.cheapestP) := by
  refine T.m_has_thing.fn.ok sc_m_has_thing (fun vs H Q E h => ?_) (fun cdv A outer s H vs Q E hr h => ?_)
  · obtain ⟨p, own, S, x, rfl, _⟩ := h
    rfl
  · obtain ⟨p, own, S, x, rfl, hL, k⟩ := h
    obtain ⟨dx, r, ts, x1, x2, x3, hP⟩ := hL.ex
    refine ⟨_, pss_one (ps_ret (pe_and (pe_cmpR op_le pe_int (pv 1) (nomark _)) (pe_one (pe_cmpR op_lt (pv 1) (pe_fld (pv 0) rfl) (nomark _))))), ?_⟩
    refine ⟨_, rfl, _, _, rfl, rfl, _, rfl, ?_⟩
    refine ite2 (fun h => ?_) (fun h => ?_)
    · refine ⟨_, rfl, _, rfl, p, a.Learning, dx, _, _, rfl, hP.hp, T.Learning_cl, T.no_amount, get_amount _ _ _ _ _, _, _, rfl, rfl, ?_⟩
      have e : Rc83.thing S.n x = decide (x < (S.n : Int)) := by unfold Rc83.thing; rw [h, Bool.true_and]
      rw [e] at k
      exact k
    · have e : Rc83.thing S.n x = false := by
        unfold Rc83.thing
        rw [(Bool.not_eq_true _).mp h, Bool.false_and]
      rw [e] at k
      exact k
theorem ok_m_holds (T : Txt K mg a) : FnOk P w K mg base CX0 1 a.m_holds a.m_holdsD ["self", "things"] (spHolds a.Learning a.cheapestP) := by
  refine T.m_holds.fn.ok sc_m_holds (fun vs H Q E h => ?_) (fun cdv A outer s H vs Q E hr h => ?_)
  · obtain ⟨p, own, S, x, rfl, _⟩ := h
    rfl
  · obtain ⟨p, own, S, x, rfl, hL, k⟩ := h
    obtain ⟨dx, r, ts, x1, x2, x3, hP⟩ := hL.ex
    refine ⟨_, pss_one (ps_ret (pe_cmpR op_eq (pe_op op_shr (pv 1) (pe_fld (pv 0) rfl)) pe_int (nomark _))), ?_⟩
    refine ⟨_, rfl, _, rfl, p, a.Learning, dx, _, _, rfl, hP.hp, T.Learning_cl, T.no_amount, get_amount _ _ _ _ _, _, _, rfl, rfl, by omega, rfl, ?_⟩
    have e : decide (V.int ((x : Int) / 2 ^ ((S.n : Int)).toNat) = V.int 0) = decide (x < 2 ^ S.n) := by
      rw [Bool.eq_iff_iff, decide_eq_true_eq, decide_eq_true_eq, ← Lp.shr_zero, Lp.shr_nat]
      exact (vint.trans (by omega))
    rw [← e] at k
    exact k
theorem ok_m_everything (T : Txt K mg a) : FnOk P w K mg base CX0 1 a.m_everything a.m_everythingD ["self"] (spAll a.Learning a.cheapestP) := by
  refine T.m_everything.fn.ok sc_m_everything (fun vs H Q E h => ?_) (fun cdv A outer s H vs Q E hr h => ?_)
  · obtain ⟨p, own, S, rfl, _⟩ := h
    rfl
  · obtain ⟨p, own, S, rfl, hL, k⟩ := h
    obtain ⟨dx, r, ts, x1, x2, x3, hP⟩ := hL.ex
    have hn := hL.good.n16
    refine ⟨_, pss_one (ps_ret (pe_op op_sub (pe_op op_shl pe_int (pe_fld (pv 0) rfl)) pe_int)), ?_⟩
    refine ⟨_, rfl, p, a.Learning, dx, _, _, rfl, hP.hp, T.Learning_cl, T.no_amount, get_amount _ _ _ _ _, _, _, rfl, rfl, ⟨by omega, by omega, by decide⟩, _, _, rfl, rfl, ?_⟩
    have e : (1 : Int) * 2 ^ ((S.n : Int)).toNat - 1 = ((Rc83.all S.n : Nat) : Int) := by
      rw [Lp.shl_one]
      unfold Rc83.all
      have := Nat.two_pow_pos S.n
      omega
    dsimp only
    rw [e]
    exact k
theorem ok_m_takes_rule (T : Txt K mg a) : FnOk P w K mg base CX0 2 a.m_takes_rule a.m_takes_ruleD ["self", "thing", "needed"] (spTakes a.Learning a.cheapestP) := by
  have GH : FnOk P w K mg base CX0 1 a.m_has_thing a.m_has_thingD ["self", "thing"] (spHas a.Learning a.cheapestP) := ok_m_has_thing T
  have GS : FnOk P w K mg base CX0 1 a.m_holds a.m_holdsD ["self", "things"] (spHolds a.Learning a.cheapestP) := ok_m_holds T
  refine T.m_takes_rule.fn.ok sc_m_takes_rule (fun vs H Q E h => ?_) (fun cdv A outer s H vs Q E hr h => ?_)
  · obtain ⟨p, own, S, x, t, rfl, _⟩ := h
    rfl
  · obtain ⟨p, own, S, x, t, rfl, hL, k⟩ := h
    obtain ⟨dx, r, ts, x1, x2, x3, hP⟩ := hL.ex
    refine ⟨_, pss_one (ps_ret (pe_and (pe_meth (pv 0) T.Learning_cl T.m_has_thing_me GH hr T.m_has_thing.bi .nil pass0 (pa_cons (pv 1) pa_nil))
      (pe_and (pe_meth (pv 0) T.Learning_cl T.m_holds_me GS hr T.m_holds.bi .nil pass0 (pa_cons (pv 2) pa_nil))
      (pe_one (pe_cmpR op_eq (pe_op op_and (pe_op op_shr (pv 2) (pv 1)) pe_int) pe_int (nomark _)))))), ?_⟩
    refine ⟨_, rfl, p, dx, _, rfl, hP.hp, flds_no _ _ _ _ _ (by decide +kernel) (by decide +kernel) (by decide +kernel) (by decide +kernel) (by decide +kernel), _, rfl, p, own, S, x, rfl, hL, _, rfl, ?_⟩
    refine ite2 (fun h1 => ?_) (fun h1 => ?_)
    · rw [h1, Bool.true_and] at k
      have hx : 0 ≤ x := by
        unfold Rc83.thing at h1
        rw [Bool.and_eq_true, decide_eq_true_eq] at h1
        exact h1.1
      refine ⟨_, rfl, p, dx, _, rfl, hP.hp, flds_no _ _ _ _ _ (by decide +kernel) (by decide +kernel) (by decide +kernel) (by decide +kernel) (by decide +kernel), _, rfl, p, own, S, t, rfl, hL, _, rfl, ?_⟩
      refine ite2 (fun h2 => ?_) (fun h2 => ?_)
      · rw [h2, Bool.true_and] at k
        refine ⟨_, rfl, _, rfl, _, _, rfl, rfl, hx, _, _, rfl, rfl, rfl, ?_⟩
        obtain ⟨y, rfl⟩ : ∃ y : Nat, x = (y : Int) := ⟨x.toNat, by omega⟩
        have e : decide (V.int (Builtin.bitAnd ((t : Int) / 2 ^ ((y : Int)).toNat) 1) = V.int 0) = !t.testBit ((y : Int)).toNat := by
          rw [Int.toNat_natCast, show (1 : Int) = ((1 : Nat) : Int) from rfl, ← Int.toNat_natCast y, Lp.shr_nat, Lp.bitAnd_nat, Lp.shr_bit, Int.toNat_natCast]
          cases t.testBit y <;> rfl
        rw [← e] at k
        exact k
      · rw [(Bool.not_eq_true _).mp h2, Bool.false_and] at k
        exact k
    · rw [(Bool.not_eq_true _).mp h1, Bool.false_and] at k
      exact k
end
end Lq
end
section
set_option Elab.async false
set_option linter.all false
set_option maxRecDepth 100000
set_option maxHeartbeats 4000000
namespace Lq
open PySem L2
section
variable {P : Program} {w : World} {K : PySem.W.Frag} {mg : Str → Option Value} {base : Heap} {a : Ad}
theorem CNext.alike {H : Hp} {own : Addr → Prop} {S S' : Rc83.Lore} {x : V} (A : Lp.Alike S S') (h : CNext H own S x) : CNext H own S' x := by
  rcases h with h | ⟨d, B, h1, h2, h3, h4⟩
  · exact .inl h
  · exact .inr ⟨d, B, h1, h2, h3, A.walk h4⟩
theorem CWays.alike {H : Hp} {own : Addr → Prop} {S S' : Rc83.Lore} {x : V} (A : Lp.Alike S S') (h : CWays H own S x) : CWays H own S' x := by
  rcases h with h | ⟨d, B, h1, h2, h3, h4⟩
  · exact .inl h
  · exact .inr ⟨d, B, h1, h2, h3, A.wtab h4⟩
theorem CPaths.alike {H : Hp} {own : Addr → Prop} {r : Addr} {S S' : Rc83.Lore} {x : V} (A : Lp.Alike S S') (h : CPaths H own r S x) : CPaths H own r S' x := by
  rcases h with h | ⟨q, qs, h1, h2, h3, h4, h5, h6⟩
  · exact .inl h
  · exact .inr ⟨q, qs, h1, h2, h3, h4, by rw [A.n]; exact h5, fun x q' e => by rw [A.paths]; exact h6 x q' e⟩
theorem ok_m_add_rule (T : Txt K mg a) : FnOk P w K mg base CX0 2 a.m_add_rule a.m_add_ruleD ["self", "thing", "needed"] (spAdd a.Learning a.cheapestP) := by
  have GF : FnOk P w K mg base CX0 1 a.m_forget a.m_forgetD ["self"] (spForget a.Learning) := ok_m_forget T
  have GT : FnOk P w K mg base CX0 1 a.taught a.taughtD ["rules", "known"] spTaught := ok_taught T
  refine T.m_add_rule.fn.ok sc_m_add_rule (fun vs H Q E h => ?_) (fun cdv A outer s H vs Q E hr h => ?_)
  · obtain ⟨p, own, S, x, t, rfl, _⟩ := h
    rfl
  · obtain ⟨p, own, S, x, t, rfl, hL, hx, ht, hb, hlt, k⟩ := h
    obtain ⟨dx, r, ts, x1, x2, x3, hP⟩ := hL.ex
    have hlen : ts.length = S.rules.length := Paired.length hP.hq
    have hG' : Lp.Good { S with rules := S.rules ++ [(x, t)] } := Lp.good_rule hL.good hx ht hb hlt
    refine ⟨_, pss_cons (ps_if (pt_cmpR op_eq (pe_op op_and (pe_op op_shr (pe_call GT hr rfl T.taught_mg T.taught.fn.kp T.taught.bi .nil pass0 (pa_cons (pe_fld (pv 0) rfl) (pa_cons (pv 2) pa_nil))) (pv 1)) pe_int) pe_int (nomark _))
        (pss_one (ps_expr (pe_meth0 (pv 0) T.Learning_cl T.m_forget_me GF hr T.m_forget.bi .nil pass0))) pss_nil)
      (pss_one (ps_expr (pe_bm PySem.F.plainAttrs_list PySem.F.slot_list_append PySem.F.type_list_append mt_append (pe_fld (pv 0) rfl) (pa_cons (pe_tup (pa_cons (pv 1) (pa_cons (pv 2) pa_nil))) pa_nil)))), ?_⟩
    -- what comes behind the test, wherever the object stands with its rules
    have fin : ∀ (H1 : Hp) (y1 y2 y3 : V), H1 p = some (.ins a.Learning dx (flds (S.n : Int) r y1 y2 y3)) → (∀ b o, H b = some o → b ≠ p → H1 b = some o) → (∀ b, H1 b = none → H b = none) →
        CNext H own { S with rules := S.rules ++ [(x, t)] } y1 → CWays H own { S with rules := S.rules ++ [(x, t)] } y2 → CPaths H own r { S with rules := S.rules ++ [(x, t)] } y3 →
        ∀ tt, H1 tt = none → Q .non (upd (upd H1 tt (.tup [.int (x : Int), .int (t : Int)])) r (.lst (ts.map V.ref ++ [.ref tt]))) := by
      intro H1 y1 y2 y3 hp1 fr1 fr2 c1 c2 c3 tt htt
      have htt0 : H tt = none := fr2 tt htt
      have npr : p ≠ r := ne_of hP.hp hP.hr (by intro z; cases z)
      have ntp : tt ≠ p := (ne_of_none hp1 htt).symm
      have hr1 : H1 r = some (.lst (ts.map V.ref)) := fr1 _ _ hP.hr npr.symm
      have ntr : tt ≠ r := (ne_of_none hr1 htt).symm
      have kp : ∀ b o, H b = some o → b ≠ p → b ≠ r → (upd (upd H1 tt (.tup [.int (x : Int), .int (t : Int)])) r (.lst (ts.map V.ref ++ [.ref tt]))) b = some o := fun b o e hb hbr => by
        rw [upd_ne hbr, upd_ne (ne_of_none e htt0)]; exact fr1 b o e hb
      have hp2 : (upd (upd H1 tt (.tup [.int (x : Int), .int (t : Int)])) r (.lst (ts.map V.ref ++ [.ref tt]))) p = some (.ins a.Learning dx (flds (S.n : Int) r y1 y2 y3)) := by
        rw [upd_ne npr, upd_ne ntp.symm]; exact hp1
      have htt2 : (upd (upd H1 tt (.tup [.int (x : Int), .int (t : Int)])) r (.lst (ts.map V.ref ++ [.ref tt]))) tt = some (.tup [.int (x : Int), .int (t : Int)]) := by
        rw [upd_ne ntr, upd_same]
      have w : ∀ b, own b → own b ∨ b = tt := fun _ z => .inl z
      refine k (fun b => own b ∨ b = tt) _ ⟨hG', fun b z q => ?_, ?_, dx, r, ts ++ [tt], y1, y2, y3, ⟨hp2, .inl hP.op, by rw [upd_same, List.map_append]; rfl, .inl hP.or, ?_, ?_, ?_, ?_⟩⟩ ⟨fun b z => z.elim .inl fun z => .inr (by rw [z]; exact htt0), fun b o e hb => ?_, fun b q => ?_⟩
      · rcases z with z | z
        · by_cases hbp : b = p
          · rw [hbp, hp2] at q; cases q
          · by_cases hbr : b = r
            · rw [hbr, upd_same] at q; cases q
            · cases e : H b with
              | none => exact hL.al b z e
              | some o => rw [kp b o e hbp hbr] at q; cases q
        · rw [z, htt2] at q; cases q
      · refine ⟨.inl hL.tab.1, ?_⟩
        rcases hL.tab.2 with e | ⟨c, o, e, f⟩
        · exact .inl (kp _ _ e (ne_of e hP.hp (by intro z; cases z)) (ne_of e hP.hr (by intro z; cases z)))
        · exact .inr ⟨c, .inl o, kp _ _ e (ne_of e hP.hp (by intro z; cases z)) (ne_of e hP.hr (by intro z; cases z)), kp _ _ f (ne_of f hP.hp (by intro z; cases z)) (ne_of f hP.hr (by intro z; cases z))⟩
      · exact Paired.snoc (Paired.mapP hP.hq fun c q z => ⟨.inl z.1, kp _ _ z.2 (ne_of z.2 hP.hp (by intro z; cases z)) (ne_of z.2 hP.hr (by intro z; cases z))⟩) ⟨.inr rfl, htt2⟩
      · rcases c1 with h | ⟨d, B, h1, h2, h3, h4⟩
        · exact .inl h
        · exact .inr ⟨d, B, h1, .inl h2, kp _ _ h3 (ne_of h3 hP.hp (by intro z; cases z)) (ne_of h3 hP.hr (by intro z; cases z)), h4⟩
      · rcases c2 with h | ⟨d, B, h1, h2, h3, h4⟩
        · exact .inl h
        · exact .inr ⟨d, B, h1, .inl h2, kp _ _ h3 (ne_of h3 hP.hp (by intro z; cases z)) (ne_of h3 hP.hr (by intro z; cases z)), h4⟩
      · rcases c3 with h | ⟨q, qs, h1, h2, h3, h4, h5, h6⟩
        · exact .inl h
        · exact .inr ⟨q, qs, h1, .inl h2, h3, kp _ _ h4 (ne_of h4 hP.hp (by intro z; cases z)) h3, h5, fun y q' e => ⟨.inl (h6 y q' e).1, (h6 y q' e).2.1, kp _ _ (h6 y q' e).2.2 (ne_of (h6 y q' e).2.2 hP.hp (by intro z; cases z)) (h6 y q' e).2.1⟩⟩
      · exact kp b o e (fun z => hb (by rw [z]; exact hP.op)) fun z => hb (by rw [z]; exact hP.or)
      · cases e : H b with
        | none => rfl
        | some o =>
          by_cases hbp : b = p
          · rw [hbp, hp2] at q; cases q
          · by_cases hbr : b = r
            · rw [hbr, upd_same] at q; cases q
            · rw [kp b o e hbp hbr] at q; cases q
    have hsm : (ts.map V.ref).length < sizeLine := by rw [List.length_map, hlen]; exact small1000 (by omega)
    have eb : (V.int (Builtin.bitAnd (((Lp.taught S.rules t : Nat) : Int) / 2 ^ ((x : Int)).toNat) 1) = V.int 0) ↔ (Lp.taught S.rules t).testBit x = false := by
      rw [Lp.shr_nat, show (1 : Int) = ((1 : Nat) : Int) from rfl, Lp.bitAnd_nat, Lp.shr_bit]
      cases (Lp.taught S.rules t).testBit x <;> simp [vint]
    refine ⟨_, rfl, p, a.Learning, dx, _, _, rfl, hP.hp, T.Learning_cl, T.no_rules, get_rules _ _ _ _ _, _, rfl, r, S.rules, t, rfl, hP.rules, good16 hL.good, _, rfl, _, _, rfl, rfl, by omega, _, _, rfl, rfl, rfl, _, rfl, ?_⟩
    refine ite2 (fun h1 => ?_) (fun h1 => ?_)
    · refine ⟨_, rfl, p, dx, _, rfl, hP.hp, flds_no _ _ _ _ _ (by decide +kernel) (by decide +kernel) (by decide +kernel) (by decide +kernel) (by decide +kernel), p, dx, _, rfl, hP.hp, by rw [flds_len]; omega, ?_⟩
      rw [put_nexts, put_ways, put_paths]
      have hr1 : (upd H p (.ins a.Learning dx (flds (S.n : Int) r .non .non .non))) r = some (.lst (ts.map V.ref)) := by
        rw [upd_ne (ne_of hP.hr hP.hp (by intro z; cases z))]; exact hP.hr
      refine ⟨_, rfl, p, a.Learning, dx, _, _, rfl, upd_same, T.Learning_cl, T.no_rules, get_rules _ _ _ _ _, .inl ⟨rfl, _, SqL.of hr1⟩, _, rfl, _, rfl, by show 2 ≤ sizeLine; decide, fun tt htt => ?_⟩
      refine ⟨r, _, _, rfl, rfl, same_new htt _ _ hr1, hsm, ?_⟩
      refine fin _ .non .non .non upd_same (fun b o e hb => by rw [upd_ne hb]; exact e) (fun b e => ?_) (.inl rfl) (.inl rfl) (.inl rfl) tt htt
      by_cases hb : b = p
      · rw [hb, upd_same] at e; cases e
      · rw [upd_ne hb] at e; exact e
    · have hbit : (Lp.taught S.rules t).testBit x = true := by
        cases e : (Lp.taught S.rules t).testBit x
        · exact absurd (decide_eq_true (eb.mpr e)) h1
        · rfl
      have A := Lp.alike_rule hbit
      refine ⟨_, rfl, p, a.Learning, dx, _, _, rfl, hP.hp, T.Learning_cl, T.no_rules, get_rules _ _ _ _ _, .inl ⟨rfl, _, SqL.of hP.hr⟩, _, rfl, _, rfl, by show 2 ≤ sizeLine; decide, fun tt htt => ?_⟩
      refine ⟨r, _, _, rfl, rfl, same_new htt _ _ hP.hr, hsm, ?_⟩
      exact fin H x1 x2 x3 hP.hp (fun b o e _ => e) (fun b e => e) (hP.cn.alike A) (hP.cw.alike A) (hP.cp.alike A) tt htt

/-! ### what is worked out once -/
theorem ok_m_all_nexts (T : Txt K mg a) : FnOk P w K mg base CX0 4 a.m_all_nexts a.m_all_nextsD ["self"] (spAllN a.Learning a.cheapestP) := by
  have GN : FnOk P w K mg base CX0 3 a.nexts_by_state a.nexts_by_stateD ["rules", "amount"] spNexts := ok_nexts_by_state T
  refine T.m_all_nexts.fn.ok sc_m_all_nexts (fun vs H Q E h => ?_) (fun cdv A outer s H vs Q E hr h => ?_)
  · obtain ⟨p, own, S, rfl, _⟩ := h
    rfl
  · obtain ⟨p, own, S, rfl, hL, k⟩ := h
    obtain ⟨dx, r, ts, x1, x2, x3, hP⟩ := hL.ex
    refine ⟨_, pss_cons (ps_if (pt_cmp (pc_isN (pe_fld (pv 0) rfl))) (pss_one (ps_fld (pv 0) (pe_call GN hr rfl T.nexts_by_state_mg T.nexts_by_state.fn.kp T.nexts_by_state.bi .nil pass0 (pa_cons (pe_fld (pv 0) rfl) (pa_cons (pe_fld (pv 0) rfl) pa_nil))) rfl)) pss_nil)
      (pss_one (ps_ret (pe_fld (pv 0) rfl))), ?_⟩
    refine ⟨_, rfl, p, a.Learning, dx, _, _, rfl, hP.hp, T.Learning_cl, T.no_nexts, get_nexts _ _ _ _ _, _, rfl, ?_⟩
    rcases hP.cn with e | ⟨d, B, e, od, hd, hW⟩
    · subst e
      refine iteT ?_
      refine ⟨_, rfl, p, a.Learning, dx, _, _, rfl, hP.hp, T.Learning_cl, T.no_rules, get_rules _ _ _ _ _, _, rfl, p, a.Learning, dx, _, _, rfl, hP.hp, T.Learning_cl, T.no_amount, get_amount _ _ _ _ _, r, S, rfl, hP.rules, hL.good, fun d B H1 hd0 s1 hd1 hW => ?_⟩
      refine ⟨_, rfl, p, a.Learning, dx, _, rfl, s1 _ _ hP.hp, T.Learning_cl, T.no_nexts, by rw [flds_len]; decide, ?_⟩
      rw [put_nexts]
      have npd : p ≠ d := ne_of_none hP.hp hd0
      have kp : ∀ b o, H b = some o → b ≠ p → (upd H1 p (.ins a.Learning dx (flds (S.n : Int) r (.ref d) x2 x3))) b = some o := fun b o e hb => by rw [upd_ne hb]; exact s1 b o e
      have hd2 : (upd H1 p (.ins a.Learning dx (flds (S.n : Int) r (.ref d) x2 x3))) d = some (.dK (tabV B)) := by rw [upd_ne npd.symm]; exact hd1
      have w : ∀ b, own b → own b ∨ b = d := fun _ z => .inl z
      have npr : r ≠ p := ne_of hP.hr hP.hp (by intro z; cases z)
      refine ⟨_, rfl, p, a.Learning, dx, _, _, rfl, upd_same, T.Learning_cl, T.no_nexts, get_nexts _ _ _ _ _, ?_⟩
      refine k d B (fun b => own b ∨ b = d) _ ⟨hL.good, fun b z q => ?_, ?_, dx, r, ts, .ref d, x2, x3, ⟨upd_same, .inl hP.op, kp _ _ hP.hr npr, .inl hP.or, Paired.mapP hP.hq fun c q z => ⟨.inl z.1, kp _ _ z.2 (ne_of z.2 hP.hp (by intro z; cases z))⟩, .inr ⟨d, B, rfl, .inr rfl, hd2, hW⟩, ?_, ?_⟩⟩
        ⟨fun b z => z.elim .inl fun z => .inr (by rw [z]; exact hd0), kp, some_ne upd_same⟩ (.inr rfl) hd2 hW
      · rcases z with z | z
        · by_cases hb : b = p
          · rw [hb, upd_same] at q; cases q
          · cases e : H b with
            | none => exact hL.al b z e
            | some o => rw [kp b o e hb] at q; cases q
        · rw [z, hd2] at q; cases q
      · refine ⟨.inl hL.tab.1, ?_⟩
        rcases hL.tab.2 with e | ⟨c, o, e, f⟩
        · exact .inl (kp _ _ e (ne_of e hP.hp (by intro z; cases z)))
        · exact .inr ⟨c, .inl o, kp _ _ e (ne_of e hP.hp (by intro z; cases z)), kp _ _ f (ne_of f hP.hp (by intro z; cases z))⟩
      · rcases hP.cw with h | ⟨d', B', h1, h2, h3, h4⟩
        · exact .inl h
        · exact .inr ⟨d', B', h1, .inl h2, kp _ _ h3 (ne_of h3 hP.hp (by intro z; cases z)), h4⟩
      · rcases hP.cp with h | ⟨q, qs, h1, h2, h3, h4, h5, h6⟩
        · exact .inl h
        · exact .inr ⟨q, qs, h1, .inl h2, h3, kp _ _ h4 (ne_of h4 hP.hp (by intro z; cases z)), h5, fun y q' e => ⟨.inl (h6 y q' e).1, (h6 y q' e).2.1, kp _ _ (h6 y q' e).2.2 (ne_of (h6 y q' e).2.2 hP.hp (by intro z; cases z))⟩⟩
    · subst e
      refine iteF ?_
      refine ⟨_, rfl, p, a.Learning, dx, _, _, rfl, hP.hp, T.Learning_cl, T.no_nexts, get_nexts _ _ _ _ _, ?_⟩
      exact k d B own H hL (Adds.refl (some_ne hP.hp)) od hd hW
theorem ok_m_all_ways (T : Txt K mg a) : FnOk P w K mg base CX0 5 a.m_all_ways a.m_all_waysD ["self"] (spAllW a.Learning a.cheapestP) := by
  have GA : FnOk P w K mg base CX0 4 a.m_all_nexts a.m_all_nextsD ["self"] (spAllN a.Learning a.cheapestP) := ok_m_all_nexts T
  have GW : FnOk P w K mg base CX0 2 a.ways_by_state a.ways_by_stateD ["nexts"] spWays := ok_ways_by_state T
  refine T.m_all_ways.fn.ok sc_m_all_ways (fun vs H Q E h => ?_) (fun cdv A outer s H vs Q E hr h => ?_)
  · obtain ⟨p, own, S, rfl, _⟩ := h
    rfl
  · obtain ⟨p, own, S, rfl, hL, k⟩ := h
    obtain ⟨dx, r, ts, x1, x2, x3, hP⟩ := hL.ex
    have hr2 : Room 2 _ := hr.mono (by decide)
    refine ⟨_, pss_cons (ps_if (pt_cmp (pc_isN (pe_fld (pv 0) rfl))) (pss_one (ps_fld (pv 0) (pe_call GW hr2 rfl T.ways_by_state_mg T.ways_by_state.fn.kp T.ways_by_state.bi .nil pass0 (pa_cons (pe_meth0 (pv 0) T.Learning_cl T.m_all_nexts_me GA hr T.m_all_nexts.bi .nil pass0) pa_nil)) rfl)) pss_nil)
      (pss_one (ps_ret (pe_fld (pv 0) rfl))), ?_⟩
    refine ⟨_, rfl, p, a.Learning, dx, _, _, rfl, hP.hp, T.Learning_cl, T.no_ways, get_ways _ _ _ _ _, _, rfl, ?_⟩
    rcases hP.cw with e | ⟨d, B, e, od, hd, hW⟩
    · subst e
      refine iteT ?_
      refine ⟨_, rfl, p, dx, _, rfl, hP.hp, flds_no _ _ _ _ _ (by decide +kernel) (by decide +kernel) (by decide +kernel) (by decide +kernel) (by decide +kernel), p, own, S, rfl, hL, fun nd N own1 H1 hL1 m1 on1 hnd hWN => ?_⟩
      obtain ⟨dx', r', ts', y1, y2, y3, hP'⟩ := hL1.ex
      refine ⟨nd, N, S, rfl, hnd, hWN, hL.good, fun d B H2 hd0 s2 hd1 tB => ?_⟩
      refine ⟨_, rfl, p, a.Learning, dx', _, rfl, s2 _ _ hP'.hp, T.Learning_cl, T.no_ways, by rw [flds_len]; decide, ?_⟩
      rw [put_ways]
      have npd : p ≠ d := ne_of_none hP'.hp hd0
      have kp : ∀ b o, H1 b = some o → b ≠ p → (upd H2 p (.ins a.Learning dx' (flds (S.n : Int) r' y1 (.ref d) y3))) b = some o := fun b o e hb => by rw [upd_ne hb]; exact s2 b o e
      have hd2 : (upd H2 p (.ins a.Learning dx' (flds (S.n : Int) r' y1 (.ref d) y3))) d = some (.dK (tabV B)) := by rw [upd_ne npd.symm]; exact hd1
      have npr : r' ≠ p := ne_of hP'.hr hP'.hp (by intro z; cases z)
      refine ⟨_, rfl, p, a.Learning, dx', _, _, rfl, upd_same, T.Learning_cl, T.no_ways, get_ways _ _ _ _ _, ?_⟩
      refine k d B (fun b => own1 b ∨ b = d) _ ⟨hL.good, fun b z q => ?_, ?_, dx', r', ts', y1, .ref d, y3, ⟨upd_same, .inl hP'.op, kp _ _ hP'.hr npr, .inl hP'.or, Paired.mapP hP'.hq fun c q z => ⟨.inl z.1, kp _ _ z.2 (ne_of z.2 hP'.hp (by intro z; cases z))⟩, ?_, .inr ⟨d, B, rfl, .inr rfl, hd2, tB⟩, ?_⟩⟩
        (m1.trans ⟨fun b z => z.elim .inl fun z => .inr (by rw [z]; exact hd0), kp, some_ne upd_same⟩) (.inr rfl) hd2 tB
      · rcases z with z | z
        · by_cases hb : b = p
          · rw [hb, upd_same] at q; cases q
          · cases e : H1 b with
            | none => exact hL1.al b z e
            | some o => rw [kp b o e hb] at q; cases q
        · rw [z, hd2] at q; cases q
      · refine ⟨.inl hL1.tab.1, ?_⟩
        rcases hL1.tab.2 with e | ⟨c, o, e, f⟩
        · exact .inl (kp _ _ e (ne_of e hP'.hp (by intro z; cases z)))
        · exact .inr ⟨c, .inl o, kp _ _ e (ne_of e hP'.hp (by intro z; cases z)), kp _ _ f (ne_of f hP'.hp (by intro z; cases z))⟩
      · rcases hP'.cn with h | ⟨d', B', h1, h2, h3, h4⟩
        · exact .inl h
        · exact .inr ⟨d', B', h1, .inl h2, kp _ _ h3 (ne_of h3 hP'.hp (by intro z; cases z)), h4⟩
      · rcases hP'.cp with h | ⟨q, qs, h1, h2, h3, h4, h5, h6⟩
        · exact .inl h
        · exact .inr ⟨q, qs, h1, .inl h2, h3, kp _ _ h4 (ne_of h4 hP'.hp (by intro z; cases z)), h5, fun y q' e => ⟨.inl (h6 y q' e).1, (h6 y q' e).2.1, kp _ _ (h6 y q' e).2.2 (ne_of (h6 y q' e).2.2 hP'.hp (by intro z; cases z))⟩⟩
    · subst e
      refine iteF ?_
      refine ⟨_, rfl, p, a.Learning, dx, _, _, rfl, hP.hp, T.Learning_cl, T.no_ways, get_ways _ _ _ _ _, ?_⟩
      exact k d B own H hL (Adds.refl (some_ne hP.hp)) od hd hW
theorem ok_m_all_paths (T : Txt K mg a) : FnOk P w K mg base CX0 5 a.m_all_paths a.m_all_pathsD ["self"] (spAllP a.Learning a.cheapestP) := by
  have GA : FnOk P w K mg base CX0 4 a.m_all_nexts a.m_all_nextsD ["self"] (spAllN a.Learning a.cheapestP) := ok_m_all_nexts T
  have GW : FnOk P w K mg base CX0 3 a.paths_by_thing a.paths_by_thingD ["nexts", "amount"] spPaths := ok_paths_by_thing T
  refine T.m_all_paths.fn.ok sc_m_all_paths (fun vs H Q E h => ?_) (fun cdv A outer s H vs Q E hr h => ?_)
  · obtain ⟨p, own, S, rfl, _⟩ := h
    rfl
  · obtain ⟨p, own, S, rfl, hL, k⟩ := h
    obtain ⟨dx, r, ts, x1, x2, x3, hP⟩ := hL.ex
    have hr3 : Room 3 _ := hr.mono (by decide)
    refine ⟨_, pss_cons (ps_if (pt_cmp (pc_isN (pe_fld (pv 0) rfl))) (pss_one (ps_fld (pv 0) (pe_call GW hr3 rfl T.paths_by_thing_mg T.paths_by_thing.fn.kp T.paths_by_thing.bi .nil pass0 (pa_cons (pe_meth0 (pv 0) T.Learning_cl T.m_all_nexts_me GA hr T.m_all_nexts.bi .nil pass0) (pa_cons (pe_fld (pv 0) rfl) pa_nil))) rfl)) pss_nil)
      (pss_one (ps_ret (pe_fld (pv 0) rfl))), ?_⟩
    refine ⟨_, rfl, p, a.Learning, dx, _, _, rfl, hP.hp, T.Learning_cl, T.no_paths, get_paths _ _ _ _ _, _, rfl, ?_⟩
    rcases hP.cp with e | ⟨q, qs, e, oq, nqr, hq, hql, hqs⟩
    · subst e
      refine iteT ?_
      refine ⟨_, rfl, p, dx, _, rfl, hP.hp, flds_no _ _ _ _ _ (by decide +kernel) (by decide +kernel) (by decide +kernel) (by decide +kernel) (by decide +kernel), p, own, S, rfl, hL, fun nd N own1 H1 hL1 m1 on1 hnd hWN => ?_⟩
      obtain ⟨dx', r', ts', y1, y2, y3, hP'⟩ := hL1.ex
      refine ⟨_, rfl, p, a.Learning, dx', _, _, rfl, hP'.hp, T.Learning_cl, T.no_amount, get_amount _ _ _ _ _, nd, N, S, rfl, hnd, hWN, hL.good, fun d qs H2 hd0 s2 hd1 hlen hqs => ?_⟩
      refine ⟨_, rfl, p, a.Learning, dx', _, rfl, s2 _ _ hP'.hp, T.Learning_cl, T.no_paths, by rw [flds_len]; decide, ?_⟩
      rw [put_paths]
      have npd : p ≠ d := ne_of_none hP'.hp hd0
      have kp : ∀ b o, H1 b = some o → b ≠ p → (upd H2 p (.ins a.Learning dx' (flds (S.n : Int) r' y1 y2 (.ref d)))) b = some o := fun b o e hb => by rw [upd_ne hb]; exact s2 b o e
      have hd2 : (upd H2 p (.ins a.Learning dx' (flds (S.n : Int) r' y1 y2 (.ref d)))) d = some (.lst (qs.map V.ref)) := by rw [upd_ne npd.symm]; exact hd1
      have hq2 : ∀ (y : Nat) (q' : Addr), qs[y]? = some q' → (upd H2 p (.ins a.Learning dx' (flds (S.n : Int) r' y1 y2 (.ref d)))) q' = some (.lst (nv (Rc83.paths S y))) := fun y q' e => by
        rw [upd_ne (ne_of_none hP'.hp (hqs y q' e).1).symm]; exact (hqs y q' e).2
      have npr : r' ≠ p := ne_of hP'.hr hP'.hp (by intro z; cases z)
      refine ⟨_, rfl, p, a.Learning, dx', _, _, rfl, upd_same, T.Learning_cl, T.no_paths, get_paths _ _ _ _ _, ?_⟩
      refine k d qs (fun b => own1 b ∨ b = d ∨ b ∈ qs) _ ⟨hL.good, fun b z q => ?_, ?_, dx', r', ts', y1, y2, .ref d, ⟨upd_same, .inl hP'.op, kp _ _ hP'.hr npr, .inl hP'.or, Paired.mapP hP'.hq fun c q z => ⟨.inl z.1, kp _ _ z.2 (ne_of z.2 hP'.hp (by intro z; cases z))⟩, ?_, ?_,
          .inr ⟨d, qs, rfl, .inr (.inl rfl), (ne_of_none hP'.hr hd0).symm, hd2, hlen, fun y q' e => ⟨.inr (.inr (List.mem_of_getElem? e)), (ne_of_none hP'.hr (hqs y q' e).1).symm, hq2 y q' e⟩⟩⟩⟩
        (m1.trans ⟨fun b z => ?_, kp, some_ne upd_same⟩) hd2 hlen hq2
      · rcases z with z | z | z
        · by_cases hb : b = p
          · rw [hb, upd_same] at q; cases q
          · cases e : H1 b with
            | none => exact hL1.al b z e
            | some o => rw [kp b o e hb] at q; cases q
        · rw [z, hd2] at q; cases q
        · obtain ⟨y, hy, ey⟩ := List.getElem_of_mem z
          rw [hq2 y b (by rw [← ey]; exact List.getElem?_eq_getElem hy)] at q; cases q
      · refine ⟨.inl hL1.tab.1, ?_⟩
        rcases hL1.tab.2 with e | ⟨c, o, e, f⟩
        · exact .inl (kp _ _ e (ne_of e hP'.hp (by intro z; cases z)))
        · exact .inr ⟨c, .inl o, kp _ _ e (ne_of e hP'.hp (by intro z; cases z)), kp _ _ f (ne_of f hP'.hp (by intro z; cases z))⟩
      · rcases hP'.cn with h | ⟨d', B', h1, h2, h3, h4⟩
        · exact .inl h
        · exact .inr ⟨d', B', h1, .inl h2, kp _ _ h3 (ne_of h3 hP'.hp (by intro z; cases z)), h4⟩
      · rcases hP'.cw with h | ⟨d', B', h1, h2, h3, h4⟩
        · exact .inl h
        · exact .inr ⟨d', B', h1, .inl h2, kp _ _ h3 (ne_of h3 hP'.hp (by intro z; cases z)), h4⟩
      · rcases z with z | z | z
        · exact .inl z
        · exact .inr (by rw [z]; exact hd0)
        · obtain ⟨y, hy, ey⟩ := List.getElem_of_mem z
          exact .inr (hqs y b (by rw [← ey]; exact List.getElem?_eq_getElem hy)).1
    · subst e
      refine iteF ?_
      refine ⟨_, rfl, p, a.Learning, dx, _, _, rfl, hP.hp, T.Learning_cl, T.no_paths, get_paths _ _ _ _ _, ?_⟩
      exact k q qs own H hL (Adds.refl (some_ne hP.hp)) hq hql fun y q' e => (hqs y q' e).2.2
end
end Lq
end
section
set_option Elab.async false
set_option linter.all false
set_option maxRecDepth 100000
set_option maxHeartbeats 4000000
namespace Lq
open PySem L2

/-- an answer as numbers -/
noncomputable def outs (x : Rc83.Ans) : List Int := x.value :: x.numbers.map fun (b : Nat) => (b : Int)
/-- what a reply must bring about -/
noncomputable def RepPost (C Pt : Addr) (H : Hp) (p : Addr) (own : Addr → Prop) (S : Rc83.Lore) (x : Rc83.Call) (Q : VK) : Prop :=
  ∀ (b : Addr) (own' : Addr → Prop) (H' : Hp), LoreAt C Pt H' p own' (Rc83.does S x).1 → Moves own H own' H' → H b = none → ¬ own' b → H' b = some (.lst ((outs (Rc83.does S x).2).map V.int)) → Q (.ref b) H'
/-- a reply: the object, the list of the call's numbers -/
noncomputable def spRep (C Pt : Addr) (args : List Int) (x : Rc83.Call) : Sp := fun vs H Q _ => ∃ (p l : Addr) (own : Addr → Prop) (S : Rc83.Lore), vs = [.ref p, .ref l] ∧ LoreAt C Pt H p own S ∧ H l = some (.lst (args.map V.int)) ∧ ¬ own l ∧ RepPost C Pt H p own S x Q
/-- the answer lies in a new list -/
theorem rep_at {C Pt : Addr} {H H1 : Hp} {p : Addr} {own own1 : Addr → Prop} {S S1 : Rc83.Lore} {x : Rc83.Call} {Q : VK} (k : RepPost C Pt H p own S x Q) (hL : LoreAt C Pt H1 p own1 S1) (m : Moves own H own1 H1) {y : Rc83.Ans} (hd : Rc83.does S x = (S1, y)) {vs : List V} (hv : vs = (outs y).map V.int) {b : Addr} (hb : H1 b = none) :
    Q (.ref b) (upd H1 b (.lst vs)) := by
  subst hv
  unfold RepPost at k
  rw [hd] at k
  exact k b own1 _ (hL.same (same_new hb)) (m.trans (Moves.new (same_new hb))) (m.st b hb) (fun z => hL.al b z hb) upd_same
/-- a reply that changes nothing and hands back a new list -/
theorem rep_new {C Pt : Addr} {H : Hp} {p : Addr} {own : Addr → Prop} {S : Rc83.Lore} {x : Rc83.Call} {Q : VK} (hL : LoreAt C Pt H p own S) (k : RepPost C Pt H p own S x Q) {y : Rc83.Ans} (hd : Rc83.does S x = (S, y)) {vs : List V} (hv : vs = (outs y).map V.int) {b : Addr} (hb : H b = none) :
    Q (.ref b) (upd H b (.lst vs)) := rep_at k hL (Moves.new (Same.refl H)) hd hv hb
theorem moves_restart {C Pt p : Addr} {H H1 : Hp} {own own1 : Addr → Prop} {S1 : Rc83.Lore} (op : own p) (hL1 : LoreAt C Pt H1 p own1 S1) (h1 : ∀ b, own1 b → own b ∨ b = p ∨ H b = none) (h2 : ∀ b o, H b = some o → b ≠ p → H1 b = some o) : Moves own H own1 H1 := by
  obtain ⟨dx, r, ts, x, y, v, hP⟩ := hL1.ex
  exact Adds.moves ⟨fun b z => (h1 b z).elim .inl fun z => z.elim (fun z => .inl (by rw [z]; exact op)) .inr, h2, some_ne hP.hp⟩ op

/-! ### what the document's calls are worth, in the forms that the replies test -/
section
variable {S : Rc83.Lore}
theorem d_is_no {t : Nat} (h : ¬ t < 2 ^ S.n) : Rc83.does S (.is t) = (S, Rc83.refused) := if_pos (Nat.le_of_not_lt h)
theorem d_is {t : Nat} (h : t < 2 ^ S.n) : Rc83.does S (.is t) = (S, { value := ((Rc83.bit (Rc83.state S t) : Nat) : Int) }) := if_neg (Nat.not_le.mpr h)
theorem d_most_no {t : Nat} (h : ¬ t < 2 ^ S.n) : Rc83.does S (.most t) = (S, Rc83.refused) := if_pos (Nat.le_of_not_lt h)
theorem d_most {t : Nat} (h : t < 2 ^ S.n) : Rc83.does S (.most t) = (S, { value := 0, numbers := [Rc83.most S t] }) := if_neg (Nat.not_le.mpr h)
theorem d_next_no {t : Nat} (h : ¬ t < 2 ^ S.n) : Rc83.does S (.next t) = (S, Rc83.refused) := if_pos (Nat.le_of_not_lt h)
theorem d_next_no2 {t : Nat} (h : t < 2 ^ S.n) (h2 : Rc83.state S t = false) : Rc83.does S (.next t) = (S, { value := -2 }) := (if_neg (Nat.not_le.mpr h)).trans (if_pos h2)
theorem d_next {t : Nat} (h : t < 2 ^ S.n) (h2 : Rc83.state S t = true) : Rc83.does S (.next t) = (S, { value := 0, numbers := [Rc83.nexts S t] }) := (if_neg (Nat.not_le.mpr h)).trans (if_neg (by rw [h2]; decide))
theorem d_last_no {t : Nat} (h : ¬ t < 2 ^ S.n) : Rc83.does S (.last t) = (S, Rc83.refused) := if_pos (Nat.le_of_not_lt h)
theorem d_last_no2 {t : Nat} (h : t < 2 ^ S.n) (h2 : Rc83.state S t = false) : Rc83.does S (.last t) = (S, { value := -2 }) := (if_neg (Nat.not_le.mpr h)).trans (if_pos h2)
theorem d_last {t : Nat} (h : t < 2 ^ S.n) (h2 : Rc83.state S t = true) : Rc83.does S (.last t) = (S, { value := 0, numbers := [Rc83.lasts S t] }) := (if_neg (Nat.not_le.mpr h)).trans (if_neg (by rw [h2]; decide))
theorem d_things_no {n : Int} (h : n < 0 ∨ 16 < n) : Rc83.does S (.things n) = (S, Rc83.refused) := by
  have : Rc83.between n 0 Rc83.MOST = false := by
    unfold Rc83.between Rc83.MOST
    rcases h with h | h
    · rw [decide_eq_false (by omega), Bool.false_and]
    · rw [decide_eq_false (p := n ≤ ((16 : Nat) : Int)) (by omega), Bool.and_false]
  exact if_pos this
theorem d_things {n : Nat} (h : n ≤ 16) : Rc83.does S (.things (n : Int)) = ({ n := n }, { value := 0 }) := by
  have : ¬ Rc83.between (n : Int) 0 Rc83.MOST = false := by
    unfold Rc83.between Rc83.MOST
    rw [decide_eq_true (by omega), decide_eq_true (p := (n : Int) ≤ ((16 : Nat) : Int)) (by omega)]; decide
  exact (if_neg this).trans (by rw [Int.toNat_natCast])
theorem d_rule_no {x : Int} {t : Nat} (h : (Rc83.thing S.n x && (decide (t < 2 ^ S.n) && !t.testBit x.toNat)) = false) : Rc83.does S (.rule x t) = (S, Rc83.refused) := by
  refine if_pos ?_
  cases h1 : Rc83.thing S.n x
  · exact .inl rfl
  · rw [h1, Bool.true_and] at h
    by_cases h2 : t < 2 ^ S.n
    · rw [decide_eq_true h2, Bool.true_and] at h
      exact .inr (.inr (by simpa using h))
    · exact .inr (.inl (Nat.le_of_not_lt h2))
theorem d_rule_parts {x : Int} {t : Nat} (h : (Rc83.thing S.n x && (decide (t < 2 ^ S.n) && !t.testBit x.toNat)) = true) : Rc83.thing S.n x = true ∧ t < 2 ^ S.n ∧ t.testBit x.toNat = false := by
  rw [Bool.and_eq_true, Bool.and_eq_true, decide_eq_true_eq] at h
  exact ⟨h.1, h.2.1, by simpa using h.2.2⟩
theorem d_rule_no2 {x : Int} {t : Nat} (h : (Rc83.thing S.n x && (decide (t < 2 ^ S.n) && !t.testBit x.toNat)) = true) (h2 : 256 ≤ S.rules.length) : Rc83.does S (.rule x t) = (S, { value := -2 }) := by
  obtain ⟨a, b, c⟩ := d_rule_parts h
  refine (if_neg ?_).trans (if_pos h2)
  rw [a, c]; intro z; rcases z with z | z | z
  · cases z
  · exact absurd b (Nat.not_lt.mpr z)
  · cases z
theorem d_rule {x : Int} {t : Nat} (h : (Rc83.thing S.n x && (decide (t < 2 ^ S.n) && !t.testBit x.toNat)) = true) (h2 : S.rules.length < 256) :
    Rc83.does S (.rule x t) = ({ S with rules := S.rules ++ [(x.toNat, t)] }, { value := ((S.rules.length + 1 : Nat) : Int) }) := by
  obtain ⟨a, b, c⟩ := d_rule_parts h
  refine (if_neg ?_).trans (if_neg (Nat.not_le.mpr h2))
  rw [a, c]; intro z; rcases z with z | z | z
  · cases z
  · exact absurd b (Nat.not_lt.mpr z)
  · cases z
end

noncomputable def refusal (S : Rc83.Lore) (s : Nat) : Int := if s < 2 ^ S.n then (if Rc83.state S s = true then 0 else -2) else -1
noncomputable def spRefusal (C Pt : Addr) : Sp := fun vs H Q _ => ∃ (p : Addr) (own : Addr → Prop) (S : Rc83.Lore) (s : Nat), vs = [.ref p, .int (s : Int)] ∧ LoreAt C Pt H p own S ∧ Q (.int (refusal S s)) H

section
variable {P : Program} {w : World} {K : PySem.W.Frag} {mg : Str → Option Value} {base : Heap} {a : Ad}
theorem ok_reply_begin (T : Txt K mg a) : FnOk P w K mg base CX0 3 a.reply_begin a.reply_beginD ["learning", "numbers"] (spRep a.Learning a.cheapestP [] .init) := by
  have GR : FnOk P w K mg base CX0 2 a.m_restart a.m_restartD ["self", "amount"] (spRestart a.Learning a.cheapestP) := ok_m_restart T
  refine T.reply_begin.fn.ok sc_reply_begin (fun vs H Q E h => ?_) (fun cdv A outer s H vs Q E hr h => ?_)
  · obtain ⟨p, l, own, S, rfl, _⟩ := h
    rfl
  · obtain ⟨p, l, own, S, rfl, hL, hl, nol, k⟩ := h
    obtain ⟨dx, r, ts, x1, x2, x3, hP⟩ := hL.ex
    refine ⟨_, pss_cons (ps_expr (pe_meth (pv 0) T.Learning_cl T.m_restart_me GR hr T.m_restart.bi .nil pass0 (pa_cons pe_int pa_nil))) (pss_one (ps_ret (pe_lst (pa_cons pe_int pa_nil)))), ?_⟩
    refine ⟨_, rfl, p, dx, _, rfl, hP.hp, flds_no _ _ _ _ _ (by decide +kernel) (by decide +kernel) (by decide +kernel) (by decide +kernel) (by decide +kernel), p, dx, _, own, 0, rfl, hP.hp, .inr ⟨_, _, _, _, _, rfl⟩, by decide, hL.tab, hL.al, fun own1 H1 hL1 h1 h2 => ?_⟩
    refine ⟨by show 1 ≤ sizeLine; decide, fun b hb => ?_⟩
    exact rep_at k hL1 (moves_restart hP.op hL1 h1 h2) rfl rfl hb

theorem ok_reply_things (T : Txt K mg a) (n : Int) : FnOk P w K mg base CX0 3 a.reply_things a.reply_thingsD ["learning", "numbers"] (spRep a.Learning a.cheapestP [n] (.things n)) := by
  have GR : FnOk P w K mg base CX0 2 a.m_restart a.m_restartD ["self", "amount"] (spRestart a.Learning a.cheapestP) := ok_m_restart T
  obtain ⟨tk, hmg⟩ := T.c_MOST_THINGS
  refine T.reply_things.fn.ok sc_reply_things (fun vs H Q E h => ?_) (fun cdv A outer s H vs Q E hr h => ?_)
  · obtain ⟨p, l, own, S, rfl, _⟩ := h
    rfl
  · obtain ⟨p, l, own, S, rfl, hL, hl, nol, k⟩ := h
    obtain ⟨dx, r, ts, x1, x2, x3, hP⟩ := hL.ex
    refine ⟨_, pss_cons (ps_set (i := 2) sc_reply_things.nd rfl (Or.inl rfl) (pe_ix ix_list (pv 1) pe_int (fun _ _ => rfl)))
      (pss_cons (ps_if (PW.pt (pw_or (pt_cmpR op_lt (pv 2) pe_int (nomark _)) (pw_or1 (pt_cmpR op_gt (pv 2) (pe_glob (v := .int 16) rfl hmg ⟨tk, rfl⟩) (nomark _))))) (pss_one (ps_ret (pe_lst (pa_cons (pe_un un_neg pe_int) pa_nil)))) pss_nil)
      (pss_cons (ps_expr (pe_meth (pv 0) T.Learning_cl T.m_restart_me GR hr T.m_restart.bi .nil pass0 (pa_cons (pv 2) pa_nil)))
      (pss_one (ps_ret (pe_lst (pa_cons pe_int pa_nil)))))), ?_⟩
    refine ⟨_, rfl, l, _, _, _, rfl, rfl, SqL.of hl, atI_nat (j := 0) rfl, ?_⟩
    refine ⟨_, rfl, _, _, rfl, rfl, _, rfl, ?_⟩
    have bad : (n < 0 ∨ 16 < n) → ∀ b, H b = none → Q (.ref b) (upd H b (.lst [.int (-1)])) := fun hn b hb => rep_new hL k (d_things_no hn) rfl hb
    refine ite2 (fun h1 => ?_) (fun h1 => ?_)
    · refine iteT ?_
      refine ⟨_, rfl, by show 1 ≤ sizeLine; decide, fun b hb => ?_⟩
      exact bad (.inl (of_decide_eq_true h1)) b hb
    · refine ⟨_, rfl, _, _, rfl, rfl, _, rfl, ?_⟩
      refine ite2 (fun h2 => ?_) (fun h2 => ?_)
      · refine ⟨_, rfl, by show 1 ≤ sizeLine; decide, fun b hb => ?_⟩
        exact bad (.inr (of_decide_eq_true h2)) b hb
      · have g1 : ¬ n < 0 := fun z => h1 (decide_eq_true z)
        have g2 : ¬ 16 < n := fun z => h2 (decide_eq_true z)
        obtain ⟨m, rfl⟩ : ∃ m : Nat, n = (m : Int) := ⟨n.toNat, by omega⟩
        refine ⟨_, rfl, p, dx, _, rfl, hP.hp, flds_no _ _ _ _ _ (by decide +kernel) (by decide +kernel) (by decide +kernel) (by decide +kernel) (by decide +kernel), _, rfl, p, dx, _, own, m, rfl, hP.hp, .inr ⟨_, _, _, _, _, rfl⟩, by omega, hL.tab, hL.al, fun own1 H1 hL1 h1 h2 => ?_⟩
        refine ⟨by show 1 ≤ sizeLine; decide, fun b hb => ?_⟩
        exact rep_at k hL1 (moves_restart hP.op hL1 h1 h2) (d_things (by omega)) rfl hb

theorem ok_reply_is (T : Txt K mg a) (s0 : Nat) : FnOk P w K mg base CX0 4 a.reply_is a.reply_isD ["learning", "numbers"] (spRep a.Learning a.cheapestP [(s0 : Int)] (.is s0)) := by
  have GH : FnOk P w K mg base CX0 1 a.m_holds a.m_holdsD ["self", "things"] (spHolds a.Learning a.cheapestP) := ok_m_holds T
  have GS : FnOk P w K mg base CX0 3 a.is_state a.is_stateD ["rules", "known"] (spOfB Rc83.state) := ok_is_state T
  refine T.reply_is.fn.ok sc_reply_is (fun vs H Q E h => ?_) (fun cdv A outer s H vs Q E hr h => ?_)
  · obtain ⟨p, l, own, S, rfl, _⟩ := h
    rfl
  · obtain ⟨p, l, own, S, rfl, hL, hl, nol, k⟩ := h
    obtain ⟨dx, r, ts, x1, x2, x3, hP⟩ := hL.ex
    have hr1 : Room 1 _ := hr.mono (by decide)
    refine ⟨_, pss_cons (ps_set (i := 2) sc_reply_is.nd rfl (Or.inl rfl) (pe_ix ix_list (pv 1) pe_int (fun _ _ => rfl)))
      (pss_cons (ps_if (pt_not (pt_val (pe_meth (pv 0) T.Learning_cl T.m_holds_me GH hr1 T.m_holds.bi .nil pass0 (pa_cons (pv 2) pa_nil)))) (pss_one (ps_ret (pe_lst (pa_cons (pe_un un_neg pe_int) pa_nil)))) pss_nil)
      (pss_one (ps_ret (pe_lst (pa_cons (pe_ifExp (pt_val (pe_call GS hr rfl T.is_state_mg T.is_state.fn.kp T.is_state.bi .nil pass0 (pa_cons (pe_fld (pv 0) rfl) (pa_cons (pv 2) pa_nil)))) pe_int pe_int) pa_nil))))), ?_⟩
    refine ⟨_, rfl, l, _, _, _, rfl, rfl, SqL.of hl, atI_nat (j := 0) rfl, ?_⟩
    refine ⟨_, rfl, p, dx, _, rfl, hP.hp, flds_no _ _ _ _ _ (by decide +kernel) (by decide +kernel) (by decide +kernel) (by decide +kernel) (by decide +kernel), _, rfl, p, own, S, s0, rfl, hL, _, rfl, ?_⟩
    by_cases hs : s0 < 2 ^ S.n
    · rw [decide_eq_true hs]
      refine iteF ?_
      refine ⟨_, rfl, p, a.Learning, dx, _, _, rfl, hP.hp, T.Learning_cl, T.no_rules, get_rules _ _ _ _ _, _, rfl, r, S, s0, rfl, hP.rules, hL.good, _, rfl, ?_⟩
      refine ite2 (fun h1 => ?_) (fun h1 => ?_)
      · refine ⟨by show 1 ≤ sizeLine; decide, fun b hb => ?_⟩
        refine rep_new hL k (d_is hs) ?_ hb
        rw [h1]; rfl
      · refine ⟨by show 1 ≤ sizeLine; decide, fun b hb => ?_⟩
        refine rep_new hL k (d_is hs) ?_ hb
        rw [(Bool.not_eq_true _).mp h1]; rfl
    · rw [decide_eq_false hs]
      refine iteT ?_
      refine ⟨_, rfl, by show 1 ≤ sizeLine; decide, fun b hb => ?_⟩
      exact rep_new hL k (d_is_no hs) rfl hb

theorem ok_reply_most (T : Txt K mg a) (s0 : Nat) : FnOk P w K mg base CX0 3 a.reply_most a.reply_mostD ["learning", "numbers"] (spRep a.Learning a.cheapestP [(s0 : Int)] (.most s0)) := by
  have GH : FnOk P w K mg base CX0 1 a.m_holds a.m_holdsD ["self", "things"] (spHolds a.Learning a.cheapestP) := ok_m_holds T
  have GG : FnOk P w K mg base CX0 2 a.greatest_state a.greatest_stateD ["rules", "within"] (spOf Rc83.most) := ok_greatest T
  refine T.reply_most.fn.ok sc_reply_most (fun vs H Q E h => ?_) (fun cdv A outer s H vs Q E hr h => ?_)
  · obtain ⟨p, l, own, S, rfl, _⟩ := h
    rfl
  · obtain ⟨p, l, own, S, rfl, hL, hl, nol, k⟩ := h
    obtain ⟨dx, r, ts, x1, x2, x3, hP⟩ := hL.ex
    have hr1 : Room 1 _ := hr.mono (by decide)
    refine ⟨_, pss_cons (ps_set (i := 2) sc_reply_most.nd rfl (Or.inl rfl) (pe_ix ix_list (pv 1) pe_int (fun _ _ => rfl)))
      (pss_cons (ps_if (pt_not (pt_val (pe_meth (pv 0) T.Learning_cl T.m_holds_me GH hr1 T.m_holds.bi .nil pass0 (pa_cons (pv 2) pa_nil)))) (pss_one (ps_ret (pe_lst (pa_cons (pe_un un_neg pe_int) pa_nil)))) pss_nil)
      (pss_one (ps_ret (pe_lst (pa_cons pe_int (pa_cons (pe_call GG hr rfl T.greatest_state_mg T.greatest_state.fn.kp T.greatest_state.bi .nil pass0 (pa_cons (pe_fld (pv 0) rfl) (pa_cons (pv 2) pa_nil))) pa_nil)))))), ?_⟩
    refine ⟨_, rfl, l, _, _, _, rfl, rfl, SqL.of hl, atI_nat (j := 0) rfl, ?_⟩
    refine ⟨_, rfl, p, dx, _, rfl, hP.hp, flds_no _ _ _ _ _ (by decide +kernel) (by decide +kernel) (by decide +kernel) (by decide +kernel) (by decide +kernel), _, rfl, p, own, S, s0, rfl, hL, _, rfl, ?_⟩
    by_cases hs : s0 < 2 ^ S.n
    · rw [decide_eq_true hs]
      refine iteF ?_
      refine ⟨_, rfl, p, a.Learning, dx, _, _, rfl, hP.hp, T.Learning_cl, T.no_rules, get_rules _ _ _ _ _, _, rfl, r, S, s0, rfl, hP.rules, hL.good, ?_⟩
      refine ⟨by show 2 ≤ sizeLine; decide, fun b hb => ?_⟩
      exact rep_new hL k (d_most hs) rfl hb
    · rw [decide_eq_false hs]
      refine iteT ?_
      refine ⟨_, rfl, by show 1 ≤ sizeLine; decide, fun b hb => ?_⟩
      exact rep_new hL k (d_most_no hs) rfl hb

theorem ok_state_refusal (T : Txt K mg a) : FnOk P w K mg base CX0 4 a.state_refusal a.state_refusalD ["learning", "known"] (spRefusal a.Learning a.cheapestP) := by
  have GH : FnOk P w K mg base CX0 1 a.m_holds a.m_holdsD ["self", "things"] (spHolds a.Learning a.cheapestP) := ok_m_holds T
  have GS : FnOk P w K mg base CX0 3 a.is_state a.is_stateD ["rules", "known"] (spOfB Rc83.state) := ok_is_state T
  refine T.state_refusal.fn.ok sc_state_refusal (fun vs H Q E h => ?_) (fun cdv A outer s H vs Q E hr h => ?_)
  · obtain ⟨p, own, S, s0, rfl, _⟩ := h
    rfl
  · obtain ⟨p, own, S, s0, rfl, hL, k⟩ := h
    obtain ⟨dx, r, ts, x1, x2, x3, hP⟩ := hL.ex
    have hr1 : Room 1 _ := hr.mono (by decide)
    refine ⟨_, pss_cons (ps_if (pt_not (pt_val (pe_meth (pv 0) T.Learning_cl T.m_holds_me GH hr1 T.m_holds.bi .nil pass0 (pa_cons (pv 1) pa_nil)))) (pss_one (ps_ret (pe_un un_neg pe_int))) pss_nil)
      (pss_cons (ps_if (pt_not (pt_val (pe_call GS hr rfl T.is_state_mg T.is_state.fn.kp T.is_state.bi .nil pass0 (pa_cons (pe_fld (pv 0) rfl) (pa_cons (pv 1) pa_nil))))) (pss_one (ps_ret (pe_un un_neg pe_int))) pss_nil)
      (pss_one (ps_ret pe_int))), ?_⟩
    unfold refusal at k
    refine ⟨_, rfl, p, dx, _, rfl, hP.hp, flds_no _ _ _ _ _ (by decide +kernel) (by decide +kernel) (by decide +kernel) (by decide +kernel) (by decide +kernel), _, rfl, p, own, S, s0, rfl, hL, _, rfl, ?_⟩
    by_cases hs : s0 < 2 ^ S.n
    · rw [decide_eq_true hs]
      rw [if_pos hs] at k
      refine iteF ?_
      refine ⟨_, rfl, p, a.Learning, dx, _, _, rfl, hP.hp, T.Learning_cl, T.no_rules, get_rules _ _ _ _ _, _, rfl, r, S, s0, rfl, hP.rules, hL.good, _, rfl, ?_⟩
      cases h1 : Rc83.state S s0
      · rw [h1, if_neg Bool.false_ne_true] at k
        refine iteT ?_
        exact ⟨_, rfl, k⟩
      · rw [h1, if_pos rfl] at k
        refine iteF ?_
        exact k
    · rw [decide_eq_false hs]
      rw [if_neg hs] at k
      refine iteT ?_
      exact ⟨_, rfl, k⟩
theorem ok_reply_next (T : Txt K mg a) (s0 : Nat) : FnOk P w K mg base CX0 5 a.reply_next a.reply_nextD ["learning", "numbers"] (spRep a.Learning a.cheapestP [(s0 : Int)] (.next s0)) := by
  have GF : FnOk P w K mg base CX0 4 a.state_refusal a.state_refusalD ["learning", "known"] (spRefusal a.Learning a.cheapestP) := ok_state_refusal T
  have GN : FnOk P w K mg base CX0 2 a.things_next a.things_nextD ["rules", "state"] (spOf Rc83.nexts) := ok_things_next T
  refine T.reply_next.fn.ok sc_reply_next (fun vs H Q E h => ?_) (fun cdv A outer s H vs Q E hr h => ?_)
  · obtain ⟨p, l, own, S, rfl, _⟩ := h
    rfl
  · obtain ⟨p, l, own, S, rfl, hL, hl, nol, k⟩ := h
    obtain ⟨dx, r, ts, x1, x2, x3, hP⟩ := hL.ex
    have hr2 : Room 2 _ := hr.mono (by decide)
    refine ⟨_, pss_cons (ps_set (i := 2) sc_reply_next.nd rfl (Or.inl rfl) (pe_call GF hr rfl T.state_refusal_mg T.state_refusal.fn.kp T.state_refusal.bi .nil pass0 (pa_cons (pv 0) (pa_cons (pe_ix ix_list (pv 1) pe_int (fun _ _ => rfl)) pa_nil))))
      (pss_cons (ps_if (pt_cmpR op_lt (pv 2) pe_int (nomark _)) (pss_one (ps_ret (pe_lst (pa_cons (pv 2) pa_nil)))) pss_nil)
      (pss_one (ps_ret (pe_lst (pa_cons pe_int (pa_cons (pe_call GN hr2 rfl T.things_next_mg T.things_next.fn.kp T.things_next.bi .nil pass0 (pa_cons (pe_fld (pv 0) rfl) (pa_cons (pe_ix ix_list (pv 1) pe_int (fun _ _ => rfl)) pa_nil))) pa_nil)))))), ?_⟩
    refine ⟨_, rfl, _, rfl, l, _, _, _, rfl, rfl, SqL.of hl, atI_nat (j := 0) rfl, p, own, S, s0, rfl, hL, ?_⟩
    refine ⟨_, rfl, _, _, rfl, rfl, _, rfl, ?_⟩
    unfold refusal
    by_cases hs : s0 < 2 ^ S.n
    · rw [if_pos hs]
      cases h1 : Rc83.state S s0
      · rw [if_neg Bool.false_ne_true]
        refine iteT ?_
        refine ⟨_, rfl, by show 1 ≤ sizeLine; decide, fun b hb => ?_⟩
        exact rep_new hL k (d_next_no2 hs h1) rfl hb
      · rw [if_pos rfl]
        refine iteF ?_
        refine ⟨_, rfl, p, a.Learning, dx, _, _, rfl, hP.hp, T.Learning_cl, T.no_rules, get_rules _ _ _ _ _, _, rfl, l, _, _, _, rfl, rfl, SqL.of hl, atI_nat (j := 0) rfl, r, S, s0, rfl, hP.rules, hL.good, ?_⟩
        refine ⟨by show 2 ≤ sizeLine; decide, fun b hb => ?_⟩
        exact rep_new hL k (d_next hs h1) rfl hb
    · rw [if_neg hs]
      refine iteT ?_
      refine ⟨_, rfl, by show 1 ≤ sizeLine; decide, fun b hb => ?_⟩
      exact rep_new hL k (d_next_no hs) rfl hb

theorem ok_reply_last (T : Txt K mg a) (s0 : Nat) : FnOk P w K mg base CX0 5 a.reply_last a.reply_lastD ["learning", "numbers"] (spRep a.Learning a.cheapestP [(s0 : Int)] (.last s0)) := by
  have GF : FnOk P w K mg base CX0 4 a.state_refusal a.state_refusalD ["learning", "known"] (spRefusal a.Learning a.cheapestP) := ok_state_refusal T
  have GN : FnOk P w K mg base CX0 4 a.things_last a.things_lastD ["rules", "state"] spLast := ok_things_last T
  refine T.reply_last.fn.ok sc_reply_last (fun vs H Q E h => ?_) (fun cdv A outer s H vs Q E hr h => ?_)
  · obtain ⟨p, l, own, S, rfl, _⟩ := h
    rfl
  · obtain ⟨p, l, own, S, rfl, hL, hl, nol, k⟩ := h
    obtain ⟨dx, r, ts, x1, x2, x3, hP⟩ := hL.ex
    refine ⟨_, pss_cons (ps_set (i := 2) sc_reply_last.nd rfl (Or.inl rfl) (pe_call GF hr rfl T.state_refusal_mg T.state_refusal.fn.kp T.state_refusal.bi .nil pass0 (pa_cons (pv 0) (pa_cons (pe_ix ix_list (pv 1) pe_int (fun _ _ => rfl)) pa_nil))))
      (pss_cons (ps_if (pt_cmpR op_lt (pv 2) pe_int (nomark _)) (pss_one (ps_ret (pe_lst (pa_cons (pv 2) pa_nil)))) pss_nil)
      (pss_one (ps_ret (pe_lst (pa_cons pe_int (pa_cons (pe_call GN hr rfl T.things_last_mg T.things_last.fn.kp T.things_last.bi .nil pass0 (pa_cons (pe_fld (pv 0) rfl) (pa_cons (pe_ix ix_list (pv 1) pe_int (fun _ _ => rfl)) pa_nil))) pa_nil)))))), ?_⟩
    refine ⟨_, rfl, _, rfl, l, _, _, _, rfl, rfl, SqL.of hl, atI_nat (j := 0) rfl, p, own, S, s0, rfl, hL, ?_⟩
    refine ⟨_, rfl, _, _, rfl, rfl, _, rfl, ?_⟩
    unfold refusal
    by_cases hs : s0 < 2 ^ S.n
    · rw [if_pos hs]
      cases h1 : Rc83.state S s0
      · rw [if_neg Bool.false_ne_true]
        refine iteT ?_
        refine ⟨_, rfl, by show 1 ≤ sizeLine; decide, fun b hb => ?_⟩
        exact rep_new hL k (d_last_no2 hs h1) rfl hb
      · rw [if_pos rfl]
        refine iteF ?_
        refine ⟨_, rfl, p, a.Learning, dx, _, _, rfl, hP.hp, T.Learning_cl, T.no_rules, get_rules _ _ _ _ _, _, rfl, l, _, _, _, rfl, rfl, SqL.of hl, atI_nat (j := 0) rfl, r, S, s0, rfl, hP.rules, hL.good, hs, ?_⟩
        refine ⟨by show 2 ≤ sizeLine; decide, fun b hb => ?_⟩
        exact rep_new hL k (d_last hs h1) rfl hb
    · rw [if_neg hs]
      refine iteT ?_
      refine ⟨_, rfl, by show 1 ≤ sizeLine; decide, fun b hb => ?_⟩
      exact rep_new hL k (d_last_no hs) rfl hb

theorem ok_reply_rule (T : Txt K mg a) (x : Int) (s0 : Nat) : FnOk P w K mg base CX0 3 a.reply_rule a.reply_ruleD ["learning", "numbers"] (spRep a.Learning a.cheapestP [x, (s0 : Int)] (.rule x s0)) := by
  have GT : FnOk P w K mg base CX0 2 a.m_takes_rule a.m_takes_ruleD ["self", "thing", "needed"] (spTakes a.Learning a.cheapestP) := ok_m_takes_rule T
  have GA : FnOk P w K mg base CX0 2 a.m_add_rule a.m_add_ruleD ["self", "thing", "needed"] (spAdd a.Learning a.cheapestP) := ok_m_add_rule T
  obtain ⟨tk, hmg⟩ := T.c_MOST_RULES
  refine T.reply_rule.fn.ok sc_reply_rule (fun vs H Q E h => ?_) (fun cdv A outer s H vs Q E hr h => ?_)
  · obtain ⟨p, l, own, S, rfl, _⟩ := h
    rfl
  · obtain ⟨p, l, own, S, rfl, hL, hl, nol, k⟩ := h
    obtain ⟨dx, r, ts, x1, x2, x3, hP⟩ := hL.ex
    have hlen : ts.length = S.rules.length := Paired.length hP.hq
    refine ⟨_, pss_cons (ps_set (i := 2) sc_reply_rule.nd rfl (Or.inl rfl) (pe_ix ix_list (pv 1) pe_int (fun _ _ => rfl)))
      (pss_cons (ps_set (i := 3) sc_reply_rule.nd rfl (Or.inl rfl) (pe_ix ix_list (pv 1) pe_int (fun _ _ => rfl)))
      (pss_cons (ps_if (pt_not (pt_val (pe_meth (pv 0) T.Learning_cl T.m_takes_rule_me GT hr T.m_takes_rule.bi .nil pass0 (pa_cons (pv 2) (pa_cons (pv 3) pa_nil))))) (pss_one (ps_ret (pe_lst (pa_cons (pe_un un_neg pe_int) pa_nil)))) pss_nil)
      (pss_cons (ps_if (pt_cmpR op_ge (pe_callB call_len_seq (by rfl) T.b_len PySem.boot_len (pa_cons (pe_fld (pv 0) rfl) pa_nil)) (pe_glob (v := .int 256) rfl hmg ⟨tk, rfl⟩) (nomark _)) (pss_one (ps_ret (pe_lst (pa_cons (pe_un un_neg pe_int) pa_nil)))) pss_nil)
      (pss_cons (ps_expr (pe_meth (pv 0) T.Learning_cl T.m_add_rule_me GA hr T.m_add_rule.bi .nil pass0 (pa_cons (pv 2) (pa_cons (pv 3) pa_nil))))
      (pss_one (ps_ret (pe_lst (pa_cons (pe_callB call_len_seq (by rfl) T.b_len PySem.boot_len (pa_cons (pe_fld (pv 0) rfl) pa_nil)) pa_nil)))))))), ?_⟩
    refine ⟨_, rfl, l, _, _, _, rfl, rfl, SqL.of hl, atI_nat (j := 0) rfl, ?_⟩
    refine ⟨_, rfl, l, _, _, _, rfl, rfl, SqL.of hl, atI_nat (j := 1) rfl, ?_⟩
    refine ⟨_, rfl, p, dx, _, rfl, hP.hp, flds_no _ _ _ _ _ (by decide +kernel) (by decide +kernel) (by decide +kernel) (by decide +kernel) (by decide +kernel), _, rfl, _, rfl, p, own, S, x, s0, rfl, hL, _, rfl, ?_⟩
    cases hok : (Rc83.thing S.n x && (decide (s0 < 2 ^ S.n) && !s0.testBit x.toNat))
    · refine iteT ?_
      refine ⟨_, rfl, by show 1 ≤ sizeLine; decide, fun b hb => ?_⟩
      exact rep_new hL k (d_rule_no hok) rfl hb
    · refine iteF ?_
      refine ⟨_, rfl, p, a.Learning, dx, _, _, rfl, hP.hp, T.Learning_cl, T.no_rules, get_rules _ _ _ _ _, r, _, rfl, .inl (SqL.of hP.hr), _, _, rfl, rfl, _, rfl, ?_⟩
      rw [List.length_map, hlen]
      refine ite2 (fun h1 => ?_) (fun h1 => ?_)
      · have hfull : 256 ≤ S.rules.length := by have := of_decide_eq_true h1; omega
        refine ⟨_, rfl, by show 1 ≤ sizeLine; decide, fun b hb => ?_⟩
        exact rep_new hL k (d_rule_no2 hok hfull) rfl hb
      · have hlt : S.rules.length < 256 := by
          apply Classical.byContradiction
          intro hn
          exact h1 (decide_eq_true (by omega))
        obtain ⟨o1, o2, o3⟩ := d_rule_parts hok
        have hx : 0 ≤ x ∧ x < (S.n : Int) := by
          unfold Rc83.thing at o1
          rw [Bool.and_eq_true, decide_eq_true_eq, decide_eq_true_eq] at o1
          exact o1
        have hdo := d_rule hok hlt
        obtain ⟨y, rfl⟩ : ∃ y : Nat, x = (y : Int) := ⟨x.toNat, by omega⟩
        rw [Int.toNat_natCast] at o3 hdo
        refine ⟨_, rfl, p, dx, _, rfl, hP.hp, flds_no _ _ _ _ _ (by decide +kernel) (by decide +kernel) (by decide +kernel) (by decide +kernel) (by decide +kernel), _, rfl, _, rfl, p, own, S, y, s0, rfl, hL, by omega, o2, o3, hlt, fun own1 H1 hL1 m1 => ?_⟩
        obtain ⟨dx1, r1, ts1, y1, y2, y3, hP1⟩ := hL1.ex
        have hlen1 : ts1.length = S.rules.length + 1 := by
          have := Paired.length hP1.hq
          rw [this]
          show (S.rules ++ [(y, s0)]).length = _
          rw [List.length_append]; rfl
        refine ⟨_, rfl, p, a.Learning, dx1, _, _, rfl, hP1.hp, T.Learning_cl, T.no_rules, get_rules _ _ _ _ _, r1, _, rfl, .inl (SqL.of hP1.hr), ?_⟩
        refine ⟨by show 1 ≤ sizeLine; decide, fun b hb => ?_⟩
        refine rep_at k hL1 m1 hdo ?_ hb
        rw [List.length_map, hlen1]
        rfl
end
end Lq
end
section
set_option Elab.async false
set_option linter.all false
set_option maxRecDepth 100000
set_option maxHeartbeats 4000000
namespace Lq
open PySem L2
section
variable {S : Rc83.Lore}
theorem d_order {k : Nat} {m : Int} {l : List Nat} (h : (Rc83.ways S)[k]? = some l) : Rc83.does S (.order k m) = (S, { value := ((l.length : Nat) : Int), numbers := l.take (Rc83.room_ m Rc83.MOST) }) := by
  show (match (Rc83.ways S)[k]? with | some l => (S, ({ value := ((l.length : Nat) : Int), numbers := l.take (Rc83.room_ m Rc83.MOST) } : Rc83.Ans)) | none => (S, { value := -2 })) = _
  rw [h]
theorem d_order_no {k : Nat} {m : Int} (h : (Rc83.ways S)[k]? = none) : Rc83.does S (.order k m) = (S, { value := -2 }) := by
  show (match (Rc83.ways S)[k]? with | some l => (S, ({ value := ((l.length : Nat) : Int), numbers := l.take (Rc83.room_ m Rc83.MOST) } : Rc83.Ans)) | none => (S, { value := -2 })) = _
  rw [h]
theorem d_paths_no {x m : Int} (h : Rc83.thing S.n x = false) : Rc83.does S (.paths x m) = (S, Rc83.refused) := if_pos h
theorem d_paths {x m : Int} (h : Rc83.thing S.n x = true) : Rc83.does S (.paths x m) = (S, { value := (((Rc83.paths S x.toNat).length : Nat) : Int), numbers := (Rc83.paths S x.toNat).take (Rc83.room_ m Rc83.SETS) }) := if_neg (by rw [h]; decide)
theorem d_hull_no {t : Nat} (h : ¬ t < 2 ^ S.n) : Rc83.does S (.hull t) = (S, Rc83.refused) := if_pos (Nat.le_of_not_lt h)
theorem d_hull {t : Nat} (h : t < 2 ^ S.n) : Rc83.does S (.hull t) = (S, { value := 0, numbers := [Rc83.hull S t] }) := if_neg (Nat.not_le.mpr h)
theorem d_corners_no {t : Nat} (h : ¬ t < 2 ^ S.n) : Rc83.does S (.corners t) = (S, Rc83.refused) := if_pos (Nat.le_of_not_lt h)
theorem d_corners {t : Nat} (h : t < 2 ^ S.n) : Rc83.does S (.corners t) = (S, { value := 0, numbers := [Rc83.corners S t] }) := if_neg (Nat.not_le.mpr h)
theorem d_plan_no {c : List Nat} {m : Int} (h : ¬ c.length = S.n * S.n) : Rc83.does S (.plan c (c.length : Int) m) = (S, Rc83.refused) := by
  refine if_pos ?_
  have e : (((c.length : Int)).toNat == S.n * S.n) = false := by rw [Int.toNat_natCast]; exact beq_eq_false_iff_ne.mpr h
  rw [e, Bool.false_and, Bool.and_false]
theorem d_plan {c : List Nat} {m : Int} (h : c.length = S.n * S.n) (h2 : c.length ≤ 256) : Rc83.does S (.plan c (c.length : Int) m) = (S, { value := (((Rc83.plan S c).length : Nat) : Int), numbers := (Rc83.plan S c).take (Rc83.room_ m Rc83.MOST) }) := by
  refine if_neg ?_
  have e1 : (((c.length : Int)).toNat == S.n * S.n) = true := by rw [Int.toNat_natCast]; exact beq_iff_eq.mpr h
  have e2 : (c.length == ((c.length : Int)).toNat) = true := by rw [Int.toNat_natCast]; exact beq_self_eq_true _
  have e3 : Rc83.between (c.length : Int) 0 (Rc83.MOST * Rc83.MOST) = true := by
    unfold Rc83.between Rc83.MOST
    rw [decide_eq_true (by omega), decide_eq_true (by show (c.length : Int) ≤ ((16 * 16 : Nat) : Int); omega)]
    rfl
  rw [e1, e2, e3]
  decide
end
/-- the first most of a list -/
noncomputable def spFirst : Sp := fun vs H Q _ => ∃ (t : Addr) (xs : List V) (m : Int) (lim : Nat), vs = [.ref t, .int m, .int (lim : Int)] ∧ H t = some (.lst xs) ∧ ∀ b, H b = none → Q (.ref b) (upd H b (.lst (xs.take (Rc83.room_ m lim))))
theorem cut_first (xs : List V) (m : Nat) : cutV xs none (some (m : Int)) = xs.take m := by
  unfold cutV
  rw [HT.sIx_none, HT.sIx_nat, List.drop_zero, Nat.sub_zero]
  by_cases h : m ≤ xs.length
  · rw [Nat.min_eq_left h]
  · rw [Nat.min_eq_right (by omega), List.take_length, List.take_of_length_le (by omega)]
theorem nv_take (l : List Nat) (m : Nat) : (nv l).take m = nv (l.take m) := (List.map_take ..).symm
theorem outs_more (l : List Nat) (m : Nat) : [V.int ((l.length : Nat) : Int)] ++ nv (l.take m) = (outs { value := ((l.length : Nat) : Int), numbers := l.take m }).map V.int := by
  unfold outs
  rw [List.map_cons, List.map_map]
  rfl
section
variable {P : Program} {w : World} {K : PySem.W.Frag} {mg : Str → Option Value} {base : Heap} {a : Ad}
theorem ok_first_of (T : Txt K mg a) : FnOk P w K mg base CX0 1 a.first_of a.first_ofD ["told", "most", "limit"] spFirst := by
  refine T.first_of.fn.ok sc_first_of (fun vs H Q E h => ?_) (fun cdv A outer s H vs Q E hr h => ?_)
  · obtain ⟨t, xs, m, lim, rfl, _⟩ := h
    rfl
  · obtain ⟨t, xs, m, lim, rfl, ht, k⟩ := h
    refine ⟨_, pss_cons (ps_if (PW.pt (pw_or (pt_cmpR op_lt (pv 1) pe_int (nomark _)) (pw_or1 (pt_cmpR op_gt (pv 1) (pv 2) (nomark _))))) (pss_one (ps_ret (pe_lst pa_nil))) pss_nil)
      (pss_one (ps_ret (pe_slice sl_list (pv 0) po_none (po_some (pv 1))))), ?_⟩
    have bad : ¬ (1 ≤ m ∧ m ≤ (lim : Int)) → ∀ b, H b = none → Q (.ref b) (upd H b (.lst [])) := fun hn b hb => by
      have := k b hb
      rw [show Rc83.room_ m lim = 0 from if_neg hn, List.take_zero] at this
      exact this
    refine ⟨_, rfl, _, _, rfl, rfl, _, rfl, ?_⟩
    refine ite2 (fun h1 => ?_) (fun h1 => ?_)
    · refine iteT ?_
      have := of_decide_eq_true h1
      exact ⟨Nat.zero_le _, fun b hb => bad (by omega) b hb⟩
    · have g1 : ¬ m < 1 := fun z => h1 (decide_eq_true z)
      refine ⟨_, rfl, _, rfl, _, _, rfl, rfl, _, rfl, ?_⟩
      refine ite2 (fun h2 => ?_) (fun h2 => ?_)
      · have := of_decide_eq_true h2
        exact ⟨Nat.zero_le _, fun b hb => bad (by omega) b hb⟩
      · have g2 : ¬ (lim : Int) < m := fun z => h2 (decide_eq_true z)
        obtain ⟨j, rfl⟩ : ∃ j : Nat, m = (j : Int) := ⟨m.toNat, by omega⟩
        refine ⟨_, rfl, _, rfl, _, rfl, t, _, rfl, SqL.of ht, fun b hb => ?_⟩
        have := k b hb
        rw [show Rc83.room_ (j : Int) lim = j from (if_pos ⟨by omega, by omega⟩).trans (Int.toNat_natCast j)] at this
        rw [cut_first]
        exact this

theorem ok_reply_count (T : Txt K mg a) : FnOk P w K mg base CX0 5 a.reply_count a.reply_countD ["learning", "numbers"] (spRep a.Learning a.cheapestP [] .count) := by
  have GA : FnOk P w K mg base CX0 4 a.m_all_nexts a.m_all_nextsD ["self"] (spAllN a.Learning a.cheapestP) := ok_m_all_nexts T
  refine T.reply_count.fn.ok sc_reply_count (fun vs H Q E h => ?_) (fun cdv A outer s H vs Q E hr h => ?_)
  · obtain ⟨p, l, own, S, rfl, _⟩ := h
    rfl
  · obtain ⟨p, l, own, S, rfl, hL, hl, nol, k⟩ := h
    obtain ⟨dx, r, ts, x1, x2, x3, hP⟩ := hL.ex
    refine ⟨_, pss_one (ps_ret (pe_lst (pa_cons (pe_callB call_lenD (by rfl) T.b_len PySem.boot_len (pa_cons (pe_meth0 (pv 0) T.Learning_cl T.m_all_nexts_me GA hr T.m_all_nexts.bi .nil pass0) pa_nil)) pa_nil))), ?_⟩
    refine ⟨_, rfl, p, dx, _, rfl, hP.hp, flds_no _ _ _ _ _ (by decide +kernel) (by decide +kernel) (by decide +kernel) (by decide +kernel) (by decide +kernel), p, own, S, rfl, hL, fun d B own1 H1 hL1 m1 od hd hW => ?_⟩
    refine ⟨d, _, rfl, hd, by show 1 ≤ sizeLine; decide, fun b hb => ?_⟩
    refine rep_at k hL1 (m1.moves hP.op) rfl ?_ hb
    rw [List.length_map, hW.len]
    rfl

theorem ok_reply_orders (T : Txt K mg a) : FnOk P w K mg base CX0 6 a.reply_orders a.reply_ordersD ["learning", "numbers"] (spRep a.Learning a.cheapestP [] .orders) := by
  have GA : FnOk P w K mg base CX0 5 a.m_all_ways a.m_all_waysD ["self"] (spAllW a.Learning a.cheapestP) := ok_m_all_ways T
  refine T.reply_orders.fn.ok sc_reply_orders (fun vs H Q E h => ?_) (fun cdv A outer s H vs Q E hr h => ?_)
  · obtain ⟨p, l, own, S, rfl, _⟩ := h
    rfl
  · obtain ⟨p, l, own, S, rfl, hL, hl, nol, k⟩ := h
    obtain ⟨dx, r, ts, x1, x2, x3, hP⟩ := hL.ex
    refine ⟨_, pss_one (ps_ret (pe_lst (pa_cons pe_int (pa_cons (pe_dget (hu_of hr) (pe_meth0 (pv 0) T.Learning_cl T.m_all_ways_me GA hr T.m_all_ways.bi .nil pass0) pe_int (fun _ _ => rfl)) pa_nil)))), ?_⟩
    refine ⟨_, rfl, p, dx, _, rfl, hP.hp, flds_no _ _ _ _ _ (by decide +kernel) (by decide +kernel) (by decide +kernel) (by decide +kernel) (by decide +kernel), p, own, S, rfl, hL, fun d B own1 H1 hL1 m1 od hd tB => ?_⟩
    have hget : DGet H1 d (.int 0) (some (.int ((Lp.cnt S 0 : Nat) : Int))) := by
      have := DGet.k (H := H1) (a := d) (kvs := tabV B) (k := Sum.inl ((0 : Nat) : Int)) hd
      rw [tabV_get, tB.get (Lp.state_zero S)] at this
      exact this
    refine ⟨d, _, rfl, hget, by show 2 ≤ sizeLine; decide, fun b hb => ?_⟩
    refine rep_at k hL1 (m1.moves hP.op) rfl ?_ hb
    show [V.int 0, V.int ((Lp.cnt S 0 : Nat) : Int)] = [V.int 0, V.int (((Rc83.ways S).length : Nat) : Int)]
    rw [Lp.ways_eq]
    rfl

theorem ok_reply_order (T : Txt K mg a) (k0 : Nat) (m0 : Int) : FnOk P w K mg base CX0 6 a.reply_order a.reply_orderD ["learning", "numbers"] (spRep a.Learning a.cheapestP [(k0 : Int), m0] (.order k0 m0)) := by
  have GA : FnOk P w K mg base CX0 5 a.m_all_ways a.m_all_waysD ["self"] (spAllW a.Learning a.cheapestP) := ok_m_all_ways T
  have GN : FnOk P w K mg base CX0 4 a.m_all_nexts a.m_all_nextsD ["self"] (spAllN a.Learning a.cheapestP) := ok_m_all_nexts T
  have GO : FnOk P w K mg base CX0 2 a.order_behind a.order_behindD ["nexts", "ways", "before"] spOrder := ok_order_behind T
  have GF : FnOk P w K mg base CX0 1 a.first_of a.first_ofD ["told", "most", "limit"] spFirst := ok_first_of T
  obtain ⟨tk, hmg⟩ := T.c_MOST_THINGS
  refine T.reply_order.fn.ok sc_reply_order (fun vs H Q E h => ?_) (fun cdv A outer s H vs Q E hr h => ?_)
  · obtain ⟨p, l, own, S, rfl, _⟩ := h
    rfl
  · obtain ⟨p, l, own, S, rfl, hL, hl, nol, k⟩ := h
    obtain ⟨dx, r, ts, x1, x2, x3, hP⟩ := hL.ex
    have hr4 : Room 4 _ := hr.mono (by decide)
    have hr2 : Room 2 _ := hr.mono (by decide)
    have hr1 : Room 1 _ := hr.mono (by decide)
    have hu := hu_of hr
    refine ⟨_, pss_cons (ps_set (i := 2) sc_reply_order.nd rfl (Or.inl rfl) (pe_ix ix_list (pv 1) pe_int (fun _ _ => rfl)))
      (pss_cons (ps_set (i := 3) sc_reply_order.nd rfl (Or.inl rfl) (pe_meth0 (pv 0) T.Learning_cl T.m_all_ways_me GA hr T.m_all_ways.bi .nil pass0))
      (pss_cons (ps_if (pt_cmpR op_ge (pv 2) (pe_dget hu (pv 3) pe_int (fun _ _ => rfl)) (nomark _)) (pss_one (ps_ret (pe_lst (pa_cons (pe_un un_neg pe_int) pa_nil)))) pss_nil)
      (pss_cons (ps_set (i := 4) sc_reply_order.nd rfl (Or.inl rfl) (pe_call GO hr2 rfl T.order_behind_mg T.order_behind.fn.kp T.order_behind.bi .nil pass0 (pa_cons (pe_meth0 (pv 0) T.Learning_cl T.m_all_nexts_me GN hr4 T.m_all_nexts.bi .nil pass0) (pa_cons (pv 3) (pa_cons (pv 2) pa_nil)))))
      (pss_one (ps_ret (pe_op op_cat (pe_lst (pa_cons (pe_callB call_len_seq (by rfl) T.b_len PySem.boot_len (pa_cons (pv 4) pa_nil)) pa_nil))
        (pe_call GF hr1 rfl T.first_of_mg T.first_of.fn.kp T.first_of.bi .nil pass0 (pa_cons (pv 4) (pa_cons (pe_ix ix_list (pv 1) pe_int (fun _ _ => rfl)) (pa_cons (pe_glob (v := .int 16) rfl hmg ⟨tk, rfl⟩) pa_nil)))))))))), ?_⟩
    refine ⟨_, rfl, l, _, _, _, rfl, rfl, SqL.of hl, atI_nat (j := 0) rfl, ?_⟩
    refine ⟨_, rfl, p, dx, _, rfl, hP.hp, flds_no _ _ _ _ _ (by decide +kernel) (by decide +kernel) (by decide +kernel) (by decide +kernel) (by decide +kernel), p, own, S, rfl, hL, fun wd C own1 H1 hL1 m1 ow1 hwd tC => ?_⟩
    have hget : DGet H1 wd (.int 0) (some (.int ((Lp.cnt S 0 : Nat) : Int))) := by
      have := DGet.k (H := H1) (a := wd) (kvs := tabV C) (k := Sum.inl ((0 : Nat) : Int)) hwd
      rw [tabV_get, tC.get (Lp.state_zero S)] at this
      exact this
    refine ⟨_, rfl, _, rfl, wd, _, rfl, hget, _, _, rfl, rfl, _, rfl, ?_⟩
    refine ite2 (fun h1 => ?_) (fun h1 => ?_)
    · have hge : Lp.cnt S 0 ≤ k0 := by have := of_decide_eq_true h1; omega
      refine ⟨_, rfl, by show 1 ≤ sizeLine; decide, fun b hb => ?_⟩
      exact rep_at k hL1 (m1.moves hP.op) (d_order_no (by rw [Lp.ways_eq]; exact List.getElem?_eq_none hge)) rfl hb
    · have hlt : k0 < (Lp.ords S 0).length := by
        apply Classical.byContradiction
        intro hn
        exact h1 (decide_eq_true (by show ((Lp.cnt S 0 : Nat) : Int) ≤ (k0 : Int); unfold Lp.cnt; omega))
      have hord : (Lp.ords S 0)[k0]? = some ((Lp.ords S 0)[k0]'hlt) := List.getElem?_eq_getElem hlt
      generalize (Lp.ords S 0)[k0]'hlt = ol at hord
      have hol : ol.length ≤ 16 := by
        have h1 := Lp.ord_len (Lp.state_zero S) ol (List.mem_of_getElem? hord)
        have h2 := Lp.left_le S 0
        have := hL.good.n16
        omega
      obtain ⟨dx1, r1, ts1, y1, y2, y3, hP1⟩ := hL1.ex
      refine ⟨_, rfl, p, dx1, _, rfl, hP1.hp, flds_no _ _ _ _ _ (by decide +kernel) (by decide +kernel) (by decide +kernel) (by decide +kernel) (by decide +kernel), p, own1, S, rfl, hL1, fun nd N own2 H2 hL2 m2 on2 hnd hWN => ?_⟩
      have hwd2 : H2 wd = some (.dK (tabV C)) := m2.bt _ _ hwd (ne_of hwd hP1.hp (by intro z; cases z))
      have m12 := m1.trans m2
      have hl2 : H2 l = some (.lst ([(k0 : Int), m0].map V.int)) := m12.bt _ _ hl (fun z => nol (by rw [z]; exact hP.op))
      refine ⟨_, rfl, _, rfl, nd, wd, N, C, S, k0, ol, rfl, hnd, hWN, hwd2, tC, hL.good, hord, fun ob H3 hob s3 hob3 => ?_⟩
      refine ⟨_, rfl, ob, _, rfl, .inl (SqL.of hob3), by show 1 ≤ sizeLine; decide, fun l1 hl1 => ?_⟩
      have s4 := same_new (o := .lst [V.int (((nv ol).length : Nat) : Int)]) hl1
      refine ⟨_, rfl, _, rfl, l, _, _, _, rfl, rfl, SqL.of (s4 _ _ (s3 _ _ hl2)), atI_nat (j := 1) rfl, ob, nv ol, m0, 16, rfl, s4 _ _ hob3, fun fb hfb => ?_⟩
      refine ⟨l1, fb, _, _, rfl, rfl, same_new hfb _ _ upd_same, upd_same, ?_, fun b hb => ?_⟩
      · have h3 : (List.take (Rc83.room_ m0 16) (nv ol)).length ≤ 16 := by rw [List.length_take, List.length_map]; omega
        show 1 + (List.take (Rc83.room_ m0 16) (nv ol)).length ≤ sizeLine
        exact Nat.le_of_lt (small1000 (by omega))
      have sA : Same H2 (upd (upd H3 l1 (.lst [V.int (((nv ol).length : Nat) : Int)])) fb (.lst (List.take (Rc83.room_ m0 16) (nv ol)))) := (s3.trans s4).trans (same_new hfb)
      refine rep_at k (hL2.same sA) ((m12.moves hP.op).trans (Moves.new sA)) (d_order (by rw [Lp.ways_eq]; exact hord)) ?_ hb
      rw [nv_take, List.length_map]
      exact outs_more ol _

theorem ok_reply_paths (T : Txt K mg a) (x0 m0 : Int) : FnOk P w K mg base CX0 6 a.reply_paths a.reply_pathsD ["learning", "numbers"] (spRep a.Learning a.cheapestP [x0, m0] (.paths x0 m0)) := by
  have GA : FnOk P w K mg base CX0 5 a.m_all_paths a.m_all_pathsD ["self"] (spAllP a.Learning a.cheapestP) := ok_m_all_paths T
  have GH : FnOk P w K mg base CX0 1 a.m_has_thing a.m_has_thingD ["self", "thing"] (spHas a.Learning a.cheapestP) := ok_m_has_thing T
  have GF : FnOk P w K mg base CX0 1 a.first_of a.first_ofD ["told", "most", "limit"] spFirst := ok_first_of T
  obtain ⟨tk, hmg⟩ := T.c_MOST_SETS
  refine T.reply_paths.fn.ok sc_reply_paths (fun vs H Q E h => ?_) (fun cdv A outer s H vs Q E hr h => ?_)
  · obtain ⟨p, l, own, S, rfl, _⟩ := h
    rfl
  · obtain ⟨p, l, own, S, rfl, hL, hl, nol, k⟩ := h
    obtain ⟨dx, r, ts, x1, x2, x3, hP⟩ := hL.ex
    have hr1 : Room 1 _ := hr.mono (by decide)
    refine ⟨_, pss_cons (ps_set (i := 2) sc_reply_paths.nd rfl (Or.inl rfl) (pe_ix ix_list (pv 1) pe_int (fun _ _ => rfl)))
      (pss_cons (ps_if (pt_not (pt_val (pe_meth (pv 0) T.Learning_cl T.m_has_thing_me GH hr1 T.m_has_thing.bi .nil pass0 (pa_cons (pv 2) pa_nil)))) (pss_one (ps_ret (pe_lst (pa_cons (pe_un un_neg pe_int) pa_nil)))) pss_nil)
      (pss_cons (ps_set (i := 3) sc_reply_paths.nd rfl (Or.inl rfl) (pe_ix ix_list (pe_meth0 (pv 0) T.Learning_cl T.m_all_paths_me GA hr T.m_all_paths.bi .nil pass0) (pv 2) (fun _ _ => rfl)))
      (pss_one (ps_ret (pe_op op_cat (pe_lst (pa_cons (pe_callB call_len_seq (by rfl) T.b_len PySem.boot_len (pa_cons (pv 3) pa_nil)) pa_nil))
        (pe_call GF hr1 rfl T.first_of_mg T.first_of.fn.kp T.first_of.bi .nil pass0 (pa_cons (pv 3) (pa_cons (pe_ix ix_list (pv 1) pe_int (fun _ _ => rfl)) (pa_cons (pe_glob (v := .int 65536) rfl hmg ⟨tk, rfl⟩) pa_nil))))))))), ?_⟩
    refine ⟨_, rfl, l, _, _, _, rfl, rfl, SqL.of hl, atI_nat (j := 0) rfl, ?_⟩
    refine ⟨_, rfl, p, dx, _, rfl, hP.hp, flds_no _ _ _ _ _ (by decide +kernel) (by decide +kernel) (by decide +kernel) (by decide +kernel) (by decide +kernel), _, rfl, p, own, S, x0, rfl, hL, _, rfl, ?_⟩
    cases hth : Rc83.thing S.n x0
    · refine iteT ?_
      refine ⟨_, rfl, by show 1 ≤ sizeLine; decide, fun b hb => ?_⟩
      exact rep_new hL k (d_paths_no hth) rfl hb
    · refine iteF ?_
      have hx : 0 ≤ x0 ∧ x0 < (S.n : Int) := by
        unfold Rc83.thing at hth
        rw [Bool.and_eq_true, decide_eq_true_eq, decide_eq_true_eq] at hth
        exact hth
      have hdo := d_paths (m := m0) hth
      obtain ⟨y, rfl⟩ : ∃ y : Nat, x0 = (y : Int) := ⟨x0.toNat, by omega⟩
      rw [Int.toNat_natCast] at hdo
      refine ⟨_, rfl, p, dx, _, rfl, hP.hp, flds_no _ _ _ _ _ (by decide +kernel) (by decide +kernel) (by decide +kernel) (by decide +kernel) (by decide +kernel), p, own, S, rfl, hL, fun q qs own1 H1 hL1 m1 hq hql hqs => ?_⟩
      have hyo : y < qs.length := by omega
      have hqy : qs[y]? = some (qs[y]'hyo) := List.getElem?_eq_getElem hyo
      have hpy := hqs y _ hqy
      generalize qs[y]'hyo = qy at hqy hpy
      have hlenp : (Rc83.paths S y).length ≤ 32768 := Lp.paths_len hL.good (by omega)
      have hl1 : H1 l = some (.lst ([(y : Int), m0].map V.int)) := m1.bt _ _ hl (fun z => nol (by rw [z]; exact hP.op))
      refine ⟨_, rfl, q, _, _, _, rfl, rfl, SqL.of hq, atI_nat (j := y) (v := .ref qy) (by rw [List.getElem?_map, hqy]; rfl), ?_⟩
      refine ⟨_, rfl, qy, _, rfl, .inl (SqL.of hpy), by show 1 ≤ sizeLine; decide, fun l1 hl1' => ?_⟩
      have s4 := same_new (o := .lst [V.int (((nv (Rc83.paths S y)).length : Nat) : Int)]) hl1'
      refine ⟨_, rfl, _, rfl, l, _, _, _, rfl, rfl, SqL.of (s4 _ _ hl1), atI_nat (j := 1) rfl, qy, nv (Rc83.paths S y), m0, 65536, rfl, s4 _ _ hpy, fun fb hfb => ?_⟩
      refine ⟨l1, fb, _, _, rfl, rfl, same_new hfb _ _ upd_same, upd_same, ?_, fun b hb => ?_⟩
      · have h3 : (List.take (Rc83.room_ m0 65536) (nv (Rc83.paths S y))).length ≤ 32768 := by rw [List.length_take, List.length_map]; omega
        show 1 + (List.take (Rc83.room_ m0 65536) (nv (Rc83.paths S y))).length ≤ sizeLine
        exact Nat.le_of_lt (tab_line (by omega))
      have sA : Same H1 (upd (upd H1 l1 (.lst [V.int (((nv (Rc83.paths S y)).length : Nat) : Int)])) fb (.lst (List.take (Rc83.room_ m0 65536) (nv (Rc83.paths S y))))) := s4.trans (same_new hfb)
      refine rep_at k (hL1.same sA) ((m1.moves hP.op).trans (Moves.new sA)) hdo ?_ hb
      rw [nv_take, List.length_map]
      exact outs_more (Rc83.paths S y) _

theorem ok_reply_hull (T : Txt K mg a) (s0 : Nat) : FnOk P w K mg base CX0 4 a.reply_hull a.reply_hullD ["learning", "numbers"] (spRep a.Learning a.cheapestP [(s0 : Int)] (.hull s0)) := by
  have GH : FnOk P w K mg base CX0 1 a.m_holds a.m_holdsD ["self", "things"] (spHolds a.Learning a.cheapestP) := ok_m_holds T
  have GE : FnOk P w K mg base CX0 1 a.m_everything a.m_everythingD ["self"] (spAll a.Learning a.cheapestP) := ok_m_everything T
  have GG : FnOk P w K mg base CX0 3 a.hull_of a.hull_ofD ["rules", "everything", "known"] (spEv fun R s => Rc83.hull R s) := ok_hull_of T
  refine T.reply_hull.fn.ok sc_reply_hull (fun vs H Q E h => ?_) (fun cdv A outer s H vs Q E hr h => ?_)
  · obtain ⟨p, l, own, S, rfl, _⟩ := h
    rfl
  · obtain ⟨p, l, own, S, rfl, hL, hl, nol, k⟩ := h
    obtain ⟨dx, r, ts, x1, x2, x3, hP⟩ := hL.ex
    have hr1 : Room 1 _ := hr.mono (by decide)
    refine ⟨_, pss_cons (ps_set (i := 2) sc_reply_hull.nd rfl (Or.inl rfl) (pe_ix ix_list (pv 1) pe_int (fun _ _ => rfl)))
      (pss_cons (ps_if (pt_not (pt_val (pe_meth (pv 0) T.Learning_cl T.m_holds_me GH hr1 T.m_holds.bi .nil pass0 (pa_cons (pv 2) pa_nil)))) (pss_one (ps_ret (pe_lst (pa_cons (pe_un un_neg pe_int) pa_nil)))) pss_nil)
      (pss_one (ps_ret (pe_lst (pa_cons pe_int (pa_cons (pe_call GG hr rfl T.hull_of_mg T.hull_of.fn.kp T.hull_of.bi .nil pass0 (pa_cons (pe_fld (pv 0) rfl) (pa_cons (pe_meth0 (pv 0) T.Learning_cl T.m_everything_me GE hr1 T.m_everything.bi .nil pass0) (pa_cons (pv 2) pa_nil)))) pa_nil)))))), ?_⟩
    refine ⟨_, rfl, l, _, _, _, rfl, rfl, SqL.of hl, atI_nat (j := 0) rfl, ?_⟩
    refine ⟨_, rfl, p, dx, _, rfl, hP.hp, flds_no _ _ _ _ _ (by decide +kernel) (by decide +kernel) (by decide +kernel) (by decide +kernel) (by decide +kernel), _, rfl, p, own, S, s0, rfl, hL, _, rfl, ?_⟩
    by_cases hs : s0 < 2 ^ S.n
    · rw [decide_eq_true hs]
      refine iteF ?_
      refine ⟨_, rfl, p, a.Learning, dx, _, _, rfl, hP.hp, T.Learning_cl, T.no_rules, get_rules _ _ _ _ _, _, rfl, p, dx, _, rfl, hP.hp, flds_no _ _ _ _ _ (by decide +kernel) (by decide +kernel) (by decide +kernel) (by decide +kernel) (by decide +kernel), p, own, S, rfl, hL, _, rfl, r, S, s0, rfl, hP.rules, hL.good, ?_⟩
      refine ⟨by show 2 ≤ sizeLine; decide, fun b hb => ?_⟩
      exact rep_new hL k (d_hull hs) rfl hb
    · rw [decide_eq_false hs]
      refine iteT ?_
      refine ⟨_, rfl, by show 1 ≤ sizeLine; decide, fun b hb => ?_⟩
      exact rep_new hL k (d_hull_no hs) rfl hb
theorem ok_reply_corners (T : Txt K mg a) (s0 : Nat) : FnOk P w K mg base CX0 5 a.reply_corners a.reply_cornersD ["learning", "numbers"] (spRep a.Learning a.cheapestP [(s0 : Int)] (.corners s0)) := by
  have GH : FnOk P w K mg base CX0 1 a.m_holds a.m_holdsD ["self", "things"] (spHolds a.Learning a.cheapestP) := ok_m_holds T
  have GE : FnOk P w K mg base CX0 1 a.m_everything a.m_everythingD ["self"] (spAll a.Learning a.cheapestP) := ok_m_everything T
  have GG : FnOk P w K mg base CX0 4 a.corners_of a.corners_ofD ["rules", "everything", "known"] (spEv fun R s => Rc83.corners R s) := ok_corners_of T
  refine T.reply_corners.fn.ok sc_reply_corners (fun vs H Q E h => ?_) (fun cdv A outer s H vs Q E hr h => ?_)
  · obtain ⟨p, l, own, S, rfl, _⟩ := h
    rfl
  · obtain ⟨p, l, own, S, rfl, hL, hl, nol, k⟩ := h
    obtain ⟨dx, r, ts, x1, x2, x3, hP⟩ := hL.ex
    have hr1 : Room 1 _ := hr.mono (by decide)
    refine ⟨_, pss_cons (ps_set (i := 2) sc_reply_corners.nd rfl (Or.inl rfl) (pe_ix ix_list (pv 1) pe_int (fun _ _ => rfl)))
      (pss_cons (ps_if (pt_not (pt_val (pe_meth (pv 0) T.Learning_cl T.m_holds_me GH hr1 T.m_holds.bi .nil pass0 (pa_cons (pv 2) pa_nil)))) (pss_one (ps_ret (pe_lst (pa_cons (pe_un un_neg pe_int) pa_nil)))) pss_nil)
      (pss_one (ps_ret (pe_lst (pa_cons pe_int (pa_cons (pe_call GG hr rfl T.corners_of_mg T.corners_of.fn.kp T.corners_of.bi .nil pass0 (pa_cons (pe_fld (pv 0) rfl) (pa_cons (pe_meth0 (pv 0) T.Learning_cl T.m_everything_me GE hr1 T.m_everything.bi .nil pass0) (pa_cons (pv 2) pa_nil)))) pa_nil)))))), ?_⟩
    refine ⟨_, rfl, l, _, _, _, rfl, rfl, SqL.of hl, atI_nat (j := 0) rfl, ?_⟩
    refine ⟨_, rfl, p, dx, _, rfl, hP.hp, flds_no _ _ _ _ _ (by decide +kernel) (by decide +kernel) (by decide +kernel) (by decide +kernel) (by decide +kernel), _, rfl, p, own, S, s0, rfl, hL, _, rfl, ?_⟩
    by_cases hs : s0 < 2 ^ S.n
    · rw [decide_eq_true hs]
      refine iteF ?_
      refine ⟨_, rfl, p, a.Learning, dx, _, _, rfl, hP.hp, T.Learning_cl, T.no_rules, get_rules _ _ _ _ _, _, rfl, p, dx, _, rfl, hP.hp, flds_no _ _ _ _ _ (by decide +kernel) (by decide +kernel) (by decide +kernel) (by decide +kernel) (by decide +kernel), p, own, S, rfl, hL, _, rfl, r, S, s0, rfl, hP.rules, hL.good, ?_⟩
      refine ⟨by show 2 ≤ sizeLine; decide, fun b hb => ?_⟩
      exact rep_new hL k (d_corners hs) rfl hb
    · rw [decide_eq_false hs]
      refine iteT ?_
      refine ⟨_, rfl, by show 1 ≤ sizeLine; decide, fun b hb => ?_⟩
      exact rep_new hL k (d_corners_no hs) rfl hb
end
end Lq
end
section
set_option Elab.async false
set_option linter.all false
set_option maxRecDepth 100000
set_option maxHeartbeats 4000000
namespace Lq
open PySem L2
theorem LoreAt.plan {C Pt p : Addr} {H H' : Hp} {own own' : Addr → Prop} {S : Rc83.Lore} (hL : LoreAt C Pt H p own S) (hT : TabL Pt H' own') (w : ∀ b, own b → own' b) (w2 : ∀ b, own' b → own b ∨ (H b = none ∧ H' b ≠ none)) (bt : But Pt H H') : LoreAt C Pt H' p own' S ∧ Moves own H own' H' := by
  obtain ⟨dx, r, ts, x, y, v, hP⟩ := hL.ex
  obtain ⟨ps, hPt⟩ := hL.tab.got
  obtain ⟨ps', hPt'⟩ := hT.got
  have k : ∀ b o, H b = some o → (∀ ps, o ≠ .tbl ps) → H' b = some o := fun b o e n => bt b o e (fun z => by rw [z, hPt] at e; exact n _ (Option.some.inj e).symm)
  have st : ∀ b, H b ≠ none → H' b ≠ none := fun b hb q => by
    cases e : H b with
    | none => exact hb e
    | some o =>
      by_cases hbP : b = Pt
      · rw [hbP, hPt'] at q; cases q
      · rw [bt b o e hbP] at q; cases q
  refine ⟨⟨hL.good, fun b z => ?_, hT, dx, r, ts, x, y, v, ⟨k _ _ hP.hp (by intro _ z; cases z), w _ hP.op, k _ _ hP.hr (by intro _ z; cases z), w _ hP.or, Paired.mapP hP.hq fun t q z => ⟨w _ z.1, k _ _ z.2 (by intro _ z; cases z)⟩, ?_, ?_, ?_⟩⟩, ⟨fun b z => (w2 b z).elim .inl fun z => .inr z.1, fun b o e hb => bt b o e fun z => hb (by rw [z]; exact hL.tab.1), fun b z => ?_⟩⟩
  · rcases w2 b z with z | z
    · exact st b (hL.al b z)
    · exact z.2
  · rcases hP.cn with h | ⟨d, B, h1, h2, h3, h4⟩
    · exact .inl h
    · exact .inr ⟨d, B, h1, w _ h2, k _ _ h3 (by intro _ z; cases z), h4⟩
  · rcases hP.cw with h | ⟨d, B, h1, h2, h3, h4⟩
    · exact .inl h
    · exact .inr ⟨d, B, h1, w _ h2, k _ _ h3 (by intro _ z; cases z), h4⟩
  · rcases hP.cp with h | ⟨q, qs, h1, h2, h3, h4, h5, h6⟩
    · exact .inl h
    · exact .inr ⟨q, qs, h1, w _ h2, h3, k _ _ h4 (by intro _ z; cases z), h5, fun x q' e => ⟨w _ (h6 x q' e).1, (h6 x q' e).2.1, k _ _ (h6 x q' e).2.2 (by intro _ z; cases z)⟩⟩
  · cases e : H b with
    | none => rfl
    | some o => exact absurd z (st b (by rw [e]; intro z; cases z))
theorem cut_from {ns : List V} {u v : V} : cutV (u :: v :: ns) (some 2) none = ns := by
  unfold cutV
  have e1 : HT.sIx (u :: v :: ns).length 0 (some 2) = 2 := by
    have := HT.sIx_nat (u :: v :: ns).length 0 2
    rw [Nat.min_eq_left (by simp)] at this
    exact this
  rw [e1, HT.sIx_none]
  show ns.take ((u :: v :: ns).length - 2) = ns
  rw [List.length_cons, List.length_cons]
  exact List.take_of_length_le (by omega)
theorem cond_true {b : Bool} {A B : Prop} (h : b = true) (k : A) : if b = true then A else B := by rw [if_pos h]; exact k
theorem cond_false {b : Bool} {A B : Prop} (h : b = false) (k : B) : if b = true then A else B := by rw [if_neg (by rw [h]; decide)]; exact k
theorem fw_len (R : Rc83.Lore) (c : List Nat) : ∀ (m k s : Nat), (Rc83.forward R c m k s).length ≤ m
  | 0, _, _ => Nat.le_refl _
  | m + 1, k, s => by
    show (match Rc83.cheapest R c s k with | some x => x :: Rc83.forward R c m (k + 1) (Nat.lor s (2 ^ x)) | none => []).length ≤ m + 1
    cases Rc83.cheapest R c s k with
    | none => exact Nat.zero_le _
    | some x =>
      have := fw_len R c m (k + 1) (Nat.lor s (2 ^ x))
      show (x :: Rc83.forward R c m (k + 1) (Nat.lor s (2 ^ x))).length ≤ m + 1
      rw [List.length_cons]; omega
theorem plan_len {R : Rc83.Lore} (G : Lp.Good R) (c : List Nat) : (Rc83.plan R c).length ≤ 16 := by
  have h1 := fw_len R c (Rc83.size R.n (Rc83.top R)) 0 0
  have h2 := Lp.size_le R.n (Rc83.top R)
  have := G.n16
  unfold Rc83.plan
  omega
section
variable {P : Program} {w : World} {K : PySem.W.Frag} {mg : Str → Option Value} {base : Heap} {a : Ad}
theorem ok_reply_plan (T : Txt K mg a) (B : BM mg base) (KB : K.In base) (m0 : Int) (c : List Nat) (hc : c.length ≤ 256) : FnOk P w K mg base CX0 4 a.reply_plan a.reply_planD ["learning", "numbers"] (spRep a.Learning a.cheapestP (m0 :: (c.length : Int) :: c.map fun (z : Nat) => (z : Int)) (.plan c (c.length : Int) m0)) := by
  have GP : FnOk P w K mg base CX0 3 a.planned_order a.planned_orderD ["rules", "amount", "costs"] (spPlan a.cheapestP) := ok_planned_order T B KB
  have GF : FnOk P w K mg base CX0 1 a.first_of a.first_ofD ["told", "most", "limit"] spFirst := ok_first_of T
  obtain ⟨tk, hmg⟩ := T.c_MOST_THINGS
  refine T.reply_plan.fn.ok sc_reply_plan (fun vs H Q E h => ?_) (fun cdv A outer s H vs Q E hr h => ?_)
  · obtain ⟨p, l, own, S, rfl, _⟩ := h
    rfl
  · obtain ⟨p, l, own, S, rfl, hL, hl, nol, k⟩ := h
    obtain ⟨dx, r, ts, x1, x2, x3, hP⟩ := hL.ex
    have hr1 : Room 1 _ := hr.mono (by decide)
    have hn16 := hL.good.n16
    refine ⟨_, pss_cons (ps_set (i := 2) sc_reply_plan.nd rfl (Or.inl rfl) (pe_slice sl_list (pv 1) (po_some pe_int) po_none))
      (pss_cons (ps_if (pt_cmpR op_ne (pe_callB call_len_seq (by rfl) T.b_len PySem.boot_len (pa_cons (pv 2) pa_nil)) (pe_op op_mul (pe_fld (pv 0) rfl) (pe_fld (pv 0) rfl)) (nomark _)) (pss_one (ps_ret (pe_lst (pa_cons (pe_un un_neg pe_int) pa_nil)))) pss_nil)
      (pss_cons (ps_set (i := 3) sc_reply_plan.nd rfl (Or.inl rfl) (pe_call GP hr rfl T.planned_order_mg T.planned_order.fn.kp T.planned_order.bi .nil pass0 (pa_cons (pe_fld (pv 0) rfl) (pa_cons (pe_fld (pv 0) rfl) (pa_cons (pv 2) pa_nil)))))
      (pss_one (ps_ret (pe_op op_cat (pe_lst (pa_cons (pe_callB call_len_seq (by rfl) T.b_len PySem.boot_len (pa_cons (pv 3) pa_nil)) pa_nil))
        (pe_call GF hr1 rfl T.first_of_mg T.first_of.fn.kp T.first_of.bi .nil pass0 (pa_cons (pv 3) (pa_cons (pe_ix ix_list (pv 1) pe_int (fun _ _ => rfl)) (pa_cons (pe_glob (v := .int 16) rfl hmg ⟨tk, rfl⟩) pa_nil))))))))), ?_⟩
    refine ⟨_, rfl, _, rfl, l, _, rfl, SqL.of hl, fun cs hcs => ?_⟩
    have ecut : cutV ((m0 :: (c.length : Int) :: c.map fun (z : Nat) => (z : Int)).map V.int) (some 2) none = nv c := by
      rw [List.map_cons, List.map_cons, cut_from, List.map_map]; rfl
    rw [ecut]
    have s1 : Same H (upd H cs (.lst (nv c))) := same_new hcs
    have hL1 := hL.same s1
    have hp1 := s1 _ _ hP.hp
    have eb : (V.int (((nv c).length : Nat) : Int) = V.int ((S.n : Int) * (S.n : Int))) ↔ c.length = S.n * S.n := by
      rw [vint, List.length_map, ← Int.natCast_mul]; omega
    refine ⟨_, rfl, cs, _, rfl, .inl (SqL.of upd_same), _, rfl, p, a.Learning, dx, _, _, rfl, hp1, T.Learning_cl, T.no_amount, get_amount _ _ _ _ _, _, rfl, p, a.Learning, dx, _, _, rfl, hp1, T.Learning_cl, T.no_amount, get_amount _ _ _ _ _, _, _, rfl, rfl, .inl ⟨by omega, by omega⟩, rfl, _, rfl, ?_⟩
    by_cases hlen : c.length = S.n * S.n
    · have hd : (!decide (V.int (((nv c).length : Nat) : Int) = V.int ((S.n : Int) * (S.n : Int)))) = false := by rw [decide_eq_true (eb.mpr hlen)]; rfl
      refine cond_false hd ?_
      have hRu : RulesAt (upd H cs (.lst (nv c))) r S.rules := hP.rules.same s1
      refine ⟨_, rfl, p, a.Learning, dx, _, _, rfl, hp1, T.Learning_cl, T.no_rules, get_rules _ _ _ _ _, _, rfl, p, a.Learning, dx, _, _, rfl, hp1, T.Learning_cl, T.no_amount, get_amount _ _ _ _ _, _, rfl, r, cs, S, c, own, rfl, hRu, hL.good, upd_same, hlen, hL1.tab, hL1.al, fun ob own2 H2 hob hob2 nob hT2 w1 w2 bt => ?_⟩
      obtain ⟨hL2, m2⟩ := hL1.plan hT2 w1 w2 bt
      obtain ⟨psP, hPt⟩ := hL1.tab.got
      have hl2 : H2 l = some (.lst ((m0 :: (c.length : Int) :: c.map fun (z : Nat) => (z : Int)).map V.int)) := bt _ _ (s1 _ _ hl) (ne_of (s1 _ _ hl) hPt (by intro z; cases z))
      have hpl : (Rc83.plan S c).length ≤ 16 := plan_len hL.good c
      refine ⟨_, rfl, ob, _, rfl, .inl (SqL.of hob2), by show 1 ≤ sizeLine; decide, fun l1 hl1 => ?_⟩
      have s4 := same_new (o := .lst [V.int (((nv (Rc83.plan S c)).length : Nat) : Int)]) hl1
      refine ⟨_, rfl, _, rfl, l, _, _, _, rfl, rfl, SqL.of (s4 _ _ hl2), atI_nat (j := 0) rfl, ob, nv (Rc83.plan S c), m0, 16, rfl, s4 _ _ hob2, fun fb hfb => ?_⟩
      refine ⟨l1, fb, _, _, rfl, rfl, same_new hfb _ _ upd_same, upd_same, ?_, fun b hb => ?_⟩
      · have h3 : (List.take (Rc83.room_ m0 16) (nv (Rc83.plan S c))).length ≤ 16 := by rw [List.length_take, List.length_map]; omega
        show 1 + (List.take (Rc83.room_ m0 16) (nv (Rc83.plan S c))).length ≤ sizeLine
        exact Nat.le_of_lt (small1000 (by omega))
      have sA : Same H2 (upd (upd H2 l1 (.lst [V.int (((nv (Rc83.plan S c)).length : Nat) : Int)])) fb (.lst (List.take (Rc83.room_ m0 16) (nv (Rc83.plan S c))))) := s4.trans (same_new hfb)
      refine rep_at k (hL2.same sA) (((Moves.new s1).trans m2).trans (Moves.new sA)) (d_plan hlen hc) ?_ hb
      rw [nv_take, List.length_map]
      exact outs_more (Rc83.plan S c) _
    · have hd : (!decide (V.int (((nv c).length : Nat) : Int) = V.int ((S.n : Int) * (S.n : Int)))) = true := by rw [decide_eq_false (fun z => hlen (eb.mp z))]; rfl
      refine cond_true hd ?_
      refine ⟨_, rfl, by show 1 ≤ sizeLine; decide, fun b hb => ?_⟩
      exact rep_at k hL1 (Moves.new s1) (d_plan_no hlen) rfl hb
end
end Lq
end
section
set_option Elab.async false
set_option linter.all false
set_option maxRecDepth 100000
set_option maxHeartbeats 4000000
namespace Lq
open PySem L2
/-- a call by its number and the numbers that stand behind it -/
inductive Known : Int → List Int → Rc83.Call → Prop
  | begin : Known 0 [] .init
  | things (n : Int) : Known 1 [n] (.things n)
  | rule (x : Int) (s : Nat) : Known 2 [x, (s : Int)] (.rule x s)
  | is (s : Nat) : Known 3 [(s : Int)] (.is s)
  | most (s : Nat) : Known 4 [(s : Int)] (.most s)
  | next (s : Nat) : Known 5 [(s : Int)] (.next s)
  | last (s : Nat) : Known 6 [(s : Int)] (.last s)
  | count : Known 7 [] .count
  | orders : Known 8 [] .orders
  | order (k : Nat) (m : Int) : Known 9 [(k : Int), m] (.order k m)
  | paths (x m : Int) : Known 10 [x, m] (.paths x m)
  | hull (s : Nat) : Known 11 [(s : Int)] (.hull s)
  | corners (s : Nat) : Known 12 [(s : Int)] (.corners s)
  | plan (m : Int) (c : List Nat) : c.length ≤ 256 → Known 13 (m :: (c.length : Int) :: c.map fun (z : Nat) => (z : Int)) (.plan c (c.length : Int) m)
theorem known_of {l t : List Int} {x : Rc83.Call} (h : Lp.Line l x t) : ∃ z args, l = z :: (args ++ t) ∧ Known z args x := by
  cases h with
  | begin => exact ⟨0, [], rfl, .begin⟩
  | things n => exact ⟨1, [n], rfl, .things n⟩
  | rule x s => exact ⟨2, _, rfl, .rule x s⟩
  | is s => exact ⟨3, _, rfl, .is s⟩
  | most s => exact ⟨4, _, rfl, .most s⟩
  | next s => exact ⟨5, _, rfl, .next s⟩
  | last s => exact ⟨6, _, rfl, .last s⟩
  | count => exact ⟨7, [], rfl, .count⟩
  | orders => exact ⟨8, [], rfl, .orders⟩
  | order k m => exact ⟨9, _, rfl, .order k m⟩
  | paths x m => exact ⟨10, _, rfl, .paths x m⟩
  | hull s => exact ⟨11, _, rfl, .hull s⟩
  | corners s => exact ⟨12, _, rfl, .corners s⟩
  | plan m c _ _ _ hc => exact ⟨13, _, rfl, .plan m c hc⟩
noncomputable def spTo (C Pt : Addr) : Sp := fun vs H Q _ => ∃ (z : Int) (args : List Int) (x : Rc83.Call) (p l : Addr) (own : Addr → Prop) (S : Rc83.Lore), vs = [.int z, .ref p, .ref l] ∧ Known z args x ∧ LoreAt C Pt H p own S ∧ H l = some (.lst (args.map V.int)) ∧ ¬ own l ∧ RepPost C Pt H p own S x Q
noncomputable def spEnd (K : PySem.W.Frag) : Sp := fun vs H Q _ => ∃ (c : Addr) (ns : List Int) (j : Nat) (z : Int) (args t : List Int) (x : Rc83.Call), vs = [.ref c, .int (j : Int)] ∧ SqL K H c (ns.map V.int) ∧ ns.drop j = z :: (args ++ t) ∧ Known z args x ∧ Q (.int ((j + 1 + args.length : Nat) : Int)) H
theorem cut_args {ns args t : List Int} {z : Int} {j : Nat} (h : ns.drop j = z :: (args ++ t)) : cutV (ns.map V.int) (some (((j + 1 : Nat)) : Int)) (some (((j + 1 + args.length : Nat)) : Int)) = args.map V.int := by
  have hl : ns.length = j + 1 + args.length + t.length := by
    have := congrArg List.length h
    rw [List.length_drop, List.length_cons, List.length_append] at this
    omega
  unfold cutV
  rw [List.length_map, HT.sIx_nat, HT.sIx_nat, Nat.min_eq_left (by omega), Nat.min_eq_left (by omega), ← List.map_drop, ← List.map_take]
  have e : ns.drop (j + 1) = args ++ t := by
    rw [← List.drop_drop, h]; rfl
  rw [e, show j + 1 + args.length - (j + 1) = args.length by omega, List.take_left]
noncomputable abbrev widths : List (Int × V) := [(0, .int 0), (1, .int 1), (2, .int 2), (3, .int 1), (4, .int 1), (5, .int 1), (6, .int 1), (7, .int 0), (8, .int 0), (9, .int 2), (10, .int 2), (11, .int 1), (12, .int 1), (13, .int 2)]
theorem width_of {z : Int} {args : List Int} {x : Rc83.Call} (h : Known z args x) : (z ≠ 13 ∧ widths.lookup z = some (.int (args.length : Int))) ∨ (z = 13 ∧ widths.lookup z = some (.int 2) ∧ ∃ (m : Int) (c : List Int), args = m :: (c.length : Int) :: c) := by
  cases h
  case plan m c hc => exact .inr ⟨rfl, rfl, m, c.map fun (z : Nat) => (z : Int), by rw [List.length_map]⟩
  all_goals exact .inl ⟨by decide, rfl⟩
theorem told1_eq (y : Rc83.Ans) : Lp.told1 y = ((outs y).length : Int) :: outs y := by
  unfold Lp.told1 outs
  rw [List.length_cons, List.length_map]
section
variable {P : Program} {w : World} {K : PySem.W.Frag} {mg : Str → Option Value} {base : Heap} {a : Ad}
theorem rep_of (T : Txt K mg a) (B : BM mg base) (KB : K.In base) {z : Int} {args : List Int} {x : Rc83.Call} (h : Known z args x) : ∃ (f : Addr) (fd : FuncData), 
    ([(0, .ref a.reply_begin), (1, .ref a.reply_things), (2, .ref a.reply_rule), (3, .ref a.reply_is), (4, .ref a.reply_most), (5, .ref a.reply_next), (6, .ref a.reply_last), (7, .ref a.reply_count), (8, .ref a.reply_orders), (9, .ref a.reply_order), (10, .ref a.reply_paths), (11, .ref a.reply_hull), (12, .ref a.reply_corners), (13, .ref a.reply_plan)] : List (Int × V)).lookup z = some (.ref f) ∧
    FnOk P w K mg base CX0 6 f fd ["learning", "numbers"] (spRep a.Learning a.cheapestP args x) ∧ PySem.W.keepIn K (.ref f) = true ∧ Binds K fd ["learning", "numbers"] [] := by
  cases h with
  | begin => exact ⟨_, _, rfl, (ok_reply_begin T).mono (by decide), T.reply_begin.fn.kp, T.reply_begin.bi⟩
  | things n => exact ⟨_, _, rfl, (ok_reply_things T n).mono (by decide), T.reply_things.fn.kp, T.reply_things.bi⟩
  | rule x s => exact ⟨_, _, rfl, (ok_reply_rule T x s).mono (by decide), T.reply_rule.fn.kp, T.reply_rule.bi⟩
  | is s => exact ⟨_, _, rfl, (ok_reply_is T s).mono (by decide), T.reply_is.fn.kp, T.reply_is.bi⟩
  | most s => exact ⟨_, _, rfl, (ok_reply_most T s).mono (by decide), T.reply_most.fn.kp, T.reply_most.bi⟩
  | next s => exact ⟨_, _, rfl, (ok_reply_next T s).mono (by decide), T.reply_next.fn.kp, T.reply_next.bi⟩
  | last s => exact ⟨_, _, rfl, (ok_reply_last T s).mono (by decide), T.reply_last.fn.kp, T.reply_last.bi⟩
  | count => exact ⟨_, _, rfl, (ok_reply_count T).mono (by decide), T.reply_count.fn.kp, T.reply_count.bi⟩
  | orders => exact ⟨_, _, rfl, (ok_reply_orders T).mono (by decide), T.reply_orders.fn.kp, T.reply_orders.bi⟩
  | order k m => exact ⟨_, _, rfl, (ok_reply_order T k m).mono (by decide), T.reply_order.fn.kp, T.reply_order.bi⟩
  | paths x m => exact ⟨_, _, rfl, (ok_reply_paths T x m).mono (by decide), T.reply_paths.fn.kp, T.reply_paths.bi⟩
  | hull s => exact ⟨_, _, rfl, (ok_reply_hull T s).mono (by decide), T.reply_hull.fn.kp, T.reply_hull.bi⟩
  | corners s => exact ⟨_, _, rfl, (ok_reply_corners T s).mono (by decide), T.reply_corners.fn.kp, T.reply_corners.bi⟩
  | plan m c hc => exact ⟨_, _, rfl, (ok_reply_plan T B KB m c hc).mono (by decide), T.reply_plan.fn.kp, T.reply_plan.bi⟩
theorem ok_reply_to (T : Txt K mg a) (B : BM mg base) (KB : K.In base) : FnOk P w K mg base CX0 7 a.reply_to a.reply_toD ["number", "learning", "numbers"] (spTo a.Learning a.cheapestP) := by
  refine T.reply_to.fn.ok sc_reply_to (fun vs H Q E h => ?_) (fun cdv A outer s H vs Q E hr h => ?_)
  · obtain ⟨z, args, x, p, l, own, S, rfl, _⟩ := h
    rfl
  · obtain ⟨z, args, x, p, l, own, S, rfl, hk, hL, hl, nol, k⟩ := h
    obtain ⟨f, fd, e1, F, e2, e3⟩ := rep_of (P := P) (w := w) (base := base) T B KB hk
    refine ⟨_, pss_cons (ps_set (i := 3) sc_reply_to.nd rfl (Or.inl rfl) (pe_tab (pe_glob (v := .ref a.REPLIES) rfl T.REPLIES_mg rfl) (pv 0) (fun _ _ => rfl)))
      (pss_one (ps_ret (pe_callV (i := 3) rfl (Or.inl rfl) (pa_cons (pv 1) (pa_cons (pv 2) pa_nil))))), ?_⟩
    refine ⟨_, rfl, a.REPLIES, _, z, _, rfl, T.REPLIES_tab, rfl, e1, ?_⟩
    exact ⟨f, fd, _, _, 6, rfl, F, hr, e2, e3, _, rfl, _, rfl, p, l, own, S, rfl, hL, hl, nol, k⟩
theorem ok_call_end (T : Txt K mg a) : FnOk P w K mg base CX0 1 a.call_end a.call_endD ["calls", "at"] (spEnd K) := by
  obtain ⟨tk, hmg⟩ := T.c_PLAN
  refine T.call_end.fn.ok sc_call_end (fun vs H Q E h => ?_) (fun cdv A outer s H vs Q E hr h => ?_)
  · obtain ⟨c, ns, j, z, args, t, x, rfl, _⟩ := h
    rfl
  · obtain ⟨c, ns, j, z, args, t, x, rfl, hS, hdrop, hk, k⟩ := h
    refine ⟨_, pss_cons (ps_set (i := 2) sc_call_end.nd rfl (Or.inl rfl) (pe_op op_add (pe_op op_add (pv 1) pe_int) (pe_tab (pe_glob (v := .ref a.WIDTHS) rfl T.WIDTHS_mg rfl) (pe_ix ix_list (pv 0) (pv 1) (fun _ _ => rfl)) (fun _ _ => rfl))))
      (pss_cons (ps_if (pt_cmpR op_eq (pe_ix ix_list (pv 0) (pv 1) (fun _ _ => rfl)) (pe_glob (v := .int 13) rfl hmg ⟨tk, rfl⟩) (nomark _))
        (pss_one (ps_set (i := 2) sc_call_end.nd rfl (Or.inl rfl) (pe_op op_add (pv 2) (pe_ix ix_list (pv 0) (pe_op op_sub (pv 2) pe_int) (fun _ _ => rfl))))) pss_nil)
      (pss_one (ps_ret (pv 2)))), ?_⟩
    have hz : ns[j]? = some z := by
      have := congrArg (fun l => l[0]?) hdrop
      simpa using this
    have hat : atI (ns.map V.int) (j : Int) = some (.int z) := atI_nat (by rw [List.getElem?_map, hz]; rfl)
    rcases width_of hk with ⟨hne, hw⟩ | ⟨rfl, hw, m, cl, hargs⟩
    · refine ⟨_, rfl, _, _, rfl, rfl, _, rfl, _, rfl, c, _, _, _, rfl, rfl, hS, hat, a.WIDTHS, _, z, _, rfl, T.WIDTHS_tab, rfl, hw, _, _, rfl, rfl, ?_⟩
      refine ⟨_, rfl, _, rfl, c, _, _, _, rfl, rfl, hS, hat, rfl, _, rfl, ?_⟩
      refine cond_false (decide_eq_false (fun e => hne (vint.mp e))) ?_
      refine ⟨_, rfl, ?_⟩
      have e : ((j : Int) + 1 + (args.length : Int)) = ((j + 1 + args.length : Nat) : Int) := by omega
      dsimp only
      rw [e]
      exact k
    · refine ⟨_, rfl, _, _, rfl, rfl, _, rfl, _, rfl, c, _, _, _, rfl, rfl, hS, hat, a.WIDTHS, _, (13 : Int), _, rfl, T.WIDTHS_tab, rfl, hw, _, _, rfl, rfl, ?_⟩
      refine ⟨_, rfl, _, rfl, c, _, _, _, rfl, rfl, hS, hat, rfl, _, rfl, ?_⟩
      refine cond_true (decide_eq_true rfl) ?_
      have hz2 : ns[j + 2]? = some (cl.length : Int) := by
        have := congrArg (fun l => l[2]?) hdrop
        rw [hargs] at this
        simpa using this
      have e0 : ((j : Int) + 1 + 2) - 1 = ((j + 2 : Nat) : Int) := by omega
      have hat2 : atI (ns.map V.int) (((j : Int) + 1 + 2) - 1) = some (V.int (cl.length : Int)) := by
        rw [e0]
        exact atI_nat (j := j + 2) (by rw [List.getElem?_map, hz2]; rfl)
      refine ⟨_, rfl, _, rfl, _, rfl, _, _, rfl, rfl, c, _, _, _, rfl, rfl, hS, hat2, _, _, rfl, rfl, ?_⟩
      refine ⟨_, rfl, ?_⟩
      have e : ((j : Int) + 1 + 2 + (cl.length : Int)) = ((j + 1 + args.length : Nat) : Int) := by
        rw [hargs, List.length_cons, List.length_cons]; omega
      dsimp only
      rw [e]
      exact k

/-- the list that was handed in: it stays -/
noncomputable def InC (K : PySem.W.Frag) (H : Hp) (own : Addr → Prop) (c d : Addr) (xs : List V) : Prop := (Rd H c (.lst xs) ∧ ¬ own c ∧ c ≠ d) ∨ ∀ H' : Hp, SqL K H' c xs
theorem InC.sq {K : PySem.W.Frag} {H : Hp} {own : Addr → Prop} {c d : Addr} {xs : List V} (h : InC K H own c d xs) : SqL K H c xs := by
  rcases h with h | h
  · exact .inl h.1
  · exact h H
theorem InC.moves {K : PySem.W.Frag} {H H' : Hp} {own own' : Addr → Prop} {c d : Addr} {xs : List V} (h : InC K H own c d xs) (m : Moves own H own' H') : InC K H' own' c d xs := by
  rcases h with ⟨h1, h2, h3⟩ | h
  · refine .inl ⟨?_, fun z => ?_, h3⟩
    · rcases h1 with h1 | ⟨o, h1⟩
      · exact .inl (m.fr _ _ h1 h2)
      · exact .inr ⟨o, m.fr _ _ h1 h2⟩
    · rcases m.ow _ z with z | z
      · exact h2 z
      · rcases h1 with h1 | ⟨o, h1⟩
        · rw [h1] at z; cases z
        · rw [h1] at z; cases z
  · exact .inr h
theorem InC.set {K : PySem.W.Frag} {H : Hp} {own : Addr → Prop} {c d : Addr} {xs : List V} {o : HO} (h : InC K H own c d xs) : InC K (upd H d o) own c d xs := by
  rcases h with ⟨h1, h2, h3⟩ | h
  · refine .inl ⟨?_, h2, h3⟩
    unfold Rd
    rw [upd_ne h3]
    exact h1
  · exact .inr h
theorem LoreAt.other {C Pt p d : Addr} {H : Hp} {own : Addr → Prop} {S : Rc83.Lore} {o : HO} (h : LoreAt C Pt H p own S) (hd : ¬ own d) : LoreAt C Pt (upd H d o) p own S := h.keep fun b u hb e => by
  rw [upd_ne (fun z => hd (by rw [← z]; exact hb))]; exact e
noncomputable def spAns (K : PySem.W.Frag) (Pt : Addr) : Sp := fun vs H Q _ => ∃ (c : Addr) (ns : List Int), vs = [.ref c] ∧ SqL K H c (ns.map V.int) ∧ ns.length ≤ 16131 ∧ PyRc83.answers_asked ns = true ∧ H Pt = some (.tbl #[]) ∧ ∀ b H', H' b = some (.lst ((PyRc83.answers ns).map V.int)) → Q (.ref b) H'
noncomputable abbrev invA (K : PySem.W.Frag) (c p d cl cp : Addr) (ns out : List Int) (m : Nat) (σ : St) (H2 : Hp) : Prop := ∃ (j kk : Nat) (S : Rc83.Lore) (rest tl : List Int) (own : Addr → Prop) (v4 v5 : Option V), m = ns.length - j ∧ j ≤ ns.length ∧ σ = [some (.ref c), some (.ref p), some (.ref d), some (.int (j : Int)), v4, v5] ∧ InC K H2 own c d (ns.map V.int) ∧ LoreAt cl cp H2 p own S ∧ H2 d = some (.lst (tl.map V.int)) ∧ ¬ own d ∧ Lp.Play kk S (ns.drop j) rest ∧ tl ++ rest = out ∧ tl.length + kk * 32770 ≤ 300 * 32770
theorem ok_answers (T : Txt K mg a) (B : BM mg base) (KB : K.In base) : FnOk P w K mg base CX0 8 a.answers a.answersD ["calls"] (spAns K a.cheapestP) := by
  have GI : FnOk P w K mg base CX0 3 a.m_init a.m_initD ["self"] (spInit a.Learning a.cheapestP) := ok_m_init T
  have GT : FnOk P w K mg base CX0 7 a.reply_to a.reply_toD ["number", "learning", "numbers"] (spTo a.Learning a.cheapestP) := ok_reply_to T B KB
  have GE : FnOk P w K mg base CX0 1 a.call_end a.call_endD ["calls", "at"] (spEnd K) := ok_call_end T
  refine T.answers.fn.ok sc_answers (fun vs H Q E h => ?_) (fun cdv A outer s H vs Q E hr h => ?_)
  · obtain ⟨c, ns, rfl, _⟩ := h
    rfl
  · obtain ⟨c, ns, rfl, hS, hlen, hask, hPt, k⟩ := h
    obtain ⟨n, hn, hP⟩ := Lp.play_of hask
    generalize PyRc83.answers ns = out at hP k
    have hr1 : Room 1 _ := hr.mono (by decide)
    have hr4 : Room 4 _ := hr.mono (by decide)
    refine ⟨_, pss_cons (ps_set (i := 1) sc_answers.nd rfl (Or.inl rfl) (pe_make0 T.Learning_mk GI hr4 rfl T.Learning_mg T.m_init.bi .nil pass0))
      (pss_cons (ps_set (i := 2) sc_answers.nd rfl (Or.inl rfl) (pe_lst pa_nil))
      (pss_cons (ps_set (i := 3) sc_answers.nd rfl (Or.inl rfl) pe_int)
      (pss_cons (ps_while PassesOwn.never (pt_cmpR op_lt (pv 3) (pe_callB call_len_seq (by rfl) T.b_len PySem.boot_len (pa_cons (pv 0) pa_nil)) (nomark _))
        (pss_cons (ps_set (i := 4) sc_answers.nd rfl (Or.inl rfl) (pe_call GE hr1 rfl T.call_end_mg T.call_end.fn.kp T.call_end.bi .nil pass0 (pa_cons (pv 0) (pa_cons (pv 3) pa_nil))))
        (pss_cons (ps_set (i := 5) sc_answers.nd rfl (Or.inl rfl) (pe_call GT hr rfl T.reply_to_mg T.reply_to.fn.kp T.reply_to.bi .nil pass0 (pa_cons (pe_ix ix_list (pv 0) (pv 3) (fun _ _ => rfl)) (pa_cons (pv 1) (pa_cons (pe_slice sl_list (pv 0) (po_some (pe_op op_add (pv 3) pe_int)) (po_some (pv 4))) pa_nil)))))
        (pss_cons (ps_expr (pe_bm PySem.F.plainAttrs_list PySem.F.slot_list_append PySem.F.type_list_append mt_append (pv 2) (pa_cons (pe_callB call_len_seq (by rfl) T.b_len PySem.boot_len (pa_cons (pv 5) pa_nil)) pa_nil)))
        (pss_cons (ps_expr (pe_bm PySem.F.plainAttrs_list PySem.F.slot_list_extend PySem.F.type_list_extend mt_extend (pv 2) (pa_cons (pv 5) pa_nil)))
        (pss_one (ps_set (i := 3) sc_answers.nd rfl (Or.inl rfl) (pv 4))))))))
      (pss_one (ps_ret (pv 2)))))), ?_⟩
    -- learning = Learning()
    intro p dx np ndx nex
    have s0 : Same H (upd (upd H dx (.own p)) p (.ins a.Learning dx [])) := fun b o e => by
      rw [upd_ne (ne_of_none e np), upd_ne (ne_of_none e ndx)]
      exact e
    refine ⟨p, dx, fun b => b = a.cheapestP, rfl, upd_same, ⟨rfl, .inl (s0 _ _ hPt)⟩, fun b z => (by rw [z]; exact some_ne (s0 _ _ hPt)), fun own1 H1 hL1 ow1 fr1 => ⟨rfl, ?_⟩⟩
    have s1 : Same H H1 := fun b o e => fr1 b o (s0 b o e) (ne_of_none e np)
    -- told = []
    refine ⟨Nat.zero_le _, fun d hd => ?_⟩
    have nod : ¬ own1 d := fun z => hL1.al d z hd
    have hIn : InC K (upd H1 d (.lst [])) own1 c d (ns.map V.int) := by
      rcases hS with h | h
      · have nc : ∀ o, H c = some o → (∀ ps, o ≠ .tbl ps) → ¬ own1 c := fun o e nt z => by
          rcases ow1 c z with z | z | z
          · rw [z, hPt] at e
            exact nt _ (Option.some.inj e).symm
          · rw [z, np] at e; cases e
          · rw [s0 _ _ e] at z; cases z
        rcases h with h | ⟨o, h⟩
        · exact .inl ⟨.inl (same_new hd _ _ (s1 _ _ h)), nc _ h (by intro _ z; cases z), ne_of_none (s1 _ _ h) hd⟩
        · exact .inl ⟨.inr ⟨o, same_new hd _ _ (s1 _ _ h)⟩, nc _ h (by intro _ z; cases z), ne_of_none (s1 _ _ h) hd⟩
      · exact .inr fun H' => .inr h
    -- the loop
    refine ⟨invA K c p d a.Learning a.cheapestP ns out,
      ⟨_, 0, n, {}, out, [], own1, none, none, rfl, Nat.zero_le _, rfl, hIn, hL1.other nod, upd_same, nod, hP, rfl, by simp; omega⟩, ?_⟩
    rintro m σ H2 ⟨j, kk, S, rest, tl, own, v4, v5, rfl, hj, rfl, hIn2, hL, hd2, nod2, hP2, hout, hbound⟩
    have hS2 := hIn2.sq
    refine ⟨_, rfl, _, rfl, c, _, rfl, .inl hS2, _, _, rfl, rfl, _, rfl, ?_⟩
    refine ite2 (fun h => ?_) (fun h => ?_)
    · have hlt : j < ns.length := by have := of_decide_eq_true h; rw [List.length_map] at this; omega
      generalize hdrop0 : ns.drop j = l0 at hP2
      cases hP2 with
      | nil =>
        have := congrArg List.length hdrop0
        rw [List.length_drop, List.length_nil] at this
        omega
      | @cons kk S l0 t x rest hline hP3 =>
        obtain ⟨z, args, el, hk⟩ := known_of hline
        subst el
        have hdrop := hdrop0
        have hlen2 : ns.length = j + 1 + args.length + t.length := by
          have := congrArg List.length hdrop
          rw [List.length_drop, List.length_cons, List.length_append] at this
          omega
        have hz : ns[j]? = some z := by
          have := congrArg (fun l => l[0]?) hdrop
          simpa using this
        have hG := hL.good
        have ht1 := Lp.told1_len hG x
        rw [told1_eq, List.length_cons] at ht1
        refine ⟨fun σ' H' => ∃ m', m' < ns.length - j ∧ ∃ (j' kk : Nat) (S : Rc83.Lore) (rest tl : List Int) (own : Addr → Prop) (v4 v5 : Option V), m' = ns.length - j' ∧ j' ≤ ns.length ∧ σ' = [some (.ref c), some (.ref p), some (.ref d), some (.int (j' : Int)), v4, v5] ∧
          InC K H' own c d (ns.map V.int) ∧ LoreAt a.Learning a.cheapestP H' p own S ∧ H' d = some (.lst (tl.map V.int)) ∧ ¬ own d ∧ Lp.Play kk S (ns.drop j') rest ∧ tl ++ rest = out ∧ tl.length + kk * 32770 ≤ 300 * 32770, fun _ _ h => h, ?_⟩
        refine ⟨_, rfl, _, rfl, c, ns, j, z, args, t, x, rfl, hS2, hdrop, hk, ?_⟩
        -- the reply
        have e1 : ((j : Int) + 1) = ((j + 1 : Nat) : Int) := by omega
        refine ⟨_, rfl, _, rfl, c, _, _, _, rfl, rfl, hS2, atI_nat (j := j) (v := .int z) (by rw [List.getElem?_map, hz]; rfl), _, rfl, _, rfl, _, rfl, _, _, rfl, rfl, _, rfl, _, rfl, _, rfl, c, _, rfl, hS2, fun l hl => ?_⟩
        have sl := same_new (o := HO.lst (cutV (ns.map V.int) (some ((j : Int) + 1)) (some ((j + 1 + args.length : Nat) : Int)))) hl
        have hcut : cutV (ns.map V.int) (some ((j : Int) + 1)) (some ((j + 1 + args.length : Nat) : Int)) = args.map V.int := by
          rw [e1]; exact cut_args hdrop
        have hd3 := sl _ _ hd2
        refine ⟨z, args, x, p, l, own, S, rfl, hk, hL.same sl, by rw [← hcut]; exact upd_same, fun y => hL.al l y hl, fun b own' H3 hL3 m3 hb nob h3 => ?_⟩
        have hd4 : H3 d = some (.lst (tl.map V.int)) := m3.fr d _ hd3 nod2
        have nod3 : ¬ own' d := fun y => by
          rcases m3.ow d y with y | y
          · exact nod2 y
          · rw [hd3] at y; cases y
        have hIn3 : InC K H3 own' c d (ns.map V.int) := (hIn2.moves (Moves.new sl)).moves m3
        have hbd : b ≠ d := (ne_of_none hd3 hb).symm
        -- told.append(len(answer)); told.extend(answer); at = end
        refine ⟨_, rfl, .inl ⟨rfl, _, SqL.of hd4⟩, _, rfl, b, _, rfl, .inl (SqL.of h3), d, _, _, rfl, rfl, hd4, ?_, ?_⟩
        · rw [List.length_map]
          have : (2 : Nat) ^ 24 = sizeLine := rfl
          omega
        refine ⟨_, rfl, .inl ⟨rfl, _, SqL.of upd_same⟩, _, rfl, d, b, _, _, rfl, rfl, upd_same, by rw [upd_ne hbd]; exact h3, ?_, ?_⟩
        · rw [List.length_append, List.length_map, List.length_map, List.length_singleton]
          have : (2 : Nat) ^ 24 = sizeLine := rfl
          omega
        refine ⟨_, rfl, ns.length - (j + 1 + args.length), by omega, j + 1 + args.length, kk, (Rc83.does S x).1, rest, tl ++ Lp.told1 (Rc83.does S x).2, own', some (.int (((j + 1 + args.length : Nat)) : Int)), some (.ref b), rfl, by omega, rfl, hIn3.set.set, (hL3.other nod3).other nod3, ?_, nod3, ?_, ?_, ?_⟩
        · rw [upd_same, told1_eq, List.map_append, List.map_cons, List.length_map]
          simp
        · have e : ns.drop (j + 1 + args.length) = t := by
            rw [show j + 1 + args.length = (j + (1 + args.length)) by omega, ← List.drop_drop, hdrop, Nat.add_comm 1, List.drop_succ_cons, List.drop_left]
          rw [e]; exact hP3
        · rw [List.append_assoc]; exact hout
        · rw [told1_eq, List.length_append, List.length_cons]
          omega
    · have hge : j = ns.length := by
        apply Classical.byContradiction
        intro hn
        exact h (decide_eq_true (by rw [List.length_map]; omega))
      subst hge
      rw [List.drop_length] at hP2
      generalize hnil : ([] : List Int) = l0 at hP2
      cases hP2 with
      | nil =>
        rw [List.append_nil] at hout
        subst hout
        exact ⟨_, rfl, k d H2 hd2⟩
      | cons hline _ =>
        obtain ⟨z, args, el, _⟩ := known_of hline
        subst hnil
        cases el
end
end Lq
end
section
set_option Elab.async false
set_option linter.all false
set_option maxRecDepth 100000
set_option maxHeartbeats 4000000
namespace Lq
open PySem PySem.Spec PyProof.Rows L2
/-! ### the call from outside, with one code object's table that may grow -/
theorem spec_callT {P : Program} {w : World} {K : PySem.W.Frag} {mg mb : Str → Option Value} {CX : CXT} {k : Nat} {fa a c Pt : Addr} {fd : FuncData} {x : Str} {sp : Sp} {s₁ : Shared} {vs : List Value} {ns : List Int} {R : VK}
    (KX : K.In s₁.heap) (hns : s₁.heap.Ns mainGlobals mg) (hb : s₁.heap.Ns builtinsNs mb) (hbb : ∀ x : Str, x ≠ "__name__" → mb x = bootBuiltins x) (hlim : s₁.heap.NoLimit) (hg : s₁.gens = #[]) (hbm : BM mg s₁.heap)
    (hT : s₁.heap.TableAt c Pt #[]) (hKP : K.lookup Pt = none)
    (ha : s₁.heap.get? a = some { cls := .type "list", data := .seq vs.toArray }) (hi : IntsAre vs ns) (hl : ns.length ≤ sizeLine) (hr : Room k callerA)
    (F : ∀ base : Heap, K.In base → base.Ns mainGlobals mg → BM mg base → FnOk P w K mg base CX k fa fd [x] sp) (hbind : ∀ (s : Shared) (u : Value), BindsTo s fd ⟨[u], []⟩ [(x, u)])
    (hsp : ∀ H : Hp, H Pt = some (.tbl #[]) → SqL K H a (ns.map V.int) → sp [.ref a] H R fun _ _ _ => False)
    (hCX : ∀ H e s', CX [] H s₁ (fun _ _ _ => False) e s' → False) :
    codeAny (model P w) callerA (.call (.ref fa) ⟨[.ref a], []⟩) (fun r s' => (∃ u v H', r = .ok (.ret u) ∧ RelV v u ∧ HOk P w H' s'.heap ∧ R v H') ∧ OldK s₁.heap s'.heap ∧ s'.os = s₁.os ∧ AllBare s'.gens) s₁ := by
  have rv := vals_ints hi
  have lenV := hi.length
  have hPo : s₁.heap.get? Pt = some { cls := .none, data := .fields #[] } := hT.2
  have naP : a ≠ Pt := fun z => by rw [z, hPo] at ha; cases ha
  have core : ∀ H : Hp, H Pt = some (.tbl #[]) → (∀ b, H b = none ∨ b = Pt ∨ ∃ o xs, H b = some (.frz o (.lst xs))) → SqL K H a (ns.map V.int) → HOk P w H s₁.heap → (∀ b, H b ≠ none → b = a ∨ b = Pt) → (H a ≠ none → K.lookup a = none) →
      codeAny (model P w) callerA (.call (.ref fa) ⟨[.ref a], []⟩) (fun r s' => (∃ u v H', r = .ok (.ret u) ∧ RelV v u ∧ HOk P w H' s'.heap ∧ R v H') ∧ OldK s₁.heap s'.heap ∧ s'.os = s₁.os ∧ AllBare s'.gens) s₁ := by
    intro H hPt hO hS hok hA hK
    have base_of : ∀ {b : Addr} {o : Obj}, s₁.heap.get? b = some o → H b = none → (hidT s₁.heap H).get? b = some o := fun e n => hidT_get e n
    have free : ∀ {b : Addr} {o : Obj}, s₁.heap.get? b = some o → o ≠ { cls := .type "list", data := .seq vs.toArray } → o ≠ { cls := .none, data := .fields #[] } → H b = none := fun {b o} e n1 n2 => by
      cases q : H b with
      | none => rfl
      | some u =>
        rcases hA b (by rw [q]; simp) with z | z
        · rw [z, ha] at e; exact absurd (Option.some.inj e).symm n1
        · rw [z, hPo] at e; exact absurd (Option.some.inj e).symm n2
    have nsK : ∀ {b : Addr} {m : Str → Option Value}, s₁.heap.Ns b m → (hidT s₁.heap H).Ns b m := fun {b m} ⟨o, es, ep, e, d, r⟩ => ⟨o, es, ep, base_of e (free e (fun z => by rw [z] at d; cases d) (fun z => by rw [z] at d; cases d)), d, r⟩
    have hKb : K.In (hidT s₁.heap H) := fun b o e => base_of (KX b o e) (by
      cases q : H b with
      | none => rfl
      | some u =>
        rcases hA b (by rw [q]; simp) with z | z
        · subst z
          rw [hK (by rw [q]; simp)] at e; cases e
        · rw [z, hKP] at e; cases e)
    have hBM : BM mg (hidT s₁.heap H) := by
      obtain ⟨bm, ob, h1, h2, h3, h4, h5, h6⟩ := hbm
      exact ⟨bm, ob, h1, h2, base_of h3 (free h3 (fun z => by rw [z] at h6; cases h6) (fun z => by rw [z] at h6; cases h6)), h4, h5, h6⟩
    have hM : Mod K mg (hidT s₁.heap H) := ⟨hKb, nsK hns, ⟨mb, nsK hb, hbb⟩, let ⟨mc, h1, h2⟩ := hlim; ⟨mc, nsK h1, h2⟩⟩
    have e0 : Env0 P w K mg (hidT s₁.heap H) callerA [] s₁ H := ⟨rfl, hM, fun b o e => of_hidT e, Nat.le_of_eq (hidT_size _ _), trivial, fun b hb => absurd (show b ∈ ([] : List Addr) from hb) (by simp), hok, .of_eq hg⟩
    refine codeAny_mono ((F _ hKb (nsK hns) hBM).run callerA [] s₁ H ⟨[.ref a], []⟩ [.ref a] [.ref a] _ _ hr e0 (hbind s₁ (.ref a)) (.cons rfl .nil) (hsp H hPt hS)) fun r s' h => ?_
    cases r with
    | error e => exact (hCX H e s' h).elim
    | ok fl =>
      cases fl with
      | next => exact False.elim h
      | brk => exact False.elim h
      | cont => exact False.elim h
      | ret u =>
        obtain ⟨v, H', os, bare, un, hok', r', q⟩ := h
        obtain ⟨more, hmore⟩ := un.tbls Pt _ hPt
        have hP' : s'.heap.get? Pt = some { cls := .none, data := .fields (#[] ++ more) } := hok' Pt _ hmore
        have keep : ∀ b o, b ≠ Pt → s₁.heap.get? b = some o → s'.heap.get? b = some o := fun b o hbP e => by
          cases q : H b with
          | none => exact un.keep b o e q (by intro z; exact absurd (show b ∈ ([] : List Addr) from z) (by simp)) (by simp)
          | some u =>
            rcases hO b with z | z | ⟨ob, xs, z⟩
            · rw [q] at z; cases z
            · exact absurd z hbP
            · have z2 := un.frzs b ob _ z
              obtain ⟨e1, _⟩ := hok b _ z
              obtain ⟨e2, _⟩ := hok' b _ z2
              rw [e] at e1; cases e1
              exact e2
        refine ⟨⟨u, v, H', rfl, r', hok', q⟩, ⟨fun b o e => ?_, fun b o e => ?_⟩, os, bare⟩
        · by_cases hbP : b = Pt
          · subst hbP
            have eo : o = { cls := .none, data := .fields #[] } := Option.some.inj (e.symm.trans hPo)
            subst eo
            exact .inr (.inl ⟨hT.isCodeTable, rfl, #[], more, rfl, hP'⟩)
          · exact .inl (keep b o hbP e)
        · by_cases hbP : b = Pt
          · exact ⟨_, by rw [hbP]; exact hP'⟩
          · exact ⟨o, keep b o hbP e⟩
  cases hk : K.lookup a with
  | some o =>
    have e := KX a o hk
    rw [ha] at e
    cases e
    refine core (fun b => if b = Pt then some (.tbl #[]) else none) (if_pos rfl) (fun b => ?_) (.inr ⟨_, vs.toArray, _, hk, rfl, rfl, rfl, by rw [List.size_toArray, lenV]; exact hl, by simpa using rv⟩) (fun b u z => ?_) (fun b z => ?_) fun z => absurd (if_neg naP) z
    · by_cases hb : b = Pt
      · exact .inr (.inl hb)
      · exact .inl (if_neg hb)
    · by_cases hb : b = Pt
      · have z' := (if_pos hb).symm.trans z
        cases z'
        subst hb
        exact hPo
      · have z' := (if_neg hb).symm.trans z
        cases z'
    · by_cases hb : b = Pt
      · exact .inr hb
      · exact absurd (if_neg hb) z
  | none =>
    refine core (fun b => if b = Pt then some (.tbl #[]) else if b = a then some (.frz { cls := .type "list", data := .seq vs.toArray } (.lst (ns.map V.int))) else none) (if_pos rfl) (fun b => ?_) (.inl (.inr ⟨{ cls := .type "list", data := .seq vs.toArray }, (if_neg naP).trans (if_pos rfl)⟩)) (fun b u z => ?_) (fun b z => ?_) fun _ => hk
    · by_cases hb : b = Pt
      · exact .inr (.inl hb)
      · by_cases hba : b = a
        · exact .inr (.inr ⟨_, _, (if_neg hb).trans (if_pos hba)⟩)
        · exact .inl ((if_neg hb).trans (if_neg hba))
    · by_cases hb : b = Pt
      · have z' := (if_pos hb).symm.trans z
        cases z'
        subst hb
        exact hPo
      · by_cases hba : b = a
        · have z' := ((if_neg hb).trans (if_pos hba)).symm.trans z
          cases z'
          subst hba
          exact ⟨ha, by rw [List.length_map]; exact hl, vs, _, rv, ha⟩
        · have z' := ((if_neg hb).trans (if_neg hba)).symm.trans z
          cases z'
    · by_cases hb : b = Pt
      · exact .inr hb
      · by_cases hba : b = a
        · exact .inl hba
        · exact absurd ((if_neg hb).trans (if_neg hba)) z

theorem walkT {prog : Program} {name : Str} {least most : Nat} {lo hi : Int} {rl rm : Nat} {rlo rhi : Int} {asked : List Int → Bool} {f : List Int → List Int}
    {k : Nat} {q : Program} {loose : List Str} {XP : (Str → Option Value) → Heap → Prop} {YP : World → Heap → Prop} {d : DefRec} {K : Params → PySem.W.Frag} {sp : World → Addr → Sp} {x y : Str}
    (said : (R1 prog name least most lo hi rl rm rlo rhi asked f).wellSaid = true) (hn2 : most ≤ sizeLine) (hdf : d.params.defaults = []) (hr : Room k callerA)
    (hY : ∀ (w : World) (h : Heap), YP w h → (K w.params).In h)
    (F : ∀ (w : World) (mg : Str → Option Value) (fa : Addr) (h : Heap), (K w.params).In h → h.Ns mainGlobals mg → mg d.name = some (.ref fa) →
      ∃ (fd : FuncData) (c Pt : Addr), (∀ (s : Shared) (u : Value), BindsTo s fd ⟨[u], []⟩ [(x, u)]) ∧ PySem.W.tabIn (K w.params) y = some (c, Pt) ∧
        ∀ base : Heap, (K w.params).In base → base.Ns mainGlobals mg → BM mg base → FnOk prog w (K w.params) mg base CX0 k fa fd [x] (sp w Pt))
    (hrec : ∃ dr : DefRec, (recsOf q).find? (fun e => e.name == y) = some dr) (hnt : ∀ w : World, PySem.W.noTabs (K w.params) = true)
    (hsp : ∀ (w : World) (Pt : Addr) (H : Hp) (a : Addr) (ns : List Int), ns.length ≤ most → (∀ z ∈ ns, lo ≤ z ∧ z ≤ hi) → asked ns = true → H Pt = some (.tbl #[]) → SqL (K w.params) H a (ns.map V.int) → sp w Pt [.ref a] H (Tells (f ns)) fun _ _ _ => False) :
    PySem.W.WalkOS q loose XP YP (R1 prog name least most lo hi rl rm rlo rhi asked f) d [] (fun f vs => PySem.call f vs) := by
  intro w s₀ s₁ mg mb G Y fa o pm cd doc dV kV ho hd hcd hD hmg hg args vals as hpre hlay hrd hwl hlo
  obtain rfl : dV = .none := PySem.W.Dflts.none hD hdf
  obtain rfl : kV = .none := PySem.W.Dflts.noKw hD
  obtain ⟨⟨ns, u0⟩, hw, hask, rfl⟩ := (PySem.W.OpenSpec.pre_iff said args).mp hpre
  have hw1 : PySem.W.Codec.inList least most (PySem.W.Codec.inInt lo hi) ns = true := (Bool.and_eq_true_iff.mp (show (PySem.W.Codec.inList least most (PySem.W.Codec.inInt lo hi) ns && true) = true from hw)).1
  obtain ⟨hw2, hw3⟩ := Bool.and_eq_true_iff.mp (show (PySem.W.Codec.inLen least most ns && ns.all (PySem.W.Codec.inInt lo hi)) = true from hw1)
  have hlen : ns.length ≤ most := (PySem.W.Codec.inNat_iff.mp (show PySem.W.Codec.inNat least most ns.length = true from hw2)).2
  have hrange : ∀ z ∈ ns, lo ≤ z ∧ z ≤ hi := fun z hz => PySem.W.Codec.inInt_iff.mp (List.all_eq_true.mp hw3 z hz)
  have hask' : asked ns = true := hask
  have hwl' : PySem.W.WellAll w.params s₁.heap vals [PySem.W.WData.list (ns.map PySem.W.WData.int)] := hwl
  obtain ⟨a, vs, rfl, hobj, hints⟩ : ∃ a vs, vals = [Value.ref a] ∧ s₁.heap.get? a = some { cls := .type "list", data := .seq vs.toArray } ∧ IntsAre vs ns := by
    cases hwl' with
    | cons w1 w2 =>
      cases w2
      cases w1 with
      | list ho hall => exact ⟨_, _, rfl, ho, Att.ints_of_wellAll ns _ hall⟩
  have KX := hY w _ Y
  obtain ⟨fd, c, Pt, hb, hti, hF⟩ := F w mg fa _ KX G.T.g hmg
  obtain ⟨dr, hdr⟩ := hrec
  obtain ⟨hhd, hPo⟩ := PySem.W.tab_of G.T KX hdr hti
  have hKP : (K w.params).lookup Pt = none := by
    cases e : (K w.params).lookup Pt with
    | none => rfl
    | some o =>
      have e2 := KX _ _ e
      rw [hPo] at e2
      cases e2
      have h2 := List.all_eq_true.mp (hnt w) (Pt, PySem.W.tabObj #[]) (PySem.W.mem_of_lookupK e)
      exact absurd (show false = true from h2) Bool.false_ne_true
  refine PySem.W.enter_call (codeAny_mono (spec_callT (R := Tells (f ns)) KX G.T.g G.T.b G.T.builtins G.T.nolimit hg G.T.bmain (hhd.tab hPo) hKP hobj hints (Nat.le_trans hlen hn2) hr hF hb (fun H hO hS => hsp w Pt H a ns hlen hrange hask' hO hS) fun H e s' h => h) fun r s' hq => ?_)
  obtain ⟨⟨u, v, H', rfl, rv, hok, b, rfl, hbb⟩, h2, h3, h4⟩ := hq
  cases (show u = Value.ref b from rv)
  obtain ⟨z, its, n, rvs, e⟩ := (show ObjOk prog w H' s'.heap b (.lst ((f ns).map V.int)) from hok b _ hbb)
  exact ⟨.inl ⟨.ref b, .list ((f ns).map PySem.W.WData.int), _, rfl, fun _ => rfl, PySem.W.ReadsW.list e rfl rfl (readsW_ints (by simpa using intsAre_of rvs)), (PySem.W.OpenSpec.post_iff said hw _ _).mpr rfl, fun h => absurd h Bool.false_ne_true⟩, h2, h3, h4⟩

end Lq
end
set_option Elab.async false
set_option linter.all false
set_option maxRecDepth 100000
namespace Lq
open PySem L2
noncomputable abbrev row : PySem.W.OpenSpec := R1 PySem.Challenge.pw_learntpath_s01_answers PySem.Challenge.nm_learntpath_s01_answers 0 16131 (-2147483648) 18446744073709551615 0 1048576 (-9223372036854775808) 18446744073709551615 PyRc83.answers_asked PyRc83.answers
theorem row_eq : PySem.Challenge.rw_learntpath_s01_answers = row := rfl
theorem said : row.wellSaid = true := by decide +kernel
theorem walkA {q : Program} {loose : List Str} {XP : (Str → Option Value) → Heap → Prop} {YP : World → Heap → Prop} {d : DefRec} {K : Params → PySem.W.Frag} (hdf : d.params.defaults = [])
    (hY : ∀ (w : World) (h : Heap), YP w h → (K w.params).In h)
    (F : ∀ (w : World) (mg : Str → Option Value) (fa : Addr) (h : Heap), (K w.params).In h → h.Ns mainGlobals mg → mg d.name = some (.ref fa) →
      ∃ (fd : FuncData) (c Pt : Addr), (∀ (s : Shared) (u : Value), BindsTo s fd ⟨[u], []⟩ [("calls", u)]) ∧ PySem.W.tabIn (K w.params) "cheapest" = some (c, Pt) ∧
        ∀ base : Heap, (K w.params).In base → base.Ns mainGlobals mg → BM mg base → FnOk PySem.Challenge.pw_learntpath_s01_answers w (K w.params) mg base CX0 8 fa fd ["calls"] (spAns (K w.params) Pt))
    (hrec : ∃ dr : DefRec, (PyProof.Rows.recsOf q).find? (fun e => e.name == ("cheapest" : Str)) = some dr) (hnt : ∀ w : World, PySem.W.noTabs (K w.params) = true) :
    PySem.W.WalkOS q loose XP YP PySem.Challenge.rw_learntpath_s01_answers d [] (fun f vs => PySem.call f vs) := by
  rw [row_eq]
  exact walkT (sp := fun w Pt => spAns (K w.params) Pt) (y := "cheapest") said (by decide) hdf ⟨rfl, by decide, by decide⟩ hY F hrec hnt fun w Pt H c ns hl _ hask hPt hS => ⟨c, ns, rfl, hS, hl, hask, hPt, fun b H' e => ⟨b, rfl, e⟩⟩
end Lq
theorem PySem.W.Fast.te12426533098566992963 : True := trivial
open PySem PySem.W PyProof.Rows
set_option maxRecDepth 100000 in
set_option maxHeartbeats 0 in
theorem PySem.Challenge.cw_learntpath_s01_answers_holds : PySem.Challenge.rw_learntpath_s01_answers.Holds := by
  w_on; k_headS; (case hw => exact ⟨[.list []], by decide +kernel, by decide +kernel⟩)
  k_fillS
  refine Lq.walkA rfl (fun w h Y => PySem.W.kIn_of Y) ?Fq ?Rq ?Tq
  case Rq => exact ⟨_, rfl⟩
  case Tq => intro w; kernel_rfl
  case Fq =>
    intro w mg fa h KX G hmg
    have T : ∃ a, Lq.Txt (L2.KOf KX) mg a := by
      dsimp only [L2.KOf]
      refine' Lq.txt_mk KX G ?e_Learning ?a_things_in ?l_things_in ?c_things_in ?k_things_in ?a_taught ?l_taught ?c_taught ?k_taught ?a_greatest_state ?l_greatest_state ?c_greatest_state ?k_greatest_state ?a_is_state ?l_is_state ?c_is_state ?k_is_state ?a_things_next ?l_things_next ?c_things_next ?k_things_next ?a_things_last ?l_things_last ?c_things_last ?k_things_last ?a_hull_of ?l_hull_of ?c_hull_of ?k_hull_of ?a_corners_of ?l_corners_of ?c_corners_of ?k_corners_of ?a_rules_needing ?l_rules_needing ?c_rules_needing ?k_rules_needing ?a_states_behind ?l_states_behind ?c_states_behind ?k_states_behind ?a_nexts_by_state ?l_nexts_by_state ?c_nexts_by_state ?k_nexts_by_state ?a_ways_by_state ?l_ways_by_state ?c_ways_by_state ?k_ways_by_state ?a_order_behind ?l_order_behind ?c_order_behind ?k_order_behind ?a_lasts_by_state ?l_lasts_by_state ?c_lasts_by_state ?k_lasts_by_state ?a_paths_by_thing ?l_paths_by_thing ?c_paths_by_thing ?k_paths_by_thing ?a_cheapest ?l_cheapest ?c_cheapest ?k_cheapest ?a_planned_order ?l_planned_order ?c_planned_order ?k_planned_order ?a_reply_begin ?l_reply_begin ?c_reply_begin ?k_reply_begin ?a_reply_things ?l_reply_things ?c_reply_things ?k_reply_things ?a_reply_rule ?l_reply_rule ?c_reply_rule ?k_reply_rule ?a_reply_is ?l_reply_is ?c_reply_is ?k_reply_is ?a_reply_most ?l_reply_most ?c_reply_most ?k_reply_most ?a_state_refusal ?l_state_refusal ?c_state_refusal ?k_state_refusal ?a_reply_next ?l_reply_next ?c_reply_next ?k_reply_next ?a_reply_last ?l_reply_last ?c_reply_last ?k_reply_last ?a_first_of ?l_first_of ?c_first_of ?k_first_of ?a_reply_count ?l_reply_count ?c_reply_count ?k_reply_count ?a_reply_orders ?l_reply_orders ?c_reply_orders ?k_reply_orders ?a_reply_order ?l_reply_order ?c_reply_order ?k_reply_order ?a_reply_paths ?l_reply_paths ?c_reply_paths ?k_reply_paths ?a_reply_hull ?l_reply_hull ?c_reply_hull ?k_reply_hull ?a_reply_corners ?l_reply_corners ?c_reply_corners ?k_reply_corners ?a_reply_plan ?l_reply_plan ?c_reply_plan ?k_reply_plan ?a_reply_to ?l_reply_to ?c_reply_to ?k_reply_to ?a_call_end ?l_call_end ?c_call_end ?k_call_end ?a_answers ?l_answers ?c_answers ?k_answers ?a_m_init ?i_m_init ?l_m_init ?c_m_init ?k_m_init ?a_m_restart ?i_m_restart ?l_m_restart ?c_m_restart ?k_m_restart ?a_m_add_rule ?i_m_add_rule ?l_m_add_rule ?c_m_add_rule ?k_m_add_rule ?a_m_forget ?i_m_forget ?l_m_forget ?c_m_forget ?k_m_forget ?a_m_has_thing ?i_m_has_thing ?l_m_has_thing ?c_m_has_thing ?k_m_has_thing ?a_m_holds ?i_m_holds ?l_m_holds ?c_m_holds ?k_m_holds ?a_m_everything ?i_m_everything ?l_m_everything ?c_m_everything ?k_m_everything ?a_m_takes_rule ?i_m_takes_rule ?l_m_takes_rule ?c_m_takes_rule ?k_m_takes_rule ?a_m_all_nexts ?i_m_all_nexts ?l_m_all_nexts ?c_m_all_nexts ?k_m_all_nexts ?a_m_all_ways ?i_m_all_ways ?l_m_all_ways ?c_m_all_ways ?k_m_all_ways ?a_m_all_paths ?i_m_all_paths ?l_m_all_paths ?c_m_all_paths ?k_m_all_paths ?pg ?hd ?po ?sa ?mk ?kc ?n_amount ?n_nexts ?n_paths ?n_rules ?n_ways ?cc_cheapest ?lc_cheapest ?cp_cheapest ?g_MOST_THINGS ?g_MOST_RULES ?g_MOST_SETS ?g_PLAN ?z_len ?z_list ?z_min ?z_range ?z_reversed ?z_sorted ?z_sum ?g_REPLIES ?d_REPLIES_ ?g_WIDTHS ?d_WIDTHS_
      (case e_Learning => k_is)
      (case a_things_in => k_is)
      (case l_things_in => k_is)
      (case c_things_in => k_is)
      (case k_things_in => k_is)
      (case a_taught => k_is)
      (case l_taught => k_is)
      (case c_taught => k_is)
      (case k_taught => k_is)
      (case a_greatest_state => k_is)
      (case l_greatest_state => k_is)
      (case c_greatest_state => k_is)
      (case k_greatest_state => k_is)
      (case a_is_state => k_is)
      (case l_is_state => k_is)
      (case c_is_state => k_is)
      (case k_is_state => k_is)
      (case a_things_next => k_is)
      (case l_things_next => k_is)
      (case c_things_next => k_is)
      (case k_things_next => k_is)
      (case a_things_last => k_is)
      (case l_things_last => k_is)
      (case c_things_last => k_is)
      (case k_things_last => k_is)
      (case a_hull_of => k_is)
      (case l_hull_of => k_is)
      (case c_hull_of => k_is)
      (case k_hull_of => k_is)
      (case a_corners_of => k_is)
      (case l_corners_of => k_is)
      (case c_corners_of => k_is)
      (case k_corners_of => k_is)
      (case a_rules_needing => k_is)
      (case l_rules_needing => k_is)
      (case c_rules_needing => k_is)
      (case k_rules_needing => k_is)
      (case a_states_behind => k_is)
      (case l_states_behind => k_is)
      (case c_states_behind => k_is)
      (case k_states_behind => k_is)
      (case a_nexts_by_state => k_is)
      (case l_nexts_by_state => k_is)
      (case c_nexts_by_state => k_is)
      (case k_nexts_by_state => k_is)
      (case a_ways_by_state => k_is)
      (case l_ways_by_state => k_is)
      (case c_ways_by_state => k_is)
      (case k_ways_by_state => k_is)
      (case a_order_behind => k_is)
      (case l_order_behind => k_is)
      (case c_order_behind => k_is)
      (case k_order_behind => k_is)
      (case a_lasts_by_state => k_is)
      (case l_lasts_by_state => k_is)
      (case c_lasts_by_state => k_is)
      (case k_lasts_by_state => k_is)
      (case a_paths_by_thing => k_is)
      (case l_paths_by_thing => k_is)
      (case c_paths_by_thing => k_is)
      (case k_paths_by_thing => k_is)
      (case a_cheapest => k_is)
      (case l_cheapest => k_is)
      (case c_cheapest => k_is)
      (case k_cheapest => k_is)
      (case a_planned_order => k_is)
      (case l_planned_order => k_is)
      (case c_planned_order => k_is)
      (case k_planned_order => k_is)
      (case a_reply_begin => k_is)
      (case l_reply_begin => k_is)
      (case c_reply_begin => k_is)
      (case k_reply_begin => k_is)
      (case a_reply_things => k_is)
      (case l_reply_things => k_is)
      (case c_reply_things => k_is)
      (case k_reply_things => k_is)
      (case a_reply_rule => k_is)
      (case l_reply_rule => k_is)
      (case c_reply_rule => k_is)
      (case k_reply_rule => k_is)
      (case a_reply_is => k_is)
      (case l_reply_is => k_is)
      (case c_reply_is => k_is)
      (case k_reply_is => k_is)
      (case a_reply_most => k_is)
      (case l_reply_most => k_is)
      (case c_reply_most => k_is)
      (case k_reply_most => k_is)
      (case a_state_refusal => k_is)
      (case l_state_refusal => k_is)
      (case c_state_refusal => k_is)
      (case k_state_refusal => k_is)
      (case a_reply_next => k_is)
      (case l_reply_next => k_is)
      (case c_reply_next => k_is)
      (case k_reply_next => k_is)
      (case a_reply_last => k_is)
      (case l_reply_last => k_is)
      (case c_reply_last => k_is)
      (case k_reply_last => k_is)
      (case a_first_of => k_is)
      (case l_first_of => k_is)
      (case c_first_of => k_is)
      (case k_first_of => k_is)
      (case a_reply_count => k_is)
      (case l_reply_count => k_is)
      (case c_reply_count => k_is)
      (case k_reply_count => k_is)
      (case a_reply_orders => k_is)
      (case l_reply_orders => k_is)
      (case c_reply_orders => k_is)
      (case k_reply_orders => k_is)
      (case a_reply_order => k_is)
      (case l_reply_order => k_is)
      (case c_reply_order => k_is)
      (case k_reply_order => k_is)
      (case a_reply_paths => k_is)
      (case l_reply_paths => k_is)
      (case c_reply_paths => k_is)
      (case k_reply_paths => k_is)
      (case a_reply_hull => k_is)
      (case l_reply_hull => k_is)
      (case c_reply_hull => k_is)
      (case k_reply_hull => k_is)
      (case a_reply_corners => k_is)
      (case l_reply_corners => k_is)
      (case c_reply_corners => k_is)
      (case k_reply_corners => k_is)
      (case a_reply_plan => k_is)
      (case l_reply_plan => k_is)
      (case c_reply_plan => k_is)
      (case k_reply_plan => k_is)
      (case a_reply_to => k_is)
      (case l_reply_to => k_is)
      (case c_reply_to => k_is)
      (case k_reply_to => k_is)
      (case a_call_end => k_is)
      (case l_call_end => k_is)
      (case c_call_end => k_is)
      (case k_call_end => k_is)
      (case a_answers => k_is)
      (case l_answers => k_is)
      (case c_answers => k_is)
      (case k_answers => k_is)
      (case a_m_init => k_is)
      (case i_m_init => k_is)
      (case l_m_init => k_is)
      (case c_m_init => k_is)
      (case k_m_init => k_is)
      (case a_m_restart => k_is)
      (case i_m_restart => k_is)
      (case l_m_restart => k_is)
      (case c_m_restart => k_is)
      (case k_m_restart => k_is)
      (case a_m_add_rule => k_is)
      (case i_m_add_rule => k_is)
      (case l_m_add_rule => k_is)
      (case c_m_add_rule => k_is)
      (case k_m_add_rule => k_is)
      (case a_m_forget => k_is)
      (case i_m_forget => k_is)
      (case l_m_forget => k_is)
      (case c_m_forget => k_is)
      (case k_m_forget => k_is)
      (case a_m_has_thing => k_is)
      (case i_m_has_thing => k_is)
      (case l_m_has_thing => k_is)
      (case c_m_has_thing => k_is)
      (case k_m_has_thing => k_is)
      (case a_m_holds => k_is)
      (case i_m_holds => k_is)
      (case l_m_holds => k_is)
      (case c_m_holds => k_is)
      (case k_m_holds => k_is)
      (case a_m_everything => k_is)
      (case i_m_everything => k_is)
      (case l_m_everything => k_is)
      (case c_m_everything => k_is)
      (case k_m_everything => k_is)
      (case a_m_takes_rule => k_is)
      (case i_m_takes_rule => k_is)
      (case l_m_takes_rule => k_is)
      (case c_m_takes_rule => k_is)
      (case k_m_takes_rule => k_is)
      (case a_m_all_nexts => k_is)
      (case i_m_all_nexts => k_is)
      (case l_m_all_nexts => k_is)
      (case c_m_all_nexts => k_is)
      (case k_m_all_nexts => k_is)
      (case a_m_all_ways => k_is)
      (case i_m_all_ways => k_is)
      (case l_m_all_ways => k_is)
      (case c_m_all_ways => k_is)
      (case k_m_all_ways => k_is)
      (case a_m_all_paths => k_is)
      (case i_m_all_paths => k_is)
      (case l_m_all_paths => k_is)
      (case c_m_all_paths => k_is)
      (case k_m_all_paths => k_is)
      (case pg => k_is)
      (case hd => k_is)
      (case po => k_is)
      (case sa => k_is)
      (case mk => k_is)
      (case kc => k_is)
      (case n_amount => k_is)
      (case n_nexts => k_is)
      (case n_paths => k_is)
      (case n_rules => k_is)
      (case n_ways => k_is)
      (case cc_cheapest => exact rfl)
      (case lc_cheapest => k_is)
      (case cp_cheapest => exact rfl)
      (case g_MOST_THINGS => k_is)
      (case g_MOST_RULES => k_is)
      (case g_MOST_SETS => k_is)
      (case g_PLAN => k_is)
      (case z_len => k_is)
      (case z_list => k_is)
      (case z_min => k_is)
      (case z_range => k_is)
      (case z_reversed => k_is)
      (case z_sorted => k_is)
      (case z_sum => k_is)
      (case g_REPLIES => k_is)
      (case d_REPLIES_ => k_is)
      (case g_WIDTHS => k_is)
      (case d_WIDTHS_ => k_is)
    obtain ⟨a, T⟩ := T
    have e0 := hmg.symm.trans T.answers_mg
    cases e0
    have hfd := T.answers.fn.ex
    obtain ⟨oc, od, kV, doc, pm, an, cdv, ct, osl, efd, lk, hcd⟩ := hfd
    exact ⟨a.answersD, a.cheapestC, a.cheapestP, fun s u => by rw [efd]; exact .of_eq rfl, T.cheapest_tab, fun base kb nb bm => Lq.ok_answers T bm kb⟩
#print axioms PySem.Challenge.cw_learntpath_s01_answers_holds

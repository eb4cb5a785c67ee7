import PyProof.Rows.All
import Wide.All
import OpenK.AllK
import Wide.FinOn
import PyProof.EqAt
import PyProof.EqKinds
import PyProof.TupleCall
import KE.BitLaws
import Open.SpecLaws
import KE.OsHead
import KE.OsGo
import PySem.Challenge.RW_datecubes_s01_answers
set_option Elab.async false
set_option linter.all false
set_option maxRecDepth 100000
/-! THE HAND LAYER, for ints, bools, texts, own classes, lists, tuples, dicts, comprehensions, walks over dicts, enumerate, zip, reversed, texts, calls, loops. Paste it whole ahead of your own text; what your proof does not reach may be deleted. -/
namespace L2
open PySem PySem.Spec PyProof.Rows

/-- a key: an int or a str -/
abbrev Key := Sum Int Str
def keyIs : Key → Value → Bool
  | .inl k, v => Value.isInt k v
  | .inr x, v => Value.isStrOf x v
def keyH (w : World) : Key → Int
  | .inl k => hashInt k
  | .inr x => hashStr w x
theorem keyIs_shape : ∀ {k : Key} {v : Value}, keyIs k v = true → (∃ i t, k = Sum.inl i ∧ v = Value.int i t) ∨ (∃ x t, k = Sum.inr x ∧ v = Value.str x t)
  | .inl i, v, h => by
    obtain ⟨t, e⟩ := Value.isInt_shape (k := i) (v := v) h
    exact .inl ⟨i, t, rfl, e⟩
  | .inr x, v, h => by
    obtain ⟨t, e⟩ := Value.isStrOf_shape (x := x) (v := v) h
    exact .inr ⟨x, t, rfl, e⟩
theorem keyIs_int (i : Int) (t : Tok) : keyIs (.inl i) (.int i t) = true := by simp [keyIs, Value.isInt]
theorem keyIs_str (x : Str) (t : Tok) : keyIs (.inr x) (.str x t) = true := by simp [keyIs, Value.isStrOf]
theorem key_ll (a b : Int) : decide ((Sum.inl a : Key) = Sum.inl b) = (a == b) := by
  by_cases e : a = b
  · subst e; simp
  · have h : ¬ (Sum.inl a : Key) = Sum.inl b := fun q => e (Sum.inl.inj q)
    rw [decide_eq_false h]
    exact (beq_eq_false_iff_ne.mpr e).symm
theorem key_rr (a b : Str) : decide ((Sum.inr a : Key) = Sum.inr b) = decide (a = b) := by
  by_cases e : a = b
  · subst e; simp
  · have h : ¬ (Sum.inr a : Key) = Sum.inr b := fun q => e (Sum.inr.inj q)
    rw [decide_eq_false h, decide_eq_false e]
theorem key_lr (a : Int) (b : Str) : decide ((Sum.inl a : Key) = Sum.inr b) = false := decide_eq_false (fun q => nomatch q)
theorem key_rl (a : Str) (b : Int) : decide ((Sum.inr a : Key) = Sum.inl b) = false := decide_eq_false (fun q => nomatch q)

def mixKind (prog : Program) (w : World) : PySem.KeyKind prog w Key where
  is := keyIs
  hash := keyH w
  inj := fun v a b ha hb => by
    rcases keyIs_shape ha with ⟨i, t, rfl, rfl⟩ | ⟨x, t, rfl, rfl⟩
    · rcases keyIs_shape hb with ⟨j, u, rfl, e⟩ | ⟨y, u, rfl, e⟩
      · injection e with e1 _; rw [e1]
      · exact nomatch e
    · rcases keyIs_shape hb with ⟨j, u, rfl, e⟩ | ⟨y, u, rfl, e⟩
      · exact nomatch e
      · injection e with e1 _; rw [e1]
  byValue := fun k v h => by
    rcases keyIs_shape h with ⟨i, t, rfl, rfl⟩ | ⟨x, t, rfl, rfl⟩ <;> rfl
  pyHash := fun hv h => by
    rcases keyIs_shape hv with ⟨i, t, rfl, rfl⟩ | ⟨x, t, rfl, rfl⟩
    · exact wpAny_pyHash_int h
    · exact wpAny_pyHash_str h
  eqBool := fun hu hv h => by
    rcases keyIs_shape hu with ⟨i, t, rfl, rfl⟩ | ⟨x, t, rfl, rfl⟩
    · rcases keyIs_shape hv with ⟨j, u, rfl, rfl⟩ | ⟨y, u, rfl, rfl⟩
      · rw [key_ll] at h; exact wpAny_eqBool_int h
      · rw [key_lr] at h; exact SeqAt.EqAt.int_str i t y u _ _ _ _ h
    · rcases keyIs_shape hv with ⟨j, u, rfl, rfl⟩ | ⟨y, u, rfl, rfl⟩
      · rw [key_rl] at h; exact SeqAt.EqAt.str_int x t j u _ _ _ _ h
      · rw [key_rr] at h; exact wpAny_eqBool_str h
  «strs» := fun k x t v h => by
    rcases keyIs_shape h with ⟨i, u, rfl, e⟩ | ⟨y, u, rfl, e⟩
    · exact nomatch e
    · injection e with e1 _
      subst e1
      cases v <;> rfl

theorem mixKind_int (prog : Program) (w : World) (i : Int) (t : Tok) : (mixKind prog w).is (.inl i) (.int i t) = true := keyIs_int i t
theorem mixKind_str (prog : Program) (w : World) (x : Str) (t : Tok) : (mixKind prog w).is (.inr x) (.str x t) = true := keyIs_str x t
end L2

namespace L2
open PySem PySem.Spec PyProof.Rows

/-- a value, without the heap -/
inductive V where
  | non | bl (b : Bool) | int (i : Int) | str (x : Str) | byt (b : Array UInt8) | flt (b : UInt64) | ref (a : Addr) | ty (n : String)
  deriving DecidableEq

def RelV : V → Value → Prop
  | .non, u => u = Value.none
  | .bl b, u => u = Value.bool b
  | .int i, u => ∃ t, u = Value.int i t
  | .str x, u => ∃ t, u = Value.str x t
  | .byt b, u => ∃ t, u = Value.bytes b t
  | .flt b, u => ∃ t, u = Value.float b t
  | .ref a, u => u = Value.ref a
  | .ty n, u => u = Value.type n

abbrev Vals : List V → List Value → Prop := Paired RelV
theorem Vals.length {xs : List V} {us : List Value} (r : Vals xs us) : xs.length = us.length := Paired.length r
theorem Vals.get : ∀ {xs : List V} {us : List Value} {i : Nat} {x : V}, Vals xs us → xs[i]? = some x → ∃ u, us[i]? = some u ∧ RelV x u
  | _, _, _, _, .nil, e => by simp at e
  | _, _, 0, _, .cons r _, e => by simp at e; subst e; exact ⟨_, rfl, r⟩
  | _, _, i + 1, x, .cons _ t, e => by
    obtain ⟨u, h1, h2⟩ := Vals.get (i := i) (x := x) t (by simpa using e)
    exact ⟨u, by simpa using h1, h2⟩
theorem Vals.set {x : V} {u : Value} (r : RelV x u) : ∀ {xs : List V} {us : List Value} (i : Nat), Vals xs us → Vals (xs.set i x) (us.set i u)
  | _, _, _, .nil => .nil
  | _, _, 0, .cons _ t => .cons r t
  | _, _, i + 1, .cons q t => .cons q (Vals.set r i t)
theorem Vals.append : ∀ {xs ys : List V} {us ws : List Value}, Vals xs us → Vals ys ws → Vals (xs ++ ys) (us ++ ws)
  | _, _, _, _, .nil, s => s
  | _, _, _, _, .cons r t, s => .cons r (Vals.append t s)
theorem Vals.take : ∀ {xs : List V} {us : List Value} (n : Nat), Vals xs us → Vals (xs.take n) (us.take n)
  | _, _, 0, _ => .nil
  | _, _, _ + 1, .nil => .nil
  | _, _, n + 1, .cons r t => .cons r (Vals.take n t)
theorem Vals.drop : ∀ {xs : List V} {us : List Value} (n : Nat), Vals xs us → Vals (xs.drop n) (us.drop n)
  | _, _, 0, r => r
  | _, _, _ + 1, .nil => .nil
  | _, _, n + 1, .cons _ t => Vals.drop n t

def RelO : Option V → Option Value → Prop
  | some v, some u => RelV v u
  | none, none => True
  | _, _ => False
def KV {κ : Type} : List (κ × V) → List (κ × Value) → Prop := Paired fun (p : κ × V) (q : κ × Value) => p.1 = q.1 ∧ RelV p.2 q.2

/-- a key of a dict (00_mix): an int or a text -/
def kV : Key → V
  | .inl i => .int i
  | .inr x => .str x

/-- what stands at a tracked address -/
inductive HO where
  /-- a list -/
  | lst (xs : List V)
  /-- a tuple (never changes) -/
  | tup (xs : List V)
  /-- a dict whose keys are ints and texts; one whose keys are tuples of ints and texts (the empty one is both) -/
  | dK (kvs : List (Key × V)) | dT (kvs : List (List Key × V))
  /-- a set of ints: its members, its size -/
  | set (S : Int → Bool) (n : Nat)
  /-- an instance of the class at C, its dict at dx, its attributes -/
  | ins (C dx : Addr) (fs : List (Str × V))
  /-- the dict of the instance at x -/
  | own (x : Addr)
  /-- the dict of an exception -/
  | xd (fs : List (Str × V))
  /-- a bound method, f of x -/
  | met (f x : Addr)
  /-- a range object lo, lo + 1, .. below hi -/
  | rng (lo hi : Int)
  /-- a thing that is known to the object (the script; a dict while a loop walks it): read, never written while it is so -/
  | frz (o : Obj) (u : HO)
  /-- a code object's table -/
  | tbl (ps : Array Value)
  /-- any other thing, by what is true of its one object (a def of one's own: SetO a S n := HO.ext fun h => ..) -/
  | ext (φ : Heap → Prop)

abbrev Hp := Addr → Option HO
def upd (H : Hp) (a : Addr) (o : HO) : Hp := fun b => if b = a then some o else H b
theorem upd_same {H : Hp} {a : Addr} {o : HO} : upd H a o a = some o := by unfold upd; rw [if_pos rfl]
theorem upd_ne {H : Hp} {a b : Addr} {o : HO} (h : b ≠ a) : upd H a o b = H b := by unfold upd; rw [if_neg h]
/-- two objects of different content stand apart -/
theorem ne_of {H : Hp} {a b : Addr} {o u : HO} (h : H a = some o) (h' : H b = some u) (d : o ≠ u) : a ≠ b := by
  intro e; subst e; rw [h] at h'; exact d (Option.some.inj h')
theorem ne_of_none {H : Hp} {a b : Addr} {o : HO} (h : H a = some o) (h' : H b = none) : a ≠ b := by
  intro e; subst e; rw [h] at h'; cases h'

section
variable (P : Program) (w : World)
def ObjOk (H : Hp) (h : Heap) (a : Addr) : HO → Prop
  | .lst xs => xs.length ≤ sizeLine ∧ ∃ (its : List Value) (n : Nat), Vals xs its ∧ h.get? a = some { cls := .type "list", data := .seq its.toArray n }
  | .tup xs => xs.length ≤ sizeLine ∧ ∃ its : List Value, Vals xs its ∧ IsTup h a its.toArray
  | .dK kvs => kvs.length ≤ sizeLine ∧ (a == sysModules) = false ∧ ∃ vs, KV kvs vs ∧ h.DictOf (mixKind P w) a vs
  | .dT kvs => kvs.length ≤ sizeLine ∧ (a == sysModules) = false ∧ ∃ xs : List (List Key × Addr × Value),
      Paired (fun (p : List Key × V) (q : List Key × Addr × Value) => p.1 = q.1 ∧ H q.2.1 = some (.tup (p.1.map kV)) ∧ RelV p.2 q.2.2) kvs xs ∧
      ∃ o es ep, h.get? a = some o ∧ o.ExactDict ∧ o.data = .dict es ep ∧ es.toList = xs.map (entryOfKey (tupleKind (mixKind P w))) ∧ (xs.map (·.1)).Nodup
  | .set S n => h.SetOf (intKind P w) a S n
  | .ins C dx fs => H dx = some (.own a) ∧ fs.length ≤ 1000 ∧ dx ≠ a ∧ h.get? a = some (PySem.W.instObj C dx) ∧
      ∃ mA, h.Ns1 dx mA ∧ (∀ f, RelO (fs.lookup f) (mA f)) ∧ PySem.Within mA (fs.map (·.1))
  | .own _ => ∃ o, h.get? a = some o
  | .xd fs => ∃ mA, h.Ns1 a mA ∧ ∀ f, RelO (fs.lookup f) (mA f)
  | .rng lo hi => ∃ t u v, h.get? a = some { cls := .type "range", data := .fields #[.int lo t, .int hi u, .int 1 v] }
  | .frz o u => h.get? a = some o ∧ ObjOk H h a u
  | .tbl ps => h.get? a = some { cls := .none, data := .fields ps }
  | .met f x => h.get? a = some (PySem.W.methodObj (.ref f) (.ref x))
  | .ext φ => φ h ∧ (∃ o, h.get? a = some o) ∧ ∀ h1 h2 : Heap, φ h1 → (∀ o, h1.get? a = some o → h2.get? a = some o) → φ h2
/-- the abstract heap is held -/
def HOk (H : Hp) (h : Heap) : Prop := ∀ a o, H a = some o → ObjOk P w H h a o
end

section
variable {P : Program} {w : World} {H H' : Hp} {h h' : Heap} {a : Addr} {o : HO}
theorem ObjOk.lt (x : ObjOk P w H h a o) : a < h.objs.size := by
  cases o with
  | lst xs => obtain ⟨_, _, _, _, e⟩ := x; exact Heap.lt_size e
  | tup xs => obtain ⟨_, _, _, p⟩ := x; exact p.lt
  | dK kvs => obtain ⟨_, _, _, _, o, _, _, e, _⟩ := x; exact Heap.lt_size e
  | dT kvs => obtain ⟨_, _, _, _, o, _, _, e, _⟩ := x; exact Heap.lt_size e
  | set S n => obtain ⟨o, _, _, _, e, _⟩ := x; exact Heap.lt_size e
  | ins C dx fs => obtain ⟨_, _, _, e, _⟩ := x; exact Heap.lt_size e
  | own y => obtain ⟨_, e⟩ := x; exact Heap.lt_size e
  | xd fs => obtain ⟨_, ⟨_, _, _, e, _⟩, _⟩ := x; exact Heap.lt_size e
  | rng lo hi => obtain ⟨_, _, _, e⟩ := x; exact Heap.lt_size e
  | frz ob u => obtain ⟨e, _⟩ := x; exact Heap.lt_size e
  | tbl ps => exact Heap.lt_size (show h.get? a = some _ from x)
  | met f y => exact Heap.lt_size (show h.get? a = some _ from x)
  | ext φ => obtain ⟨_, ⟨_, e⟩, _⟩ := x; exact Heap.lt_size e
theorem Paired.mapP {α β : Type} {F G : α → β → Prop} : ∀ {l₁ : List α} {l₂ : List β}, Paired F l₁ l₂ → (∀ a b, F a b → G a b) → Paired G l₁ l₂
  | _, _, .nil, _ => .nil
  | _, _, .cons r t, f => .cons (f _ _ r) (Paired.mapP t f)
/-- what an object's description leans on: its own object, its own dict, the tuples -/
theorem ObjOk.stay (x : ObjOk P w H h a o) (k : ∀ b u, (b = a ∨ H b = some (.own a)) → h.get? b = some u → h'.get? b = some u)
    (ho : ∀ b, H b = some (.own a) → H' b = some (.own a)) (ht : ∀ b xs, H b = some (.tup xs) → H' b = some (.tup xs)) : ObjOk P w H' h' a o := by
  induction o with
  | lst xs => obtain ⟨z, its, n, r, e⟩ := x; exact ⟨z, its, n, r, k _ _ (.inl rfl) e⟩
  | tup xs => obtain ⟨z, its, r, ob, e, c⟩ := x; exact ⟨z, its, r, ob, k _ _ (.inl rfl) e, c⟩
  | dK kvs => obtain ⟨z, y, vs, r, ob, es, ep, e, c⟩ := x; exact ⟨z, y, vs, r, ob, es, ep, k _ _ (.inl rfl) e, c⟩
  | dT kvs =>
    obtain ⟨z, y, xs, r, ob, es, ep, e, c⟩ := x
    exact ⟨z, y, xs, Paired.mapP r fun p q z => ⟨z.1, ht _ _ z.2.1, z.2.2⟩, ob, es, ep, k _ _ (.inl rfl) e, c⟩
  | set S n => obtain ⟨ob, es, ep, t, e, c⟩ := x; exact ⟨ob, es, ep, t, k _ _ (.inl rfl) e, c⟩
  | ins C dx fs =>
    obtain ⟨d, z, ne, e, mA, ⟨od, es, ep, e2, c⟩, r⟩ := x
    exact ⟨ho _ d, z, ne, k _ _ (.inl rfl) e, mA, ⟨od, es, ep, k _ _ (.inr d) e2, c⟩, r⟩
  | own y => obtain ⟨ob, e⟩ := x; exact ⟨ob, k _ _ (.inl rfl) e⟩
  | xd fs => obtain ⟨mA, ⟨od, es, ep, e, c⟩, r⟩ := x; exact ⟨mA, ⟨od, es, ep, k _ _ (.inl rfl) e, c⟩, r⟩
  | rng lo hi => obtain ⟨t, u, v, e⟩ := x; exact ⟨t, u, v, k _ _ (.inl rfl) e⟩
  | frz ob u ih => obtain ⟨e, q⟩ := x; exact ⟨k _ _ (.inl rfl) e, ih q⟩
  | tbl ps =>
    have e : h.get? a = some { cls := .none, data := .fields ps } := x
    show h'.get? a = some { cls := .none, data := .fields ps }
    exact k a _ (.inl rfl) e
  | met f y =>
    have e : h.get? a = some (PySem.W.methodObj (.ref f) (.ref y)) := x
    show h'.get? a = some (PySem.W.methodObj (.ref f) (.ref y))
    exact k a _ (.inl rfl) e
  | ext φ => obtain ⟨p, ⟨o, e⟩, st⟩ := x; exact ⟨st _ _ p fun o q => k _ _ (.inl rfl) q, ⟨o, k _ _ (.inl rfl) e⟩, st⟩
theorem HOk.lt (x : HOk P w H h) (e : H a = some o) : a < h.objs.size := (x a o e).lt
theorem HOk.fresh (x : HOk P w H h) (e : h.objs.size ≤ a) : H a = none := by
  cases q : H a with
  | none => rfl
  | some u => exact absurd (Nat.lt_of_lt_of_le (x.lt q) e) (Nat.lt_irrefl _)
/-- every object of the heap is kept -/
theorem HOk.kept (x : HOk P w H h) (k : ∀ b u, h.get? b = some u → h'.get? b = some u) : HOk P w H h' := fun a o e =>
  (x a o e).stay (fun b u _ q => k b u q) (fun _ q => q) fun _ _ q => q
/-- a new object is laid and tracked -/
theorem HOk.laid (x : HOk P w H h) (k : ∀ b u, h.get? b = some u → h'.get? b = some u) (hp : h.objs.size ≤ a) (new : ObjOk P w (upd H a o) h' a o) : HOk P w (upd H a o) h' := fun b u e => by
  have hn := x.fresh hp
  by_cases hb : b = a
  · subst hb; rw [upd_same] at e; cases e; exact new
  · rw [upd_ne hb] at e
    exact (x b u e).stay (fun c v _ q => k c v q) (fun c q => by rw [upd_ne (ne_of_none q hn)]; exact q) fun c xs q => by rw [upd_ne (ne_of_none q hn)]; exact q
end

/-- what may be read as u: it is u, or a known u -/
def Rd (H : Hp) (a : Addr) (u : HO) : Prop := H a = some u ∨ ∃ o, H a = some (.frz o u)
theorem Rd.ok {P : Program} {w : World} {H : Hp} {h : Heap} {a : Addr} {u : HO} (r : Rd H a u) (x : HOk P w H h) : ObjOk P w H h a u := by
  rcases r with r | ⟨o, r⟩
  · exact x a u r
  · obtain ⟨_, q⟩ := x a _ r
    exact q
/-- what may be written -/
def Mut : Option HO → Prop
  | some (.lst _) => True
  | some (.dK _) => True
  | some (.dT _) => True
  | some (.set _ _) => True
  | some (.ins _ _ _) => True
  | some (.ext _) => True
  | _ => False
section
variable {P : Program} {w : World} {H : Hp} {h h' : Heap} {x e : Addr} {o' : HO}
/-- the object at e is changed: x itself, or the dict of the instance x -/
theorem HOk.write (ok : HOk P w H h) (mu : Mut (H x)) (he : e = x ∨ H e = some (.own x)) (k : ∀ b u, b ≠ e → h.get? b = some u → h'.get? b = some u) (heo : ∃ u, h'.get? e = some u)
    (new : ObjOk P w (upd H x o') h' x o') : HOk P w (upd H x o') h' := fun b u q => by
  have nown : ∀ c y, H c = some (.own y) → c ≠ x := fun c y r z => by subst z; rw [r] at mu; exact mu
  have ntup : ∀ c xs, H c = some (.tup xs) → c ≠ x := fun c xs r z => by subst z; rw [r] at mu; exact mu
  by_cases hb : b = x
  · subst hb; rw [upd_same] at q; cases q; exact new
  · rw [upd_ne hb] at q
    by_cases hbe : b = e
    · have q' : H b = some (.own x) := by
        rcases he with z | z
        · exact absurd (hbe.trans z) hb
        · rw [hbe]; exact z
      rw [q] at q'; cases q'
      obtain ⟨v, hv⟩ := heo
      exact ⟨v, by rw [hbe]; exact hv⟩
    · refine (ok b u q).stay (fun c v hc r => k c v ?_ r) (fun c r => by rw [upd_ne (nown c b r)]; exact r) fun c xs r => by rw [upd_ne (ntup c xs r)]; exact r
      rcases hc with rfl | hc
      · exact hbe
      · rintro rfl
        rcases he with z | z
        · exact nown c b hc z
        · rw [hc] at z; cases z; exact hb rfl
end

/-! ### kept unless tracked; of the frames at fs (the callers') the slots may change (an exception that passes writes there); of the records at ex (iterators) nothing is said -/
structure Un (fs ex : List Addr) (H H' : Hp) (h h' : Heap) : Prop where
  keep : ∀ b o, h.get? b = some o → H b = none → b ∉ fs → b ∉ ex → h'.get? b = some o
  slot : ∀ b o, h.get? b = some o → H b = none → b ∈ fs → b ∉ ex → ∃ sl, h'.get? b = some { o with slots := sl }
  free : ∀ b o, h.get? b = some o → H b = none → b ∉ ex → H' b = none
  there : ∀ b o, h.get? b = some o → b ∉ ex → ∃ o', h'.get? b = some o'
  tups : ∀ b xs, H b = some (.tup xs) → H' b = some (.tup xs)
  frzs : ∀ b o u, H b = some (.frz o u) → H' b = some (.frz o u)
  tbls : ∀ b ps, H b = some (.tbl ps) → ∃ more, H' b = some (.tbl (ps ++ more))
section
variable {fs fs' ex ex' : List Addr} {H H1 H2 : Hp} {h h1 h2 h' : Heap} {a x e : Addr} {o : HO}
theorem Un.any (u : Un fs ex H H1 h h1) {b : Addr} {ob : Obj} (q : h.get? b = some ob) (n : H b = none) (hx : b ∉ ex) : ∃ sl, h1.get? b = some { ob with slots := sl } := by
  by_cases hb : b ∈ fs
  · exact u.slot b ob q n hb hx
  · exact ⟨ob.slots, u.keep b ob q n hb hx⟩
theorem Un.kept (k : ∀ b u, h.get? b = some u → h'.get? b = some u) : Un fs ex H H h h' :=
  ⟨fun b ob q _ _ _ => k b ob q, fun b ob q _ _ _ => ⟨ob.slots, k b ob q⟩, fun _ _ _ n _ => n, fun b ob q _ => ⟨ob, k b ob q⟩, fun _ _ q => q, fun _ _ _ q => q, fun _ ps q => ⟨#[], by rw [q]; simp⟩⟩
theorem Un.refl : Un fs ex H H h h := Un.kept fun _ _ q => q
theorem Un.laid (k : ∀ b u, h.get? b = some u → h'.get? b = some u) (hp : h.objs.size ≤ a) (hn : H a = none) : Un fs ex H (upd H a o) h h' where
  keep := fun b u q _ _ _ => k b u q
  slot := fun b u q _ _ _ => ⟨u.slots, k b u q⟩
  free := fun b u q n _ => by rw [upd_ne (Nat.ne_of_lt (Nat.lt_of_lt_of_le (Heap.lt_size q) hp))]; exact n
  there := fun b u q _ => ⟨u, k b u q⟩
  tups := fun b xs q => by rw [upd_ne (ne_of_none q hn)]; exact q
  frzs := fun b u xs q => by rw [upd_ne (ne_of_none q hn)]; exact q
  tbls := fun b ps q => ⟨#[], by rw [upd_ne (ne_of_none q hn), q]; simp⟩
theorem Un.write (mu : Mut (H x)) (he : e = x ∨ H e = some (.own x)) (k : ∀ b u, b ≠ e → h.get? b = some u → h'.get? b = some u) (heo : ∃ u, h'.get? e = some u) : Un fs ex H (upd H x o) h h' := by
  have hx : ∀ b, H b = none → b ≠ x := fun b n z => by subst z; rw [n] at mu; exact mu
  have hb : ∀ b, H b = none → b ≠ e := fun b n z => by
    subst z
    rcases he with r | r
    · exact hx b n r
    · rw [n] at r; cases r
  have hm : ∀ b u, H b = some u → ¬ Mut (some u) → b ≠ x := fun b u q nm z => by subst z; rw [q] at mu; exact nm mu
  refine ⟨fun b u q n _ _ => k b u (hb b n) q, fun b u q n _ _ => ⟨u.slots, k b u (hb b n) q⟩, fun b u q n _ => by rw [upd_ne (hx b n)]; exact n, fun b u q _ => ?_,
    fun b xs q => by rw [upd_ne (hm b _ q fun z => z)]; exact q, fun b u xs q => by rw [upd_ne (hm b _ q fun z => z)]; exact q, fun b ps q => ⟨#[], by rw [upd_ne (hm b _ q fun z => z), q]; simp⟩⟩
  by_cases hbe : b = e
  · subst hbe; exact heo
  · exact ⟨u, k b u hbe q⟩
end

/-! ### the heap without what is tracked -/
def trk (h : Heap) (H : Hp) : List Addr := (List.range h.objs.size).filter fun a => (H a).isSome
def hidT (h : Heap) (H : Hp) : Heap := PySem.W.hideAll h (trk h H)
theorem hidT_size (h : Heap) (H : Hp) : (hidT h H).objs.size = h.objs.size := PySem.W.hideAll_size _ _
theorem hidT_get {h : Heap} {H : Hp} {b : Addr} {o : Obj} (e : h.get? b = some o) (n : H b = none) : (hidT h H).get? b = some o :=
  PySem.W.hideAll_get _ e fun hm => by
    have q : (H b).isSome = true := (List.mem_filter.mp hm).2
    rw [n] at q; simp at q
theorem of_hidT {h : Heap} {H : Hp} {b : Addr} {o : Obj} (e : (hidT h H).get? b = some o) : h.get? b = some o ∧ H b = none := by
  have e' : h.get? b = some o := PySem.W.of_hideAll (trk h H) e
  refine ⟨e', ?_⟩
  cases q : H b with
  | none => rfl
  | some x =>
    have hm : b ∈ trk h H := List.mem_filter.mpr ⟨List.mem_range.mpr (Heap.lt_size e'), by simp [q]⟩
    have z : (hidT h H).get? b = none := PySem.W.hideAll_none (trk h H) hm
    rw [z] at e; cases e

/-! ### OpenK's ledger, filled with every new object but one -/
end L2

namespace L2
open PySem PySem.Spec PyProof.Rows

/-- the module's facts, over the base: the heap at the law's entry without what is tracked there -/
structure Mod (K : PySem.W.Frag) (mg : Str → Option Value) (base : Heap) : Prop where
  kin : K.In base
  glob : base.Ns mainGlobals mg
  blt : ∃ mb, base.Ns builtinsNs mb ∧ ∀ x : Str, x ≠ "__name__" → mb x = bootBuiltins x
  nolimit : base.NoLimit

/-- the context: a def's body (or a comprehension's block) running. base: fixed through the whole law; s₀, H₀: the entry; outer: the frames whose slots others may change (a def's callers); stack: all frames that run;
   ex: iterators that were made ahead of the entry and are walked here (a comprehension's); fn: the names whose cells were made at the entry (a def: all; a comprehension's block: its own); calm: not within an except suite; pn: pins that every state bears; xe: what is wanted of an exception that leaves the code -/
structure Cx where
  prog : Program
  w : World
  K : PySem.W.Frag
  mg : Str → Option Value
  base : Heap
  A : Around
  N : List Str
  s_0 : Shared
  H_0 : Hp
  env : Env
  outer : List Env
  stack : List Env
  ex : List Addr
  fn : Str → Bool
  calm : Bool
  pn : List (Addr × Obj)
  xe : Value → Shared → Prop
/-- the callers' frames -/
def frs (l : List Env) : List Addr := l.filterMap (·.frame)
abbrev Cx.fs (X : Cx) : List Addr := frs X.outer

def Vis (sc : Scope) (x : Str) : Prop := sc.names.lookup x = some .local ∨ sc.names.lookup x = some .cell ∨ sc.names.lookup x = some .free
def Loc (sc : Scope) (x : Str) : Prop := sc.names.lookup x = some .local ∨ sc.names.lookup x = some .cell
def Look (env : Env) (h : Heap) (m : Str → Option Value) (x : Str) (u : Value) : Prop :=
  (env.kindOf x = some .local ∧ m x = some u) ∨ ((env.kindOf x = some .cell ∨ env.kindOf x = some .free) ∧ ∃ c, env.cells.lookup x = some c ∧ h.IsCell c (some u))

structure Cx.Ok (X : Cx) : Prop where
  mod : Mod X.K X.mg X.base
  kind : X.env.scope.kind = .function
  glob : X.env.globals = mainGlobals
  blt : X.env.builtins = builtinsNs
  above : X.s_0.heap.objs.size ≤ X.env.locals
  inj : ∀ x y c, X.env.cells.lookup x = some c → X.env.cells.lookup y = some c → x = y
  has : ∀ x, (X.env.kindOf x = some .cell ∨ X.env.kindOf x = some .free) → ∃ c, X.env.cells.lookup x = some c
  cab : ∀ x c, X.fn x = true → X.env.cells.lookup x = some c → X.s_0.heap.objs.size ≤ c
  hd : X.calm = true → X.A.handled = none
  frames : X.A.frames = some X.stack
  stk : X.stack = X.outer ∨ (X.stack = X.env :: X.outer ∧ X.env.frame = some X.env.locals)
  exf : ∀ b ∈ X.ex, b ≠ X.env.locals ∧ ∀ x c, X.env.cells.lookup x = some c → c ≠ b
  bs : ∀ b o, X.base.get? b = some o → X.s_0.heap.get? b = some o ∧ X.H_0 b = none
  bsz : X.base.objs.size ≤ X.s_0.heap.objs.size
  noex : ∀ b o, X.base.get? b = some o → b ∉ X.ex
  exfs : ∀ b ∈ X.ex, b ∉ X.fs
  funs : X.s_0.heap.FunFrames X.base X.outer
  frf : ∀ b ∈ X.fs, X.H_0 b = none

structure Inv (X : Cx) (pins : List (Addr × Obj)) (σ : List (Option V)) (H : Hp) (s : Shared) : Prop where
  ok : X.Ok
  os : s.os = X.s_0.os
  bare : AllBare s.gens
  base : Un X.fs X.ex X.H_0 H X.s_0.heap s.heap
  loc : ∃ m, s.heap.Ns X.env.locals m ∧ ∀ (i : Nat) (x : Str) (v : V), X.N[i]? = some x → σ[i]? = some (some v) → Vis X.env.scope x → ∃ u, RelV v u ∧ Look X.env s.heap m x u
  cell : ∀ x c, X.env.cells.lookup x = some c → ∃ v, s.heap.IsCell c v
  free : H X.env.locals = none
  freeC : ∀ x c, X.env.cells.lookup x = some c → H c = none
  pin : ∀ p ∈ X.pn ++ pins, s.heap.get? p.1 = some p.2 ∧ H p.1 = none ∧ p.1 ≠ X.env.locals ∧ p.1 ∉ X.fs ∧ ∀ v, p.2.data ≠ .cell v
  hok : HOk X.prog X.w H s.heap
  len : σ.length = X.N.length

section
variable {X : Cx} {pins : List (Addr × Obj)} {σ : List (Option V)} {H H' : Hp} {s : Shared} {h' : Heap}

theorem Cx.Ok.nofr (ok : X.Ok) {b : Addr} {o : Obj} (e : X.base.get? b = some o) : b ∉ X.fs := fun hb => by
  have := (ok.funs.mem hb).1
  rw [e] at this; cases this
theorem Inv.bs (I : Inv X pins σ H s) : ∀ b o, X.base.get? b = some o → s.heap.get? b = some o ∧ H b = none := fun b o e =>
  ⟨I.base.keep b o (I.ok.bs b o e).1 (I.ok.bs b o e).2 (I.ok.nofr e) (I.ok.noex b o e), I.base.free b o (I.ok.bs b o e).1 (I.ok.bs b o e).2 (I.ok.noex b o e)⟩
theorem Inv.bk (I : Inv X pins σ H s) : ∀ b o, X.base.get? b = some o → s.heap.get? b = some o := fun b o e => (I.bs b o e).1
theorem Inv.mod (I : Inv X pins σ H s) : Mod X.K X.mg X.base := I.ok.mod
theorem Inv.kIn (I : Inv X pins σ H s) : X.K.In s.heap := I.ok.mod.kin.keeps I.bk
theorem Inv.lt (I : Inv X pins σ H s) : X.env.locals < s.heap.objs.size := let ⟨_, hn, _⟩ := I.loc; hn.lt
theorem Inv.sz (I : Inv X pins σ H s) : X.s_0.heap.objs.size ≤ s.heap.objs.size := Nat.le_trans I.ok.above (Nat.le_of_lt I.lt)
theorem Inv.nofs (I : Inv X pins σ H s) {a : Addr} (h : s.heap.objs.size ≤ a) : a ∉ X.fs := fun hb => by
  obtain ⟨_, o, ho, _⟩ := I.ok.funs.mem hb
  exact absurd (Nat.lt_of_lt_of_le (Heap.lt_size ho) (Nat.le_trans I.sz h)) (Nat.lt_irrefl _)
theorem Inv.cne (I : Inv X pins σ H s) : ∀ x c, X.env.cells.lookup x = some c → c ≠ X.env.locals := fun x c e z => by
  obtain ⟨v, o, ho, hd⟩ := I.cell x c e
  obtain ⟨m, ⟨o', es, ep, ho', hd', _⟩, _⟩ := I.loc
  rw [z, ho'] at ho; cases ho; rw [hd'] at hd; cases hd
theorem Inv.funs (I : Inv X pins σ H s) : s.heap.FunFrames X.base X.outer := by
  have all : ∀ (l : List Env), (∀ b ∈ frs l, b ∈ X.fs) → X.s_0.heap.FunFrames X.base l → s.heap.FunFrames X.base l := by
    intro l
    induction l with
    | nil => intro _ _; trivial
    | cons env r ih =>
      intro hs hl
      obtain ⟨hk, ⟨L, o, hf, hn, ho, hd⟩, hr⟩ := hl
      have hL : L ∈ X.fs := hs L (by unfold frs; rw [List.filterMap_cons, hf]; exact List.mem_cons_self)
      obtain ⟨sl, e⟩ := I.base.slot L o ho (I.ok.frf L hL) hL fun z => I.ok.exfs L z hL
      exact ⟨hk, ⟨L, _, hf, hn, e, hd⟩, ih (fun b hb => hs b (by unfold frs; rw [List.filterMap_cons, hf]; exact List.mem_cons_of_mem _ hb)) hr⟩
  exact all X.outer (fun _ hb => hb) I.ok.funs

/-- the frames that run, for a call -/
theorem Inv.stack (I : Inv X pins σ H s) : s.heap.FunFrames X.base X.stack := by
  rcases I.ok.stk with e | ⟨e, hf⟩
  · rw [e]; exact I.funs
  · rw [e]
    obtain ⟨m, hn, _⟩ := I.loc
    refine .cons (by rw [I.ok.kind]; decide) hf hn ?_ I.funs
    exact Heap.get?_none_of_le (Nat.le_trans I.ok.bsz I.ok.above)
theorem Inv.stkSub (I : Inv X pins σ H s) : ∀ b ∈ frs X.stack, b ∈ X.env.locals :: X.fs := fun b hb => by
  rcases I.ok.stk with e | ⟨e, hf⟩
  · rw [e] at hb; exact List.mem_cons_of_mem _ hb
  · rw [e] at hb
    unfold frs at hb
    rw [List.filterMap_cons, hf] at hb
    exact hb
theorem Inv.stkFree (I : Inv X pins σ H s) : ∀ b ∈ frs X.stack, H b = none := fun b hb => by
  rcases List.mem_cons.mp (I.stkSub b hb) with e | hb
  · rw [e]; exact I.free
  · obtain ⟨_, o, ho, _⟩ := I.ok.funs.mem hb
    exact I.base.free b o ho (I.ok.frf b hb) fun z => I.ok.exfs b z hb

/-- THE STEP: the untracked objects but the frame and the records at ch are kept (the callers' frames up to slots), the frame's map is kept, the new abstract heap is held -/
theorem Inv.step {g' : Array GenState} {t' : Nat} {d' : Drawn} {ch : List Addr} (I : Inv X pins σ H s)
    (hch : ∀ b ∈ ch, (b ∈ X.ex ∨ X.s_0.heap.objs.size ≤ b) ∧ b ≠ X.env.locals ∧ (∀ x c, X.env.cells.lookup x = some c → c ≠ b) ∧ ∀ p ∈ X.pn ++ pins, p.1 ≠ b)
    (keep : ∀ b o, b ≠ X.env.locals → b ∉ X.fs → b ∉ ch → s.heap.get? b = some o → H b = none → h'.get? b = some o)
    (slot : ∀ b o, b ≠ X.env.locals → b ∈ X.fs → b ∉ ch → s.heap.get? b = some o → H b = none → ∃ sl, h'.get? b = some { o with slots := sl }) (free : ∀ b o, b ∉ ch → s.heap.get? b = some o → H b = none → H' b = none)
    (there : ∀ b o, b ∉ ch → s.heap.get? b = some o → ∃ o', h'.get? b = some o')
    (tups : ∀ b xs, H b = some (.tup xs) → H' b = some (.tup xs)) (frzs : ∀ b o u, H b = some (.frz o u) → H' b = some (.frz o u)) (tbls : ∀ b ps, H b = some (.tbl ps) → ∃ more, H' b = some (.tbl (ps ++ more)))
    (ns : ∀ m, s.heap.Ns X.env.locals m → h'.Ns X.env.locals m) (hok : HOk X.prog X.w H' h') (hg : AllBare g') :
    Inv X pins σ H' { s with heap := h', gens := g', drawn := d', toks := t' } := by
  have neL : ∀ b o, X.s_0.heap.get? b = some o → b ≠ X.env.locals := fun b o e => Nat.ne_of_lt (Nat.lt_of_lt_of_le (Heap.lt_size e) I.ok.above)
  have neC : ∀ b o, X.s_0.heap.get? b = some o → b ∉ X.ex → b ∉ ch := fun b o e hx hb => by
    rcases (hch b hb).1 with z | z
    · exact hx z
    · exact absurd (Nat.lt_of_lt_of_le (Heap.lt_size e) z) (Nat.lt_irrefl _)
  have cellK : ∀ x c, X.env.cells.lookup x = some c → ∀ v, s.heap.IsCell c v → h'.IsCell c v := fun x c e v ⟨o, ho, hd⟩ => by
    have nch : c ∉ ch := fun z => (hch c z).2.2.1 x c e rfl
    by_cases hc : c ∈ X.fs
    · obtain ⟨sl, q⟩ := slot c o (I.cne x c e) hc nch ho (I.freeC x c e)
      exact ⟨_, q, hd⟩
    · exact ⟨o, keep c o (I.cne x c e) hc nch ho (I.freeC x c e), hd⟩
  refine ⟨I.ok, I.os, hg, ⟨fun b o e n hb hx => ?_, fun b o e n hb hx => ?_, fun b o e n hx => ?_, fun b o e hx => ?_, fun b xs e => tups b xs (I.base.tups b xs e), fun b o xs e => frzs b o xs (I.base.frzs b o xs e), fun b ps e => ?_⟩, ?_, fun x c e => ?_, ?_, fun x c e => ?_, fun p hp => ?_, hok, I.len⟩
  · exact keep b o (neL b o e) hb (neC b o e hx) (I.base.keep b o e n hb hx) (I.base.free b o e n hx)
  · obtain ⟨sl, e1⟩ := I.base.slot b o e n hb hx
    obtain ⟨sl', e2⟩ := slot b _ (neL b o e) hb (neC b o e hx) e1 (I.base.free b o e n hx)
    exact ⟨sl', e2⟩
  · obtain ⟨o', e1⟩ := I.base.there b o e hx
    exact free b o' (neC b o e hx) e1 (I.base.free b o e n hx)
  · obtain ⟨o', e1⟩ := I.base.there b o e hx
    exact there b o' (neC b o e hx) e1
  · obtain ⟨m1, e1⟩ := I.base.tbls b ps e
    obtain ⟨m2, e2⟩ := tbls b _ e1
    exact ⟨m1 ++ m2, by rw [e2, Array.append_assoc]⟩
  · obtain ⟨m, hn, hl⟩ := I.loc
    refine ⟨m, ns m hn, fun i x v e1 e2 e3 => ?_⟩
    obtain ⟨u, r, l⟩ := hl i x v e1 e2 e3
    refine ⟨u, r, ?_⟩
    rcases l with l | ⟨k, c, e, z⟩
    · exact .inl l
    · exact .inr ⟨k, c, e, cellK x c e _ z⟩
  · obtain ⟨v, z⟩ := I.cell x c e
    exact ⟨v, cellK x c e v z⟩
  · obtain ⟨m, ⟨o, _, _, ho, _⟩, _⟩ := I.loc
    exact free _ o (fun z => (hch _ z).2.1 rfl) ho I.free
  · obtain ⟨v, o, ho, hd⟩ := I.cell x c e
    exact free c o (fun z => (hch c z).2.2.1 x c e rfl) ho (I.freeC x c e)
  · obtain ⟨e, n, ne, nf, d⟩ := I.pin p hp
    have nch : p.1 ∉ ch := fun z => (hch p.1 z).2.2.2 p hp rfl
    exact ⟨keep p.1 p.2 ne nf nch e n, free p.1 p.2 nch e n, ne, nf, d⟩
/-- .. where the frame's own object is kept too -/
theorem Inv.un {t' : Nat} (I : Inv X pins σ H s) (u : Un X.fs [] H H' s.heap h') (hok : HOk X.prog X.w H' h') : Inv X pins σ H' { s with heap := h', toks := t' } := by
  obtain ⟨m, ⟨o, es, ep, ho, r⟩, _⟩ := id I.loc
  obtain ⟨sl, hL⟩ := u.any ho I.free (by simp)
  exact I.step (g' := s.gens) (d' := s.drawn) (ch := []) (fun _ z => nomatch z) (fun b o _ hb _ e n => u.keep b o e n hb (by simp)) (fun b o _ hb _ e n => u.slot b o e n hb (by simp)) (fun b o _ e n => u.free b o e n (by simp)) (fun b o _ e => u.there b o e (by simp)) u.tups u.frzs u.tbls (fun m' hm => by
    obtain ⟨o', es', ep', ho', r'⟩ := hm
    rw [ho] at ho'; cases ho'
    exact ⟨_, es', ep', hL, r'⟩) hok I.bare
/-- behind a call (or a comprehension's block): the slots of this frame may have changed too, the records at ch may have turned -/
theorem Inv.call {g' : Array GenState} {t' : Nat} {d' : Drawn} {ch : List Addr} (I : Inv X pins σ H s) (u : Un (frs X.stack) ch H H' s.heap h') (hok : HOk X.prog X.w H' h') (hg : AllBare g')
    (hch : ∀ b ∈ ch, (b ∈ X.ex ∨ X.s_0.heap.objs.size ≤ b) ∧ b ≠ X.env.locals ∧ (∀ x c, X.env.cells.lookup x = some c → c ≠ b) ∧ ∀ p ∈ X.pn ++ pins, p.1 ≠ b) :
    Inv X pins σ H' { s with heap := h', gens := g', drawn := d', toks := t' } := by
  obtain ⟨m, ⟨o, es, ep, ho, r⟩, _⟩ := id I.loc
  obtain ⟨sl, hL⟩ := u.any ho I.free fun z => (hch _ z).2.1 rfl
  exact I.step (ch := ch) hch (fun b o hL hb hc e n => u.keep b o e n (fun z => (List.mem_cons.mp (I.stkSub b z)).elim hL hb) hc) (fun b o _ _ hc e n => u.any e n hc) (fun b o hc e n => u.free b o e n hc) (fun b o hc e => u.there b o e hc) u.tups u.frzs u.tbls (fun m' hm => by
    obtain ⟨o', es', ep', ho', r'⟩ := hm
    rw [ho] at ho'; cases ho'
    exact ⟨_, es', ep', hL, r'⟩) hok hg
/-- an untracked record of ours (an iterator) has turned -/
theorem Inv.turned {t' : Nat} {it : Addr} (I : Inv X pins σ H s) (k : ∀ b o, b ≠ it → s.heap.get? b = some o → h'.get? b = some o) (hn : H it = none) (hL : it ≠ X.env.locals)
    (h1 : it ∈ X.ex ∨ X.s_0.heap.objs.size ≤ it) (h2 : ∀ x c, X.env.cells.lookup x = some c → c ≠ it) (h3 : ∀ p ∈ X.pn ++ pins, p.1 ≠ it) : Inv X pins σ H { s with heap := h', toks := t' } := by
  have nit : ∀ b u, H b = some u → b ≠ it := fun b u e z => by rw [z, hn] at e; cases e
  refine I.step (g' := s.gens) (d' := s.drawn) (ch := [it]) (fun b hb => ?_) (fun b o _ _ hc e _ => k b o (fun z => hc (by simp [z])) e) (fun b o _ _ hc e _ => ⟨o.slots, k b o (fun z => hc (by simp [z])) e⟩) (fun _ _ _ _ n => n)
    (fun b o hc e => ⟨o, k b o (fun z => hc (by simp [z])) e⟩) (fun _ _ e => e) (fun _ _ _ e => e) (fun b ps e => ⟨#[], by rw [e]; simp⟩) (fun m hm => ?_) (fun b u e => ?_) I.bare
  · have e : b = it := by simpa using hb
    subst e
    exact ⟨h1, hL, h2, h3⟩
  · obtain ⟨o, es, ep, ho, r⟩ := hm
    exact ⟨o, es, ep, k _ o (Ne.symm hL) ho, r⟩
  · refine (I.hok b u e).stay (fun c v hc q => k c v ?_ q) (fun _ q => q) fun _ _ q => q
    rcases hc with z | z
    · rw [z]; exact nit b u e
    · exact nit c _ z
theorem Inv.tok (I : Inv X pins σ H s) (t : Nat) : Inv X pins σ H { s with toks := t } := I.un (h' := s.heap) (t' := t) Un.refl I.hok
/-- all objects kept -/
theorem Inv.kept {t' : Nat} (I : Inv X pins σ H s) (k : ∀ b u, s.heap.get? b = some u → h'.get? b = some u) : Inv X pins σ H { s with heap := h', toks := t' } := I.un (Un.kept k) (I.hok.kept k)
/-- a new object laid and tracked -/
theorem Inv.laid {a : Addr} {o : HO} {t' : Nat} (I : Inv X pins σ H s) (k : ∀ b u, s.heap.get? b = some u → h'.get? b = some u) (hp : s.heap.objs.size ≤ a) (new : ObjOk X.prog X.w (upd H a o) h' a o) :
    Inv X pins σ (upd H a o) { s with heap := h', toks := t' } := I.un (Un.laid k hp (I.hok.fresh hp)) (I.hok.laid k hp new)
/-- an object written -/
theorem Inv.write {x e : Addr} {o : HO} {t' : Nat} (I : Inv X pins σ H s) (mu : Mut (H x)) (he : e = x ∨ H e = some (.own x)) (k : ∀ b u, b ≠ e → s.heap.get? b = some u → h'.get? b = some u) (heo : ∃ u, h'.get? e = some u)
    (new : ObjOk X.prog X.w (upd H x o) h' x o) : Inv X pins σ (upd H x o) { s with heap := h', toks := t' } := I.un (Un.write mu he k heo) (I.hok.write mu he k heo new)
/-- forgetting slots, pins -/
theorem Inv.weak {σ' : List (Option V)} (I : Inv X pins σ H s) (hl : σ'.length = σ.length) (w : ∀ (i : Nat) v, σ'[i]? = some (some v) → σ[i]? = some (some v)) : Inv X pins σ' H s :=
  ⟨I.ok, I.os, I.bare, I.base, let ⟨m, hn, hl'⟩ := I.loc; ⟨m, hn, fun i x v e1 e2 e3 => hl' i x v e1 (w i v e2) e3⟩, I.cell, I.free, I.freeC, I.pin, I.hok, hl.trans I.len⟩
theorem Inv.pins_of {pins' : List (Addr × Obj)} (I : Inv X pins σ H s) (h : ∀ p ∈ pins', s.heap.get? p.1 = some p.2 ∧ H p.1 = none ∧ p.1 ≠ X.env.locals ∧ p.1 ∉ X.fs ∧ ∀ v, p.2.data ≠ .cell v) : Inv X pins' σ H s :=
  ⟨I.ok, I.os, I.bare, I.base, I.loc, I.cell, I.free, I.freeC, fun p hp => (List.mem_append.mp hp).elim (fun z => I.pin p (List.mem_append_left _ z)) (h p), I.hok, I.len⟩

theorem nodup_ix {N : List Str} (hN : N.Nodup) {i j : Nat} {x : Str} (a : N[i]? = some x) (b : N[j]? = some x) : i = j := by
  obtain ⟨h1, e1⟩ := List.getElem?_eq_some_iff.mp a
  obtain ⟨h2, e2⟩ := List.getElem?_eq_some_iff.mp b
  exact (List.getElem_inj hN).mp (e1.trans e2.symm)

/-- a name is stored; what changed -/
theorem store_ok2 {M : Model} {A : Around} {E : Value → Shared → Prop} {i : Nat} {x : Str} {v : V} {u : Value} {Q : Unit → Shared → Prop} (I : Inv X pins σ H s) (hN : X.N.Nodup) (hi : X.N[i]? = some x) (hx : Loc X.env.scope x) (r : RelV v u)
    (h : ∀ s', Inv X pins (σ.set i (some v)) H s' → (∃ a, Heap.SameBut a s.heap s'.heap ∧ (a = X.env.locals ∨ X.env.cells.lookup x = some a)) → Q () s') (hf : X.fn x = true ∨ X.env.scope.names.lookup x = some .local := by first | exact .inl rfl | exact .inr rfl | assumption) : wpAny M A (storeName X.env x u) Q E s := by
  obtain ⟨m, hn, hl⟩ := id I.loc
  have hcls : (X.env.scope.kind == .class || (X.env.scope.kind == .module && X.env.locals != X.env.globals)) = false := by rw [I.ok.kind]; rfl
  have hiσ : i < σ.length := by rw [I.len]; exact (List.getElem?_eq_some_iff.mp hi).1
  have cne := I.cne
  have tracked : ∀ {a : Addr} {h' : Heap}, (∃ o, s.heap.get? a = some o ∧ H a = none) → Heap.SameBut a s.heap h' → HOk X.prog X.w H h' := fun {a h'} ha hs b ob e => by
    obtain ⟨_, _, hfree⟩ := ha
    refine (I.hok b ob e).stay (fun c w' hc q => (hs.2 c ?_).trans q) (fun _ q => q) fun _ _ q => q
    rintro rfl
    rcases hc with rfl | hc
    · rw [hfree] at e; cases e
    · rw [hfree] at hc; cases hc
  rcases hx with hk | hk
  · refine wpAny_storeName_local hk hn (fun h' hn' hs => ?_) hcls
    obtain ⟨oL, _, _, hoL, _⟩ := id hn
    refine h _ ⟨I.ok, I.os, I.bare, ⟨fun b o e n hb hx => ?_, fun b o e n hb hx => ?_, I.base.free, fun b o e hx => ?_, I.base.tups, I.base.frzs, I.base.tbls⟩, ⟨_, hn', fun j y v' e1 e2 e3 => ?_⟩, fun y c e => ?_, I.free, I.freeC, fun p hp => ?_, tracked ⟨oL, hoL, I.free⟩ hs, by simpa using I.len⟩ ⟨_, hs, .inl rfl⟩
    · exact (hs.2 b (Nat.ne_of_lt (Nat.lt_of_lt_of_le (Heap.lt_size e) I.ok.above))).trans (I.base.keep b o e n hb hx)
    · obtain ⟨sl, e1⟩ := I.base.slot b o e n hb hx
      exact ⟨sl, (hs.2 b (Nat.ne_of_lt (Nat.lt_of_lt_of_le (Heap.lt_size e) I.ok.above))).trans e1⟩
    · obtain ⟨o', e1⟩ := I.base.there b o e hx
      exact ⟨o', (hs.2 b (Nat.ne_of_lt (Nat.lt_of_lt_of_le (Heap.lt_size e) I.ok.above))).trans e1⟩
    · by_cases hj : j = i
      · subst hj
        rw [hi] at e1; cases e1
        rw [List.getElem?_set_self hiσ] at e2
        cases e2
        exact ⟨u, r, .inl ⟨hk, by simp⟩⟩
      · rw [List.getElem?_set_ne (Ne.symm hj)] at e2
        obtain ⟨u', r', q⟩ := hl j y v' e1 e2 e3
        refine ⟨u', r', ?_⟩
        rcases q with ⟨k, e⟩ | ⟨k, c, e, z⟩
        · refine .inl ⟨k, ?_⟩
          have : y ≠ x := fun e => hj (nodup_ix hN e1 (e ▸ hi))
          simp [this, e]
        · exact .inr ⟨k, c, e, z.sameBut hs (cne y c e)⟩
    · obtain ⟨w', z⟩ := I.cell y c e
      exact ⟨w', z.sameBut hs (cne y c e)⟩
    · obtain ⟨e, n, ne, nf, d⟩ := I.pin p hp
      exact ⟨(hs.2 p.1 ne).trans e, n, ne, nf, d⟩
  · have hfn : X.fn x = true := by
      rcases hf with z | z
      · exact z
      · rw [z] at hk; cases hk
    obtain ⟨c, hc⟩ := I.ok.has x (.inl hk)
    obtain ⟨w', z⟩ := I.cell x c hc
    refine wpAny_storeName_cell I.ok.kind hk hc z (fun h' hc' hs => ?_)
    obtain ⟨oc, hoc, hocd⟩ := id z
    refine h { s with heap := h' } ⟨I.ok, I.os, I.bare, ⟨fun b o e n hb hx => ?_, fun b o e n hb hx => ?_, I.base.free, fun b o e hx => ?_, I.base.tups, I.base.frzs, I.base.tbls⟩, ⟨m, hn.sameBut hs (Ne.symm (cne x c hc)), fun j y v' e1 e2 e3 => ?_⟩, fun y c' e => ?_, I.free, I.freeC, fun p hp => ?_, tracked ⟨oc, hoc, I.freeC x c hc⟩ hs, by simpa using I.len⟩ ⟨c, hs, .inr hc⟩
    · exact (hs.2 b (Nat.ne_of_lt (Nat.lt_of_lt_of_le (Heap.lt_size e) (I.ok.cab x c hfn hc)))).trans (I.base.keep b o e n hb hx)
    · obtain ⟨sl, e1⟩ := I.base.slot b o e n hb hx
      exact ⟨sl, (hs.2 b (Nat.ne_of_lt (Nat.lt_of_lt_of_le (Heap.lt_size e) (I.ok.cab x c hfn hc)))).trans e1⟩
    · obtain ⟨o', e1⟩ := I.base.there b o e hx
      exact ⟨o', (hs.2 b (Nat.ne_of_lt (Nat.lt_of_lt_of_le (Heap.lt_size e) (I.ok.cab x c hfn hc)))).trans e1⟩
    · by_cases hj : j = i
      · subst hj
        rw [hi] at e1; cases e1
        rw [List.getElem?_set_self hiσ] at e2
        cases e2
        exact ⟨u, r, .inr ⟨.inl hk, c, hc, hc'⟩⟩
      · rw [List.getElem?_set_ne (Ne.symm hj)] at e2
        obtain ⟨u', r', q⟩ := hl j y v' e1 e2 e3
        refine ⟨u', r', ?_⟩
        rcases q with q | ⟨k, c', e, z'⟩
        · exact .inl q
        · refine .inr ⟨k, c', e, z'.sameBut hs ?_⟩
          rintro rfl
          exact hj (nodup_ix hN e1 (I.ok.inj _ _ _ e hc ▸ hi))
    · by_cases hcc : c' = c
      · subst hcc; exact ⟨_, hc'⟩
      · obtain ⟨w2, z2⟩ := I.cell y c' e
        exact ⟨w2, z2.sameBut hs hcc⟩
    · obtain ⟨e, n, ne, nf, d⟩ := I.pin p hp
      refine ⟨(hs.2 p.1 ?_).trans e, n, ne, nf, d⟩
      intro q
      rw [q, hoc] at e
      have q' : oc = p.2 := Option.some.inj e
      exact d w' (by rw [← q']; exact hocd)
theorem store_ok {M : Model} {A : Around} {E : Value → Shared → Prop} {i : Nat} {x : Str} {v : V} {u : Value} {Q : Unit → Shared → Prop} (I : Inv X pins σ H s) (hN : X.N.Nodup) (hi : X.N[i]? = some x) (hx : Loc X.env.scope x) (r : RelV v u)
    (h : ∀ s', Inv X pins (σ.set i (some v)) H s' → Q () s') (hf : X.fn x = true ∨ X.env.scope.names.lookup x = some .local := by first | exact .inl rfl | exact .inr rfl | assumption) : wpAny M A (storeName X.env x u) Q E s :=
  store_ok2 I hN hi hx r (fun s' I' _ => h s' I') hf
/-- behind a call or a block, the state as it is -/
theorem Inv.call' {s' : Shared} {ch : List Addr} (I : Inv X pins σ H s) (ho : s'.os = s.os) (u : Un (frs X.stack) ch H H' s.heap s'.heap) (hok : HOk X.prog X.w H' s'.heap) (hg : AllBare s'.gens)
    (hch : ∀ b ∈ ch, (b ∈ X.ex ∨ X.s_0.heap.objs.size ≤ b) ∧ b ≠ X.env.locals ∧ (∀ x c, X.env.cells.lookup x = some c → c ≠ b) ∧ ∀ p ∈ X.pn ++ pins, p.1 ≠ b) : Inv X pins σ H' s' := by
  obtain ⟨h', g', d', t', o'⟩ := s'
  have e : o' = s.os := ho
  subst e
  exact I.call (g' := g') (t' := t') (d' := d') u hok hg hch
end

/-! ### the judgements -/
/-- an exception: its class, its own dict's address (where it has one), the abstract heap behind it -/
abbrev XK := Value → Option Addr → Hp → Prop
abbrev St := List (Option V)
abbrev VK := V → Hp → Prop
/-- an expression's reading; a test's; an argument list's -/
abbrev TE := St → Hp → VK → Prop
abbrev TT := St → Hp → (Bool → Hp → Prop) → Prop
abbrev TA := St → Hp → (List V → Hp → Prop) → Prop
/-- what is wanted behind a statement -/
structure Ends where
  nx : St → Hp → Prop
  rt : VK
  bk : St → Hp → Prop := fun _ _ => False
  ct : St → Hp → Prop := fun _ _ => False
abbrev TS := Ends → St → Hp → Prop

def EP (X : Cx) (pins : List (Addr × Obj)) (σ : St) (Q : VK) (u : Value) (s' : Shared) : Prop := ∃ v H', Inv X pins σ H' s' ∧ RelV v u ∧ Q v H'
def TP (X : Cx) (pins : List (Addr × Obj)) (σ : St) (Q : Bool → Hp → Prop) (b : Bool) (s' : Shared) : Prop := ∃ H', Inv X pins σ H' s' ∧ Q b H'
def AP (X : Cx) (pins : List (Addr × Obj)) (σ : St) (Q : List V → Hp → Prop) (us : List Value) (s' : Shared) : Prop := ∃ vs H', Inv X pins σ H' s' ∧ Vals vs us ∧ Q vs H'
def SP (X : Cx) (pins : List (Addr × Obj)) (D : Ends) (f : Flow) (s' : Shared) : Prop :=
  match f with
  | .next => ∃ σ' H', Inv X pins σ' H' s' ∧ D.nx σ' H'
  | .brk => ∃ σ' H', Inv X pins σ' H' s' ∧ D.bk σ' H'
  | .cont => ∃ σ' H', Inv X pins σ' H' s' ∧ D.ct σ' H'
  | .ret u => ∃ v σ' H', Inv X pins σ' H' s' ∧ RelV v u ∧ D.rt v H'

def PE (X : Cx) (e : Expr) (t : TE) : Prop :=
  ∀ (pins : List (Addr × Obj)) (s : Shared) (σ : St) (H : Hp) (Q : VK), Inv X pins σ H s → t σ H Q → wpAny (model X.prog X.w) X.A (eval e X.env) (EP X pins σ Q) X.xe s
def PT (X : Cx) (e : Expr) (t : TT) : Prop :=
  ∀ (pins : List (Addr × Obj)) (s : Shared) (σ : St) (H : Hp) (Q : Bool → Hp → Prop), Inv X pins σ H s → t σ H Q → wpAny (model X.prog X.w) X.A (isTrue e X.env (eval e X.env)) (TP X pins σ Q) X.xe s
/-- a test whatever its 'whole' is (and, or) -/
def PW (X : Cx) (e : Expr) (t : TT) : Prop :=
  ∀ (whole : Sem Value) (pins : List (Addr × Obj)) (s : Shared) (σ : St) (H : Hp) (Q : Bool → Hp → Prop), Inv X pins σ H s → t σ H Q → wpAny (model X.prog X.w) X.A (isTrue e X.env whole) (TP X pins σ Q) X.xe s
theorem PW.pt {X : Cx} {e : Expr} {t : TT} (h : PW X e t) : PT X e t := h _
/-- an argument list (no star), from the left -/
def PA (X : Cx) (es : List Expr) (t : TA) : Prop :=
  ∀ (pos : Pos) (pins : List (Addr × Obj)) (s : Shared) (σ : St) (H : Hp) (Q : List V → Hp → Prop), Inv X pins σ H s → t σ H Q → wpAny (model X.prog X.w) X.A (spliced (backTo pos (starEach es X.env))) (AP X pins σ Q) X.xe s
def PS (X : Cx) (st : Stmt) (t : TS) : Prop :=
  ∀ (pins : List (Addr × Obj)) (s : Shared) (σ : St) (H : Hp) (D : Ends), Inv X pins σ H s → t D σ H → wpAny (model X.prog X.w) X.A (exec st X.env) (SP X pins D) X.xe s
def PSs (X : Cx) (st : List Stmt) (t : TS) : Prop :=
  ∀ (pins : List (Addr × Obj)) (s : Shared) (σ : St) (H : Hp) (D : Ends), Inv X pins σ H s → t D σ H → wpAny (model X.prog X.w) X.A (execs st X.env) (SP X pins D) X.xe s
/-- weaken the end -/
theorem thn {α : Type} {t : Sem α} {Q Q' : α → Shared → Prop} {M : Model} {A : Around} {E : Value → Shared → Prop} {s : Shared} (h : wpAny M A t Q E s) (hQ : ∀ a s, Q a s → Q' a s) : wpAny M A t Q' E s := wpAny_mono h hQ fun _ _ x => x
end L2

namespace L2
open PySem PySem.Spec PyProof.Rows
section
variable {X : Cx}


/-! ### names and constants -/
def tVar (i : Nat) : TE := fun σ H Q => ∃ v, σ[i]? = some (some v) ∧ Q v H
def tC (v : V) : TE := fun _ H Q => Q v H
theorem pe_var {i : Nat} {x : Str} {pos : Pos} (hN : X.N[i]? = some x) (hv : Vis X.env.scope x) (hd : (x == ("__debug__" : Str)) = false := by decide) (hcd : (x == ("__classdict__" : Str)) = false := by decide) : PE X (.Name x pos) (tVar i) := by
  intro pins s σ H Q I h
  obtain ⟨v, e, h⟩ := h
  obtain ⟨m, hn, hl⟩ := I.loc
  obtain ⟨u, r, l⟩ := hl i x v hN e hv
  have fin : EP X pins σ Q u s := ⟨v, H, I, r, h⟩
  rcases l with ⟨hk, hm⟩ | ⟨hk, c, hc, hcell⟩
  · exact wpAny_Name (wpAny_loadName_local I.ok.kind hk hn hm fin) hd
  · rcases hk with hk | hk
    · exact wpAny_Name (wpAny_loadName_cell I.ok.kind hk hc hcell fin) hd
    · exact wpAny_Name (wpAny_loadName_free I.ok.kind hk hc hcell fin hcd) hd
theorem pe_int {i j pos} : PE X (.Constant (.int i) j pos) (tC (.int i)) := fun _ _ _ H _ I h => wpAny_Constant_int ⟨.int i, H, I.tok _, ⟨_, rfl⟩, h⟩

/-- a global name of the def -/
def Gl (X : Cx) (x : Str) : Prop := X.env.kindOf x = some .globalImplicit
theorem ld_glob {E : Value → Shared → Prop} {pins : List (Addr × Obj)} {s : Shared} {σ : St} {H : Hp} {x : Str} {u : Value} {pos : Pos} {Q : Value → Shared → Prop} (I : Inv X pins σ H s) (hg : Gl X x) (hm : X.mg x = some u) (h : Q u s)
    (hd : (x == ("__debug__" : Str)) = false := by decide) : wpAny (model X.prog X.w) X.A (eval (.Name x pos) X.env) Q E s :=
  Calls.Name_function_global I.ok.kind hg (Calls.loadGlobal_global (by rw [I.ok.glob]; exact I.mod.glob.keeps I.bk) hm h) hd
theorem ld_blt {E : Value → Shared → Prop} {pins : List (Addr × Obj)} {s : Shared} {σ : St} {H : Hp} {x : Str} {u : Value} {pos : Pos} {Q : Value → Shared → Prop} (I : Inv X pins σ H s) (hg : Gl X x) (hm : X.mg x = none) (hv : bootBuiltins x = some u) (h : Q u s)
    (hn : x ≠ "__name__" := by decide) (hd : (x == ("__debug__" : Str)) = false := by decide) : wpAny (model X.prog X.w) X.A (eval (.Name x pos) X.env) Q E s := by
  obtain ⟨mb, h1, h2⟩ := I.mod.blt
  exact Calls.Name_function_global I.ok.kind hg (Calls.loadGlobal_builtin (by rw [I.ok.glob]; exact I.mod.glob.keeps I.bk) hm (by rw [I.ok.blt]; exact h1.keeps I.bk) ((h2 x hn).trans hv) h) hd
/-- a module's constant, a class, a function, as a value -/
theorem pe_glob {x : Str} {v : V} {u : Value} {pos : Pos} (hg : Gl X x) (hm : X.mg x = some u) (r : RelV v u) (hd : (x == ("__debug__" : Str)) = false := by decide) : PE X (.Name x pos) (tC v) :=
  fun _ _ _ H _ I h => ld_glob I hg hm ⟨v, H, I, r, h⟩ hd

/-! ### arithmetic -/
variable {a b : Expr} {ta tb : TE} {pos : Pos}

/-! ### comparisons -/
/-- a comparison as a value, as a test -/
def tB (t : TE) : TT := fun σ H Q => t σ H fun x H1 => ∃ c, x = .bl c ∧ Q c H1
/-- an expression whose value is a bool, as a test -/
theorem pt_val {e : Expr} {t : TE} (h : PE X e t) (he : ∀ whole, isTrue e X.env whole = (do let v ← whole; standAt e.pos; holding [v] (truthy v)) := by intro _; rfl) : PT X e (tB t) := by
  intro pins s σ H Q I hw
  refine isTrue_plain (thn (h pins s σ H _ I hw) fun v s1 ⟨x, H1, I1, r1, q1⟩ => ?_) (he _)
  obtain ⟨d, rfl, q⟩ := q1
  cases r1
  exact wpAny_truthy_bool ⟨H1, I1, q⟩

/-! ### and, or, not -/
variable {tA tB' : TT} {rest : List Expr}
def tAnd (t u : TT) : TT := fun σ H Q => t σ H fun c H1 => if c = true then u σ H1 Q else Q false H1
def tOr (t u : TT) : TT := fun σ H Q => t σ H fun c H1 => if c = true then Q true H1 else u σ H1 Q
def tNot (t : TT) : TT := fun σ H Q => t σ H fun c H1 => Q (!c) H1
theorem pw_and1 (ha : PT X a tA) : PW X (.BoolOp .And [a] pos) tA := by
  intro wh pins s σ H Q I h
  refine isTrue_and (thn (ha pins s σ H Q I h) fun c s1 e => ?_)
  cases c with
  | true => exact isTrue_and_nil e
  | false => exact e
theorem pw_or1 (ha : PT X a tA) : PW X (.BoolOp .Or [a] pos) tA := by
  intro wh pins s σ H Q I h
  refine isTrue_or (thn (ha pins s σ H Q I h) fun c s1 e => ?_)
  cases c with
  | false => exact isTrue_or_nil e
  | true => exact e
theorem pw_and (ha : PT X a tA) (hb : PW X (.BoolOp .And (b :: rest) pos) tB') : PW X (.BoolOp .And (a :: b :: rest) pos) (tAnd tA tB') := by
  intro wh pins s σ H Q I h
  refine isTrue_and (thn (ha pins s σ H _ I h) fun c s1 ⟨H1, I1, q1⟩ => ?_)
  cases c with
  | true => exact hb wh pins s1 σ H1 Q I1 q1
  | false => exact ⟨H1, I1, q1⟩
theorem pw_or (ha : PT X a tA) (hb : PW X (.BoolOp .Or (b :: rest) pos) tB') : PW X (.BoolOp .Or (a :: b :: rest) pos) (tOr tA tB') := by
  intro wh pins s σ H Q I h
  refine isTrue_or (thn (ha pins s σ H _ I h) fun c s1 ⟨H1, I1, q1⟩ => ?_)
  cases c with
  | true => exact ⟨H1, I1, q1⟩
  | false => exact hb wh pins s1 σ H1 Q I1 q1
theorem pt_not (ha : PT X a tA) : PT X (.UnaryOp .Not a pos) (tNot tA) := by
  intro pins s σ H Q I h
  exact isTrue_not (ha pins s σ H (fun c H1 => Q (!c) H1) I h)
/-- .. as values (bools) -/
def tAndV (ta tb : TE) : TE := fun σ H Q => ta σ H fun x H1 => ∃ c, x = .bl c ∧ if c = true then tb σ H1 Q else Q (.bl false) H1
theorem pe_one {op} {t : TE} (h : PE X a t) : PE X (.BoolOp op [a] pos) t := fun pins s σ H Q I hw => BoolOp_one (h pins s σ H Q I hw)
theorem pe_and (ha : PE X a ta) (hb : PE X (.BoolOp .And (b :: rest) pos) tb) : PE X (.BoolOp .And (a :: b :: rest) pos) (tAndV ta tb) := by
  intro pins s σ H Q I h
  refine BoolOp_and (thn (ha pins s σ H _ I h) fun v s1 ⟨x, H1, I1, r1, q1⟩ => ?_)
  obtain ⟨c, rfl, q1⟩ := q1
  cases r1
  refine wpAny_truthy_bool ?_
  cases c with
  | true => exact hb pins s1 σ H1 Q I1 q1
  | false => exact ⟨.bl false, H1, I1, rfl, q1⟩
/-- a if t else b -/
def tIf (t : TT) (ta tb : TE) : TE := fun σ H Q => t σ H fun c H1 => if c = true then ta σ H1 Q else tb σ H1 Q
theorem pe_ifExp {c : Expr} (hc : PT X c tA) (ha : PE X a ta) (hb : PE X b tb) : PE X (.IfExp c a b pos) (tIf tA ta tb) := by
  intro pins s σ H Q I h
  refine wpAny_IfExp (thn (hc pins s σ H _ I h) fun d s1 ⟨H1, I1, q1⟩ => ?_)
  cases d with
  | true => exact ha pins s1 σ H1 Q I1 q1
  | false => exact hb pins s1 σ H1 Q I1 q1
end
end L2

namespace L2
open PySem PySem.Spec PyProof.Rows

/-! ### a list, a tuple that is read: tracked, frozen, or an object of the module -/
def SqL (K : PySem.W.Frag) (H : Hp) (a : Addr) (xs : List V) : Prop :=
  Rd H a (.lst xs) ∨
    ∃ (o : Obj) (its : Array Value) (n : Nat), K.lookup a = some o ∧ o.cls = .type "list" ∧ o.dict = none ∧ o.data = .seq its n ∧ its.size ≤ sizeLine ∧ Vals xs its.toList
def SqT (K : PySem.W.Frag) (H : Hp) (a : Addr) (xs : List V) : Prop :=
  Rd H a (.tup xs) ∨
    ∃ (o : Obj) (its : Array Value) (n : Nat), K.lookup a = some o ∧ o.cls = .type "tuple" ∧ o.data = .seq its n ∧ its.size ≤ sizeLine ∧ Vals xs its.toList
def absV : Value → Option V
  | .none => some .non
  | .bool b => some (.bl b)
  | .int i _ => some (.int i)
  | .str x _ => some (.str x)
  | .bytes b _ => some (.byt b)
  | .float b _ => some (.flt b)
  | .ref a => some (.ref a)
  | .type n => some (.ty n)
  | _ => none
theorem RelV.abs {x : V} {u : Value} (r : RelV x u) : absV u = some x := by
  cases x with
  | non => cases r; rfl
  | bl _ => cases r; rfl
  | int _ => obtain ⟨t, rfl⟩ := r; rfl
  | str _ => obtain ⟨t, rfl⟩ := r; rfl
  | byt _ => obtain ⟨t, rfl⟩ := r; rfl
  | flt _ => obtain ⟨t, rfl⟩ := r; rfl
  | ref _ => cases r; rfl
  | ty _ => cases r; rfl
theorem RelV.inj {x y : V} {u : Value} (r : RelV x u) (q : RelV y u) : x = y := Option.some.inj (r.abs.symm.trans q.abs)
theorem Vals.inj : ∀ {xs ys : List V} {us : List Value}, Vals xs us → Vals ys us → xs = ys
  | _, _, _, .nil, .nil => rfl
  | _, _, _, .cons r t, .cons r' t' => by rw [r.inj r', Vals.inj t t']
section
variable {X : Cx} {pins : List (Addr × Obj)} {σ : St} {H : Hp} {s : Shared} {a : Addr} {xs ys : List V}
theorem SqL.of {K : PySem.W.Frag} (h : H a = some (.lst xs)) : SqL K H a xs := .inl (.inl h)
theorem SqT.of {K : PySem.W.Frag} (h : H a = some (.tup xs)) : SqT K H a xs := .inl (.inl h)
theorem Inv.list (I : Inv X pins σ H s) (h : SqL X.K H a xs) : ∃ its : List Value, Vals xs its ∧ PlainL s.heap a its.toArray ∧ xs.length ≤ sizeLine := by
  rcases h with h | ⟨o, its, n, hk, hc, hd, hs, hz, r⟩
  · obtain ⟨z, its, n, r, e⟩ := h.ok I.hok
    exact ⟨its, r, ⟨_, n, e, rfl, rfl, rfl⟩, z⟩
  · refine ⟨its.toList, r, ⟨o, n, I.kIn a o hk, hc, hd, by simpa using hs⟩, ?_⟩
    have e := r.length
    simp only [Array.length_toList] at e
    omega
theorem Inv.tuple (I : Inv X pins σ H s) (h : SqT X.K H a xs) : ∃ its : List Value, Vals xs its ∧ IsTup s.heap a its.toArray ∧ xs.length ≤ sizeLine := by
  rcases h with h | ⟨o, its, n, hk, hc, hs, hz, r⟩
  · obtain ⟨z, its, r, p⟩ := h.ok I.hok
    exact ⟨its, r, p, z⟩
  · refine ⟨its.toList, r, ⟨o, I.kIn a o hk, hc, n, by simpa using hs⟩, ?_⟩
    have e := r.length
    simp only [Array.length_toList] at e
    omega
theorem Inv.list_inj (I : Inv X pins σ H s) (h : SqL X.K H a xs) (h' : SqL X.K H a ys) : xs = ys := by
  obtain ⟨its, r, ⟨o, n, e, _, _, d⟩, _⟩ := I.list h
  obtain ⟨its', r', ⟨o', n', e', _, _, d'⟩, _⟩ := I.list h'
  rw [e] at e'; cases e'
  rw [d] at d'
  injection d' with d1 _
  have : its = its' := by simpa using congrArg Array.toList d1
  subst this
  exact r.inj r'
end

/-! ### another wish about exceptions -/
abbrev Cx.wish (X : Cx) (E : Value → Shared → Prop) : Cx := { X with xe := E }
/-- no exception leaves -/
abbrev Cx.nox (X : Cx) : Cx := X.wish fun _ _ => False
theorem Cx.Ok.wish {X : Cx} (ok : X.Ok) (E : Value → Shared → Prop) : (X.wish E).Ok :=
  ⟨ok.mod, ok.kind, ok.glob, ok.blt, ok.above, ok.inj, ok.has, ok.cab, ok.hd, ok.frames, ok.stk, ok.exf, ok.bs, ok.bsz, ok.noex, ok.exfs, ok.funs, ok.frf⟩
theorem Cx.Ok.unwish {X : Cx} {E : Value → Shared → Prop} (ok : (X.wish E).Ok) : X.Ok :=
  ⟨ok.mod, ok.kind, ok.glob, ok.blt, ok.above, ok.inj, ok.has, ok.cab, ok.hd, ok.frames, ok.stk, ok.exf, ok.bs, ok.bsz, ok.noex, ok.exfs, ok.funs, ok.frf⟩
section
variable {X : Cx} {pins : List (Addr × Obj)} {σ : St} {H : Hp} {s : Shared} {E : Value → Shared → Prop}
theorem Inv.wish (I : Inv X pins σ H s) (E : Value → Shared → Prop) : Inv (X.wish E) pins σ H s := ⟨I.ok.wish E, I.os, I.bare, I.base, I.loc, I.cell, I.free, I.freeC, I.pin, I.hok, I.len⟩
theorem Inv.unwish (I : Inv (X.wish E) pins σ H s) : Inv X pins σ H s := ⟨I.ok.unwish, I.os, I.bare, I.base, I.loc, I.cell, I.free, I.freeC, I.pin, I.hok, I.len⟩
theorem SP.unwish {D : Ends} {f : Flow} {s' : Shared} (h : SP (X.wish E) pins D f s') : SP X pins D f s' := by
  cases f with
  | next => obtain ⟨σ', H', I, q⟩ := h; exact ⟨σ', H', I.unwish, q⟩
  | brk => obtain ⟨σ', H', I, q⟩ := h; exact ⟨σ', H', I.unwish, q⟩
  | cont => obtain ⟨σ', H', I, q⟩ := h; exact ⟨σ', H', I.unwish, q⟩
  | ret u => obtain ⟨v, σ', H', I, r, q⟩ := h; exact ⟨v, σ', H', I.unwish, r, q⟩
theorem PSs.nox {st : List Stmt} {t : TS} (h : PSs X.nox st t) : PSs X st t := fun pins s σ H D I hw =>
  wpAny_mono (h pins s σ H D (I.wish _) hw) (fun _ _ q => q.unwish) fun _ _ z => False.elim z
end

/-! ### blocks and small statements -/
section
variable {X : Cx} {st : Stmt} {rest : List Stmt} {t u : TS} {e : Expr} {te : TE} {pos : Pos}
def tNext : TS := fun D σ H => D.nx σ H
def tSeq (t u : TS) : TS := fun D σ H => t { D with nx := u D } σ H
theorem pss_nil : PSs X [] tNext := fun _ _ σ H _ I h => wpAny_execs_nil ⟨σ, H, I, h⟩
theorem pss_cons (h1 : PS X st t) (h2 : PSs X rest u) : PSs X (st :: rest) (tSeq t u) := by
  intro pins s σ H D I h
  refine wpAny_execs_cons (thn (h1 pins s σ H { D with nx := u D } I h) fun f s1 q => ?_)
  cases f with
  | next =>
    obtain ⟨σ', H', I', q⟩ := q
    exact h2 pins s1 σ' H' D I' q
  | ret v => exact q
  | brk => exact q
  | cont => exact q
theorem pss_one (h1 : PS X st t) : PSs X [st] t := by
  intro pins s σ H D I h
  refine wpAny_execs_cons (thn (h1 pins s σ H D I h) fun f s1 q => ?_)
  cases f with
  | next => exact wpAny_execs_nil q
  | ret v => exact q
  | brk => exact q
  | cont => exact q
/-- in a def's body nothing is shown -/
theorem Inv.quiet {pins : List (Addr × Obj)} {σ : St} {H : Hp} {s : Shared} (I : Inv X pins σ H s) : interactive X.env = false := by simp [interactive, I.ok.kind]
/-- an expression whose value is dropped -/
def tDrop (te : TE) : TS := fun D σ H => te σ H fun _ H1 => D.nx σ H1
theorem ps_expr (he : PE X e te) (hs : swapsWith e none pos.line X.env = pure false := by rfl) : PS X (.Expr e pos) (tDrop te) := by
  intro pins s σ H D I h
  exact wpAny_Expr_any (thn (he pins s σ H _ I h) fun v s1 ⟨x, H1, I1, r1, q1⟩ => ⟨σ, H1, I1, q1⟩) I.quiet hs
def tRet (te : TE) : TS := fun D σ H => te σ H D.rt
theorem ps_ret (he : PE X e te) : PS X (.Return (some e) pos) (tRet te) := by
  intro pins s σ H D I h
  exact wpAny_Return_some (thn (he pins s σ H _ I h) fun v s1 ⟨x, H1, I1, r1, q1⟩ => ⟨x, σ, H1, I1, r1, q1⟩)
def tIfS (c : TT) (t u : TS) : TS := fun D σ H => c σ H fun b H1 => if b = true then t D σ H1 else u D σ H1
theorem ps_if {c : Expr} {a b : List Stmt} {tc : TT} (hc : PT X c tc) (ha : PSs X a t) (hb : PSs X b u) : PS X (.If c a b pos) (tIfS tc t u) := by
  intro pins s σ H D I h
  refine wpAny_If (thn (hc pins s σ H _ I h) fun d s1 ⟨H1, I1, q1⟩ => ?_)
  cases d with
  | true => exact ha pins s1 σ H1 D I1 q1
  | false => exact hb pins s1 σ H1 D I1 q1
end

/-! ### targets -/
abbrev TG := V → St → Hp → (St → Hp → Prop) → Prop
abbrev TGs := List V → St → Hp → (St → Hp → Prop) → Prop
def PG (X : Cx) (target : Expr) (t : TG) : Prop :=
  ∀ (pins : List (Addr × Obj)) (s : Shared) (σ : St) (H : Hp) (v : V) (u : Value) (Q : St → Hp → Prop), Inv X pins σ H s → RelV v u → t v σ H Q →
    wpAny (model X.prog X.w) X.A (assign target X.env u) (fun _ s' => ∃ σ' H', Inv X pins σ' H' s' ∧ Q σ' H') X.xe s
/-- several targets, one after another -/
def PGs (X : Cx) (ts : List Expr) (t : TGs) : Prop :=
  ∀ (pins : List (Addr × Obj)) (s : Shared) (σ : St) (H : Hp) (vs : List V) (us : List Value) (Q : St → Hp → Prop), Inv X pins σ H s → Vals vs us → t vs σ H Q →
    wpAny (model X.prog X.w) X.A (assignInOrder ((assignEach ts X.env).map (·.2)) us) (fun _ s' => ∃ σ' H', Inv X pins σ' H' s' ∧ Q σ' H') X.xe s
/-- o[i] = v, by values -/
abbrev TSet := V → V → V → Hp → (Hp → Prop) → Prop
def PSet (X : Cx) (t : TSet) : Prop :=
  ∀ (pins : List (Addr × Obj)) (s : Shared) (σ : St) (H : Hp) (o i v : V) (ov iv u : Value) (Q : Hp → Prop), Inv X pins σ H s → RelV o ov → RelV i iv → RelV v u → t o i v H Q →
    wpAny (model X.prog X.w) X.A (setItem ov iv u) (fun _ s' => ∃ H', Inv X pins σ H' s' ∧ Q H') X.xe s
section
variable {X : Cx} {pos : Pos}
def gName (i : Nat) : TG := fun v σ H Q => Q (σ.set i (some v)) H
theorem pg_name {i : Nat} {x : Str} (hN : X.N.Nodup) (hi : X.N[i]? = some x) (hx : Loc X.env.scope x) (hf : X.fn x = true ∨ X.env.scope.names.lookup x = some .local := by first | exact .inl rfl | exact .inr rfl | assumption) : PG X (.Name x pos) (gName i) := by
  intro pins s σ H v u Q I r h
  exact wpAny_assign_Name (store_ok I hN hi hx r (fun s' I' => ⟨_, H, I', h⟩) hf)
def gNil : TGs := fun vs σ H Q => vs = [] ∧ Q σ H
def gCons (t : TG) (u : TGs) : TGs := fun vs σ H Q => ∃ v r, vs = v :: r ∧ t v σ H fun σ' H' => u r σ' H' Q
theorem pgs_nil : PGs X [] gNil := by
  intro pins s σ H vs us Q I r h
  obtain ⟨e, h⟩ := h
  subst e
  cases r
  exact assignInOrder_nil ⟨σ, H, I, h⟩
theorem pgs_cons {e : Expr} {es : List Expr} {t : TG} {u : TGs} (h1 : PG X e t) (h2 : PGs X es u)
    (hs : (assignEach (e :: es) X.env).map (·.2) = assign e X.env :: (assignEach es X.env).map (·.2) := by rfl) : PGs X (e :: es) (gCons t u) := by
  intro pins s σ H vs us Q I r h
  obtain ⟨v, vr, e1, h⟩ := h
  subst e1
  cases r with
  | cons r rr =>
    rw [hs]
    refine assignInOrder_cons (thn (h1 pins s σ H _ _ _ I r h) fun _ s1 ⟨σ1, H1, I1, q1⟩ => ?_)
    exact h2 pins s1 σ1 H1 _ _ Q I1 rr q1
/-- (a, b, ..) = a tuple of that length -/
def gTup (K : PySem.W.Frag) (n : Nat) (t : TGs) : TG := fun v σ H Q => ∃ a xs, v = .ref a ∧ SqT K H a xs ∧ xs.length = n ∧ t xs σ H Q
theorem pg_tup {es : List Expr} {k : Nat} {t : TGs} {n : Nat} (hc : X.calm = true) (h : PGs X es t)
    (hn : (assignEach es X.env).length = n := by rfl) (hst : (assignEach es X.env).findIdx? (·.1) = none := by rfl) : PG X (.Tuple es k pos) (gTup X.K n t) := by
  intro pins s σ H v u Q I r hw
  obtain ⟨a, xs, e1, hq, hl, hw⟩ := hw
  subst e1
  cases r
  obtain ⟨its, rv, ht, hz⟩ := I.tuple hq
  refine assign_Tuple_tuple (I.ok.hd hc) ht (by simp [hn, ← hl, rv.length]) hst fun h' hx => ?_
  have I1 : Inv X pins σ H { s with heap := h' } := I.kept (t' := s.toks) fun b o e => hx b o (Nat.ne_of_lt (Heap.lt_size e)) e
  exact h pins _ σ H xs _ Q I1 (by simpa using rv) hw
/-- o[i] = .. -/
def gSub (to ti : TE) (t : TSet) : TG := fun v σ H Q => to σ H fun o H1 => ti σ H1 fun i H2 => t o i v H2 fun H3 => Q σ H3
theorem pg_sub {o i : Expr} {to ti : TE} {t : TSet} (ho : PE X o to) (hi : PE X i ti) (hs : PSet X t)
    (ha : ∀ v, assign (.Subscript o i pos) X.env v = (do
      let ov ← holding [v] (eval o X.env)
      let iv ← holding [v, ov] (eval i X.env)
      standAt pos
      holding [v, ov, iv] (setItem ov iv v)
      release [v, ov, iv] []) := by intro _; rfl) : PG X (.Subscript o i pos) (gSub to ti t) := by
  intro pins s σ H v u Q I r h
  rw [ha]
  refine wpAny_bind (wpAny_holding (thn (ho pins s σ H _ I h) fun ov s1 ⟨x, H1, I1, r1, q1⟩ => ?_))
  refine wpAny_bind (wpAny_holding (thn (hi pins s1 σ H1 _ I1 q1) fun iv s2 ⟨y, H2, I2, r2, q2⟩ => ?_))
  refine wpAny_bind (wpAny_standAt (wpAny_bind (wpAny_holding (thn (hs pins s2 σ H2 x y v ov iv u _ I2 r1 r2 r q2) fun _ s3 ⟨H3, I3, q3⟩ => ?_))))
  exact wpAny_release ⟨σ, H3, I3, q3⟩
/-- target = value -/
def tAsg (te : TE) (g : TG) : TS := fun D σ H => te σ H fun x H1 => g x σ H1 D.nx
theorem ps_asg {tg e : Expr} {te : TE} {g : TG} (he : PE X e te) (hg : PG X tg g) (hs : swapsWithSole [tg] e pos.line X.env = pure false := by rfl) (hw : swappedStores [tg] e X.env = pure none := by rfl)
    (h1 : (assignEach [tg] X.env).map (·.2) = [assign tg X.env] := by rfl) : PS X (.Assign [tg] e pos) (tAsg te g) := by
  intro pins s σ H D I h
  refine wpAny_Assign_stores (thn (he pins s σ H _ I h) fun v s1 ⟨x, H1, I1, r1, q1⟩ => ?_) hs hw
  rw [h1]
  exact thn (hg pins s1 σ H1 x v _ I1 r1 q1) fun _ s2 q => q
/-- name = value -/
theorem ps_set {i : Nat} {x : Str} {e : Expr} {te : TE} {pos' : Pos} (hN : X.N.Nodup) (hi : X.N[i]? = some x) (hx : Loc X.env.scope x) (he : PE X e te) (hs : swapsWith e (some (.Name x pos')) pos.line X.env = pure false := by rfl) (hf : X.fn x = true ∨ X.env.scope.names.lookup x = some .local := by first | exact .inl rfl | exact .inr rfl | assumption) :
    PS X (.Assign [.Name x pos'] e pos) (tAsg te (gName i)) := by
  intro pins s σ H D I h
  refine wpAny_Assign_Name (thn (he pins s σ H _ I h) fun v s1 ⟨y, H1, I1, r1, q1⟩ => ?_) hs
  exact store_ok I1 hN hi hx r1 (fun s2 I2 => ⟨_, H1, I2, q1⟩) hf
end

/-! ### while -/
section
variable {X : Cx} {pos : Pos}
/-- the invariant W with its measure -/
def tWhile (c : TT) (tb : TS) : TS := fun D σ H => ∃ W : Nat → St → Hp → Prop, (∃ m, W m σ H) ∧ ∀ m σ H, W m σ H →
  c σ H fun b H1 => if b = true then ∃ N : St → Hp → Prop, (∀ σ' H', N σ' H' → ∃ m', m' < m ∧ W m' σ' H') ∧ tb { D with nx := N, ct := N, bk := D.nx } σ H1 else D.nx σ H1
theorem ps_while {c : Expr} {body : List Stmt} {tc : TT} {tb : TS} (hp : PassesOwn (model X.prog X.w) X.A X.env X.xe) (hc : PT X c tc) (hb : PSs X body tb) : PS X (.While c body [] pos) (tWhile tc tb) := by
  intro pins s σ H D I h
  obtain ⟨W, ⟨m0, w0⟩, turn⟩ := h
  refine wpAny_While (codeAny_whileLoop (fun n s' => ∃ σ' H', Inv X pins σ' H' s' ∧ W n σ' H') ?_ m0 ⟨σ, H, I, w0⟩)
  rintro n s1 ⟨σ1, H1, I1, w1⟩
  refine wpAny_passesOwn hp (thn (hc pins s1 σ1 H1 _ I1 (turn n σ1 H1 w1)) fun b s2 ⟨H2, I2, q2⟩ => ?_)
  cases b with
  | true =>
    obtain ⟨N, hN, q2⟩ := q2
    rw [if_pos rfl]
    refine wpAny_passesOwn hp (thn (hb pins s2 σ1 H2 _ I2 q2) fun f s3 q3 => ?_)
    cases f with
    | next =>
      obtain ⟨σ3, H3, I3, n3⟩ := q3
      obtain ⟨m', hm, w3⟩ := hN σ3 H3 n3
      exact ⟨m', hm, σ3, H3, I3, w3⟩
    | cont =>
      obtain ⟨σ3, H3, I3, n3⟩ := q3
      obtain ⟨m', hm, w3⟩ := hN σ3 H3 n3
      exact ⟨m', hm, σ3, H3, I3, w3⟩
    | brk => exact q3
    | ret v => exact q3
  | false =>
    rw [if_neg Bool.false_ne_true]
    exact wpAny_execs_nil ⟨σ1, H2, I2, q2⟩
end

/-! ### what a loop or a comprehension walks -/
/-- at turn i: it yields x (the heap may grow), or it stops -/
structure It where
  go : Nat → Hp → Prop
  yld : Nat → Hp → V → Hp → Prop
  stop : Nat → Hp → Prop
/-- the iterator's own objects may turn: they are not the frame's, not pinned, younger than the entry (or a comprehension's own) -/
def FpOk (X : Cx) (pins : List (Addr × Obj)) (H : Hp) (b : Addr) : Prop :=
  H b = none ∧ b ≠ X.env.locals ∧ b ∉ X.fs ∧ (b ∈ X.ex ∨ X.s_0.heap.objs.size ≤ b) ∧ (∀ x c, X.env.cells.lookup x = some c → c ≠ b) ∧ ∀ p ∈ X.pn ++ pins, p.1 ≠ b
theorem Inv.fpOk {X : Cx} {pins : List (Addr × Obj)} {σ : St} {H H' : Hp} {s : Shared} {b : Addr} (I : Inv X pins σ H s) (hb : s.heap.objs.size ≤ b) (hn : H' b = none) : FpOk X pins H' b := by
  refine ⟨hn, Nat.ne_of_gt (Nat.lt_of_lt_of_le I.lt hb), I.nofs hb, .inr (Nat.le_trans I.sz hb), fun x c e z => ?_, fun p hp z => ?_⟩
  · obtain ⟨v, q⟩ := I.cell x c e
    exact absurd (Nat.lt_of_lt_of_le q.lt (by rw [z]; exact hb)) (Nat.lt_irrefl _)
  · exact absurd (Nat.lt_of_lt_of_le (Heap.lt_size (I.pin p hp).1) (by rw [z]; exact hb)) (Nat.lt_irrefl _)
structure Turn (P : Program) (w : World) (K : PySem.W.Frag) (tg : Expr) (J : It) (fp : List Addr) (it : Addr) (tn : Nat → Heap → Prop) : Prop where
  mem : it ∈ fp
  obj : ∀ i h, tn i h → ∀ b ∈ fp, ∃ o, h.get? b = some o ∧ ∀ v, o.data ≠ .cell v
  keep : ∀ i h h', tn i h → (∀ b ∈ fp, ∀ o, h.get? b = some o → h'.get? b = some o) → tn i h'
  item : ∀ (X : Cx), X.prog = P → X.w = w → X.K = K → X.calm = true → ∀ (i : Nat) (pins : List (Addr × Obj)) (s : Shared) (σ : St) (H : Hp) (E : Value → Shared → Prop), Inv X pins σ H s → (∀ b ∈ fp, FpOk X pins H b) → tn i s.heap → J.go i H →
    wpAny (model P w) X.A (pyNext (.ref it)) (fun r s1 => ∃ u, r = some u ∧
      wpAny (model P w) X.A (letOwnedTupleGo tg (.ref it) u) (fun _ s2 => ∃ x H', Inv X pins σ H' s2 ∧ RelV x u ∧ J.yld i H x H' ∧ tn (i + 1) s2.heap ∧ ∀ b ∈ fp, H' b = none) E s1) E s
  done : ∀ (X : Cx), X.prog = P → X.w = w → X.K = K → X.calm = true → ∀ (i : Nat) (pins : List (Addr × Obj)) (s : Shared) (σ : St) (H : Hp) (E : Value → Shared → Prop), Inv X pins σ H s → (∀ b ∈ fp, FpOk X pins H b) → tn i s.heap → J.stop i H →
    wpAny (model P w) X.A (pyNext (.ref it)) (fun r s1 => r = none ∧ Inv X pins σ H s1) E s
  self : ∀ (A : Around) (i : Nat) (s : Shared) (Q : Value → Shared → Prop) (E : Value → Shared → Prop), tn i s.heap → Q (.ref it) s → wpAny (model P w) A (pyIter (.ref it)) Q E s
abbrev TI := St → Hp → (It → Hp → Prop) → Prop
/-- an iterator has come -/
def PIE (X : Cx) (pins : List (Addr × Obj)) (σ : St) (tg : Expr) (R : It → Hp → Prop) (itv : Value) (s2 : Shared) : Prop :=
  ∃ (it : Addr) (fp : List Addr) (tn : Nat → Heap → Prop) (J : It) (H' : Hp), itv = .ref it ∧ Inv X pins σ H' s2 ∧ Turn X.prog X.w X.K tg J fp it tn ∧ tn 0 s2.heap ∧ (∀ b ∈ fp, FpOk X pins H' b) ∧ R J H'
def PI (X : Cx) (tg iter : Expr) (wi : TI) : Prop :=
  ∀ (pins : List (Addr × Obj)) (s : Shared) (σ : St) (H : Hp) (R : It → Hp → Prop), Inv X pins σ H s → wi σ H R →
    wpAny (model X.prog X.w) X.A (eval iter X.env) (fun v s1 => wpAny (model X.prog X.w) X.A (pyIter v) (PIE X pins σ tg R) X.xe s1) X.xe s

/-- the step ahead of the store is nothing for an iterator that keeps no tuple -/
theorem go_of {M : Model} {A : Around} {E : Value → Shared → Prop} {s : Shared} {tg : Expr} {it : Addr} {u : Value} {o : Obj} {n : String} {vs : Array Value} {Q : Unit → Shared → Prop} (ho : s.heap.get? it = some o) (hc : o.cls = .type n) (hd : o.data = .fields vs)
    (hn : ["enumerate", "zip", "dict_itemiterator", "dict_reverseitemiterator", "odict_iterator", "itertools.zip_longest", "itertools.pairwise"].contains n = false) (hQ : Q () s) : wpAny M A (letOwnedTupleGo tg (.ref it) u) Q E s := by
  unfold letOwnedTupleGo
  cases tg <;> first
    | exact wpAny_pure hQ
    | (cases u <;> first
        | exact wpAny_pure hQ
        | (refine wpAny_bind (wpAny_load ho ?_)
           rw [hc, hd]
           show wpAny M A (if (["enumerate", "zip", "dict_itemiterator", "dict_reverseitemiterator", "odict_iterator", "itertools.zip_longest", "itertools.pairwise"].contains n && vs[0]? == some (rawInt _)) = true then _ else _) Q E s
           rw [if_neg (by intro h; rw [hn, Bool.false_and] at h; cases h)]
           exact wpAny_pure hQ))

/-- the list at a, as it stands at each turn (a loop may append to it) -/
def Itl (K : PySem.W.Frag) (a : Addr) : It :=
  ⟨fun i H => ∃ xs x, SqL K H a xs ∧ xs[i]? = some x, fun i H x H' => H' = H ∧ ∀ xs, SqL K H a xs → xs[i]? = some x, fun i H => ∃ xs, SqL K H a xs ∧ xs.length ≤ i⟩
/-- lo, lo + 1, .. (n of them) -/
def Itr (lo : Int) (n : Nat) : It := ⟨fun i _ => i < n, fun i H x H' => H' = H ∧ x = .int (lo + i), fun i _ => n ≤ i⟩
theorem turn_list {P : Program} {w : World} {K : PySem.W.Frag} {tg : Expr} (a it : Addr) : Turn P w K tg (Itl K a) [it] it (fun i h => h.IsListIter it a i) where
  mem := by simp
  obj := fun i h st b hb => by
    have e : b = it := by simpa using hb
    subst e
    obtain ⟨o, e, c, d⟩ := st
    exact ⟨o, e, fun v z => by rw [d] at z; cases z⟩
  keep := fun i h h' st k => st.at fun o e => k it (by simp) o e
  item := by
    intro X hP hw hK hc i pins s σ H E I hf st hg
    subst hP hw hK
    obtain ⟨xs, x, hq, hx⟩ := hg
    obtain ⟨its, rv, p, hz⟩ := I.list hq
    obtain ⟨u, hu, ru⟩ := rv.get hx
    obtain ⟨f0, f1, f2, f3, f4, f5⟩ := hf it (by simp)
    refine wpAny_pyNext_list_item st p.isList (x := u) (by simpa using hu) fun h' st' sb => ?_
    have I1 : Inv X pins σ H { s with heap := h' } := I.turned (t' := s.toks) (fun b o hb e => (sb.2 b hb).trans e) f0 f1 f3 f4 f5
    obtain ⟨o, e, c, d⟩ := id st'
    exact ⟨u, rfl, go_of (s := { s with heap := h' }) e c d (by decide) ⟨x, H, I1, ru, ⟨rfl, fun ys hy => by rw [I.list_inj hy hq]; exact hx⟩, st', fun b hb => (hf b hb).1⟩⟩
  done := by
    intro X hP hw hK hc i pins s σ H E I hf st hg
    subst hP hw hK
    obtain ⟨xs, hq, hx⟩ := hg
    obtain ⟨its, rv, p, hz⟩ := I.list hq
    obtain ⟨f0, f1, f2, f3, f4, f5⟩ := hf it (by simp)
    have hl := rv.length
    exact wpAny_pyNext_list_end (I.ok.hd hc) st p.isList (by simp; omega) fun h' eb => ⟨rfl, I.turned (t' := s.toks) (fun b o hb e => eb b o hb e) f0 f1 f3 f4 f5⟩
  self := fun _ _ _ _ _ st h => wpAny_pyIter_listiter st h
theorem turn_range {P : Program} {w : World} {K : PySem.W.Frag} {tg : Expr} (it : Addr) (lo : Int) (n : Nat) : Turn P w K tg (Itr lo n) [it] it (fun i h => IsRangeIter h it (lo + (i : Nat) * 1) ((n : Int) - (i : Nat)) 1) where
  mem := by simp
  obj := fun i h st b hb => by
    have e : b = it := by simpa using hb
    subst e
    exact ⟨_, st, fun v z => by
      have z' : Data.fields _ = Data.cell v := z
      cases z'⟩
  keep := fun i h h' st k => k it (by simp) _ st
  item := by
    intro X hP hw hK hc i pins s σ H E I hf st hg
    subst hP hw hK
    obtain ⟨f0, f1, f2, f3, f4, f5⟩ := hf it (by simp)
    have W := Walks.range (prog := X.prog) (w := X.w) (I.ok.hd hc) it lo 1 n
    refine W.item i s _ _ hg st fun v h' tk hv st' kk => ?_
    obtain ⟨t, rfl⟩ := hv
    have I1 : Inv X pins σ H { s with heap := h', toks := tk } := I.turned (fun b o hb e => kk b o (by simpa using hb) e) f0 f1 f3 f4 f5
    refine ⟨_, rfl, go_of (s := { s with heap := h', toks := tk }) (n := "range_iterator") st' rfl rfl (by decide) ⟨.int (lo + i), H, I1, ⟨t, ?_⟩, ⟨rfl, rfl⟩, st', fun b hb => (hf b hb).1⟩⟩
    rw [Int.mul_one]
  done := by
    intro X hP hw hK hc i pins s σ H E I hf st hg
    subst hP hw hK
    obtain ⟨f0, f1, f2, f3, f4, f5⟩ := hf it (by simp)
    exact wpAny_pyNext_range_end (I.ok.hd hc) st (by have : n ≤ i := hg; omega) fun h' eb => ⟨rfl, I.turned (t' := s.toks) (fun b o hb e => eb b o hb e) f0 f1 f3 f4 f5⟩
  self := fun _ _ _ _ _ st h => wpAny_pyIter_rangeiter st h
end L2

namespace L2
open PySem PySem.Spec PyProof.Rows
section
variable {X : Cx} {tg : Expr}
def iList (K : PySem.W.Frag) (tl : TE) : TI := fun σ H R => tl σ H fun x H1 => ∃ a, x = .ref a ∧ (∃ xs, SqL K H1 a xs) ∧ R (Itl K a) H1
theorem pi_list {l : Expr} {tl : TE} (hl : PE X l tl) : PI X tg l (iList X.K tl) := by
  intro pins s σ H R I h
  refine thn (hl pins s σ H _ I h) fun v s1 ⟨x, H1, I1, r1, q1⟩ => ?_
  obtain ⟨a, e, ⟨xs, hq⟩, q⟩ := q1
  subst e
  cases r1
  obtain ⟨its, rv, p, hz⟩ := I1.list hq
  refine wpAny_pyIter_list p.isList ?_
  refine ⟨s1.heap.objs.size, [s1.heap.objs.size], _, _, H1, rfl, I1.kept (t' := s1.toks) fun b o e => Heap.get?_push_of_some _ e, turn_list a _, ⟨_, Heap.get?_push_size _ rfl, rfl, rfl⟩, fun b hb => ?_, q⟩
  have e : b = s1.heap.objs.size := by simpa using hb
  subst e
  exact I1.fpOk (Nat.le_refl _) (I1.hok.fresh (Nat.le_refl _))
/-- a range object just made, walked -/
theorem range_it {pins : List (Addr × Obj)} {σ : St} {H : Hp} {s : Shared} {R : It → Hp → Prop} {E : Value → Shared → Prop} {lo hi : Int} {t u v : Tok} {tk : Nat} (I : Inv X pins σ H s) (h1 : -(2 ^ 62) ≤ lo) (h2 : lo < 2 ^ 62) (h3 : -(2 ^ 62) ≤ hi) (h4 : hi < 2 ^ 62)
    (q : R (Itr lo (hi - lo).toNat) H) : wpAny (model X.prog X.w) X.A (pyIter (.ref s.heap.objs.size)) (PIE X pins σ tg R) E { s with heap := s.heap.push { cls := .type "range", data := .fields #[.int lo t, .int hi u, .int 1 v] }, toks := tk } := by
  refine wpAny_pyIter_range (IsRange.new ..) (small_one h1 h2 h3 h4) ?_
  have I1 : Inv X pins σ H { s with heap := s.heap.push { cls := .type "range", data := .fields #[.int lo t, .int hi u, .int 1 v] }, toks := tk } := I.kept fun b o e => Heap.get?_push_of_some _ e
  refine ⟨(s.heap.push { cls := .type "range", data := .fields #[.int lo t, .int hi u, .int 1 v] }).objs.size, [(s.heap.push { cls := .type "range", data := .fields #[.int lo t, .int hi u, .int 1 v] }).objs.size], _, _, H, rfl,
    I1.kept (t' := tk) fun b o e => Heap.get?_push_of_some _ e, turn_range _ lo (hi - lo).toNat, ?_, fun b hb => ?_, q⟩
  · have e1 : lo + ((0 : Nat) : Int) * 1 = lo := by simp
    have e2 : (((hi - lo).toNat : Nat) : Int) - ((0 : Nat) : Int) = Builtin.Range.rangeSize lo hi 1 := by rw [rangeSize_one]; split <;> omega
    show IsRangeIter _ _ (lo + ((0 : Nat) : Int) * 1) ((((hi - lo).toNat : Nat) : Int) - ((0 : Nat) : Int)) 1
    rw [e1, e2]
    exact Heap.get?_push_size _ rfl
  · have e : b = (s.heap.push { cls := .type "range", data := .fields #[.int lo t, .int hi u, .int 1 v] }).objs.size := by simpa using hb
    subst e
    exact I1.fpOk (Nat.le_refl _) (I1.hok.fresh (Nat.le_refl _))
def iRng1 (ta : TA) : TI := fun σ H R => ta σ H fun vs H1 => ∃ j : Int, vs = [.int j] ∧ -(2 ^ 62) ≤ j ∧ j < 2 ^ 62 ∧ R (Itr 0 j.toNat) H1
def iRng2 (ta : TA) : TI := fun σ H R => ta σ H fun vs H1 => ∃ i j : Int, vs = [.int i, .int j] ∧ (-(2 ^ 62) ≤ i ∧ i < 2 ^ 62 ∧ -(2 ^ 62) ≤ j ∧ j < 2 ^ 62) ∧ R (Itr i (j - i).toNat) H1
theorem pi_range1 {a : Expr} {ta : TA} {p pos : Pos} (hg : Gl X "range") (hm : X.mg "range" = none) (ha : PA X [a] ta) (hs : starEach [a] X.env = [(false, eval a X.env)] := by rfl) : PI X tg (.Call (.Name "range" p) [a] [] pos) (iRng1 ta) := by
  intro pins s σ H R I h
  refine Call_ (ld_blt I hg hm boot_range (PyProof.Rows.callWith_type1 (thn (ha pos pins s σ H _ I h) fun us s1 ⟨vs, H1, I1, r1, q1⟩ => ?_) hs rfl))
  obtain ⟨j, e, q1, q2, q⟩ := q1
  subst e
  cases r1 with
  | cons r rr =>
    cases rr
    obtain ⟨t, rfl⟩ := r
    exact call_range_1 (range_it I1 (by omega) (by omega) q1 q2 (by simpa using q))
theorem pi_range2 {a b : Expr} {ta : TA} {p pos : Pos} (hg : Gl X "range") (hm : X.mg "range" = none) (ha : PA X [a, b] ta) (hs : starEach [a, b] X.env = [(false, eval a X.env), (false, eval b X.env)] := by rfl) (hs2 : starEach [b] X.env = [(false, eval b X.env)] := by rfl) :
    PI X tg (.Call (.Name "range" p) [a, b] [] pos) (iRng2 ta) := by
  intro pins s σ H R I h
  refine Call_ (ld_blt I hg hm boot_range (PyProof.Rows.callWith_type1 (thn (ha pos pins s σ H _ I h) fun us s1 ⟨vs, H1, I1, r1, q1⟩ => ?_) (by rw [hs, hs2]) (by rw [hs2]; rfl)))
  obtain ⟨i, j, e, ⟨q1, q2, q3, q4⟩, q⟩ := q1
  subst e
  cases r1 with
  | cons r rr =>
    cases rr with
    | cons r' rr =>
      cases rr
      obtain ⟨t, rfl⟩ := r
      obtain ⟨t', rfl⟩ := r'
      exact call_range_2 (range_it I1 q1 q2 q3 q4 q)

/-! ### for -/
/-- W: the invariant by the turn and a measure; N: what the body is to reach -/
def tFor (wi : TI) (g : TG) (tb : TS) : TS := fun D σ H => wi σ H fun J H1 => ∃ W : Nat → Nat → St → Hp → Prop, (∃ m, W 0 m σ H1) ∧ ∀ i m σ H, W i m σ H →
  (J.stop i H ∧ D.nx σ H) ∨ (J.go i H ∧ ∃ N : St → Hp → Prop, (∀ σ' H', N σ' H' → ∃ m', m' < m ∧ W (i + 1) m' σ' H') ∧ ∀ x H', J.yld i H x H' → g x σ H' fun σ2 H2 => tb { D with nx := N, ct := N, bk := D.nx } σ2 H2)
/-- the records at fp as they stand -/
def pinsAt (fp : List Addr) (h : Heap) : List (Addr × Obj) := fp.filterMap fun b => (h.get? b).map fun o => (b, o)
theorem mem_pinsAt {fp : List Addr} {h : Heap} {b : Addr} {o : Obj} (hb : b ∈ fp) (e : h.get? b = some o) : (b, o) ∈ pinsAt fp h := List.mem_filterMap.mpr ⟨b, hb, by rw [e]; rfl⟩
theorem of_pinsAt {fp : List Addr} {h : Heap} {p : Addr × Obj} (hp : p ∈ pinsAt fp h) : p.1 ∈ fp ∧ h.get? p.1 = some p.2 := by
  obtain ⟨b, hb, e⟩ := List.mem_filterMap.mp hp
  cases q : h.get? b with
  | none => rw [q] at e; cases e
  | some o =>
    rw [q] at e
    have e' : (b, o) = p := Option.some.inj e
    subst e'
    exact ⟨hb, q⟩
theorem Inv.pinned {pins : List (Addr × Obj)} {σ : St} {H : Hp} {s : Shared} {fp : List Addr} (I : Inv X pins σ H s) (hf : ∀ b ∈ fp, FpOk X pins H b) (ho : ∀ b ∈ fp, ∃ o, s.heap.get? b = some o ∧ ∀ v, o.data ≠ .cell v) : Inv X (pins ++ pinsAt fp s.heap) σ H s :=
  I.pins_of fun p hp => (List.mem_append.mp hp).elim (fun z => I.pin p (List.mem_append_right _ z)) fun z => by
    obtain ⟨hb, e⟩ := of_pinsAt z
    obtain ⟨f0, f1, f2, _⟩ := hf p.1 hb
    obtain ⟨o, e', d⟩ := ho p.1 hb
    rw [e] at e'; cases e'
    exact ⟨e, f0, f1, f2, d⟩
theorem Inv.unpinned {pins pl : List (Addr × Obj)} {σ : St} {H : Hp} {s : Shared} (I : Inv X (pins ++ pl) σ H s) : Inv X pins σ H s := I.pins_of fun p hp => I.pin p (List.mem_append_right _ (List.mem_append_left _ hp))
theorem ps_for {iter : Expr} {body : List Stmt} {wi : TI} {g : TG} {tb : TS} {pos : Pos} (hp : PassesOwn (model X.prog X.w) X.A X.env X.xe) (hc : X.calm = true) (hi : PI X tg iter wi) (hg : PG X tg g) (hb : PSs X body tb)
    (hs : ∀ x, foldedSetIterable iter X.env x = pure x := by intro _; rfl) : PS X (.For tg iter body [] pos) (tFor wi g tb) := by
  intro pins s σ H D I h
  refine wpAny_For (thn (hi pins s σ H _ I h) fun v s1 h1 => thn h1 fun itv s2 h2 => ?_) hs
  obtain ⟨it, fp, tn, J, H2, e, I2, T, st2, f2, W, ⟨m0, w0⟩, turn⟩ := h2
  subst e
  -- what stays true of the iterator's objects through the loop
  have stat : ∀ {H' : Hp}, (∀ b ∈ fp, H' b = none) → ∀ b ∈ fp, FpOk X pins H' b := fun hn b hb => ⟨hn b hb, (f2 b hb).2⟩
  refine codeAny_forLoop_any (fun n s' => ∃ i σ' H', Inv X pins σ' H' s' ∧ tn i s'.heap ∧ (∀ b ∈ fp, H' b = none) ∧ W i n σ' H') ?_ m0 ⟨0, σ, H2, I2, st2, fun b hb => (f2 b hb).1, w0⟩
  rintro n s3 ⟨i, σ3, H3, I3, st3, fr3, w3⟩
  rcases turn i n σ3 H3 w3 with ⟨stop, qn⟩ | ⟨go, N, hN, step⟩
  · refine wpAny_passesOwn hp (thn (T.done X rfl rfl rfl hc i pins s3 σ3 H3 X.xe I3 (stat fr3) st3 stop) fun r s4 ⟨hr, I4⟩ => ?_)
    subst hr
    exact wpAny_execs_nil ⟨σ3, H3, I4, qn⟩
  · refine wpAny_passesOwn hp (thn (T.item X rfl rfl rfl hc i pins s3 σ3 H3 X.xe I3 (stat fr3) st3 go) fun r s4 ⟨u, hr, h4⟩ => ?_)
    subst hr
    refine wpAny_passesOwn hp (thn h4 fun _ s5 ⟨x, H5, I5, r5, y5, st5, fr5⟩ => ?_)
    have I5' := I5.pinned (stat fr5) (T.obj _ _ st5)
    refine wpAny_passesOwn hp (thn (hg _ s5 σ3 H5 x u _ I5' r5 (step x H5 y5)) fun _ s6 ⟨σ6, H6, I6, q6⟩ => ?_)
    refine wpAny_passesOwn hp (thn (hb _ s6 σ6 H6 _ I6 q6) fun f s7 q7 => ?_)
    have again : ∀ {σ7 : St} {H7 : Hp}, Inv X (pins ++ pinsAt fp s5.heap) σ7 H7 s7 → N σ7 H7 → ∃ m, m < n ∧ ∃ i σ' H', Inv X pins σ' H' s7 ∧ tn i s7.heap ∧ (∀ b ∈ fp, H' b = none) ∧ W i m σ' H' := fun {σ7 H7} I7 n7 => by
      obtain ⟨m', hm, w7⟩ := hN σ7 H7 n7
      refine ⟨m', hm, i + 1, σ7, H7, I7.unpinned, T.keep _ _ _ st5 fun b hb o e => (I7.pin (b, o) (List.mem_append_right _ (List.mem_append_right _ (mem_pinsAt hb e)))).1, fun b hb => ?_, w7⟩
      obtain ⟨o, e, d⟩ := T.obj _ _ st5 b hb
      exact (I7.pin (b, o) (List.mem_append_right _ (List.mem_append_right _ (mem_pinsAt hb e)))).2.1
    cases f with
    | next => obtain ⟨σ7, H7, I7, n7⟩ := q7; exact again I7 n7
    | cont => obtain ⟨σ7, H7, I7, n7⟩ := q7; exact again I7 n7
    | brk => obtain ⟨σ7, H7, I7, q7⟩ := q7; exact ⟨σ7, H7, I7.unpinned, q7⟩
    | ret v => obtain ⟨x7, σ7, H7, I7, r7, q7⟩ := q7; exact ⟨x7, σ7, H7, I7.unpinned, r7, q7⟩
end

/-! ### the forms one uses -/
/-- over a list that the body leaves as it is -/
theorem for_list {K : PySem.W.Frag} {a : Addr} {xs : List V} {g : TG} {tb : TS} {D : Ends} {σ : St} {H : Hp} (Pv : Nat → St → Hp → Prop) (h0 : Pv 0 σ H) (hl : ∀ i σ H, i ≤ xs.length → Pv i σ H → SqL K H a xs)
    (hs : ∀ i x σ H, xs[i]? = some x → Pv i σ H → g x σ H fun σ2 H2 => tb { D with nx := Pv (i + 1), ct := Pv (i + 1), bk := D.nx } σ2 H2) (hd : ∀ σ H, Pv xs.length σ H → D.nx σ H) :
    ∃ W : Nat → Nat → St → Hp → Prop, (∃ m, W 0 m σ H) ∧ ∀ i m σ H, W i m σ H →
      ((Itl K a).stop i H ∧ D.nx σ H) ∨ ((Itl K a).go i H ∧ ∃ N : St → Hp → Prop, (∀ σ' H', N σ' H' → ∃ m', m' < m ∧ W (i + 1) m' σ' H') ∧ ∀ x H', (Itl K a).yld i H x H' → g x σ H' fun σ2 H2 => tb { D with nx := N, ct := N, bk := D.nx } σ2 H2) := by
  refine ⟨fun i m σ H => m = xs.length - i ∧ i ≤ xs.length ∧ Pv i σ H, ⟨xs.length, by simp, Nat.zero_le _, h0⟩, ?_⟩
  rintro i m σ H ⟨rfl, hi, p⟩
  have q := hl i σ H hi p
  by_cases hlt : i < xs.length
  · refine .inr ⟨⟨xs, xs[i], q, by simp [hlt]⟩, Pv (i + 1), fun σ' H' p' => ⟨xs.length - (i + 1), by omega, rfl, hlt, p'⟩, fun x H' y => ?_⟩
    obtain ⟨e, y⟩ := y
    subst e
    exact hs i x σ _ (y xs q) p
  · have e : i = xs.length := by omega
    subst e
    exact .inl ⟨⟨xs, q, Nat.le_refl _⟩, hd σ H p⟩
theorem for_range {lo : Int} {n : Nat} {g : TG} {tb : TS} {D : Ends} {σ : St} {H : Hp} (Pv : Nat → St → Hp → Prop) (h0 : Pv 0 σ H)
    (hs : ∀ i σ H, i < n → Pv i σ H → g (.int (lo + i)) σ H fun σ2 H2 => tb { D with nx := Pv (i + 1), ct := Pv (i + 1), bk := D.nx } σ2 H2) (hd : ∀ σ H, Pv n σ H → D.nx σ H) :
    ∃ W : Nat → Nat → St → Hp → Prop, (∃ m, W 0 m σ H) ∧ ∀ i m σ H, W i m σ H →
      ((Itr lo n).stop i H ∧ D.nx σ H) ∨ ((Itr lo n).go i H ∧ ∃ N : St → Hp → Prop, (∀ σ' H', N σ' H' → ∃ m', m' < m ∧ W (i + 1) m' σ' H') ∧ ∀ x H', (Itr lo n).yld i H x H' → g x σ H' fun σ2 H2 => tb { D with nx := N, ct := N, bk := D.nx } σ2 H2) := by
  refine ⟨fun i m σ H => m = n - i ∧ i ≤ n ∧ Pv i σ H, ⟨n, by simp, Nat.zero_le _, h0⟩, ?_⟩
  rintro i m σ H ⟨rfl, hi, p⟩
  by_cases hlt : i < n
  · refine .inr ⟨hlt, Pv (i + 1), fun σ' H' p' => ⟨n - (i + 1), by omega, rfl, hlt, p'⟩, fun x H' y => ?_⟩
    obtain ⟨e, y⟩ := y
    subst e y
    exact hs i σ _ hlt p
  · have e : i = n := by omega
    subst e
    exact .inl ⟨Nat.le_refl _, hd σ H p⟩
/-- while, by a word and a measure of the state -/
theorem while_by {c : TT} {tb : TS} {D : Ends} {σ : St} {H : Hp} (Pv : St → Hp → Prop) (μ : St → Hp → Nat) (h0 : Pv σ H)
    (hs : ∀ σ H, Pv σ H → c σ H fun b H1 => if b = true then tb { D with nx := fun σ' H' => Pv σ' H' ∧ μ σ' H' < μ σ H, ct := fun σ' H' => Pv σ' H' ∧ μ σ' H' < μ σ H, bk := D.nx } σ H1 else D.nx σ H1)
    (mono : ∀ σ H Q Q', (∀ b H1, Q b H1 → Q' b H1) → c σ H Q → c σ H Q') : tWhile c tb D σ H := by
  refine ⟨fun m σ H => m = μ σ H ∧ Pv σ H, ⟨_, rfl, h0⟩, ?_⟩
  rintro m σ H ⟨rfl, p⟩
  refine mono σ H _ _ (fun b H1 q => ?_) (hs σ H p)
  cases b with
  | true => exact ⟨_, fun σ' H' ⟨p', l⟩ => ⟨_, l, rfl, p'⟩, q⟩
  | false => exact q
end L2

namespace L2
open PySem PySem.Spec PyProof.Rows

abbrev R2 := V → V → Hp → VK → Prop
/-- a two-place operation on values: f is binaryOp op, inplaceOp op or compareOp op -/
def OpR (X : Cx) (f : Value → Value → Sem Value) (r : R2) : Prop :=
  ∀ (pins : List (Addr × Obj)) (s : Shared) (σ : St) (H : Hp) (x y : V) (v u : Value) (Q : VK), Inv X pins σ H s → RelV x v → RelV y u → r x y H Q →
    wpAny (model X.prog X.w) X.A (f v u) (EP X pins σ Q) X.xe s
/-- a one-place operation -/
def UnR (X : Cx) (f : Value → Sem Value) (r : V → Hp → VK → Prop) : Prop :=
  ∀ (pins : List (Addr × Obj)) (s : Shared) (σ : St) (H : Hp) (x : V) (v : Value) (Q : VK), Inv X pins σ H s → RelV x v → r x H Q →
    wpAny (model X.prog X.w) X.A (f v) (EP X pins σ Q) X.xe s
/-- a call of a value that is known (a builtin, a type) with values -/
def CallR (X : Cx) (f : Value) (r : List V → Hp → VK → Prop) : Prop :=
  ∀ (pins : List (Addr × Obj)) (s : Shared) (σ : St) (H : Hp) (xs : List V) (us : List Value) (Q : VK), Inv X pins σ H s → Vals xs us → r xs H Q →
    wpAny (model X.prog X.w) X.A (call f us) (EP X pins σ Q) X.xe s

def tOp (r : R2) (ta tb : TE) : TE := fun σ H Q => ta σ H fun x H1 => tb σ H1 fun y H2 => r x y H2 Q
def tUn (r : V → Hp → VK → Prop) (ta : TE) : TE := fun σ H Q => ta σ H fun x H1 => r x H1 Q
/-- ints in, under C, and a value out -/
def rI (C : Int → Int → Prop) (g : Int → Int → V) : R2 := fun x y H Q => ∃ i j, x = .int i ∧ y = .int j ∧ C i j ∧ Q (g i j) H
def rI0 (g : Int → Int → V) : R2 := fun x y H Q => ∃ i j, x = .int i ∧ y = .int j ∧ Q (g i j) H
def rU (g : Int → V) : V → Hp → VK → Prop := fun x H Q => ∃ i, x = .int i ∧ Q (g i) H

section
variable {X : Cx} {a b c : Expr} {ta tb tc : TE} {pos : Pos}

theorem binT (ha : PE X a ta) (hb : PE X b tb) {pins : List (Addr × Obj)} {s : Shared} {σ : St} {H : Hp} {R : V → V → Hp → Prop} (I : Inv X pins σ H s)
    (h : ta σ H fun x H1 => tb σ H1 fun y H2 => R x y H2) {Q : Value → Shared → Prop} {f : Value → Value → Sem Value}
    (hf : ∀ v u s2 x y H2, Inv X pins σ H2 s2 → RelV x v → RelV y u → R x y H2 → wpAny (model X.prog X.w) X.A (f v u) Q X.xe s2) :
    wpAny (model X.prog X.w) X.A (eval a X.env) (fun v s₁ => wpAny (model X.prog X.w) X.A (eval b X.env) (fun u s₂ => wpAny (model X.prog X.w) X.A (f v u) Q X.xe s₂) X.xe s₁) X.xe s := by
  refine thn (ha pins s σ H _ I h) fun v s1 ⟨x, H1, I1, r1, q1⟩ => ?_
  refine thn (hb pins s1 σ H1 _ I1 q1) fun u s2 ⟨y, H2, I2, r2, q2⟩ => ?_
  exact hf v u s2 x y H2 I2 r1 r2 q2

theorem pe_op {op : Operator} {r : R2} (ho : OpR X (binaryOp op) r) (ha : PE X a ta) (hb : PE X b tb) : PE X (.BinOp a op b pos) (tOp r ta tb) := by
  intro pins s σ H Q I h
  exact wpAny_BinOp (binT ha hb I h fun v u s2 x y H2 I2 rx ry q => ho pins s2 σ H2 x y v u Q I2 rx ry q)
theorem pe_un {op : UnaryOp} {r : V → Hp → VK → Prop} (ho : UnR X (unaryOp op) r) (ha : PE X a ta) : PE X (.UnaryOp op a pos) (tUn r ta) := by
  intro pins s σ H Q I h
  exact UnaryOp_ (thn (ha pins s σ H _ I h) fun v s1 ⟨x, H1, I1, r1, q1⟩ => ho pins s1 σ H1 x v Q I1 r1 q1)

/-! ### ints -/
theorem opI {f : Value → Value → Sem Value} {C : Int → Int → Prop} {g : Int → Int → Int}
    (rule : ∀ (i j : Int) (t u : Tok) (s : Shared) (Q : Value → Shared → Prop) (E : Value → Shared → Prop), C i j → Q (.int (g i j) s.toks) { s with toks := s.toks + 1 } → wpAny (model X.prog X.w) X.A (f (.int i t) (.int j u)) Q E s) :
    OpR X f (rI C fun i j => .int (g i j)) := by
  intro pins s σ H x y v u Q I rx ry h
  obtain ⟨i, j, rfl, rfl, hc, q⟩ := h
  obtain ⟨t, rfl⟩ := rx
  obtain ⟨t', rfl⟩ := ry
  exact rule i j t t' s _ _ hc ⟨.int (g i j), H, I.tok _, ⟨_, rfl⟩, q⟩
theorem opI0 {f : Value → Value → Sem Value} {g : Int → Int → Int}
    (rule : ∀ (i j : Int) (t u : Tok) (s : Shared) (Q : Value → Shared → Prop) (E : Value → Shared → Prop), Q (.int (g i j) s.toks) { s with toks := s.toks + 1 } → wpAny (model X.prog X.w) X.A (f (.int i t) (.int j u)) Q E s) :
    OpR X f (rI0 fun i j => .int (g i j)) := by
  intro pins s σ H x y v u Q I rx ry h
  obtain ⟨i, j, rfl, rfl, q⟩ := h
  obtain ⟨t, rfl⟩ := rx
  obtain ⟨t', rfl⟩ := ry
  exact rule i j t t' s _ _ ⟨.int (g i j), H, I.tok _, ⟨_, rfl⟩, q⟩
theorem opB0 {f : Value → Value → Sem Value} {g : Int → Int → Bool}
    (rule : ∀ (i j : Int) (t u : Tok) (s : Shared) (Q : Value → Shared → Prop) (E : Value → Shared → Prop), Q (.bool (g i j)) s → wpAny (model X.prog X.w) X.A (f (.int i t) (.int j u)) Q E s) :
    OpR X f (rI0 fun i j => .bl (g i j)) := by
  intro pins s σ H x y v u Q I rx ry h
  obtain ⟨i, j, rfl, rfl, q⟩ := h
  obtain ⟨t, rfl⟩ := rx
  obtain ⟨t', rfl⟩ := ry
  exact rule i j t t' s _ _ ⟨.bl (g i j), H, I, rfl, q⟩

def CDiv (i j : Int) : Prop := 0 < j ∧ j < 1073741824
def CPow (i j : Int) : Prop := 0 ≤ j ∧ j ≤ 1000000 ∧ i.natAbs < 2 ^ 64
def CMul (i j : Int) : Prop := (-(2 ^ 64) < i ∧ i < 2 ^ 64) ∨ (-(2 ^ 64) < j ∧ j < 2 ^ 64)
theorem CMul.ok {i j : Int} (h : CMul i j) : IntMulOk i j := by
  rcases h with ⟨h1, h2⟩ | ⟨h1, h2⟩
  · exact .of_left (intBits_le_64 h1 h2)
  · exact .of_right (intBits_le_64 h1 h2)

theorem op_add : OpR X (binaryOp .Add) (rI0 fun i j => .int (i + j)) := opI0 fun _ _ _ _ _ _ _ q => add_int q
theorem op_sub : OpR X (binaryOp .Sub) (rI0 fun i j => .int (i - j)) := opI0 fun _ _ _ _ _ _ _ q => sub_int q
theorem op_mul : OpR X (binaryOp .Mult) (rI CMul fun i j => .int (i * j)) := opI fun _ _ _ _ _ _ _ hc q => mul_int q hc.ok
/-- // by a positive divisor -/
theorem op_fdiv : OpR X (binaryOp .FloorDiv) (rI CDiv fun i j => .int (i / j)) := opI fun i j _ _ _ _ _ hc q => by
  have h1 : (0 : Int) < j := hc.1
  have h2 : j < 1073741824 := hc.2
  exact floordiv_int (by omega) (by rw [Int.fdiv_eq_ediv_of_nonneg i (by omega)]; exact q) (.inl (PyProof.noPylong_small (by omega)))
theorem op_shl : OpR X (binaryOp .LShift) (rI CPow fun i j => .int (i * 2 ^ j.toNat)) := opI fun _ _ _ _ _ _ _ hc q => lshift_int_small hc.1 hc.2.1 hc.2.2 q
theorem op_and : OpR X (binaryOp .BitAnd) (rI0 fun i j => .int (Builtin.bitAnd i j)) := opI0 fun _ _ _ _ _ _ _ q => and_int q
theorem op_or : OpR X (binaryOp .BitOr) (rI0 fun i j => .int (Builtin.bitOr i j)) := opI0 fun _ _ _ _ _ _ _ q => or_int q


theorem unI {f : Value → Sem Value} {g : Int → Int}
    (rule : ∀ (i : Int) (t : Tok) (s : Shared) (Q : Value → Shared → Prop) (E : Value → Shared → Prop), Q (.int (g i) s.toks) { s with toks := s.toks + 1 } → wpAny (model X.prog X.w) X.A (f (.int i t)) Q E s) :
    UnR X f (rU fun i => .int (g i)) := by
  intro pins s σ H x v Q I rx h
  obtain ⟨i, rfl, q⟩ := h
  obtain ⟨t, rfl⟩ := rx
  exact rule i t s _ _ ⟨.int (g i), H, I.tok _, ⟨_, rfl⟩, q⟩
theorem un_neg : UnR X (unaryOp .USub) (rU fun i => .int (-i)) := unI fun _ _ _ _ _ q => neg_int q

/-! ### bools among ints: n += (a < b) -/
end

/-! ### comparisons -/
/-- the scalars that == tells apart as data does -/
def scal : V → V → Bool
  | .non, .non => true | .non, .int _ => true | .int _, .non => true | .non, .bl _ => true | .bl _, .non => true | .non, .str _ => true | .str _, .non => true
  | .int _, .int _ => true | .bl _, .bl _ => true | .str _, .str _ => true | .byt _, .byt _ => true
  | .int _, .str _ => true | .str _, .int _ => true | .bl _, .str _ => true | .str _, .bl _ => true
  | _, _ => false
def rEq : R2 := fun x y H Q => scal x y = true ∧ Q (.bl (decide (x = y))) H
def rNe : R2 := fun x y H Q => scal x y = true ∧ Q (.bl (!decide (x = y))) H

theorem dec_int {i j : Int} : decide (V.int i = V.int j) = (i == j) := by
  rw [Bool.eq_iff_iff]
  simp
theorem dec_bl {i j : Bool} : decide (V.bl i = V.bl j) = (i == j) := by
  rw [Bool.eq_iff_iff]
  simp
theorem dec_str {i j : Str} : decide (V.str i = V.str j) = (i == j) := by
  rw [Bool.eq_iff_iff]
  simp
theorem dec_byt {i j : Array UInt8} : decide (V.byt i = V.byt j) = (i.toList == j.toList) := by
  rw [Bool.eq_iff_iff]
  cases i
  cases j
  simp

section
variable {X : Cx} {a b c : Expr} {ta tb tc : TE} {pos : Pos}
theorem fin_bl {pins : List (Addr × Obj)} {σ : St} {H : Hp} {s : Shared} {Q : VK} {k k' : Bool} (I : Inv X pins σ H s) (q : Q (.bl k) H) (e : k = k') : EP X pins σ Q (.bool k') s := by
  subst e
  exact ⟨.bl k, H, I, rfl, q⟩
theorem op_eq : OpR X (compareOp .Eq) rEq := by
  intro pins s σ H x y v u Q I rx ry h
  obtain ⟨hs, q⟩ := h
  cases x with
  | non =>
    cases rx
    cases y with
    | non => cases ry; exact PySem.EqNone.eq_none_none (fin_bl I q (by simp))
    | bl j => cases ry; exact PySem.EqNone.eq_none_bool (fin_bl I q (by simp))
    | int j => obtain ⟨t', rfl⟩ := ry; exact PySem.EqNone.eq_none_int (fin_bl I q (by simp))
    | str j => obtain ⟨t', rfl⟩ := ry; exact PySem.EqNone.eq_none_str (fin_bl I q (by simp))
    | _ => exact absurd (show false = true from hs) Bool.false_ne_true
  | bl i =>
    cases rx
    cases y with
    | non => cases ry; exact PySem.EqNone.eq_bool_none (fin_bl I q (by simp))
    | bl j => cases ry; exact eq_bool (fin_bl I q dec_bl)
    | str j => obtain ⟨t', rfl⟩ := ry; exact PySem.EqMixed.eq_bool_str (fin_bl I q (by simp))
    | _ => exact absurd (show false = true from hs) Bool.false_ne_true
  | int i =>
    obtain ⟨t, rfl⟩ := rx
    cases y with
    | non => cases ry; exact PySem.EqNone.eq_int_none (fin_bl I q (by simp))
    | int j => obtain ⟨t', rfl⟩ := ry; exact eq_int (fin_bl I q dec_int)
    | str j => obtain ⟨t', rfl⟩ := ry; exact PySem.EqMixed.eq_int_str (fin_bl I q (by simp))
    | _ => exact absurd (show false = true from hs) Bool.false_ne_true
  | str i =>
    obtain ⟨t, rfl⟩ := rx
    cases y with
    | non => cases ry; exact PySem.EqNone.eq_str_none (fin_bl I q (by simp))
    | bl j => cases ry; exact PySem.EqMixed.eq_str_bool (fin_bl I q (by simp))
    | int j => obtain ⟨t', rfl⟩ := ry; exact PySem.EqMixed.eq_str_int (fin_bl I q (by simp))
    | str j => obtain ⟨t', rfl⟩ := ry; exact eq_str (fin_bl I q dec_str)
    | _ => exact absurd (show false = true from hs) Bool.false_ne_true
  | byt i =>
    obtain ⟨t, rfl⟩ := rx
    cases y with
    | byt j => obtain ⟨t', rfl⟩ := ry; exact PySem.W.eq_bytes (fin_bl I q dec_byt)
    | _ => exact absurd (show false = true from hs) Bool.false_ne_true
  | _ => cases y <;> exact absurd (show false = true from hs) Bool.false_ne_true
theorem op_ne : OpR X (compareOp .NotEq) rNe := by
  intro pins s σ H x y v u Q I rx ry h
  obtain ⟨hs, q⟩ := h
  cases x with
  | non =>
    cases rx
    cases y with
    | non => cases ry; exact PySem.EqNone.ne_none_none (fin_bl I q (by simp))
    | bl j => cases ry; exact PySem.EqNone.ne_none_bool (fin_bl I q (by simp))
    | int j => obtain ⟨t', rfl⟩ := ry; exact PySem.EqNone.ne_none_int (fin_bl I q (by simp))
    | str j => obtain ⟨t', rfl⟩ := ry; exact PySem.EqNone.ne_none_str (fin_bl I q (by simp))
    | _ => exact absurd (show false = true from hs) Bool.false_ne_true
  | bl i =>
    cases rx
    cases y with
    | non => cases ry; exact PySem.EqNone.ne_bool_none (fin_bl I q (by simp))
    | bl j => cases ry; exact ne_bool (fin_bl I q (congrArg not dec_bl))
    | str j => obtain ⟨t', rfl⟩ := ry; exact PySem.EqMixed.ne_bool_str (fin_bl I q (by simp))
    | _ => exact absurd (show false = true from hs) Bool.false_ne_true
  | int i =>
    obtain ⟨t, rfl⟩ := rx
    cases y with
    | non => cases ry; exact PySem.EqNone.ne_int_none (fin_bl I q (by simp))
    | int j => obtain ⟨t', rfl⟩ := ry; exact ne_int (fin_bl I q (congrArg not dec_int))
    | str j => obtain ⟨t', rfl⟩ := ry; exact PySem.EqMixed.ne_int_str (fin_bl I q (by simp))
    | _ => exact absurd (show false = true from hs) Bool.false_ne_true
  | str i =>
    obtain ⟨t, rfl⟩ := rx
    cases y with
    | non => cases ry; exact PySem.EqNone.ne_str_none (fin_bl I q (by simp))
    | bl j => cases ry; exact PySem.EqMixed.ne_str_bool (fin_bl I q (by simp))
    | int j => obtain ⟨t', rfl⟩ := ry; exact PySem.EqMixed.ne_str_int (fin_bl I q (by simp))
    | str j => obtain ⟨t', rfl⟩ := ry; exact ne_str (fin_bl I q (congrArg not dec_str))
    | _ => exact absurd (show false = true from hs) Bool.false_ne_true
  | byt i =>
    obtain ⟨t, rfl⟩ := rx
    cases y with
    | byt j => obtain ⟨t', rfl⟩ := ry; exact PySem.W.ne_bytes (fin_bl I q (congrArg not dec_byt))
    | _ => exact absurd (show false = true from hs) Bool.false_ne_true
  | _ => cases y <;> exact absurd (show false = true from hs) Bool.false_ne_true

theorem op_lt : OpR X (compareOp .Lt) (rI0 fun i j => .bl (decide (i < j))) := opB0 fun _ _ _ _ _ _ _ q => lt_int q
theorem op_le : OpR X (compareOp .LtE) (rI0 fun i j => .bl (decide (i ≤ j))) := opB0 fun _ _ _ _ _ _ _ q => le_int q
theorem op_gt : OpR X (compareOp .Gt) (rI0 fun i j => .bl (decide (j < i))) := opB0 fun _ _ _ _ _ _ _ q => gt_int q
theorem op_ge : OpR X (compareOp .GtE) (rI0 fun i j => .bl (decide (j ≤ i))) := opB0 fun _ _ _ _ _ _ _ q => ge_int q




theorem nomark (b : Expr) {op : CmpOp} (h : op ≠ .In := by decide) (h2 : op ≠ .NotIn := by decide) : behindInMarks op b = false := by
  have e1 : (op == CmpOp.In) = false := by cases op <;> first | rfl | exact absurd rfl h
  have e2 : (op == CmpOp.NotIn) = false := by cases op <;> first | rfl | exact absurd rfl h2
  cases b <;> simp [behindInMarks, e1, e2]
/-- a comparison as a value; hm: nomark b, or (for in, not in) by with_unfolding_all rfl -/
theorem pe_cmpR {op : CmpOp} {r : R2} (ho : OpR X (compareOp op) r) (ha : PE X a ta) (hb : PE X b tb) (hm : behindInMarks op b = false) : PE X (.Compare a [op] [b] pos) (tOp r ta tb) := by
  intro pins s σ H Q I h
  exact wpAny_Compare1 (binT ha hb I h fun v u s2 x y H2 I2 rx ry q => ho pins s2 σ H2 x y v u Q I2 rx ry q) hm
/-- a reading of a value as a test -/
def tTest (t : TE) : TT := fun σ H Q => t σ H fun x H' => ∃ k, x = .bl k ∧ Q k H'
theorem pt_cmpR {op : CmpOp} {r : R2} (ho : OpR X (compareOp op) r) (ha : PE X a ta) (hb : PE X b tb) (hm : behindInMarks op b = false) : PT X (.Compare a [op] [b] pos) (tTest (tOp r ta tb)) := by
  intro pins s σ H Q I h
  refine wpAny_isTrue_Compare1 (thn (ha pins s σ H _ I h) fun v s1 ⟨x, H1, I1, r1, q1⟩ => thn (hb pins s1 σ H1 _ I1 q1) fun u s2 ⟨y, H2, I2, r2, q2⟩ =>
    thn (ho pins s2 σ H2 x y v u _ I2 r1 r2 q2) fun c s3 ⟨z, H3, I3, r3, k, e, q3⟩ => ?_) hm
  subst e
  cases r3
  exact wpAny_truthy_bool ⟨H3, I3, q3⟩

/-! ### truth -/
theorem line63 : (sizeLine : Nat) < 2 ^ 63 := by rw [sizeLine_eq]; decide

/-! ### strs and bytes -/


/-! ### scalar builtins, by CallR -/
theorem vals1 {x : V} {us : List Value} (r : Vals [x] us) : ∃ u, us = [u] ∧ RelV x u := by
  cases r with
  | cons r1 r2 => cases r2; exact ⟨_, rfl, r1⟩
theorem vals2 {x y : V} {us : List Value} (r : Vals [x, y] us) : ∃ u w', us = [u, w'] ∧ RelV x u ∧ RelV y w' := by
  cases r with
  | cons r1 r2 =>
    cases r2 with
    | cons r3 r4 => cases r4; exact ⟨_, _, rfl, r1, r3⟩
theorem call_min2 (hc : X.calm = true) : CallR X (.builtin "min") (fun xs H Q => ∃ i j, xs = [.int i, .int j] ∧ Q (.int (if j < i then j else i)) H) := by
  intro pins s σ H xs us Q I r h
  obtain ⟨i, j, rfl, q⟩ := h
  obtain ⟨u, w', rfl, ⟨t, rfl⟩, ⟨t', rfl⟩⟩ := vals2 r
  refine min_two_ints (I.ok.hd hc) fun h' tk k => ⟨_, H, I.kept k, ?_, q⟩
  by_cases hj : j < i
  · rw [if_pos hj, if_pos hj]; exact ⟨_, rfl⟩
  · rw [if_neg hj, if_neg hj]; exact ⟨_, rfl⟩
theorem call_str_int : CallR X (.type "str") (fun xs H Q => ∃ i, xs = [.int i] ∧ i.natAbs.log2 < 1920 ∧ Q (.str (toString i)) H) := by
  intro pins s σ H xs us Q I r h
  obtain ⟨i, rfl, hz, q⟩ := h
  obtain ⟨u, rfl, t, rfl⟩ := vals1 r
  exact PySem.P.str_of_int hz ⟨.str _, H, I.tok _, ⟨_, rfl⟩, q⟩
end
end L2

namespace L2
open PySem PySem.Spec PyProof.Rows

/-! ### an instance, its attributes a map -/
structure ObjM (h : Heap) (x dx C : Addr) (mA : Str → Option Value) : Prop where
  obj : h.get? x = some (PySem.W.instObj C dx)
  ns : h.Ns1 dx mA
  ne : dx ≠ x

theorem lookIn_ns {h : Heap} {dx : Addr} {mA : Str → Option Value} (n : h.Ns1 dx mA) : ∃ od, h.get? dx = some od ∧ ∀ name, PySem.W.lookIn name od = some (mA name) := by
  obtain ⟨o, es, ep, ho, hd, hk, _, hm⟩ := n
  refine ⟨o, ho, fun name => ?_⟩
  have e := hm name
  unfold nsFind findBy at e
  rw [← Array.find?_toList] at e
  unfold PySem.W.lookIn
  rw [hd]
  dsimp only
  split
  · rename_i y q
    rw [q] at e
    exact congrArg some e
  · rename_i q
    rw [q] at e
    have a : es.toList.any (·.refKey) = false := by
      rw [List.any_eq_false]
      intro y hy
      obtain ⟨z, t, hkey⟩ := hk y (Array.mem_toList_iff.mp hy)
      simp [DictEntry.refKey, hkey]
    have a' : ¬ es.toList.any (·.refKey) = true := by rw [a]; exact Bool.false_ne_true
    rw [if_neg a']
    exact congrArg some e

theorem ObjM.look {h : Heap} {x dx C : Addr} {mA : Str → Option Value} (I : ObjM h x dx C mA) : ∃ od, PySem.W.InstAt h x (PySem.W.instObj C dx) C (some od) ∧ ∀ name, PySem.W.lookIn name od = some (mA name) :=
  let ⟨od, ho, hl⟩ := lookIn_ns I.ns
  ⟨od, ⟨I.obj, rfl, rfl, ho⟩, hl⟩

section
variable {prog : Program} {w : World} {A : Around} {E : Value → Shared → Prop} {s : Shared} {K : PySem.W.Frag} {x dx C f : Addr} {mA : Str → Option Value} {name : Str} {v : Value}

theorem get_map {expr : Bool} {Q : Value → Shared → Prop} (X : K.In s.heap) (I : ObjM s.heap x dx C mA) (hg : PySem.W.plainGet K C name = true) (hh : PySem.W.hasDictIn K C = true)
    (ha : PySem.W.findIn K (.ref C) name = some none) (hv : mA name = some v) (hv' : PySem.W.handedIn v = true) (h : Q v { s with toks := s.toks + 1 }) :
    wpAny (model prog w) A (getAttr (.ref x) name expr) Q E s := by
  obtain ⟨od, J, hl⟩ := I.look
  exact PySem.W.get_value X J (PySem.W.plainGet_of hg).1 (PySem.W.findObj_own hh ha rfl (by rw [hl, hv])) hv' h


theorem get_meth {pl : Sem Bool} {Q : Value × List Value → Shared → Prop} (X : K.In s.heap) (I : ObjM s.heap x dx C mA) (hg : PySem.W.plainGet K C name = true)
    (hf : PySem.W.findIn K (.ref C) name = some (some (.ref f))) (ht : PySem.W.isFn K (.ref f) = true) (hv : mA name = none) (h : Q (.ref f, [.ref x]) s) :
    wpAny (model prog w) A (getMethod (.ref x) name pl) Q E s := by
  obtain ⟨od, J, hl⟩ := I.look
  exact PySem.W.method_fn X J (PySem.W.plainGet_of hg).1 (PySem.W.plainGet_of hg).2 hf (beq_iff_eq.mp ht) (by show (PySem.W.lookIn name od).map (·.isSome) = some false; rw [hl, hv]; rfl) h

theorem set_map {ns : List Str} {Q : Unit → Shared → Prop} (X : K.In s.heap) (I : ObjM s.heap x dx C mA)
    (hs : PySem.W.findIn K (.ref C) "__setattr__" = some (some (.builtin "object.__setattr__"))) (hp : PySem.W.plainOver K C = true) (ht : PySem.W.takerIn K C name = some none) (hh : PySem.W.hasDictIn K C = true)
    (hw : PySem.Within mA ns) (hsz : ns.length ≤ sizeLine)
    (h : ∀ h', ObjM h' x dx C (fun y => if y = name then some v else mA y) → Heap.SameBut dx s.heap h' → Q () { s with heap := h', toks := s.toks + 2 }) :
    wpAny (model prog w) A (setAttr (.ref x) name v) Q E s := by
  obtain ⟨od, J, hl⟩ := I.look
  refine PySem.W.set_plain X J hs (PySem.W.osa_open (s := { s with toks := s.toks + 1 }) (r := none) X J hp ht fun b => ?_)
  obtain ⟨cd, hc, hd'⟩ := PySem.W.any_some hh
  have hx : s.heap.get? x = some ⟨.ref C, some dx, .plain, #[]⟩ := I.obj
  refine wpAny_bind (wpAny_pure (wpAny_bind (wpAny_bind (wpAny_loadPart hx (wpAny_bind (PySem.W.Looks.here (s := { s with toks := s.toks + 1 }) (PySem.W.looks_clsIn X hc) ?_))))))
  rw [hd']
  refine wpAny_pure (a := some dx) (wpAny_bind (wpAny_pure (wpAny_bind ?_)))
  refine wpAny_nsSet1 (s := { s with toks := s.toks + 1 }) I.ns fun h' hn2 hs2 => ?_
  obtain ⟨oD, esD, epD, hoD, hdD, hcD⟩ := hn2.count (PySem.Within.cons name v hw)
  refine wpAny_bind (wpAny_lookBehind hoD (by rw [hdD]; exact pastItsLine_dict (Nat.le_trans hcD (by rw [List.length_cons]; omega))) ?_)
  exact wpAny_pure (h _ ⟨(hs2.2 _ (Ne.symm I.ne)).trans I.obj, hn2, I.ne⟩ hs2)

/-- C(..): the dict at the heap's end, the instance behind it; then its __init__ -/
theorem make_map {R : Result → Shared → Prop} {vs : List Value} {kw : List (Str × Value)} (X : K.In s.heap) (hm : PySem.W.makesIn K C = true)
    (hi : PySem.W.findIn K (.ref C) "__init__" = some (some (.ref f))) (hf : PySem.W.typeIn K (.ref f) = some (.type "function"))
    (h : codeAny (model prog w) (A.under (.builtin "type.__call__" ⟨.ref C :: vs, kw⟩)) (.call (.ref f) ⟨.ref (s.heap.objs.size + 1) :: vs, kw⟩) (PySem.W.InitBack (s.heap.objs.size + 1) R)
      { s with heap := (s.heap.push PySem.W.emptyDict).push (PySem.W.instObj C s.heap.objs.size) }) :
    codeAny (model prog w) A (.call (.ref C) ⟨vs, kw⟩) R s := by
  obtain ⟨hh, g, d, t, os⟩ := s
  exact PySem.W.make_core (PySem.W.makes_of X hm) (PySem.W.looks_findIn X hi) (fun self => PySem.W.bind_fn X self hf) (.inl rfl) h
end

/-! ### the attributes as a list of pairs -/
def putF (f : Str) (v : V) : List (Str × V) → List (Str × V)
  | [] => [(f, v)]
  | (g, x) :: r => if g = f then (g, v) :: r else (g, x) :: putF f v r
theorem lookup_putF (f g : Str) (v : V) : ∀ fs : List (Str × V), (putF f v fs).lookup g = if g = f then some v else fs.lookup g
  | [] => by
    show List.lookup g [(f, v)] = _
    by_cases h : g = f
    · have hb : (g == f) = true := beq_iff_eq.mpr h
      simp only [List.lookup, hb, if_pos h]
    · have hb : (g == f) = false := beq_eq_false_iff_ne.mpr h
      simp only [List.lookup, hb, if_neg h]
  | (k, x) :: r => by
    have ih := lookup_putF f g v r
    rw [show putF f v ((k, x) :: r) = (if k = f then (k, v) :: r else (k, x) :: putF f v r) from rfl]
    by_cases hk : k = f
    · rw [if_pos hk]
      by_cases h : g = k
      · have hb : (g == k) = true := beq_iff_eq.mpr h
        simp only [List.lookup, hb, if_pos (h.trans hk)]
      · have hb : (g == k) = false := beq_eq_false_iff_ne.mpr h
        simp only [List.lookup, hb, if_neg (fun e : g = f => h (e.trans hk.symm))]
    · rw [if_neg hk]
      by_cases h : g = k
      · have hb : (g == k) = true := beq_iff_eq.mpr h
        simp only [List.lookup, hb, if_neg (fun e : g = f => hk (h.symm.trans e))]
      · have hb : (g == k) = false := beq_eq_false_iff_ne.mpr h
        simp only [List.lookup, hb]
        exact ih
theorem keys_putF (f : Str) (v : V) : ∀ fs : List (Str × V), f ∈ (putF f v fs).map (·.1) ∧ ∀ g, g ∈ fs.map (·.1) → g ∈ (putF f v fs).map (·.1)
  | [] => ⟨by simp [putF], fun g h => by simp at h⟩
  | (k, x) :: r => by
    obtain ⟨i1, i2⟩ := keys_putF f v r
    rw [show putF f v ((k, x) :: r) = (if k = f then (k, v) :: r else (k, x) :: putF f v r) from rfl]
    by_cases hk : k = f
    · rw [if_pos hk]
      subst hk
      exact ⟨by simp, fun g h => by simpa using h⟩
    · rw [if_neg hk]
      refine ⟨?_, fun g h => ?_⟩
      · rw [List.map_cons]
        exact List.mem_cons_of_mem _ i1
      · rw [List.map_cons] at h ⊢
        rcases List.mem_cons.mp h with e | e
        · exact List.mem_cons.mpr (.inl e)
        · exact List.mem_cons_of_mem _ (i2 g e)
theorem length_putF (f : Str) (v : V) : ∀ fs : List (Str × V), (putF f v fs).length ≤ fs.length + 1
  | [] => by simp [putF]
  | (k, x) :: r => by
    have ih := length_putF f v r
    rw [show putF f v ((k, x) :: r) = (if k = f then (k, v) :: r else (k, x) :: putF f v r) from rfl]
    by_cases hk : k = f
    · rw [if_pos hk, List.length_cons, List.length_cons]; omega
    · rw [if_neg hk, List.length_cons, List.length_cons]; omega

theorem RelO.some_of {v : V} {o : Option Value} (r : RelO (some v) o) : ∃ u, o = some u ∧ RelV v u := by
  cases o with
  | none => exact (show False from r).elim
  | some u => exact ⟨u, rfl, r⟩
theorem RelO.none_of {o : Option Value} (r : RelO none o) : o = none := by
  cases o with
  | none => rfl
  | some u => exact (show False from r).elim
theorem handed_of {v : V} {u : Value} (r : RelV v u) : PySem.W.handedIn u = true := by
  cases v with
  | non => cases (show u = Value.none from r); rfl
  | bl b => cases (show u = Value.bool b from r); rfl
  | int i => obtain ⟨t, e⟩ := (show ∃ t, u = Value.int i t from r); cases e; rfl
  | str x => obtain ⟨t, e⟩ := (show ∃ t, u = Value.str x t from r); cases e; rfl
  | byt b => obtain ⟨t, e⟩ := (show ∃ t, u = Value.bytes b t from r); cases e; rfl
  | flt b => obtain ⟨t, e⟩ := (show ∃ t, u = Value.float b t from r); cases e; rfl
  | ref a => cases (show u = Value.ref a from r); rfl
  | ty n => cases (show u = Value.type n from r); rfl

section
variable {P : Program} {w : World} {H H' : Hp} {h h' : Heap} {a C dx : Addr} {fs fs' : List (Str × V)}
theorem ins_get (hok : HOk P w H h) (e : H a = some (.ins C dx fs)) : ∃ mA, ObjM h a dx C mA ∧ (∀ f, RelO (fs.lookup f) (mA f)) ∧ PySem.Within mA (fs.map (·.1)) ∧ fs.length ≤ 1000 ∧ H dx = some (.own a) := by
  obtain ⟨d, z, ne, ob, mA, n, r, q⟩ := (show ObjOk P w H h a (.ins C dx fs) from hok a _ e)
  exact ⟨mA, ⟨ob, n, ne⟩, r, q, z, d⟩
end

/-! ### what of the text a class must have -/
structure Cls (K : PySem.W.Frag) (C : Addr) : Prop where
  pg : PySem.W.plainGet K C Str.empty = true
  hd : PySem.W.hasDictIn K C = true
  po : PySem.W.plainOver K C = true
  sa : PySem.W.findIn K (.ref C) "__setattr__" = some (some (.builtin "object.__setattr__"))
theorem Cls.get {K : PySem.W.Frag} {C : Addr} (c : Cls K C) (f : Str) : PySem.W.plainGet K C f = true := c.pg
/-- no class of it has the name -/
def NoAttr (K : PySem.W.Frag) (C : Addr) (f : Str) : Prop := PySem.W.findIn K (.ref C) f = some none
theorem NoAttr.taker {K : PySem.W.Frag} {C : Addr} {f : Str} (n : NoAttr K C f) : PySem.W.takerIn K C f = some none := by
  unfold PySem.W.takerIn
  rw [show PySem.W.findIn K (.ref C) f = some none from n]
  rfl
/-- a constant of the class -/
structure Con (K : PySem.W.Frag) (C : Addr) (f : Str) (v : V) (u : Value) : Prop where
  at_ : PySem.W.findIn K (.ref C) f = some (some u)
  rel : RelV v u
  get : PySem.W.specialIn K u "__get__" = some none
  cp : PySem.W.copiedNames.contains f = false
/-- a method: a plain def of the class or of one above it -/
structure Meth (K : PySem.W.Frag) (C : Addr) (m : Str) (f : Addr) : Prop where
  at_ : PySem.W.findIn K (.ref C) m = some (some (.ref f))
  fn : PySem.W.isFn K (.ref f) = true
  kp : PySem.W.keepIn K (.ref f) = true

section
variable {X : Cx} {pins : List (Addr × Obj)} {σ : St} {H : Hp} {s : Shared} {a C dx : Addr} {fs : List (Str × V)} {f : Str} {v : V} {A : Around} {E : Value → Shared → Prop}

theorem getattr_ok {b : Bool} {Q : Value → Shared → Prop} (I : Inv X pins σ H s) (e : H a = some (.ins C dx fs)) (c : Cls X.K C) (n : NoAttr X.K C f) (l : fs.lookup f = some v)
    (h : ∀ u s', Inv X pins σ H s' → RelV v u → Q u s') : wpAny (model X.prog X.w) A (getAttr (.ref a) f b) Q E s := by
  obtain ⟨mA, O, r, _, _, _⟩ := ins_get I.hok e
  obtain ⟨u, hu, ru⟩ := RelO.some_of (v := v) (o := mA f) (by rw [← l]; exact r f)
  exact get_map I.kIn O (c.get f) c.hd n hu (handed_of ru) (h u _ (I.tok _) ru)


theorem getmeth_ok {m : Str} {g : Addr} {pl : Sem Bool} {Q : Value × List Value → Shared → Prop} (I : Inv X pins σ H s) (e : H a = some (.ins C dx fs)) (c : Cls X.K C) (k : Meth X.K C m g) (l : fs.lookup m = none)
    (h : Q (.ref g, [.ref a]) s) : wpAny (model X.prog X.w) A (getMethod (.ref a) m pl) Q E s := by
  obtain ⟨mA, O, r, _, _, _⟩ := ins_get I.hok e
  have hn : mA m = none := RelO.none_of (by rw [← l]; exact r m)
  exact get_meth I.kIn O (c.get m) k.at_ k.fn hn h

theorem setattr_ok {y : V} {u : Value} {Q : Unit → Shared → Prop} (I : Inv X pins σ H s) (e : H a = some (.ins C dx fs)) (c : Cls X.K C) (n : NoAttr X.K C f) (hl : fs.length < 1000) (ry : RelV y u)
    (h : ∀ s', Inv X pins σ (upd H a (.ins C dx (putF f y fs))) s' → Q () s') : wpAny (model X.prog X.w) A (setAttr (.ref a) f u) Q E s := by
  obtain ⟨mA, O, r, wi, _, ho⟩ := ins_get I.hok e
  have hz : (fs.map (·.1)).length ≤ sizeLine := by rw [List.length_map, sizeLine_eq]; omega
  refine set_map I.kIn O c.sa c.po n.taker c.hd wi hz fun h' O' sb => h _ ?_
  have hd : ∃ o, h'.get? dx = some o := let ⟨o, _, _, e', _⟩ := O'.ns; ⟨o, e'⟩
  refine I.write (x := a) (e := dx) (by rw [e]; exact True.intro) (.inr ho) (fun b q hb z => (sb.2 b hb).trans z) hd ?_
  refine ⟨by rw [upd_ne O.ne]; exact ho, ?_, O.ne, O'.obj, _, O'.ns, fun g => ?_, fun g hg => ?_⟩
  · have := length_putF f y fs; omega
  · show RelO ((putF f y fs).lookup g) (if g = f then some u else mA g)
    rw [lookup_putF]
    by_cases q : g = f
    · rw [if_pos q, if_pos q]; exact ry
    · rw [if_neg q, if_neg q]; exact r g
  · by_cases q : g = f
    · rw [q]; exact (keys_putF f y fs).1
    · refine (keys_putF f y fs).2 g (wi g fun z => hg ?_)
      show (if g = f then some u else mA g) = none
      rw [if_neg q]; exact z

/-- a new instance, tracked, without attributes -/
theorem Inv.made (I : Inv X pins σ H s) : Inv X pins σ (upd (upd H s.heap.objs.size (.own (s.heap.objs.size + 1))) (s.heap.objs.size + 1) (.ins C s.heap.objs.size []))
    { s with heap := (s.heap.push PySem.W.emptyDict).push (PySem.W.instObj C s.heap.objs.size) } := by
  have e1 : (s.heap.push PySem.W.emptyDict).get? s.heap.objs.size = some PySem.W.emptyDict := Heap.get?_push_size s.heap rfl
  have e2 : ((s.heap.push PySem.W.emptyDict).push (PySem.W.instObj C s.heap.objs.size)).get? (s.heap.objs.size + 1) = some (PySem.W.instObj C s.heap.objs.size) := by
    have := Heap.get?_push_size (s.heap.push PySem.W.emptyDict) (o := PySem.W.instObj C s.heap.objs.size) rfl
    rwa [Heap.size_push] at this
  have e3 : (s.heap.push PySem.W.emptyDict).Ns s.heap.objs.size (fun _ => none) := ⟨PySem.W.emptyDict, #[], _, e1, rfl, (fun e he => absurd he (by simp)), fun _ => rfl⟩
  have I1 := I.laid (a := s.heap.objs.size) (o := .own (s.heap.objs.size + 1)) (h' := s.heap.push PySem.W.emptyDict) (t' := s.toks) (fun b u q => Heap.get?_push_of_some _ q) (Nat.le_refl _) ⟨_, e1⟩
  refine I1.laid (a := s.heap.objs.size + 1) (o := .ins C s.heap.objs.size []) (t' := s.toks) (fun b u q => Heap.get?_push_of_some _ q) (Nat.le_of_eq (Heap.size_push _ _)) ?_
  have ne : s.heap.objs.size ≠ s.heap.objs.size + 1 := Nat.ne_of_lt (Nat.lt_succ_self _)
  refine ⟨by rw [upd_ne ne, upd_same], Nat.zero_le _, ne, e2, fun _ => none, (Heap.Ns1.of_empty e3).at fun o q => Heap.get?_push_of_some _ q, fun _ => True.intro, fun y hy => absurd rfl hy⟩

/-- e.f where nothing but the object is asked: through attributeBase (super) and the last hold -/
theorem attr_of {prog : Program} {w : World} {env : Env} {e : Expr} {f : Str} {pos : Pos} {s : Shared} {Q : Value → Shared → Prop} (hb : attributeBase e f env (eval e env) = eval e env)
    (h : wpAny (model prog w) A (eval e env) (fun o s₁ => wpAny (model prog w) A (getAttr o f true) Q E s₁) E s) : wpAny (model prog w) A (eval (.Attribute e f pos) env) Q E s :=
  Attribute_any_ h (by rw [arm_eval_Attribute, hb])
end

/-! ### readings and rules -/
/-- e.f, an attribute of the instance -/
def tFld (K : PySem.W.Frag) (ta : TE) (f : Str) : TE := fun σ H Q => ta σ H fun x H1 => ∃ a C dx fs v, x = .ref a ∧ H1 a = some (.ins C dx fs) ∧ Cls K C ∧ NoAttr K C f ∧ fs.lookup f = some v ∧ Q v H1
/-- e.f = value -/
def sFld (K : PySem.W.Frag) (ta tv : TE) (f : Str) : TS := fun D σ H => tv σ H fun y H1 => ta σ H1 fun x H2 => ∃ a C dx fs, x = .ref a ∧ H2 a = some (.ins C dx fs) ∧ Cls K C ∧ NoAttr K C f ∧ fs.length < 1000 ∧
  D.nx σ (upd H2 a (.ins C dx (putF f y fs)))

section
variable {X : Cx} {o e value : Expr} {f : Str} {pos pos' tpos : Pos} {ta tv : TE}
theorem pe_fld (he : PE X e ta) (hb : attributeBase e f X.env (eval e X.env) = eval e X.env) : PE X (.Attribute e f pos) (tFld X.K ta f) := by
  intro pins s σ H Q I h
  refine attr_of hb (thn (he pins s σ H _ I h) fun u s1 ⟨x, H1, I1, rx, a, C, dx, fs, v, ex, ea, c, n, l, q⟩ => ?_)
  subst ex
  obtain rfl : u = Value.ref a := rx
  exact getattr_ok I1 ea c n l fun u' s2 I2 ru => ⟨v, H1, I2, ru, q⟩
theorem ps_fld (ha : PE X o ta) (hv : PE X value tv) (hs : swapsWith value (some (.Attribute o f pos')) pos.line X.env = pure false) : PS X (.Assign [.Attribute o f pos'] value pos) (sFld X.K ta tv f) := by
  intro pins s σ H D I h
  refine plainObj_wpAny_Assign_Attribute (thn (hv pins s σ H _ I h) fun u s1 ⟨y, H1, I1, ry, q⟩ => thn (ha pins s1 σ H1 _ I1 q) fun ov s2 ⟨x, H2, I2, rx, a, C, dx, fs, ex, ea, c, n, l, q2⟩ => ?_) hs
  subst ex
  obtain rfl : ov = Value.ref a := rx
  exact setattr_ok I2 ea c n l ry fun s3 I3 => ⟨σ, _, I3, q2⟩

end

/-! ### isinstance -/
section
variable {X : Cx} {pins : List (Addr × Obj)} {σ : St} {H : Hp} {s : Shared} {A : Around} {E : Value → Shared → Prop} {Q : Value → Shared → Prop} {c : Value} {b : Bool}
/-- the type of a value, as the fragment's deciders take it; for an instance its class -/
inductive TyOf (K : PySem.W.Frag) (H : Hp) : V → Value → Prop where
  | non : TyOf K H .non (.type "NoneType")
  | bl (x : Bool) : TyOf K H (.bl x) (.type "bool")
  | int (i : Int) : TyOf K H (.int i) (.type "int")
  | str (x : Str) : TyOf K H (.str x) (.type "str")
  | flt (x : UInt64) : TyOf K H (.flt x) (.type "float")
  | lst {a : Addr} {xs : List V} (e : H a = some (.lst xs)) : TyOf K H (.ref a) (.type "list")
  | frz {a : Addr} {o : Obj} {xs : List V} (e : H a = some (.frz o (.lst xs))) : TyOf K H (.ref a) (.type "list")
  | tup {a : Addr} {xs : List V} (e : H a = some (.tup xs)) : TyOf K H (.ref a) (.type "tuple")
  | dK {a : Addr} {kvs : List (Key × V)} (e : H a = some (.dK kvs)) : TyOf K H (.ref a) (.type "dict")
  | dT {a : Addr} {kvs : List (List Key × V)} (e : H a = some (.dT kvs)) : TyOf K H (.ref a) (.type "dict")
  | ins {a C dx : Addr} {fs : List (Str × V)} (e : H a = some (.ins C dx fs)) (cl : Cls K C) (ha : PySem.W.findIn K (.ref C) "__class__" = some (some (.builtin "object.__class__")))
      (hn : PySem.W.specialIn K (.builtin "object.__class__") "__get__" = some (some (.builtin "getset_descriptor.__get__"))) (htk : PySem.W.takesIn K (.builtin "object.__class__") = some true)
      (hm : PySem.W.mroIn K C (.type "object") = some true) : TyOf K H (.ref a) (.ref C)
end
end L2

namespace L2
open PySem PySem.Spec PyProof.Rows

/-! ### room -/
structure Room (k : Nat) (A : Around) : Prop where
  hd : A.handled = none
  dp : A.depth + 3 * k + 5 < recursionLimit
  un : A.units + 16 * k + 200 < cLine
theorem Room.mono {j k : Nat} {A : Around} (r : Room k A) (h : j ≤ k) : Room j A := ⟨r.hd, by have := r.dp; omega, by have := r.un; omega⟩
theorem Room.deeper {k : Nat} {A : Around} (r : Room (k + 1) A) (env : Env) : Room k (A.deeper env) :=
  ⟨r.hd, by have := r.dp; show A.depth + 1 + 3 * k + 5 < _; omega, by have := r.un; show A.units + 3 + 16 * k + 200 < _; omega⟩
theorem make_depth {A : Around} {C : Addr} {us : List Value} {kw : List (Str × Value)} : (A.under (.builtin "type.__call__" ⟨.ref C :: us, kw⟩)).depth = A.depth + 1 := by
  first | rfl | simp [Around.under, Code.weight, Code.isCreation, Code.isGuard, Code.isCaller, Code.frames, Code.isFrame, guardIds]
theorem make_units {A : Around} {C : Addr} {us : List Value} {kw : List (Str × Value)} : (A.under (.builtin "type.__call__" ⟨.ref C :: us, kw⟩)).units = A.units + 1 := by
  first | rfl | simp [Around.under, Code.cUnits, Code.frames, Code.isFrame]
theorem Room.make {k : Nat} {A : Around} (r : Room (k + 1) A) (C : Addr) (us : List Value) (kw : List (Str × Value)) : Room k (A.under (.builtin "type.__call__" ⟨.ref C :: us, kw⟩)) :=
  ⟨r.hd, by have := r.dp; rw [make_depth]; omega, by have := r.un; rw [make_units]; omega⟩
theorem Room.depth {k : Nat} {A : Around} (r : Room k A) : A.depth < recursionLimit := by have := r.dp; omega
theorem Room.units {k : Nat} {A : Around} (r : Room k A) : A.units + 64 < cLine := by have := r.un; omega

/-! ### argument lists and displays -/
def tNil : TA := fun _ H Q => Q [] H
def tCons (ta : TE) (tr : TA) : TA := fun σ H Q => ta σ H fun x H1 => tr σ H1 fun xs H2 => Q (x :: xs) H2
section
variable {X : Cx} {e : Expr} {es : List Expr} {te : TE} {t : TA} {pos : Pos}
theorem pa_nil : PA X [] tNil := fun _ _ _ _ H Q I h => Calls.spliced_nil ⟨[], H, I, .nil, h⟩
theorem pa_cons (ha : PE X e te) (hr : PA X es t) (hs : starEach (e :: es) X.env = (false, eval e X.env) :: starEach es X.env := by rfl) : PA X (e :: es) (tCons te t) := by
  intro pos pins s σ H Q I h
  rw [hs]
  show wpAny _ _ (spliced ((false, eval e X.env) :: backTo pos (starEach es X.env))) _ _ s
  refine Calls.spliced_cons (thn (ha pins s σ H _ I h) fun u s1 ⟨x, H1, I1, r1, q1⟩ => ?_)
  exact thn (hr pos pins s1 σ H1 _ I1 q1) fun us s2 ⟨xs, H2, I2, r2, q2⟩ => ⟨x :: xs, H2, I2, .cons r1 r2, q2⟩

/-- a tuple, a list of written items -/
def tTup (t : TA) : TE := fun σ H Q => t σ H fun xs H1 => xs.length ≤ sizeLine ∧ ∀ p, H1 p = none → Q (.ref p) (upd H1 p (.tup xs))
def tLst (t : TA) : TE := fun σ H Q => t σ H fun xs H1 => xs.length ≤ sizeLine ∧ ∀ p, H1 p = none → Q (.ref p) (upd H1 p (.lst xs))
theorem pe_tup {x1} (h : PA X es t) : PE X (.Tuple es x1 pos) (tTup t) := by
  intro pins s σ H Q I hq
  refine wpAny_Tuple_spliced (thn (h pos pins s σ H _ I hq) fun us s1 ⟨xs, H1, I1, r, z, q⟩ => ⟨by rw [← r.length]; exact z, ?_⟩)
  have hf : H1 s1.heap.objs.size = none := I1.hok.fresh (Nat.le_refl _)
  refine ⟨.ref s1.heap.objs.size, upd H1 s1.heap.objs.size (.tup xs), I1.laid (t' := s1.toks) (fun b u e => Heap.get?_push_of_some _ e) (Nat.le_refl _) ?_, rfl, q _ hf⟩
  exact ⟨z, us, r, ⟨_, Heap.get?_push_size _ rfl, rfl, _, rfl⟩⟩
theorem pe_lst (h : PA X es t) : PE X (.List es pos) (tLst t) := by
  intro pins s σ H Q I hq
  refine wpAny_List_spliced (thn (h pos pins s σ H _ I hq) fun us s1 ⟨xs, H1, I1, r, z, q⟩ => ⟨by rw [← r.length]; exact z, ?_⟩)
  have hf : H1 s1.heap.objs.size = none := I1.hok.fresh (Nat.le_refl _)
  refine ⟨.ref s1.heap.objs.size, upd H1 s1.heap.objs.size (.lst xs), I1.laid (t' := s1.toks) (fun b u e => Heap.get?_push_of_some _ e) (Nat.le_refl _) ?_, rfl, q _ hf⟩
  exact ⟨z, us, 0, r, Heap.get?_push_size _ rfl⟩
end

/-! ### what a def promises -/
/-- a def's promise: the bound arguments in the parameters' order, the heap, the wanted end, the wanted exception -/
abbrev Sp := List V → Hp → VK → XK → Prop
/-- how an exception lies behind a call (file 08 gives it): the callers' frames, abstract heap and state ahead of the call, the wish, the exception, the state -/
abbrev CXT := List Env → Hp → Shared → XK → Value → Shared → Prop

/-- the state at a call -/
structure Env0 (P : Program) (w : World) (K : PySem.W.Frag) (mg : Str → Option Value) (base : Heap) (A : Around) (outer : List Env) (s : Shared) (H : Hp) : Prop where
  frames : A.frames = some outer
  mod : Mod K mg base
  bs : ∀ b o, base.get? b = some o → s.heap.get? b = some o ∧ H b = none
  bsz : base.objs.size ≤ s.heap.objs.size
  funs : s.heap.FunFrames base outer
  frf : ∀ b ∈ frs outer, H b = none
  hok : HOk P w H s.heap
  bare : AllBare s.gens
/-- a call's end -/
def CE (outer : List Env) (P : Program) (w : World) (H : Hp) (s : Shared) (Q : VK) (u : Value) (s' : Shared) : Prop :=
  ∃ v H', s'.os = s.os ∧ AllBare s'.gens ∧ Un (frs outer) [] H H' s.heap s'.heap ∧ HOk P w H' s'.heap ∧ RelV v u ∧ Q v H'
def CR (CX : CXT) (outer : List Env) (P : Program) (w : World) (H : Hp) (s : Shared) (Q : VK) (E : XK) (r : Result) (s' : Shared) : Prop :=
  match r with
  | .ok (.ret u) => CE outer P w H s Q u s'
  | .ok _ => False
  | .error e => CX outer H s E e s'
structure FnOk (P : Program) (w : World) (K : PySem.W.Frag) (mg : Str → Option Value) (base : Heap) (CX : CXT) (k : Nat) (f : Addr) (fd : FuncData) (ps : List Str) (sp : Sp) : Prop where
  len : ∀ vs H Q E, sp vs H Q E → vs.length = ps.length
  run : ∀ (A : Around) (outer : List Env) (s : Shared) (H : Hp) (args : Args) (us : List Value) (vs : List V) (Q : VK) (E : XK), Room k A → Env0 P w K mg base A outer s H → BindsTo s fd args (ps.zip us) → Vals vs us → sp vs H Q E →
    codeAny (model P w) A (.call (.ref f) args) (CR CX outer P w H s Q E) s

theorem Env0.make {P : Program} {w : World} {K : PySem.W.Frag} {mg : Str → Option Value} {base : Heap} {A : Around} {outer : List Env} {s : Shared} {H : Hp} (e : Env0 P w K mg base A outer s H) (C : Addr) (us : List Value) (kw : List (Str × Value)) :
    Env0 P w K mg base (A.under (.builtin "type.__call__" ⟨.ref C :: us, kw⟩)) outer s H := ⟨by first | exact e.frames | (simpa [Around.under, Code.envs, Code.isFrame, pushEnvs] using e.frames), e.mod, e.bs, e.bsz, e.funs, e.frf, e.hok, e.bare⟩

section
variable {X : Cx} {pins : List (Addr × Obj)} {σ : St} {H : Hp} {s s' : Shared}
/-- from a body: what a callee wants -/
theorem Inv.env0 (I : Inv X pins σ H s) : Env0 X.prog X.w X.K X.mg X.base X.A X.stack s H :=
  ⟨I.ok.frames, I.ok.mod, I.bs, Nat.le_trans I.ok.bsz I.sz, I.stack, I.stkFree, I.hok, I.bare⟩
/-- behind a call -/
theorem Inv.after {Q : VK} {u : Value} (I : Inv X pins σ H s) (h : CE X.stack X.prog X.w H s Q u s') : EP X pins σ Q u s' := by
  obtain ⟨v, H', os, bare, un, hok, r, q⟩ := h
  obtain ⟨hh, g, d, t, os'⟩ := s'
  obtain rfl : os' = s.os := os
  exact ⟨v, H', I.call (h' := hh) (g' := g) (d' := d) (t' := t) (ch := []) un hok bare (fun b z => absurd z (by simp)), r, q⟩
end

/-! ### calls -/
/-- f(..): the written arguments, then the defaults dvs; E: what is wanted of an exception -/
def tCall (sp : Sp) (dvs : List V) (E : XK) (t : TA) : TE := fun σ H Q => t σ H fun vs H1 => sp (vs ++ dvs) H1 Q E
/-- o.m(..) of an instance of the class at C -/
def tMeth (C : Addr) (m : Str) (sp : Sp) (dvs : List V) (E : XK) (ta : TE) (t : TA) : TE := fun σ H Q => ta σ H fun x H1 => ∃ a dx fs, x = .ref a ∧ H1 a = some (.ins C dx fs) ∧ fs.lookup m = none ∧
  t σ H1 fun vs H2 => sp (x :: (vs ++ dvs)) H2 Q E
/-- C(..): a new instance and its dict, then __init__ -/
def tMake (C : Addr) (sp : Sp) (dvs : List V) (E : XK) (t : TA) : TE := fun σ H Q => t σ H fun vs H1 => ∀ x dx, H1 x = none → H1 dx = none → dx ≠ x →
  sp (.ref x :: (vs ++ dvs)) (upd (upd H1 dx (.own x)) x (.ins C dx [])) (fun v H2 => v = .non ∧ Q (.ref x) H2) E

/-- how the parameters are bound: us the positional arguments, kw the keywords' values by name, ds the defaults that fill up -/
def Binds (K : PySem.W.Frag) (fd : FuncData) (ps : List Str) (ds : List Value) : Prop :=
  ∀ (s : Shared) (us : List Value), K.In s.heap → (us ++ ds).length = ps.length → BindsTo s fd ⟨us, []⟩ (ps.zip (us ++ ds))
/-- every parameter is given -/
theorem Binds.all {K : PySem.W.Frag} {fd : FuncData} {ps : List Str} (h : ∀ us : List Value, us.length = ps.length → bindArgs fd ⟨us, []⟩ = pure (ps.zip us)) : Binds K fd ps [] := fun s us _ hl => by
  rw [List.append_nil] at hl ⊢
  exact .of_eq (h us hl)

/-- an exception of a callee reaches what this body wants of exceptions -/
def Passes (CX : CXT) (X : Cx) (E : XK) : Prop := ∀ (pins : List (Addr × Obj)) (σ : St) (H : Hp) (s : Shared) (e : Value) (s' : Shared), Inv X pins σ H s → CX X.stack H s E e s' → X.xe e s'

section
variable {X : Cx} {CX : CXT} {k : Nat} {f C : Addr} {fd : FuncData} {ps : List Str} {sp : Sp} {dvs : List V} {ds : List Value} {E : XK} {x m : Str} {p pos apos : Pos} {e o : Expr} {es : List Expr} {ta : TE} {t : TA}

/-- the callee runs -/
theorem run_fn {pins : List (Addr × Obj)} {σ : St} {H : Hp} {s : Shared} {Q : VK} {us : List Value} {vs : List V} (F : FnOk X.prog X.w X.K X.mg X.base CX k f fd ps sp) (hr : Room k X.A) (hb : Binds X.K fd ps ds) (hd : Vals dvs ds) (hx : Passes CX X E)
    (I : Inv X pins σ H s) (r : Vals vs us) (h : sp (vs ++ dvs) H Q E) : wpAny (model X.prog X.w) X.A (call (.ref f) us) (EP X pins σ Q) X.xe s := by
  have r2 : Vals (vs ++ dvs) (us ++ ds) := r.append hd
  have hl : (us ++ ds).length = ps.length := by rw [← r2.length]; exact F.len _ _ _ _ h
  refine wpAny_call (codeAny_mono (F.run X.A X.stack s H ⟨us, []⟩ (us ++ ds) (vs ++ dvs) Q E hr I.env0 (hb s us I.kIn hl) r2 h) fun r s' hq => ?_)
  cases r with
  | error e => exact hx pins σ H s e s' I hq
  | ok fl =>
    cases fl with
    | ret u => exact I.after hq
    | next => exact False.elim hq
    | brk => exact False.elim hq
    | cont => exact False.elim hq

theorem pe_call (F : FnOk X.prog X.w X.K X.mg X.base CX k f fd ps sp) (hr : Room k X.A) (hg : Gl X x) (hm : X.mg x = some (.ref f)) (hk : PySem.W.keepIn X.K (.ref f) = true) (hb : Binds X.K fd ps ds) (hd : Vals dvs ds) (hx : Passes CX X E)
    (ha : PA X (e :: es) t) (hdb : (x == ("__debug__" : Str)) = false := by decide) (he : starEach (e :: es) X.env = (false, eval e X.env) :: starEach es X.env := by rfl) (hpl : (backTo pos (starEach es X.env)).any (·.1) = false := by rfl) :
    PE X (.Call (.Name x p) (e :: es) [] pos) (tCall sp dvs E t) := by
  intro pins s σ H Q I h
  refine wpAny_Call_Name_kw (ld_glob I hg hm ?_ hdb)
  refine PySem.W.callWith_K (h₀ := X.base) I.ok.mod.kin hk (thn (ha pos pins s σ H _ I h) fun us s1 ⟨vs, H1, I1, r, q⟩ => ⟨I1.kIn, ?_⟩) he hpl
  exact run_fn F hr hb hd hx I1 r q

/-- o.m(e, ..) -/
theorem pe_meth {pl : Sem Bool} (he : PE X o ta) (c : Cls X.K C) (hm : Meth X.K C m f) (F : FnOk X.prog X.w X.K X.mg X.base CX k f fd ps sp) (hr : Room k X.A) (hb : Binds X.K fd ps ds) (hd : Vals dvs ds) (hx : Passes CX X E) (ha : PA X (e :: es) t)
    (hst : starEach (e :: es) X.env = (false, eval e X.env) :: starEach es X.env := by rfl) (hpl : (backTo pos (starEach es X.env)).any (·.1) = false := by rfl)
    (ht : eval (.Call (.Attribute o m apos) (e :: es) [] pos) X.env = (do
      let ov ← eval o X.env
      standAt apos.atName
      let (f, first) ← holding [ov] (getMethod ov m pl)
      callWith pos f first (backTo pos (starEach (e :: es) X.env)) (backToKw pos (keywordEach [] X.env))) := by rfl) :
    PE X (.Call (.Attribute o m apos) (e :: es) [] pos) (tMeth C m sp dvs E ta t) := by
  intro pins s σ H Q I h
  refine PySem.W.methodCall_KW (pl := pl) (thn (he pins s σ H _ I h) fun u s1 ⟨x, H1, I1, rx, a, dx, fs, ex, ea, l, q⟩ => ?_) ht
  subst ex
  obtain rfl : u = Value.ref a := rx
  refine getmeth_ok I1 ea c hm l ?_
  refine PySem.W.callWith_K (first := [.ref a]) (h₀ := X.base) I.ok.mod.kin hm.kp (thn (ha pos pins s1 σ H1 _ I1 q) fun us s2 ⟨vs, H2, I2, r, q2⟩ => ⟨I2.kIn, ?_⟩) hst hpl
  exact run_fn (us := .ref a :: us) (vs := .ref a :: vs) F hr hb hd hx I2 (.cons rfl r) q2
/-- o.m() -/
theorem pe_meth0 {pl : Sem Bool} (he : PE X o ta) (c : Cls X.K C) (hm : Meth X.K C m f) (F : FnOk X.prog X.w X.K X.mg X.base CX k f fd ps sp) (hr : Room k X.A) (hb : Binds X.K fd ps ds) (hd : Vals dvs ds) (hx : Passes CX X E)
    (ht : eval (.Call (.Attribute o m apos) [] [] pos) X.env = (do
      let ov ← eval o X.env
      standAt apos.atName
      let (f, first) ← holding [ov] (getMethod ov m pl)
      callWith pos f first (backTo pos (starEach [] X.env)) (backToKw pos (keywordEach [] X.env))) := by rfl) :
    PE X (.Call (.Attribute o m apos) [] [] pos) (tMeth C m sp dvs E ta tNil) := by
  intro pins s σ H Q I h
  refine PySem.W.methodCall_KW (pl := pl) (thn (he pins s σ H _ I h) fun u s1 ⟨x, H1, I1, rx, a, dx, fs, ex, ea, l, q⟩ => ?_) ht
  subst ex
  obtain rfl : u = Value.ref a := rx
  refine getmeth_ok I1 ea c hm l ?_
  exact PySem.W.callWith_K0 (first := [.ref a]) I1.kIn hm.kp (run_fn (us := [.ref a]) (vs := [.ref a]) F hr hb hd hx I1 (.cons rfl .nil) q)

/-- what a class must have to be made -/
structure Mk (K : PySem.W.Frag) (C f : Addr) : Prop where
  makes : PySem.W.makesIn K C = true
  init : PySem.W.findIn K (.ref C) "__init__" = some (some (.ref f))
  fn : PySem.W.isFn K (.ref f) = true
  kp : PySem.W.keepIn K (.ref C) = true

theorem run_make {pins : List (Addr × Obj)} {σ : St} {H : Hp} {s : Shared} {Q : VK} {us : List Value} {vs : List V} (M : Mk X.K C f) (F : FnOk X.prog X.w X.K X.mg X.base CX k f fd ps sp) (hr : Room (k + 1) X.A) (hb : Binds X.K fd ps ds) (hd : Vals dvs ds)
    (hx : Passes CX X E) (I : Inv X pins σ H s) (r : Vals vs us)
    (h : ∀ x dx, H x = none → H dx = none → dx ≠ x → sp (.ref x :: (vs ++ dvs)) (upd (upd H dx (.own x)) x (.ins C dx [])) (fun v H2 => v = .non ∧ Q (.ref x) H2) E) :
    wpAny (model X.prog X.w) X.A (call (.ref C) us) (EP X pins σ Q) X.xe s := by
  have hq := h (s.heap.objs.size + 1) s.heap.objs.size (I.hok.fresh (Nat.le_succ _)) (I.hok.fresh (Nat.le_refl _)) (Nat.ne_of_lt (Nat.lt_succ_self _))
  have I2 := Inv.made (C := C) I
  have r2 : Vals (V.ref (s.heap.objs.size + 1) :: (vs ++ dvs)) (Value.ref (s.heap.objs.size + 1) :: (us ++ ds)) := .cons rfl (r.append hd)
  have hl : (Value.ref (s.heap.objs.size + 1) :: us ++ ds).length = ps.length := by
    have e := r2.length
    rw [F.len _ _ _ _ hq] at e
    exact e.symm
  refine wpAny_call (make_map (f := f) I.kIn M.makes M.init (beq_iff_eq.mp M.fn) (codeAny_mono (F.run _ X.stack _ _ ⟨Value.ref (s.heap.objs.size + 1) :: us, []⟩ (Value.ref (s.heap.objs.size + 1) :: (us ++ ds)) _ _ E (hr.make C us [])
    (I2.env0.make C us []) (hb _ (Value.ref (s.heap.objs.size + 1) :: us) I2.kIn hl) r2 hq) fun r s' hq' => ?_))
  cases r with
  | error e => exact hx pins σ _ _ e s' I2 hq'
  | ok fl =>
    cases fl with
    | ret u =>
      obtain ⟨v, H', I3, rv, ev, q3⟩ := I2.after hq'
      subst ev
      exact ⟨rv, ⟨V.ref (s.heap.objs.size + 1), H', I3, rfl, q3⟩⟩
    | next => exact False.elim hq'
    | brk => exact False.elim hq'
    | cont => exact False.elim hq'
theorem pe_make0 (M : Mk X.K C f) (F : FnOk X.prog X.w X.K X.mg X.base CX k f fd ps sp) (hr : Room (k + 1) X.A) (hg : Gl X x) (hm : X.mg x = some (.ref C)) (hb : Binds X.K fd ps ds) (hd : Vals dvs ds) (hx : Passes CX X E)
    (hdb : (x == ("__debug__" : Str)) = false := by decide) : PE X (.Call (.Name x p) [] [] pos) (tMake C sp dvs E tNil) := by
  intro pins s σ H Q I h
  refine wpAny_Call_Name_kw (ld_glob I hg hm ?_ hdb)
  exact PySem.W.callWith_K0 I.kIn M.kp (run_make (us := []) M F hr hb hd hx I .nil h)
end

/-! ### keywords -/
/-- the values of the keywords, from the left -/
def PK (X : Cx) (kws : List Keyword) (t : TA) : Prop :=
  ∀ (pos : Pos) (pins : List (Addr × Obj)) (s : Shared) (σ : St) (H : Hp) (Q : List V → Hp → Prop), Inv X pins σ H s → t σ H Q → wpAny (model X.prog X.w) X.A (evalAll ((backToKw pos (keywordEach kws X.env)).map (·.2))) (AP X pins σ Q) X.xe s
section
variable {X : Cx} {CX : CXT} {k : Nat} {f C : Addr} {fd : FuncData} {ps ks : List Str} {sp : Sp} {E : XK} {x m : Str} {p pos apos kpos : Pos} {e o : Expr} {es : List Expr} {kws : List Keyword} {te ta : TE} {t tk : TA} {nm : Option Str}
theorem pk_nil : PK X [] tNil := fun _ _ _ _ H Q I h => wpAny_evalAll_nil ⟨[], H, I, .nil, h⟩
theorem pk_cons (ha : PE X e te) (hr : PK X kws t) : PK X (⟨nm, e, kpos⟩ :: kws) (tCons te t) := by
  intro pos pins s σ H Q I h
  show wpAny _ _ (evalAll ((do let v ← eval e X.env; standAt pos; pure v) :: (backToKw pos (keywordEach kws X.env)).map (·.2))) _ _ s
  refine wpAny_evalAll_cons (wpAny_bind (thn (ha pins s σ H _ I h) fun u s1 ⟨x, H1, I1, r1, q1⟩ => wpAny_bind (wpAny_standAt (wpAny_pure ?_))))
  exact thn (hr pos pins s1 σ H1 _ I1 q1) fun us s2 ⟨xs, H2, I2, r2, q2⟩ => ⟨x :: xs, H2, I2, .cons r1 r2, q2⟩

/-- how a call with keywords binds: g puts the positional values us and the keywords' values ws (names ks) in the parameters' order, defaults among them -/
structure KBinds (K : PySem.W.Frag) (fd : FuncData) (ps ks : List Str) (g : List Value → List Value → List Value) (gV : List V → List V → List V) : Prop where
  to : ∀ (s : Shared) (us ws : List Value), K.In s.heap → (g us ws).length = ps.length → BindsTo s fd ⟨us, ks.zip ws⟩ (ps.zip (g us ws))
  rel : ∀ {vs : List V} {us : List Value} {zs : List V} {ws : List Value}, Vals vs us → Vals zs ws → Vals (gV vs zs) (g us ws)
variable {g : List Value → List Value → List Value} {gV : List V → List V → List V}
end

/-! ### a def's body keeps its promise -/
/-- names: the parameters first -/
structure FnScope (N P : List Str) (sc : Scope) : Prop where
  kind : sc.kind = .function
  co : sc.isCoroutine = false
  gen : sc.isGenerator = false
  nd : N.Nodup
  pre : N.take P.length = P
  par : ∀ x ∈ P, sc.names.lookup x = some .local ∨ sc.names.lookup x = some .cell
  nofree : ∀ y ∈ sc.names, y.2 ≠ .free

theorem bindL_out {kindOf : Str → Option NameKind} {x : Str} : ∀ {binds : List (Str × Value)} {m : Str → Option Value}, (∀ v, (x, v) ∉ binds) → bindL kindOf binds m x = m x
  | [], _, _ => rfl
  | (n, v) :: r, m, h => by
    unfold bindL
    rw [bindL_out fun w hw => h w (List.mem_cons_of_mem _ hw)]
    split
    · have : x ≠ n := by rintro rfl; exact h v List.mem_cons_self
      simp [this]
    · rfl
theorem bindC_out {kindOf : Str → Option NameKind} {x : Str} : ∀ {binds : List (Str × Value)} {m : Str → Option Value}, (∀ v, (x, v) ∉ binds) → bindC kindOf binds m x = m x
  | [], _, _ => rfl
  | (n, v) :: r, m, h => by
    unfold bindC
    rw [bindC_out fun w hw => h w (List.mem_cons_of_mem _ hw)]
    split
    · rfl
    · have : x ≠ n := by rintro rfl; exact h v List.mem_cons_self
      simp [this]
theorem bindL_get {kindOf : Str → Option NameKind} {x : Str} {v : Value} : ∀ {P : List Str} {vs : List Value} {i : Nat} {m : Str → Option Value}, P.Nodup → P[i]? = some x → vs[i]? = some v → kindOf x = some .local →
    bindL kindOf (P.zip vs) m x = some v
  | [], _, _, _, _, h, _, _ => by simp at h
  | _ :: _, [], _, _, _, _, h, _ => by simp at h
  | p :: P, w :: vs, 0, m, nd, h1, h2, hk => by
    simp at h1 h2; subst h1; subst h2
    show bindL kindOf ((p, w) :: P.zip vs) m p = _
    unfold bindL
    rw [bindL_out fun v hv => (List.nodup_cons.mp nd).1 (List.of_mem_zip hv).1, if_pos hk]
    simp
  | p :: P, w :: vs, i + 1, m, nd, h1, h2, hk => by
    show bindL kindOf ((p, w) :: P.zip vs) m x = _
    unfold bindL
    exact bindL_get (i := i) (List.nodup_cons.mp nd).2 (by simpa using h1) (by simpa using h2) hk
theorem bindC_get {kindOf : Str → Option NameKind} {x : Str} {v : Value} : ∀ {P : List Str} {vs : List Value} {i : Nat} {m : Str → Option Value}, P.Nodup → P[i]? = some x → vs[i]? = some v → kindOf x ≠ some .local →
    bindC kindOf (P.zip vs) m x = some v
  | [], _, _, _, _, h, _, _ => by simp at h
  | _ :: _, [], _, _, _, _, h, _ => by simp at h
  | p :: P, w :: vs, 0, m, nd, h1, h2, hk => by
    simp at h1 h2; subst h1; subst h2
    show bindC kindOf ((p, w) :: P.zip vs) m p = _
    unfold bindC
    rw [bindC_out fun v hv => (List.nodup_cons.mp nd).1 (List.of_mem_zip hv).1, if_neg hk]
    simp
  | p :: P, w :: vs, i + 1, m, nd, h1, h2, hk => by
    show bindC kindOf ((p, w) :: P.zip vs) m x = _
    unfold bindC
    exact bindC_get (i := i) (List.nodup_cons.mp nd).2 (by simpa using h1) (by simpa using h2) hk

/-- the names' values at the entry -/
def start (N : List Str) (vs : List V) : St := vs.map some ++ List.replicate (N.length - vs.length) none

/-- the context of a def's body, at its entry; an exception leaves the frame, then lies as CX says -/
def cxOf (CX : CXT) (P : Program) (w : World) (K : PySem.W.Frag) (mg : Str → Option Value) (base : Heap) (N : List Str) (qual : Str) (scope : Scope) (f : Addr) (cd : Value) (A : Around) (outer : List Env) (s : Shared) (H : Hp) (E : XK) : Cx where
  prog := P
  w := w
  K := K
  mg := mg
  base := base
  A := A.deeper (envOfC qual scope s.heap.objs.size f cd)
  N := N
  s_0 := s
  H_0 := H
  env := envOfC qual scope s.heap.objs.size f cd
  outer := outer
  stack := envOfC qual scope s.heap.objs.size f cd :: outer
  ex := []
  calm := true
  fn := fun _ => true
  pn := []
  xe := fun e s' => wpAny (model P w) (A.deeper (envOfC qual scope s.heap.objs.size f cd)) (leaving (envOfC qual scope s.heap.objs.size f cd) e) (fun _ s'' => CX outer H s E e s'') (fun e' s'' => CX outer H s E e' s'') s'

theorem cell_has {sc : Scope} {n : Nat} {x : Str} (h : sc.names.lookup x = some .cell) : ∃ c, (cellsFrom n sc.names []).lookup x = some c := by
  have q := PySem.W.cellsFrom_some sc.names n [] (.inl h)
  exact Option.isSome_iff_exists.mp q

theorem inv_start {CX : CXT} {P : Program} {w : World} {K : PySem.W.Frag} {mg : Str → Option Value} {base : Heap} {N ps : List Str} {qual : Str} {scope : Scope} {f : Addr} {cd : Value} {A : Around} {outer : List Env} {s s1 : Shared} {H : Hp} {E : XK} {us : List Value} {vs : List V}
    (S : FnScope N ps scope) (hd : A.handled = none) (e0 : Env0 P w K mg base A outer s H) (hl : vs.length = ps.length) (r : Vals vs us)
    (x : InCallC s s.heap.objs.size (bindL (envOfC qual scope s.heap.objs.size f cd).kindOf (ps.zip us) fun _ => none) (cellsFrom (s.heap.objs.size + 1) scope.names []) (bindC (envOfC qual scope s.heap.objs.size f cd).kindOf (ps.zip us) fun _ => none) s1) :
    Inv (cxOf CX P w K mg base N qual scope f cd A outer s H E) [] (start N vs) H s1 := by
  have hpl : ps.length ≤ N.length := by have := congrArg List.length S.pre; rw [List.length_take] at this; omega
  obtain ⟨h1, tk, rfl, hk⟩ := x.done
  have noA : ∀ b : Addr, b ∉ (cxOf CX P w K mg base N qual scope f cd A outer s H E).ex := fun b z => absurd (show b ∈ ([] : List Addr) from z) (by simp)
  refine ⟨⟨e0.mod, S.kind, rfl, rfl, Nat.le_refl _, fun y z c h1 h2 => ?_, fun y hy => ?_, fun y c _ h => ?_, fun _ => hd, Around.frames_deeper e0.frames, .inr ⟨rfl, rfl⟩, fun b z => absurd z (noA b), e0.bs, e0.bsz, fun b _ _ => noA b, fun b z => absurd z (noA b), e0.funs, e0.frf⟩,
    rfl, e0.bare, Un.kept hk, ⟨_, x.toInCall.ns, fun i y v h1 h2 h3 => ?_⟩, fun y c h => ⟨_, x.cell y c h⟩, e0.hok.fresh (Nat.le_refl _), fun y c h => ?_, fun p hp => absurd (show p ∈ ([] : List (Addr × Obj)) from hp) (by simp), e0.hok.kept hk, ?_⟩
  · exact name_of_addr x.apart (PySem.mem_of_lookup h1) (PySem.mem_of_lookup h2)
  · have hy : scope.names.lookup y = some .cell ∨ scope.names.lookup y = some .free := hy
    rcases hy with hy | hy
    · exact cell_has hy
    · exact absurd rfl (S.nofree _ (PySem.mem_of_lookup hy))
  · exact Nat.le_of_lt (x.above y c (PySem.mem_of_lookup h))
  · have hi : i < vs.length := by
      unfold start at h2
      by_cases hi : i < vs.length
      · exact hi
      · rw [List.getElem?_append_right (by simpa using hi)] at h2
        rw [List.getElem?_replicate] at h2
        split at h2 <;> cases h2
    have ha : vs[i]? = some v := by
      unfold start at h2
      rw [List.getElem?_append_left (by simpa using hi), List.getElem?_map] at h2
      cases e : vs[i]? with
      | none => rw [e] at h2; cases h2
      | some a => rw [e] at h2; cases h2; rfl
    obtain ⟨u, hu, rv⟩ := r.get ha
    have hp : ps[i]? = some y := by
      rw [← S.pre, List.getElem?_take_of_lt (by omega)]; exact h1
    have ndP : ps.Nodup := by rw [← S.pre]; exact S.nd.sublist (List.take_sublist _ _)
    refine ⟨u, rv, ?_⟩
    rcases S.par y (List.mem_of_getElem? hp) with k | k
    · exact .inl ⟨k, bindL_get ndP hp hu k⟩
    · obtain ⟨c, e⟩ := cell_has (n := s.heap.objs.size + 1) k
      refine .inr ⟨.inl k, c, e, ?_⟩
      have q := x.cell y c e
      rw [bindC_get ndP hp hu (by show scope.names.lookup y ≠ _; rw [k]; decide)] at q
      exact q
  · exact e0.hok.fresh (Nat.le_of_lt (x.above y c (PySem.mem_of_lookup h)))
  · unfold start
    show _ = N.length
    rw [List.length_append, List.length_map, List.length_replicate]
    omega

/-- THE RULE: a def (or a method) of the text, by its body. The body's reading t is chosen for each entry; it is run at the parameters' values -/
theorem fn_of {CX : CXT} {P : Program} {w : World} {K : PySem.W.Frag} {mg : Str → Option Value} {base : Heap} {k : Nat} {f : Addr} {name qual : Str} {params : Arguments} {body : List Stmt} {scope : Scope} {dV kV doc pm cdv ct oc : Value} {an od : Option Addr}
    {osl : Array (Option Value)} {N ps : List Str} {sp : Sp} (lk : K.lookup f = some ⟨oc, od, .func (PySem.W.fnOf name qual params body scope dV kV doc pm an cdv ct), osl⟩) (hcd : PySem.W.codeIn K cdv qual = true) (S : FnScope N ps scope)
    (len : ∀ vs H Q E, sp vs H Q E → vs.length = ps.length)
    (hbody : ∀ (A : Around) (outer : List Env) (s : Shared) (H : Hp) (vs : List V) (Q : VK) (E : XK), Room k (A.deeper (envOfC qual scope s.heap.objs.size f cdv)) → sp vs H Q E →
      ∃ t, PSs (cxOf CX P w K mg base N qual scope f cdv A outer s H E) body t ∧ t { nx := fun _ H' => Q .non H', rt := Q } (start N vs) H) :
    FnOk P w K mg base CX (k + 1) f (PySem.W.fnOf name qual params body scope dV kV doc pm an cdv ct) ps sp := by
  refine ⟨len, fun A outer s H args us vs Q E hr e0 hb r hsp => ?_⟩
  have hl := len _ _ _ _ hsp
  have KX : K.In s.heap := e0.mod.kin.keeps fun b o e => (e0.bs b o e).1
  have lim : s.heap.NoLimit := e0.mod.nolimit.keeps fun b o e => (e0.bs b o e).1
  have hkind : ∀ y ∈ ps.zip us, scope.names.lookup y.1 = some .local ∨ (scope.names.lookup y.1 = some .cell ∧ ((cellsFrom (s.heap.objs.size + 1) scope.names []).lookup y.1).isSome = true) := fun ⟨n, v⟩ hy => by
    rcases S.par n (List.of_mem_zip hy).1 with q | q
    · exact .inl q
    · exact .inr ⟨q, PySem.W.cellsFrom_some _ _ _ (.inl q)⟩
  refine codeAny_call_function hr.depth (KX _ _ lk) rfl S.co S.gen rfl (PySem.W.codeRec_of KX hcd) (hb _ _ _ _ ?_)
  refine wpAny_newFunctionEnv_cells S.kind hkind fun env he s1 x => ?_
  subst he
  refine ⟨lim.keeps x.toInCall.keep, codeAny_func ?_⟩
  obtain ⟨t, ht, hq⟩ := hbody A outer s H vs Q E (hr.deeper _) hsp
  have I : Inv (cxOf CX P w K mg base N qual scope f cdv A outer s H E) [] (start N vs) H s1 := inv_start S hr.hd e0 hl r x
  refine wpAny_mono (ht [] s1 (start N vs) H _ I hq) (fun fl s' hs => ?_) fun e s' hs => hs
  have fin : ∀ {σ' : St} {H' : Hp} {v : V} {u : Value}, Inv (cxOf CX P w K mg base N qual scope f cdv A outer s H E) [] σ' H' s' → RelV v u → Q v H' → CE outer P w H s Q u s' :=
    fun {σ' H' v u} J rv q => ⟨v, H', J.os, J.bare, J.base, J.hok, rv, q⟩
  cases fl with
  | ret u =>
    obtain ⟨v, σ', H', J, rv, q⟩ := hs
    exact fin J rv q
  | next =>
    obtain ⟨σ', H', J, q⟩ := hs
    exact fin (v := V.non) (u := Value.none) J rfl q
  | brk =>
    obtain ⟨_, _, _, q⟩ := hs
    exact False.elim q
  | cont =>
    obtain ⟨_, _, _, q⟩ := hs
    exact False.elim q
end L2

namespace L2
open PySem PySem.Spec PyProof.Rows
section
variable {X : Cx} {x : Str} {p pos : Pos} {e : Expr} {es : List Expr} {t : TA} {id T : String} {r : List V → Hp → VK → Prop}

def tCB (r : List V → Hp → VK → Prop) (t : TA) : TE := fun σ H Q => t σ H fun vs H1 => r vs H1 Q
/-- f(e, ..), f a built-in function -/
theorem pe_callB (hc : CallR X (.builtin id) r) (hg : Gl X x) (hm : X.mg x = none) (hv : bootBuiltins x = some (.builtin id)) (ha : PA X (e :: es) t) (hn : x ≠ "__name__" := by decide) (hdb : (x == ("__debug__" : Str)) = false := by decide)
    (he : starEach (e :: es) X.env = (false, eval e X.env) :: starEach es X.env := by rfl) (hpl : (backTo pos (starEach es X.env)).any (·.1) = false := by rfl) : PE X (.Call (.Name x p) (e :: es) [] pos) (tCB r t) := by
  intro pins s σ H Q I h
  refine wpAny_Call_Name_kw (ld_blt I hg hm hv ?_ hn hdb)
  exact PyProof.Rows.callWith_builtin1 (thn (ha pos pins s σ H _ I h) fun us s1 ⟨vs, H1, I1, r1, q1⟩ => hc pins s1 σ H1 vs us Q I1 r1 q1) he hpl
/-- T(e, ..), T a built-in type -/
theorem pe_callTy (hc : CallR X (.type T) r) (hg : Gl X x) (hm : X.mg x = none) (hv : bootBuiltins x = some (.type T)) (ha : PA X (e :: es) t) (hn : x ≠ "__name__" := by decide) (hdb : (x == ("__debug__" : Str)) = false := by decide)
    (he : starEach (e :: es) X.env = (false, eval e X.env) :: starEach es X.env := by rfl) (hpl : (backTo pos (starEach es X.env)).any (·.1) = false := by rfl) : PE X (.Call (.Name x p) (e :: es) [] pos) (tCB r t) := by
  intro pins s σ H Q I h
  refine wpAny_Call_Name_kw (ld_blt I hg hm hv ?_ hn hdb)
  exact PyProof.Rows.callWith_type1 (thn (ha pos pins s σ H _ I h) fun us s1 ⟨vs, H1, I1, r1, q1⟩ => hc pins s1 σ H1 vs us Q I1 r1 q1) he hpl
end
end L2

namespace HT
open PySem PyProof.Rows



section
open PySem.SeqAt
open PySem.AutoSeq1 (wpAny_loadPart')
open PySem.MeetsSeq PySem.MeetsSeq2 PySem.MeetsSeq3

end

section
variable {prog : Program} {w : World} {A : Around} {E : Value → Shared → Prop} {s : Shared}



/-! ### t[a:b], not the whole -/
/-- a slice's bound as a place among n (d where it is left out) -/
def sIx (n d : Nat) : Option Int → Nat
  | none => d
  | some v => if v < 0 then (v + (n : Int)).toNat else min v.toNat n
theorem sIx_nat (n d k : Nat) : sIx n d (some (k : Int)) = min k n := by
  show (if (k : Int) < 0 then ((k : Int) + (n : Int)).toNat else min (k : Int).toNat n) = min k n
  rw [if_neg (by omega), Int.toNat_natCast]

end
end HT

namespace L2
open PySem PySem.Spec PyProof.Rows

/-! ### the parts of a slice -/
abbrev TO := St → Hp → (Option Int → Hp → Prop) → Prop
/-- a slice's part (left out, or an int) -/
def PO (X : Cx) (e : Option Expr) (t : TO) : Prop :=
  ∀ (pins : List (Addr × Obj)) (s : Shared) (σ : St) (H : Hp) (Q : Option Int → Hp → Prop), Inv X pins σ H s → t σ H Q →
    wpAny (model X.prog X.w) X.A (evalPart e X.env) (fun u s' => ∃ o H', Inv X pins σ H' s' ∧ IsPart u o ∧ Q o H') X.xe s
def tPart (t : TE) : TO := fun σ H Q => t σ H fun x H1 => ∃ i, x = .int i ∧ Q (some i) H1

theorem intsAre_of {ns : List Int} : ∀ {us : List Value}, Vals (ns.map V.int) us → IntsAre us ns := by
  induction ns with
  | nil => intro us r; rw [List.map_nil] at r; cases r; exact .nil
  | cons n ns ih =>
    intro us r
    rw [List.map_cons] at r
    cases r with
    | cons r1 r2 =>
      obtain ⟨t, e⟩ := r1
      subst e
      exact .cons n t (ih r2)

section
variable {X : Cx} {e : Expr} {te : TE} {lo hi : Option Expr} {tl th : TO} {pos p2 : Pos}

theorem po_some (h : PE X e te) : PO X (some e) (tPart te) := by
  intro pins s σ H Q I hw
  rw [evalPart_some]
  refine thn (h pins s σ H _ I hw) fun u s1 ⟨x, H1, I1, r1, q1⟩ => ?_
  obtain ⟨i, rfl, q⟩ := q1
  obtain ⟨t, rfl⟩ := r1
  exact ⟨some i, H1, I1, .int i t, q⟩

/-- what a slice of a value is, by values: the slice object stands at sl -/
def SlR (X : Cx) (r : V → Option Int → Option Int → Hp → VK → Prop) : Prop :=
  ∀ (pins : List (Addr × Obj)) (s : Shared) (σ : St) (H : Hp) (x : V) (v vl vu : Value) (lo hi : Option Int) (sl : Addr) (Q : VK), Inv X pins σ H s → RelV x v → s.heap.IsSliceOf sl vl vu .none → IsPart vl lo → IsPart vu hi → r x lo hi H Q →
    ∃ T id, typeLookup (.type T) "__getitem__" = pure (some (.builtin id)) ∧ s.TypeIs v T ∧ wpAny (model X.prog X.w) X.A (getItem v (.ref sl)) (EP X pins σ Q) X.xe s
def tSl (r : V → Option Int → Option Int → Hp → VK → Prop) (te : TE) (tl th : TO) : TE := fun σ H Q => te σ H fun x H1 => tl σ H1 fun l H2 => th σ H2 fun u H3 => r x l u H3 Q
/-- a[lo:hi], any a -/
theorem pe_slice {r : V → Option Int → Option Int → Hp → VK → Prop} (hr : SlR X r) (he : PE X e te) (hl : PO X lo tl) (hu : PO X hi th) : PE X (.Subscript e (.Slice lo hi none p2) pos) (tSl r te tl th) := by
  intro pins s σ H Q I h
  refine Subscript_ (thn (he pins s σ H _ I h) fun v s1 ⟨x, H1, I1, r1, q1⟩ => ?_)
  refine wpAny_Slice (thn (hl pins s1 σ H1 _ I1 q1) fun vl s2 ⟨l, H2, I2, pl, q2⟩ => thn (hu pins s2 σ H2 _ I2 q2) fun vu s3 ⟨u, H3, I3, pu, q3⟩ => ?_)
  rw [evalPart_none]
  refine wpAny_pure ?_
  have I4 : Inv X pins σ H3 { s3 with heap := s3.heap.push { cls := .type "slice", data := .fields #[vl, vu, .none] } } := I3.kept (t' := s3.toks) fun b ob q => Heap.get?_push_of_some _ q
  obtain ⟨T, id, hT, ht, hg⟩ := hr pins { s3 with heap := s3.heap.push { cls := .type "slice", data := .fields #[vl, vu, .none] } } σ H3 x v vl vu l u s3.heap.objs.size Q I4 r1 (Heap.IsSliceOf.new ..) pl pu q3
  show wpAny (model X.prog X.w) X.A (subscriptTail e (.Slice lo hi none p2) v (.ref s3.heap.objs.size)) (EP X pins σ Q) X.xe { s3 with heap := s3.heap.push { cls := .type "slice", data := .fields #[vl, vu, .none] } }
  exact tail_any (ops := [.ref s3.heap.objs.size, v]) ht hT hg (by with_unfolding_all rfl)

/-- the items of xs[lo:hi] -/
def cutV (xs : List V) (lo hi : Option Int) : List V := (xs.drop (HT.sIx xs.length 0 lo)).take (HT.sIx xs.length xs.length hi - HT.sIx xs.length 0 lo)
theorem cutV_length (xs : List V) (lo hi : Option Int) : (cutV xs lo hi).length ≤ xs.length := by
  unfold cutV
  rw [List.length_take, List.length_drop]
  omega

/-! ### t < u, t + u -/
end
end L2

namespace L2
open PySem PySem.Spec PyProof.Rows

/-! ### places -/
/-- the place that an index of any sign means -/
def ixN (n : Nat) (i : Int) : Option Nat := if 0 ≤ i then (if i < n then some i.toNat else none) else if -(n : Int) ≤ i then some (i + n).toNat else none
def atI {α : Type} (xs : List α) (i : Int) : Option α := (ixN xs.length i).bind fun j => xs[j]?
theorem ixN_seq {n : Nat} {i : Int} {j : Nat} (h : ixN n i = some j) : seqIndex? i n = some j ∧ j < n ∧ -(n : Int) ≤ i ∧ i < n := by
  unfold ixN at h
  by_cases h0 : 0 ≤ i
  · rw [if_pos h0] at h
    by_cases h1 : i < n
    · rw [if_pos h1] at h
      have e : i.toNat = j := Option.some.inj h
      exact ⟨by rw [seqIndex_of h0 h1, e], by omega, by omega, h1⟩
    · rw [if_neg h1] at h; cases h
  · rw [if_neg h0] at h
    by_cases h1 : -(n : Int) ≤ i
    · rw [if_pos h1] at h
      have e : (i + n).toNat = j := Option.some.inj h
      exact ⟨by rw [seqIndex_neg (by omega) h1, e], by omega, h1, by omega⟩
    · rw [if_neg h1] at h; cases h
theorem atI_get {α : Type} {xs : List α} {i : Int} {v : α} (h : atI xs i = some v) : ∃ j, seqIndex? i xs.length = some j ∧ xs[j]? = some v ∧ j < xs.length ∧ -(xs.length : Int) ≤ i ∧ i < xs.length := by
  unfold atI at h
  cases e : ixN xs.length i with
  | none => rw [e] at h; cases h
  | some j =>
    rw [e] at h
    obtain ⟨h1, h2, h3, h4⟩ := ixN_seq e
    exact ⟨j, h1, h, h2, h3, h4⟩
theorem atI_nat {α : Type} {xs : List α} {j : Nat} {v : α} (h : xs[j]? = some v) : atI xs (j : Int) = some v := by
  have hj : j < xs.length := (List.getElem?_eq_some_iff.mp h).1
  have e : ixN xs.length (j : Int) = some j := by
    unfold ixN
    rw [if_pos (by omega), if_pos (by omega)]; simp
  unfold atI; rw [e]; exact h
theorem atI_last {α : Type} (xs : List α) (v : α) : atI (xs ++ [v]) (-1) = some v := by
  have hl : (xs ++ [v]).length = xs.length + 1 := by simp
  have e : ixN (xs ++ [v]).length (-1) = some xs.length := by
    unfold ixN
    rw [hl, if_neg (by decide), if_pos (by omega)]
    congr 1
    omega
  unfold atI
  rw [e]
  show (xs ++ [v])[xs.length]? = some v
  simp

/-! ### what may be subscripted -/
/-- what stands as an index of a plain subscript -/
def PlainIx (b : Expr) : Prop := ∀ o i, subscripted b false o i = operate [o, i] (getItem o i)
/-- a subscript by values -/
def IxR (X : Cx) (r : R2) : Prop :=
  ∀ (value slice : Expr) (pins : List (Addr × Obj)) (s : Shared) (σ : St) (H : Hp) (x y : V) (v u : Value) (Q : VK), Inv X pins σ H s → RelV x v → RelV y u → r x y H Q →
    subscripted slice false v u = operate [v, u] (getItem v u) → wpAny (model X.prog X.w) X.A (subscriptTail value slice v u) (EP X pins σ Q) X.xe s
/-- a call of a builtin's method by values: the receiver, the arguments -/
def MtR (X : Cx) (id : String) (r : V → List V → Hp → VK → Prop) : Prop :=
  ∀ (pins : List (Addr × Obj)) (s : Shared) (σ : St) (H : Hp) (x : V) (xs : List V) (v : Value) (us : List Value) (Q : VK), Inv X pins σ H s → RelV x v → Vals xs us → r x xs H Q →
    wpAny (model X.prog X.w) X.A (call (.builtin id) (v :: us)) (EP X pins σ Q) X.xe s
section
variable {X : Cx} {a b : Expr} {ta tb : TE} {pos : Pos}
/-- a[b] -/
theorem pe_ix {r : R2} (hr : IxR X r) (ha : PE X a ta) (hb : PE X b tb) (hs : PlainIx b) : PE X (.Subscript a b pos) (tOp r ta tb) := by
  intro pins s σ H Q I h
  exact Subscript_ (binT ha hb I h fun v u s2 x y H2 I2 rx ry q => hr a b pins s2 σ H2 x y v u Q I2 rx ry q (hs _ _))

def rIxL (K : PySem.W.Frag) : R2 := fun x y H Q => ∃ p xs i v, x = .ref p ∧ y = .int i ∧ SqL K H p xs ∧ atI xs i = some v ∧ Q v H
def rIxT (K : PySem.W.Frag) : R2 := fun x y H Q => ∃ p xs i v, x = .ref p ∧ y = .int i ∧ SqT K H p xs ∧ atI xs i = some v ∧ Q v H
theorem ix_list : IxR X (rIxL X.K) := by
  intro value slice pins s σ H x y v u Q I rx ry h hs
  obtain ⟨p, xs, i, z, rfl, rfl, hq, he, q⟩ := h
  cases rx
  obtain ⟨t, rfl⟩ := ry
  obtain ⟨its, r, pl, hz⟩ := I.list hq
  obtain ⟨j, h1, h2, h3, h4, h5⟩ := atI_get he
  obtain ⟨w, ew, rw'⟩ := r.get h2
  have hl := r.length
  have hn := line63
  have fin : EP X pins σ Q w s := ⟨z, H, I, rw', q⟩
  by_cases h0 : 0 ≤ i
  · have hj : i.toNat = j := by
      rw [seqIndex_of h0 h5] at h1
      exact Option.some.inj h1
    exact item_listR pl.isList h0 (by omega) (by rw [hj]; simpa using ew) fin hs
  · have hj : (i + (its.toArray.size : Int)).toNat = j := by
      rw [seqIndex_neg (by omega) h4] at h1
      rw [List.size_toArray, ← hl]
      exact Option.some.inj h1
    exact subscriptTail_builtinR (x := w) pl.isList.typeIs slot_list_getitem.lookup
      (wpAny_getItem_list_neg (Q := fun r s' => r = w ∧ EP X pins σ Q r s') pl.isList (by omega) (by rw [List.size_toArray] <;> omega) (by omega) (by rw [hj]; simpa using ew) ⟨rfl, fin⟩) hs
theorem ix_tup : IxR X (rIxT X.K) := by
  intro value slice pins s σ H x y v u Q I rx ry h hs
  obtain ⟨p, xs, i, z, rfl, rfl, hq, he, q⟩ := h
  cases rx
  obtain ⟨t, rfl⟩ := ry
  obtain ⟨its, r, pl, hz⟩ := I.tuple hq
  obtain ⟨j, h1, h2, h3, h4, h5⟩ := atI_get he
  obtain ⟨w, ew, rw'⟩ := r.get h2
  have hl := r.length
  have hn := line63
  have fin : EP X pins σ Q w s := ⟨z, H, I, rw', q⟩
  exact subscriptTail_builtinR (x := w) pl.typeIs slot_tuple_getitem.lookup
    (getItem_tuple (j := j) (Q := fun r s' => r = w ∧ EP X pins σ Q r s') pl (by omega) (by omega) (by rw [List.size_toArray, ← hl]; exact h1) (by simpa using ew) ⟨rfl, fin⟩) hs

/-! ### xs[i] = v, any sign -/
/-- the list's object behind a store -/
theorem mapSeq_set (its : List Value) (n j : Nat) (u : Value) : Obj.mapSeq (·.setIfInBounds j u) { cls := .type "list", data := .seq its.toArray n } = { cls := .type "list", data := .seq (its.set j u).toArray n } := by
  simp [Obj.mapSeq]
theorem Inv.lst {pins : List (Addr × Obj)} {σ : St} {H : Hp} {s : Shared} {p : Addr} {xs : List V} (I : Inv X pins σ H s) (h : H p = some (.lst xs)) :
    ∃ (its : List Value) (n : Nat), Vals xs its ∧ s.heap.get? p = some { cls := .type "list", data := .seq its.toArray n } ∧ xs.length ≤ sizeLine := by
  obtain ⟨z, its, n, r, e⟩ := I.hok p _ h
  exact ⟨its, n, r, e, z⟩
/-- the list at p is written by an update of its object -/
theorem Inv.lstUpd {pins : List (Addr × Obj)} {σ : St} {H : Hp} {s : Shared} {p : Addr} {xs ys : List V} {its its' : List Value} {n n' : Nat} {f : Obj → Obj} (I : Inv X pins σ H s) (h : H p = some (.lst xs))
    (ho : s.heap.get? p = some { cls := .type "list", data := .seq its.toArray n }) (hf : f { cls := .type "list", data := .seq its.toArray n } = { cls := .type "list", data := .seq its'.toArray n' }) (r : Vals ys its') (hz : ys.length ≤ sizeLine) (t : Nat) :
    Inv X pins σ (upd H p (.lst ys)) { s with heap := s.heap.update p f, toks := t } := by
  have e : (s.heap.update p f).get? p = some { cls := .type "list", data := .seq its'.toArray n' } := by
    rw [Heap.get?_update_self f ho (by rw [hf] <;> rfl), hf]
  refine I.write (x := p) (e := p) (by rw [h]; trivial) (.inl rfl) (fun b u hb q => (Heap.get?_update_other _ _ (Ne.symm hb)).trans q) ⟨_, e⟩ ?_
  exact ⟨hz, its', n', r, e⟩
def rSetL : V → V → V → Hp → (Hp → Prop) → Prop := fun o i v H Q => ∃ p xs k j, o = .ref p ∧ i = .int k ∧ H p = some (.lst xs) ∧ ixN xs.length k = some j ∧ Q (upd H p (.lst (xs.set j v)))
theorem set_list : PSet X rSetL := by
  intro pins s σ H o i v ov iv u Q I ro ri rv h
  obtain ⟨p, xs, k, j, rfl, rfl, hp, hj, q⟩ := h
  cases ro
  obtain ⟨t, rfl⟩ := ri
  obtain ⟨its, n, r, ho, hz⟩ := I.lst hp
  obtain ⟨h1, h2, h3, h4⟩ := ixN_seq hj
  have hl := r.length
  have hn := line63
  have I' : Inv X pins σ (upd H p (.lst (xs.set j v))) { s with heap := s.heap.update p (Obj.mapSeq (·.setIfInBounds j u)) } :=
    I.lstUpd hp ho (mapSeq_set its n j u) (r.set rv j) (by rw [List.length_set]; exact hz) s.toks
  by_cases h0 : 0 ≤ k
  · have hk : k.toNat = j := by
      rw [seqIndex_of h0 h4] at h1
      exact Option.some.inj h1
    exact PySem.W.ki_setAt ho h0 (by omega) (by rw [List.size_toArray, ← hl]; exact h4) (by rw [hk]; exact ⟨_, I', q⟩)
  · have hk : (k + (its.toArray.size : Int)).toNat = j := by
      rw [seqIndex_neg (by omega) h3] at h1
      rw [List.size_toArray, ← hl]
      exact Option.some.inj h1
    exact PySem.W.ki_setBack ho (by omega) (by rw [List.size_toArray, ← hl]; exact h3) (by omega) (by rw [hk]; exact ⟨_, I', q⟩)

/-! ### slices -/
theorem slice_bounds (lo hi : Option Int) (n : Nat) : (sliceBounds lo hi none n).1 = ((HT.sIx n 0 lo : Nat) : Int) ∧ (sliceBounds lo hi none n).2.1 = ((HT.sIx n n hi : Nat) : Int) ∧ (sliceBounds lo hi none n).2.2 = 1 := by
  refine ⟨?_, ?_, rfl⟩
  · cases lo with
    | none => simp [sliceBounds, HT.sIx]
    | some i =>
      simp only [sliceBounds, HT.sIx, Option.getD_none, show (1 : Int) > 0 by decide, if_true]
      by_cases h : i < 0
      · simp only [h, if_true] <;> omega
      · simp only [h, if_false] <;> omega
  · cases hi with
    | none => simp [sliceBounds, HT.sIx]
    | some i =>
      simp only [sliceBounds, HT.sIx, Option.getD_none, show (1 : Int) > 0 by decide, if_true]
      by_cases h : i < 0
      · simp only [h, if_true] <;> omega
      · simp only [h, if_false] <;> omega
theorem slicePick_cut (its : List Value) (lo hi : Option Int) : slicePick its.toArray lo hi none = ((its.drop (HT.sIx its.length 0 lo)).take (HT.sIx its.length its.length hi - HT.sIx its.length 0 lo)).toArray := by
  obtain ⟨h1, h2, h3⟩ := slice_bounds lo hi its.toArray.size
  unfold slicePick
  rw [h1, h2, h3]
  simp only [sliceRange_one, pick_run, List.size_toArray] <;> rfl
/-- xs[lo:hi] of a list: a new list -/
def rSlL (K : PySem.W.Frag) : V → Option Int → Option Int → Hp → VK → Prop := fun x lo hi H Q => ∃ a xs, x = .ref a ∧ SqL K H a xs ∧ ∀ p, H p = none → Q (.ref p) (upd H p (.lst (cutV xs lo hi)))
theorem sl_list : SlR X (rSlL X.K) := by
  intro pins s σ H x v vl vu lo hi sl Q I rx hs pl pu h
  obtain ⟨a, xs, rfl, hx, q⟩ := h
  cases rx
  obtain ⟨its, r, ht, hz⟩ := I.list hx
  have hlen := r.length
  refine ⟨"list", _, slot_list_getitem.lookup, ht.isList.typeIs, ?_⟩
  refine wpAny_getItem_list_slice ht.isList hs pl pu .none (by simp) ?_ (by rw [List.size_toArray] <;> omega)
  rw [slicePick_cut, ← hlen]
  refine ⟨.ref s.heap.objs.size, _, I.laid (t' := s.toks) (o := .lst (cutV xs lo hi)) (fun b ob q => Heap.get?_push_of_some _ q) (Nat.le_refl _) ?_, rfl, q _ (I.hok.fresh (Nat.le_refl _))⟩
  exact ⟨Nat.le_trans (cutV_length xs lo hi) hz, _, 0, (r.drop (HT.sIx xs.length 0 lo)).take (HT.sIx xs.length xs.length hi - HT.sIx xs.length 0 lo), Heap.get?_push_size _ rfl⟩

/-! ### in, not in: flat items -/
def flatV : V → Bool
  | .non => true
  | .bl _ => true
  | .int _ => true
  | .str _ => true
  | _ => false
/-- == of flat values -/
def eqV : V → V → Bool
  | .non, .non => true
  | .bl a, .bl b => a == b
  | .bl a, .int b => (if a then 1 else 0) == b
  | .int a, .bl b => a == (if b then 1 else 0)
  | .int a, .int b => a == b
  | .str a, .str b => a == b
  | _, _ => false
theorem eqAt_V {A : Around} {s : Shared} {y x : V} {u v : Value} (ry : RelV y u) (rx : RelV x v) (fy : flatV y = true) (fx : flatV x = true) : SeqAt.EqAt A s u v (eqV y x) := by
  cases y with
  | non =>
    cases ry
    cases x with
    | non => cases rx; exact SeqAt.EqAt.same _
    | bl b => cases rx; exact SeqAt.EqAt.none_bool b
    | int b => obtain ⟨t, rfl⟩ := rx; exact SeqAt.EqAt.none_int b t
    | str b => obtain ⟨t, rfl⟩ := rx; exact SeqAt.EqAt.none_str b t
    | _ => exact absurd (show false = true from fx) Bool.false_ne_true
  | bl a =>
    cases ry
    cases x with
    | non => cases rx; exact SeqAt.EqAt.bool_none a
    | bl b => cases rx; exact SeqAt.EqAt.bool_bool a b
    | int b => obtain ⟨t, rfl⟩ := rx; exact SeqAt.EqAt.bool_int a b t
    | str b => obtain ⟨t, rfl⟩ := rx; exact SeqAt.EqAt.bool_str a b t
    | _ => exact absurd (show false = true from fx) Bool.false_ne_true
  | int a =>
    obtain ⟨t', rfl⟩ := ry
    cases x with
    | non => cases rx; exact SeqAt.EqAt.int_none a t'
    | bl b => cases rx; exact SeqAt.EqAt.int_bool a t' b
    | int b => obtain ⟨t, rfl⟩ := rx; exact SeqAt.EqAt.int_int a t' b t
    | str b => obtain ⟨t, rfl⟩ := rx; exact SeqAt.EqAt.int_str a t' b t
    | _ => exact absurd (show false = true from fx) Bool.false_ne_true
  | str a =>
    obtain ⟨t', rfl⟩ := ry
    cases x with
    | non => cases rx; exact SeqAt.EqAt.str_none a t'
    | bl b => cases rx; exact SeqAt.EqAt.str_bool a t' b
    | int b => obtain ⟨t, rfl⟩ := rx; exact SeqAt.EqAt.str_int a t' b t
    | str b => obtain ⟨t, rfl⟩ := rx; exact SeqAt.EqAt.str_str a t' b t
    | _ => exact absurd (show false = true from fx) Bool.false_ne_true
  | _ => exact absurd (show false = true from fy) Bool.false_ne_true
/-- the items' answers, read off the values (a value's own answer does not lean on its token) -/
def eqU (x : V) (u : Value) : Bool := match u with
  | .none => eqV .non x
  | .bool b => eqV (.bl b) x
  | .int i _ => eqV (.int i) x
  | .str z _ => eqV (.str z) x
  | _ => false
theorem eqU_of {x y : V} {u : Value} (r : RelV y u) (f : flatV y = true) : eqU x u = eqV y x := by
  cases y with
  | non => cases r; rfl
  | bl b => cases r; rfl
  | int i => obtain ⟨t, rfl⟩ := r; rfl
  | str z => obtain ⟨t, rfl⟩ := r; rfl
  | _ => exact absurd (show false = true from f) Bool.false_ne_true
theorem any_eqU {x : V} : ∀ {xs : List V} {us : List Value}, Vals xs us → xs.all flatV = true → us.any (eqU x) = xs.any fun y => eqV y x
  | _, _, .nil, _ => rfl
  | y :: xs, u :: us, .cons r t, f => by
    rw [List.all_cons, Bool.and_eq_true] at f
    rw [List.any_cons, List.any_cons, eqU_of r f.1, any_eqU t f.2]
theorem mem_eqAt {A : Around} {s : Shared} {x : V} {v : Value} (rx : RelV x v) (fx : flatV x = true) : ∀ {xs : List V} {us : List Value}, Vals xs us → xs.all flatV = true → ∀ u ∈ us, SeqAt.EqAt A s u v (eqU x u)
  | _, _, .nil, _ => fun u hu => by cases hu
  | y :: xs, u :: us, .cons r t, f => fun u' hu => by
    rw [List.all_cons, Bool.and_eq_true] at f
    rcases List.mem_cons.mp hu with rfl | hu
    · rw [eqU_of r f.1]; exact eqAt_V r rx f.1 fx
    · exact mem_eqAt rx fx t f.2 u' hu
def inV (x : V) (xs : List V) : Bool := xs.any fun y => eqV y x
/-- x in a list or tuple of flat items -/
def rIn (K : PySem.W.Frag) (neg : Bool) : R2 := fun x y H Q => ∃ p xs, y = .ref p ∧ (SqL K H p xs ∨ SqT K H p xs) ∧ flatV x = true ∧ xs.all flatV = true ∧ Q (.bl (if neg then !inV x xs else inV x xs)) H
theorem op_in_seq : OpR X (compareOp .In) (rIn X.K false) := by
  intro pins s σ H x y v u Q I rx ry h
  obtain ⟨p, xs, rfl, hq, fx, fs, q⟩ := h
  cases ry
  rcases hq with hq | hq
  · obtain ⟨its, r, pl, hz⟩ := I.list hq
    refine SeqAt.in_listAt (eqU x) pl.isList (fun w hw => mem_eqAt rx fx r fs w (by simpa using hw)) ⟨.bl _, H, I, rfl, ?_⟩
    rw [show its.toArray.any (eqU x) = its.any (eqU x) by simp, any_eqU r fs]
    exact q
  · obtain ⟨its, r, pl, hz⟩ := I.tuple hq
    refine SeqAt.in_tupleAt (eqU x) pl (fun w hw => mem_eqAt rx fx r fs w (by simpa using hw)) ⟨.bl _, H, I, rfl, ?_⟩
    rw [show its.toArray.any (eqU x) = its.any (eqU x) by simp, any_eqU r fs]
    exact q
theorem op_notIn_seq : OpR X (compareOp .NotIn) (rIn X.K true) := by
  intro pins s σ H x y v u Q I rx ry h
  obtain ⟨p, xs, rfl, hq, fx, fs, q⟩ := h
  cases ry
  rcases hq with hq | hq
  · obtain ⟨its, r, pl, hz⟩ := I.list hq
    refine SeqAt.notIn_listAt (eqU x) pl.isList (fun w hw => mem_eqAt rx fx r fs w (by simpa using hw)) ⟨.bl _, H, I, rfl, ?_⟩
    rw [show its.toArray.any (eqU x) = its.any (eqU x) by simp, any_eqU r fs]
    exact q
  · obtain ⟨its, r, pl, hz⟩ := I.tuple hq
    refine SeqAt.notIn_tupleAt (eqU x) pl (fun w hw => mem_eqAt rx fx r fs w (by simpa using hw)) ⟨.bl _, H, I, rfl, ?_⟩
    rw [show its.toArray.any (eqU x) = its.any (eqU x) by simp, any_eqU r fs]
    exact q

/-! ### len, list(x), tuple(x) of any list or tuple that is read -/
theorem call_len_seq : CallR X (.builtin "len") (fun xs H Q => ∃ p ys, xs = [.ref p] ∧ (SqL X.K H p ys ∨ SqT X.K H p ys) ∧ Q (.int ys.length) H) := by
  intro pins s σ H xs us Q I r h
  obtain ⟨p, ys, rfl, hq, q⟩ := h
  obtain ⟨u, rfl, rx⟩ := vals1 r
  cases rx
  have hn := line63
  rcases hq with hq | hq
  · obtain ⟨its, r', pl, hz⟩ := I.list hq
    have hlen := r'.length
    exact Calls.call_len_list pl.isList (by simp only [List.size_toArray] <;> omega) ⟨.int ys.length, H, I.tok _, ⟨s.toks + 1, by rw [List.size_toArray, hlen]⟩, q⟩
  · obtain ⟨its, r', pl, hz⟩ := I.tuple hq
    have hlen := r'.length
    exact len_tuple pl (by simp only [List.size_toArray] <;> omega) ⟨.int ys.length, H, I.tok _, ⟨s.toks + 1, by rw [List.size_toArray, hlen]⟩, q⟩
theorem call_len_str : CallR X (.builtin "len") (fun xs H Q => ∃ z, xs = [.str z] ∧ z.length ≤ sizeLine ∧ Q (.int z.length) H) := by
  intro pins s σ H xs us Q I r h
  obtain ⟨z, rfl, hz, q⟩ := h
  obtain ⟨u, rfl, t, rfl⟩ := vals1 r
  have hn := line63
  exact len_str (by omega) ⟨.int z.length, H, I.tok _, ⟨_, rfl⟩, q⟩
theorem call_list_of : CallR X (.type "list") (fun xs H Q => ∃ p ys, xs = [.ref p] ∧ (SqL X.K H p ys ∨ SqT X.K H p ys) ∧ ∀ l, H l = none → Q (.ref l) (upd H l (.lst ys))) := by
  intro pins s σ H xs us Q I r h
  obtain ⟨p, ys, rfl, hq, q⟩ := h
  obtain ⟨u, rfl, rx⟩ := vals1 r
  cases rx
  have fin : ∀ (its : List Value), Vals ys its → ys.length ≤ sizeLine → ∀ (h' : Heap) (c' : Nat), (∀ b o', s.heap.get? b = some o' → h'.get? b = some o') →
      h'.get? s.heap.objs.size = some { cls := .type "list", dict := none, data := .seq its.toArray c', slots := #[] } → EP X pins σ Q (.ref s.heap.objs.size) { s with heap := h' } := fun its r' hz h' c' kp e =>
    ⟨.ref s.heap.objs.size, _, I.laid (t' := s.toks) kp (Nat.le_refl _) (show ObjOk X.prog X.w _ h' _ (.lst ys) from ⟨hz, its, c', r', e⟩), rfl, q _ (I.hok.fresh (Nat.le_refl _))⟩
  rcases hq with hq | hq
  · obtain ⟨its, r', pl, hz⟩ := I.list hq
    have hlen := r'.length
    obtain ⟨o, ho, hc, n, hd⟩ := pl.isList
    exact call_list_seq p (.inl rfl) ho hc hd (fun h' c' kp e => fin its r' hz h' c' kp e) (by simp only [List.size_toArray] <;> omega)
  · obtain ⟨its, r', pl, hz⟩ := I.tuple hq
    have hlen := r'.length
    obtain ⟨o, ho, hc, n, hd⟩ := pl
    exact call_list_seq p (.inr rfl) ho hc hd (fun h' c' kp e => fin its r' hz h' c' kp e) (by simp only [List.size_toArray] <;> omega)

/-! ### the call of a builtin's method: o.m(..) -/
/-- the value is of that builtin type -/
def tyV (K : PySem.W.Frag) (T : String) (x : V) (H : Hp) : Prop := match x with
  | .str _ => T = "str"
  | .int _ => T = "int"
  | .ref p => (T = "list" ∧ ∃ xs, SqL K H p xs) ∨ (T = "tuple" ∧ ∃ o, K.lookup p = some o ∧ o.cls = .type "tuple" ∧ o.dict = none) ∨
      (T = "dict" ∧ ((∃ kvs, H p = some (.dK kvs)) ∨ ∃ kvs, H p = some (.dT kvs))) ∨ (T = "set" ∧ ∃ S n, H p = some (.set S n))
  | _ => False
theorem tyV_is {pins : List (Addr × Obj)} {σ : St} {H : Hp} {s : Shared} {T : String} {x : V} {v : Value} (I : Inv X pins σ H s) (r : RelV x v) (ty : tyV X.K T x H) :
    s.TypeIs v T ∧ ∀ a, v = .ref a → ∃ ob, s.heap.get? a = some ob ∧ ob.dict = none := by
  cases x with
  | str z =>
    obtain ⟨t, rfl⟩ := r
    cases (show T = "str" from ty)
    exact ⟨typeIs_str s z t, fun _ e => nomatch e⟩
  | int i =>
    obtain ⟨t, rfl⟩ := r
    cases (show T = "int" from ty)
    exact ⟨typeIs_int s i t, fun _ e => nomatch e⟩
  | ref p =>
    cases r
    rcases ty with ⟨rfl, xs, hq⟩ | ⟨rfl, o, hk, hc, hd⟩ | ⟨rfl, hk⟩ | ⟨rfl, S, n, hk⟩
    · obtain ⟨its, _, pl, _⟩ := I.list hq
      refine ⟨pl.isList.typeIs, fun a e => ?_⟩
      cases e
      obtain ⟨o, n, e, c, hd, _⟩ := pl
      exact ⟨o, e, hd⟩
    · refine ⟨⟨o, I.kIn p o hk, hc⟩, fun a e => ?_⟩
      cases e
      exact ⟨o, I.kIn _ o hk, hd⟩
    · have z : ∃ o, s.heap.get? p = some o ∧ o.ExactDict := by
        rcases hk with ⟨kvs, hk⟩ | ⟨kvs, hk⟩
        · obtain ⟨_, _, _, _, o, _, _, e, ex, _⟩ := I.hok p _ hk
          exact ⟨o, e, ex⟩
        · obtain ⟨_, _, _, _, o, _, _, e, ex, _⟩ := I.hok p _ hk
          exact ⟨o, e, ex⟩
      obtain ⟨o, e, ex⟩ := z
      refine ⟨⟨o, e, ex.1⟩, fun a e2 => ?_⟩
      cases e2
      exact ⟨o, e, ex.2.1⟩
    · obtain ⟨o, _, _, _, e, ex, _⟩ := I.hok p _ hk
      refine ⟨⟨o, e, ex.1⟩, fun a e2 => ?_⟩
      cases e2
      exact ⟨o, e, ex.2.1⟩
  | _ => exact False.elim ty
def tBM (K : PySem.W.Frag) (T : String) (r : V → List V → Hp → VK → Prop) (to : TE) (t : TA) : TE := fun σ H Q => to σ H fun x H1 => tyV K T x H1 ∧ t σ H1 fun xs H2 => r x xs H2 Q
variable {o e : Expr} {es : List Expr} {to : TE} {t : TA} {name : Str} {apos cpos : Pos} {T id : String} {r : V → List V → Hp → VK → Prop}
theorem pe_bm (pa : PlainAttrs T) (slot : Slot T name id) (hty : typeOf (.builtin id) = pure (.type "method_descriptor")) (hm : MtR X id r) (ho : PE X o to) (ha : PA X (e :: es) t)
    (hbase : attributeBase o name X.env (eval o X.env) = eval o X.env := by rfl)
    (hfew : ((backTo cpos (starEach (e :: es) X.env)).all (fun x => !x.1) && (backToKw cpos (keywordEach [] X.env)).all (fun x => x.1.isSome)
      && decide ((e :: es).length + ([] : List Keyword).length + (if ([] : List Keyword).isEmpty then 0 else 1) < 30)) = true := by rfl)
    (hline : (apos.endLine == cpos.line) = true := by rfl) (hs : starEach (e :: es) X.env = (false, eval e X.env) :: starEach es X.env := by rfl) (hplain : (backTo cpos (starEach es X.env)).any (·.1) = false := by rfl) :
    PE X (.Call (.Attribute o name apos) (e :: es) [] cpos) (tBM X.K T r to t) := by
  intro pins s σ H Q I h
  refine wpAny_Call_method_late hbase hfew hline rfl (thn (ho pins s σ H _ I h) fun v s1 ⟨x, H1, I1, r1, ty, q1⟩ => ?_)
  obtain ⟨h1, h2⟩ := tyV_is I1 r1 ty
  refine ⟨T, id, pa, slot, hty, h1, h2, ?_⟩
  have hA := ha cpos pins s1 σ H1 _ I1 q1
  rw [hs] at hA ⊢
  refine Calls.callWith_builtin (by show (false || (backTo cpos (starEach es X.env)).any (·.1)) = false; rw [hplain] <;> rfl) (Calls.evalArgs_plain ?_)
  exact thn hA fun us s2 ⟨vs, H2, I2, r2, q2⟩ => hm pins s2 σ H2 x vs v us Q I2 r1 r2 q2
/- xs.append(e), list.index on a module's tuple .. are MtR facts of 06m -/
end
end L2

namespace L2
open PySem PySem.Spec PyProof.Rows

def MtM (X : Cx) (id : String) (r : V → List V → Hp → VK → Prop) : Prop :=
  ∀ (pins : List (Addr × Obj)) (s : Shared) (σ : St) (H : Hp) (x : V) (xs : List V) (v : Value) (us : List Value) (Q : VK), Inv X pins σ H s → RelV x v → Vals xs us → r x xs H Q →
    wpAny (model X.prog X.w) X.A (call (.builtin id) (v :: us)) (EP X pins σ Q) X.xe s

/-! ### lists of values -/
theorem Vals.one : ∀ {x : V} {us : List Value}, Vals [x] us → ∃ u, us = [u] ∧ RelV x u
  | _, _, .cons r .nil => ⟨_, rfl, r⟩

section
variable {X : Cx} {pins : List (Addr × Obj)} {σ : St} {H : Hp} {s : Shared} {l b : Addr} {xs ys zs : List V}

/-! ### the two steps: a tracked list is rewritten, a new list is laid -/
theorem Inv.lset {its its' : List Value} {n : Nat} {f : Array Value → Array Value} {t' : Nat} (I : Inv X pins σ H s) (hH : H l = some (.lst xs))
    (e : s.heap.get? l = some { cls := .type "list", data := .seq its.toArray n }) (hf : f its.toArray = its'.toArray) (hv : Vals ys its') (hz : ys.length ≤ sizeLine) :
    Inv X pins σ (upd H l (.lst ys)) { s with heap := s.heap.update l (Obj.mapSeq f), toks := t' } := by
  have q := PySem.IsL.update e f
  rw [hf] at q
  refine I.write (x := l) (e := l) (by rw [hH]; exact trivial) (.inl rfl) (fun b' u hb hu => (Heap.get?_update_other s.heap (Obj.mapSeq f) (Ne.symm hb)).trans hu) ⟨_, q⟩ ?_
  exact ⟨hz, its', _, hv, q⟩
theorem Inv.lnew {its : List Value} {t' : Nat} (I : Inv X pins σ H s) (hv : Vals ys its) (hz : ys.length ≤ sizeLine) :
    Inv X pins σ (upd H s.heap.objs.size (.lst ys)) { s with heap := s.heap.push { cls := .type "list", data := .seq its.toArray }, toks := t' } :=
  I.laid (fun _ _ q => Heap.get?_push_of_some _ q) (Nat.le_refl _) ⟨hz, its, 0, hv, Heap.get?_push_size _ rfl⟩
theorem Inv.fresh (I : Inv X pins σ H s) : H s.heap.objs.size = none := I.hok.fresh (Nat.le_refl _)
theorem Inv.lstM (I : Inv X pins σ H s) (hH : H l = some (.lst xs)) : xs.length ≤ sizeLine ∧ ∃ (its : List Value) (n : Nat), Vals xs its ∧ xs.length = its.length ∧ s.heap.get? l = some { cls := .type "list", data := .seq its.toArray n } := by
  obtain ⟨z, its, n, r, e⟩ := I.hok l _ hH
  exact ⟨z, its, n, r, r.length, e⟩

theorem notLongL {n : Nat} (h : n ≤ sizeLine) : Builtin.List.listTooLong n = false := by
  unfold Builtin.List.listTooLong
  exact decide_eq_false (by omega)
end

section
variable {X : Cx}

/-! ### methods -/
def rAppend : V → List V → Hp → VK → Prop := fun x vs H Q => ∃ l xs y, x = .ref l ∧ vs = [y] ∧ H l = some (.lst xs) ∧ xs.length < sizeLine ∧ Q .non (upd H l (.lst (xs ++ [y])))
theorem mt_append : MtM X "list.append" rAppend := by
  intro pins s σ H x vs v us Q I rx rv h
  obtain ⟨l, xs, y, rfl, rfl, hH, hz, q⟩ := h
  cases rx
  obtain ⟨u, rfl, ru⟩ := rv.one
  obtain ⟨z, its, n, r, hl, e⟩ := I.lstM hH
  refine call_meets F.slot_list_append ⟨_, e, rfl⟩ F.entry_list_append (F.args_list_append_2 _ _) (PySem.list_append l its.toArray n u (by rw [List.size_toArray]; omega)) ⟨e, ?_⟩
  refine ⟨.non, _, I.lset (its' := its ++ [u]) hH e (by simp) (r.append (.cons ru .nil)) ?_, rfl, q⟩
  rw [List.length_append, List.length_singleton]
  omega

def rExtend : V → List V → Hp → VK → Prop := fun x vs H Q => ∃ l b xs zs, x = .ref l ∧ vs = [.ref b] ∧ H l = some (.lst xs) ∧ H b = some (.lst zs) ∧ xs.length + zs.length ≤ sizeLine ∧ Q .non (upd H l (.lst (xs ++ zs)))
theorem mt_extend : MtM X "list.extend" rExtend := by
  intro pins s σ H x vs v us Q I rx rv h
  obtain ⟨l, b, xs, zs, rfl, rfl, hH, hB, hz, q⟩ := h
  cases rx
  obtain ⟨u, rfl, ru⟩ := rv.one
  cases ru
  obtain ⟨z, its, n, r, hl, e⟩ := I.lstM hH
  obtain ⟨z2, its2, n2, r2, hl2, e2⟩ := I.lstM hB
  have hsz : its.toArray.size + its2.toArray.size ≤ sizeLine := by rw [List.size_toArray, List.size_toArray]; omega
  have hlong : ¬ (!its.toArray.isEmpty && Builtin.List.listTooLong (its.toArray.size + its2.toArray.size)) = true := by
    rw [notLongL hsz, Bool.and_false]
    exact Bool.false_ne_true
  refine call_meets F.slot_list_extend ⟨_, e, rfl⟩ F.entry_list_extend (F.args_list_extend_2 _ _)
    (AutoSeq1.list_extend_list_list_0 l its.toArray n b its2.toArray n2 hlong (by rw [List.size_toArray]; omega) (by omega)) ⟨e, e2, ?_⟩
  refine ⟨.non, _, I.lset (its' := its ++ its2) hH e (by simp) (r.append r2) ?_, rfl, q⟩
  rw [List.length_append]
  omega





/-! ### list + list, list += list, list * int -/
def rCat : R2 := fun x y H Q => ∃ l b xs zs, x = .ref l ∧ y = .ref b ∧ H l = some (.lst xs) ∧ H b = some (.lst zs) ∧ xs.length + zs.length ≤ sizeLine ∧ ∀ p, H p = none → Q (.ref p) (upd H p (.lst (xs ++ zs)))
theorem op_cat : OpR X (binaryOp .Add) rCat := by
  intro pins s σ H x y v u Q I rx ry h
  obtain ⟨l, b, xs, zs, rfl, rfl, hH, hB, hz, q⟩ := h
  cases rx
  cases ry
  obtain ⟨z, its, n, r, hl, e⟩ := I.lstM hH
  obtain ⟨z2, its2, n2, r2, hl2, e2⟩ := I.lstM hB
  refine PySem.P.add_list e e2 ?_ (by rw [List.size_toArray, List.size_toArray]; omega)
  have ea : its.toArray ++ its2.toArray = (its ++ its2).toArray := by simp
  rw [ea]
  exact ⟨.ref _, _, I.lnew (t' := s.toks) (r.append r2) (by rw [List.length_append]; omega), rfl, q _ I.fresh⟩

/-! ### del xs[i] -/
end

/-! ### xs[a:b] = ys -/
section
variable {prog : Program} {w : World} {A : Around} {E : Value → Shared → Prop} {s : Shared}
end

section
variable {X : Cx}
end
end L2

namespace L2
open PySem PySem.Spec PyProof.Rows

theorem Vals.ints : ∀ {ns : List Int} {us : List Value}, Vals (ns.map V.int) us → IntsAre us ns
  | [], us, h => by
    rw [List.map_nil] at h
    cases h
    exact IntsAre.nil
  | n :: ns, us, h => by
    rw [List.map_cons] at h
    cases h with
    | cons r t =>
      obtain ⟨k, rfl⟩ := r
      exact IntsAre.cons n k (Vals.ints t)
theorem vals_of_ints : ∀ {us : List Value} {ns : List Int}, IntsAre us ns → Vals (ns.map V.int) us
  | _, _, .nil => by rw [List.map_nil]; exact Paired.nil
  | _, _, .cons n t h => by rw [List.map_cons]; exact Paired.cons (show RelV (V.int n) (Value.int n t) from ⟨t, rfl⟩) (vals_of_ints h)
theorem Vals.bls : ∀ {bs : List Bool} {us : List Value}, Vals (bs.map V.bl) us → us = bs.map Value.bool
  | [], us, h => by
    rw [List.map_nil] at h
    cases h
    rfl
  | b :: bs, us, h => by
    rw [List.map_cons] at h
    cases h with
    | cons r t =>
      cases r
      rw [Vals.bls t, List.map_cons]
theorem Vals.ref1 {a : Addr} {us : List Value} (r : Vals [V.ref a] us) : us = [Value.ref a] := by
  cases r with
  | cons r t =>
    cases t
    cases r
    rfl

/-! ### the library's walks over a list of ints, kept objects alone -/
section
variable {prog : Program} {w : World} {A : Around} {E : Value → Shared → Prop} {s : Shared} {l : Addr} {its : List Value} {ns : List Int} {Q : Value → Shared → Prop}
theorem sum_raw (hh : A.handled = none) (hl : s.heap.IsList l its.toArray) (hi : IntsAre its ns)
    (h : ∀ h' tk t', (∀ b o, s.heap.get? b = some o → h'.get? b = some o) → Q (.int ns.sum t') { s with heap := h', toks := tk }) : wpAny (model prog w) A (call (.builtin "sum") [.ref l]) Q E s := by
  obtain ⟨xs, e⟩ := hi.allInts.items
  have hn : numsOf (intItems xs).toList = ns := by rw [← e]; exact hi.numsOf
  rw [nums_intItems] at hn
  rw [e] at hl
  refine PySem.sum_intListG hh hl fun h' tk t' hk => ?_
  have := h h' tk t' hk
  rw [preSum_eq, List.take_of_length_le (by simp), hn]; exact this
end

/-! ### the calls, by values (CallR of 03t; MtR of 06l) -/
section
variable {X : Cx}
/-- sum(xs) of a list of ints -/
def rSum (K : PySem.W.Frag) : List V → Hp → VK → Prop := fun vs H Q => ∃ (a : Addr) (ns : List Int), vs = [V.ref a] ∧ SqL K H a (ns.map V.int) ∧ Q (.int ns.sum) H
theorem cr_sum (hc : X.calm = true) : CallR X (.builtin "sum") (rSum X.K) := by
  intro pins s σ H vs us Q I r h
  obtain ⟨a, ns, rfl, hs, q⟩ := h
  obtain ⟨its, rv, hl, _⟩ := I.list hs
  rw [Vals.ref1 r]
  exact sum_raw (I.ok.hd hc) hl.isList rv.ints fun h' tk t' hk => ⟨.int _, H, I.kept hk, ⟨_, rfl⟩, q⟩

/-! sorted, sort (fewer than 64 items: the library's own bound) -/
def rSorted (K : PySem.W.Frag) : List V → Hp → VK → Prop := fun vs H Q => ∃ (a : Addr) (ns : List Int), vs = [V.ref a] ∧ SqL K H a (ns.map V.int) ∧ ns.length < 64 ∧
  ∀ (ns' : List Int) (p : Addr), ns'.Perm ns → ns'.Pairwise (· ≤ ·) → H p = none → Q (.ref p) (upd H p (.lst (ns'.map V.int)))
theorem small64 {n : Nat} (h : n < 64) : n ≤ sizeLine := by rw [sizeLine_eq]; omega
theorem cr_sorted : CallR X (.builtin "sorted") (rSorted X.K) := by
  intro pins s σ H vs us Q I r h
  obtain ⟨a, ns, rfl, hs, h64, q⟩ := h
  obtain ⟨its, rv, hl, _⟩ := I.list hs
  rw [Vals.ref1 r]
  have hi := rv.ints
  refine PyProof.Rows.sorted_ints hl.isList hi (by rw [hi.length]; exact h64) fun out ns' h1 h2 h3 => ?_
  obtain ⟨ep, he'⟩ := PyProof.Rows.sortedAll_at s.heap its out
  have hlen : (ns'.map V.int).length ≤ sizeLine := by rw [List.length_map, h2.length_eq]; exact small64 h64
  exact ⟨.ref _, upd H (s.heap.objs.size + 1) (.lst (ns'.map V.int)), I.laid (t' := s.toks) (fun _ _ => PyProof.Rows.sortedAll_old) (Nat.le_succ _) ⟨hlen, out.toList, ep, vals_of_ints h1, he'⟩, rfl, q ns' _ h2 h3 (I.hok.fresh (Nat.le_succ _))⟩
end

/-! ### list.index, flat items -/
section
variable {X : Cx}
end

/-! ### type(x) of an own instance; is, is not of a module's class -/
section
variable {X : Cx}
end

/-! ### any(xs), all(xs) of a list of bools -/
theorem iter_any {prog : Program} {w : World} {A : Around} {E : Value → Shared → Prop} {s : Shared} {l : Addr} {items : Array Value} {Q : Value → Shared → Prop} (hl : s.heap.IsList l items)
    (h : ∀ s₂ : Shared, s₂ = { s with heap := s.heap.push { cls := .type "list_iterator", data := .fields #[.ref l, .int 0 0] } } →
      (s₂.heap.IsListIter s.heap.objs.size l 0 ∧ s₂.heap.IsList l items) → l ≠ s.heap.objs.size → Q (.ref s.heap.objs.size) s₂) : wpAny (model prog w) A (pyIter (.ref l)) Q E s := by
  have hlt : l < s.heap.objs.size := by obtain ⟨_, e, _⟩ := hl; exact Heap.lt_size e
  exact wpAny_pyIter_list hl (h _ rfl ⟨⟨_, Heap.get?_push_size _ rfl, rfl, rfl⟩, hl.push _⟩ (Nat.ne_of_lt hlt))
theorem truth_bools {prog : Program} {w : World} {A : Around} {bs : List Bool} {its : List Value} (e : its = bs.map Value.bool) :
    TruthOf prog w A (fun i v => its.toArray[i]? = some v) (fun i => bs.getD i false) := fun i v s Q E hv hq => by
  have hv' : its[i]? = some v := by simpa using hv
  rw [e, List.getElem?_map] at hv'
  obtain ⟨b, hb, rfl⟩ := Option.map_eq_some_iff.mp hv'
  have hg : bs.getD i false = b := by rw [List.getD_eq_getElem?_getD, hb] <;> rfl
  have hq' : Q (bs.getD i false) s := hq
  rw [hg] at hq'
  exact wpAny_truthy_bool hq'
theorem all_range : ∀ bs : List Bool, (List.range bs.length).all (fun i => bs.getD i false) = bs.all id
  | [] => rfl
  | b :: bs => by
    rw [List.length_cons, List.range_succ_eq_map, List.all_cons, List.all_map, List.all_cons, ← all_range bs]
    all_goals rfl
section
variable {X : Cx}
def rAll (K : PySem.W.Frag) : List V → Hp → VK → Prop := fun vs H Q => ∃ (a : Addr) (bs : List Bool), vs = [V.ref a] ∧ SqL K H a (bs.map V.bl) ∧ Q (.bl (bs.all id)) H
theorem cr_all (hc : X.calm = true) : CallR X (.builtin "all") (rAll X.K) := by
  intro pins s σ H vs us Q I r h
  obtain ⟨a, bs, rfl, hs, q⟩ := h
  obtain ⟨its, rv, hl, _⟩ := I.list hs
  rw [Vals.ref1 r]
  have hb := rv.bls
  refine call_all_walk (iter_any hl.isList fun s₂ e2 st hne => ?_)
  subst e2
  refine ⟨_, _, _, _, _, _, _, rfl, Walks.list (A := X.A.in1) (I.ok.hd hc) _ a hne its.toArray, st, truth_bools hb, fun h' tk hk => ?_⟩
  refine ⟨.bl _, H, I.kept fun b o eo => hk b o (fun hmem => ?_) (Heap.get?_push_of_some _ eo), ?_, q⟩
  · rcases List.mem_cons.mp hmem with e1 | hmem
    · exact absurd (e1 ▸ Heap.lt_size eo) (Nat.lt_irrefl _)
    · cases hmem
  · show Value.bool _ = Value.bool _
    rw [← all_range, hb, List.size_toArray, List.length_map]
end

/-! ### == and != of data at any depth: none, bools, ints, texts, lists, tuples -/
mutual
inductive Dp (K : PySem.W.Frag) (H : Hp) : V → PyData → Prop
  | non : Dp K H .non .none
  | bl (b : Bool) : Dp K H (.bl b) (.bool b)
  | int (i : Int) : Dp K H (.int i) (.int i)
  | str (x : Str) : Dp K H (.str x) (.str x)
  | lst {a : Addr} {xs : List V} {ds : List PyData} : SqL K H a xs → DpAll K H xs ds → Dp K H (.ref a) (.list ds)
  | tup {a : Addr} {xs : List V} {ds : List PyData} : SqT K H a xs → DpAll K H xs ds → Dp K H (.ref a) (.tuple ds)
inductive DpAll (K : PySem.W.Frag) (H : Hp) : List V → List PyData → Prop
  | nil : DpAll K H [] []
  | cons {v : V} {vs : List V} {d : PyData} {ds : List PyData} : Dp K H v d → DpAll K H vs ds → DpAll K H (v :: vs) (d :: ds)
end
section
variable {X : Cx} {pins : List (Addr × Obj)} {σ : St} {H : Hp} {s : Shared}
mutual
theorem Dp.reads (I : Inv X pins σ H s) : ∀ (d : PyData) (v : V) (u : Value), Dp X.K H v d → RelV v u → ∃ as, Reads s.heap u d as
  | .none, _, _, h, r => by
    cases h
    cases r
    exact ⟨_, Reads.none⟩
  | .bool b, _, _, h, r => by
    cases h
    cases r
    exact ⟨_, Reads.bool b⟩
  | .int i, _, _, h, r => by
    cases h
    obtain ⟨t, rfl⟩ := r
    exact ⟨_, Reads.int i t⟩
  | .str x, _, _, h, r => by
    cases h
    obtain ⟨t, rfl⟩ := r
    exact ⟨_, Reads.str x t⟩
  | .list ds, _, _, h, r => by
    cases h with
    | lst hs ha =>
      cases r
      obtain ⟨its, rv, ⟨o, n, ho, hc, _, hd⟩, _⟩ := I.list hs
      obtain ⟨as, hr⟩ := Dp.readsAll I ds _ its ha rv
      exact ⟨_, Reads.list ho hc hd hr⟩
  | .tuple ds, _, _, h, r => by
    cases h with
    | tup hs ha =>
      cases r
      obtain ⟨its, rv, ⟨o, ho, hc, n, hd⟩, _⟩ := I.tuple hs
      obtain ⟨as, hr⟩ := Dp.readsAll I ds _ its ha rv
      exact ⟨_, Reads.tuple ho hc hd hr⟩
  | .dict _, _, _, h, _ => by cases h
theorem Dp.readsAll (I : Inv X pins σ H s) : ∀ (ds : List PyData) (vs : List V) (us : List Value), DpAll X.K H vs ds → Vals vs us → ∃ as, ReadsAll s.heap us ds as
  | [], _, _, h, r => by
    cases h
    cases r
    exact ⟨_, ReadsAll.nil⟩
  | d :: ds, _, _, h, r => by
    cases h with
    | cons h1 h2 =>
      cases r with
      | cons r1 r2 =>
        obtain ⟨as, q1⟩ := Dp.reads I d _ _ h1 r1
        obtain ⟨bs, q2⟩ := Dp.readsAll I ds _ _ h2 r2
        exact ⟨_, ReadsAll.cons q1 q2⟩
end
end
section
variable {X : Cx}
def rEqD (K : PySem.W.Frag) : R2 := fun x y H Q => ∃ d e, Dp K H x d ∧ Dp K H y e ∧ SeqAt.shaped d = true ∧ SeqAt.shaped e = true ∧ Q (.bl (PyData.eqv d e)) H
theorem op_eqD (hu : X.A.units + 64 < cLine) : OpR X (compareOp .Eq) (rEqD X.K) := by
  intro pins s σ H x y v u Q I rx ry h
  obtain ⟨d, e, hd, he, sd, se, q⟩ := h
  obtain ⟨as, r1⟩ := Dp.reads I d x v hd rx
  obtain ⟨bs, r2⟩ := Dp.reads I e y u he ry
  exact SeqAt.compareEq_shaped r1 r2 sd se hu ⟨.bl _, H, I, rfl, q⟩
end
end L2

namespace L2
open PySem PySem.Spec PyProof.Rows
abbrev CellAt (h : Heap) (c : Addr) (v : Option Value) : Prop := h.IsCell c v
def relS (scope sc : Scope) : Scope :=
  { scope with names := scope.names.map fun (n, k) => if (k == .free && sc.kind == .function && sc.names.lookup n == some .cell) then (n, .cell) else (n, k) }

def cloFrom (cells : List (Str × Addr)) : List (Str × NameKind) → List (Str × Addr) → List (Str × Addr)
  | [], acc => acc
  | (n, k) :: r, acc => if k == .free then cloFrom cells r ((n, (cells.lookup n).getD 0) :: acc) else cloFrom cells r acc

theorem closure_loop (env : Env) (f : Str × NameKind → List (Str × Addr) → Sem (ForInStep (List (Str × Addr))))
    (hf : ∀ n k c, f (n, k) c = if k == .free then (do let a ← cellOf env n; pure (.yield ((n, a) :: c))) else pure (.yield c)) :
    ∀ (names : List (Str × NameKind)) (acc : List (Str × Addr)), (∀ y ∈ names, y.2 = .free → ∃ c, env.cells.lookup y.1 = some c) → forIn names acc f = pure (cloFrom env.cells names acc)
  | [], acc, _ => by rw [List.forIn_nil]; rfl
  | (n, k) :: r, acc, h => by
    rw [List.forIn_cons, hf]
    have ih := fun acc => closure_loop env f hf r acc fun y hy => h y (List.mem_cons_of_mem _ hy)
    unfold cloFrom
    by_cases hk : (k == NameKind.free) = true
    · rw [if_pos hk, if_pos hk]
      obtain ⟨c, hc⟩ := h (n, k) List.mem_cons_self (by simpa using hk)
      have e : cellOf env n = pure c := by unfold cellOf; rw [hc]
      rw [e]
      have e2 : (env.cells.lookup n).getD 0 = c := by rw [hc]; rfl
      rw [e2]
      exact ih _
    · rw [if_neg hk, if_neg hk]
      exact ih _
theorem closure_ok {scope : Scope} {env : Env} (h : ∀ y ∈ scope.names, y.2 = .free → ∃ c, env.cells.lookup y.1 = some c) : closureFor scope env = pure (cloFrom env.cells scope.names []) := by
  simp only [closureFor]
  rw [closure_loop env _ (fun n k c => rfl) scope.names [] h]
  rfl

theorem mem_lookup {α : Type} : ∀ {l : List (Str × α)} {n : Str} {c : α}, (n, c) ∈ l → ∃ c', l.lookup n = some c'
  | (k, v) :: r, n, c, h => by
    rw [List.lookup_cons]
    cases hb : n == k with
    | true => exact ⟨_, rfl⟩
    | false =>
      rcases List.mem_cons.mp h with e | h
      · cases e; simp at hb
      · exact mem_lookup h

theorem cloFrom_mem {cells : List (Str × Addr)} : ∀ {names : List (Str × NameKind)} {acc : List (Str × Addr)} {n : Str} {c : Addr}, (n, c) ∈ cloFrom cells names acc → (n, c) ∈ acc ∨ ((n, .free) ∈ names ∧ c = (cells.lookup n).getD 0)
  | [], _, _, _, h => .inl h
  | (m, k) :: r, acc, n, c, h => by
    unfold cloFrom at h
    split at h
    · rename_i hk
      have hk : k = .free := by simpa using hk
      rcases cloFrom_mem h with h | ⟨h1, h2⟩
      · rcases List.mem_cons.mp h with e | h
        · cases e; exact .inr ⟨hk ▸ List.mem_cons_self, rfl⟩
        · exact .inl h
      · exact .inr ⟨List.mem_cons_of_mem _ h1, h2⟩
    · rcases cloFrom_mem h with h | ⟨h1, h2⟩
      · exact .inl h
      · exact .inr ⟨List.mem_cons_of_mem _ h1, h2⟩
theorem cloFrom_acc {cells : List (Str × Addr)} : ∀ {names : List (Str × NameKind)} {acc : List (Str × Addr)} {p : Str × Addr}, p ∈ acc → p ∈ cloFrom cells names acc
  | [], _, _, h => h
  | (m, k) :: r, acc, p, h => by
    unfold cloFrom
    split
    · exact cloFrom_acc (List.mem_cons_of_mem _ h)
    · exact cloFrom_acc h
theorem cloFrom_has {cells : List (Str × Addr)} : ∀ {names : List (Str × NameKind)} {acc : List (Str × Addr)} {n : Str}, (n, .free) ∈ names → (n, (cells.lookup n).getD 0) ∈ cloFrom cells names acc
  | (m, k) :: r, acc, n, h => by
    unfold cloFrom
    rcases List.mem_cons.mp h with e | h
    · cases e
      exact cloFrom_acc List.mem_cons_self
    · split
      · exact cloFrom_has h
      · exact cloFrom_has h

theorem cells_mem : ∀ {names : List (Str × NameKind)} {h : Heap} {acc : List (Str × Addr)} {x : Str} {c : Addr}, (x, c) ∈ cellsFrom h.objs.size names acc →
    (x, c) ∈ acc ∨ ((x, .cell) ∈ names ∧ h.objs.size ≤ c ∧ CellAt (pushCells h names) c none)
  | [], _, _, _, _, h => .inl h
  | (n, k) :: r, h, acc, x, c, hm => by
    unfold cellsFrom at hm
    unfold pushCells
    split at hm
    · rename_i hk
      rw [if_pos hk]
      have hk : k = .cell := by simpa using hk
      rw [← Heap.size_push h { cls := .type "cell", data := .cell none }] at hm
      rcases cells_mem hm with hm | ⟨h1, h2, h3⟩
      · rcases List.mem_cons.mp hm with e | hm
        · cases e
          exact .inr ⟨hk ▸ List.mem_cons_self, Nat.le_refl _, _, pushCells_keeps r _ _ _ (Heap.get?_push_size _ rfl), rfl⟩
        · exact .inl hm
      · rw [Heap.size_push] at h2
        exact .inr ⟨List.mem_cons_of_mem _ h1, Nat.le_of_succ_le h2, h3⟩
    · rename_i hk
      rw [if_neg hk]
      rcases cells_mem hm with hm | ⟨h1, h2, h3⟩
      · exact .inl hm
      · exact .inr ⟨List.mem_cons_of_mem _ h1, h2, h3⟩
theorem cells_acc : ∀ {names : List (Str × NameKind)} {n : Nat} {acc : List (Str × Addr)} {p : Str × Addr}, p ∈ acc → p ∈ cellsFrom n names acc
  | [], _, _, _, h => h
  | (m, k) :: r, n, acc, p, h => by
    unfold cellsFrom
    split
    · exact cells_acc (List.mem_cons_of_mem _ h)
    · exact cells_acc h
theorem cells_has : ∀ {names : List (Str × NameKind)} {n : Nat} {acc : List (Str × Addr)} {x : Str}, (x, .cell) ∈ names → ∃ c, (x, c) ∈ cellsFrom n names acc
  | (m, k) :: r, n, acc, x, h => by
    unfold cellsFrom
    rcases List.mem_cons.mp h with e | h
    · cases e
      exact ⟨n, cells_acc List.mem_cons_self⟩
    · split
      · exact cells_has h
      · exact cells_has h
theorem cells_inj : ∀ {names : List (Str × NameKind)} {h : Heap} {acc : List (Str × Addr)} {x y : Str} {c : Addr}, (∀ p ∈ acc, p.2 < h.objs.size) → (∀ x y c, (x, c) ∈ acc → (y, c) ∈ acc → x = y) →
    (x, c) ∈ cellsFrom h.objs.size names acc → (y, c) ∈ cellsFrom h.objs.size names acc → x = y
  | [], _, _, _, _, _, _, hi, h1, h2 => hi _ _ _ h1 h2
  | (n, k) :: r, h, acc, x, y, c, hl, hi, h1, h2 => by
    unfold cellsFrom at h1 h2
    split at h1
    · rename_i hk
      rw [if_pos hk] at h2
      rw [← Heap.size_push h { cls := .type "cell", data := .cell none }] at h1 h2
      refine cells_inj (h := h.push _) (fun p hp => ?_) (fun x y c a b => ?_) h1 h2
      · rw [Heap.size_push]
        rcases List.mem_cons.mp hp with rfl | hp
        · exact Nat.lt_succ_self _
        · exact Nat.lt_succ_of_lt (hl p hp)
      · rcases List.mem_cons.mp a with e | a <;> rcases List.mem_cons.mp b with e' | b
        · cases e; cases e'; rfl
        · cases e; exact absurd (hl _ b) (Nat.lt_irrefl _)
        · cases e'; exact absurd (hl _ a) (Nat.lt_irrefl _)
        · exact hi _ _ _ a b
    · rename_i hk
      rw [if_neg hk] at h2
      exact cells_inj hl hi h1 h2

theorem newEnv_comp {M : Model} {A : Around} {E : Value → Shared → Prop} {s : Shared} {scope : Scope} {globals : Addr} {closure : List (Str × Addr)} {qual : Str} {func : Option Addr} {code : Value} {around : Env} {builtins : Addr} {Q : Env → Shared → Prop}
    (h : Q (newEnv scope s.heap.objs.size globals (cellsFrom (s.heap.objs.size + 1) scope.names closure) qual func code (some around) builtins)
      { s with heap := pushCells (s.heap.push { cls := .type "dict", data := .dict #[] }) scope.names }) :
    wpAny M A (newFunctionEnv scope globals closure [] qual func code (some around) builtins) Q E s := by
  simp only [newFunctionEnv, Option.isSome_some, if_true]
  refine wpAny_bind (wpAny_alloc ?_)
  refine wpAny_bind (wpAny_layCells _ (fun n k c => rfl) scope.names closure _ _ ?_)
  rw [show ({ s with heap := s.heap.push { cls := .type "dict", data := .dict #[] } } : Shared).heap.objs.size = s.heap.objs.size + 1 from Heap.size_push ..]
  rw [List.forIn_nil]
  exact wpAny_bind (wpAny_pure (wpAny_pure h))

/-- every name of the written scope, in the scope that runs -/
theorem lookup_relS {sc : Scope} : ∀ {names : List (Str × NameKind)} {x : Str} {k : NameKind},
    (names.map fun (n, k) => if (k == NameKind.free && sc.kind == .function && sc.names.lookup n == some .cell) then (n, NameKind.cell) else (n, k)).lookup x = some k →
    ∃ k', names.lookup x = some k' ∧ (k = k' ∨ (k' = .free ∧ k = .cell))
  | [], _, _, h => by simp at h
  | (n, k₀) :: r, x, k, h => by
    have ih := @lookup_relS sc r x k
    have h' : List.lookup x ((if (k₀ == NameKind.free && sc.kind == .function && sc.names.lookup n == some .cell) = true then (n, NameKind.cell) else (n, k₀)) :: (r.map _)) = some k := h
    cases hx : x == n with
    | true =>
      simp only [List.lookup_cons, hx]
      by_cases hc : (k₀ == NameKind.free && sc.kind == .function && sc.names.lookup n == some .cell) = true
      · rw [if_pos hc] at h'
        simp only [List.lookup_cons, hx] at h'
        cases h'
        simp only [Bool.and_eq_true, beq_iff_eq] at hc
        exact ⟨k₀, rfl, .inr ⟨hc.1.1, rfl⟩⟩
      · rw [if_neg hc] at h'
        simp only [List.lookup_cons, hx] at h'
        cases h'
        exact ⟨_, rfl, .inl rfl⟩
    | false =>
      simp only [List.lookup_cons, hx]
      by_cases hc : (k₀ == NameKind.free && sc.kind == .function && sc.names.lookup n == some .cell) = true
      · rw [if_pos hc] at h'
        simp only [List.lookup_cons, hx] at h'
        exact ih h'
      · rw [if_neg hc] at h'
        simp only [List.lookup_cons, hx] at h'
        exact ih h'



/-- the names of a comprehension's block: its own (with their places in N), or captured -/
structure BlkOk (N : List Str) (sc scope : Scope) (own : List (Str × Nat)) : Prop where
  kind : scope.kind = .function
  uniq : ∀ y ∈ scope.names, scope.names.lookup y.1 = some y.2
  ix : ∀ p ∈ own, N[p.2]? = some p.1
  free : ∀ y ∈ scope.names, y.2 = .free → sc.names.lookup y.1 = some .cell ∨ sc.names.lookup y.1 = some .free
  own : ∀ y ∈ scope.names, y.2 = .local ∨ y.2 = .cell → y.1 ∈ own.map (·.1) ∨ y.1 ∉ N
/-- the slots of the block's own names forgotten -/
def wipe (σ : St) : List Nat → St
  | [] => σ
  | v :: vs => (wipe σ vs).set v none
theorem wipe_length (σ : St) : ∀ vs : List Nat, (wipe σ vs).length = σ.length
  | [] => rfl
  | v :: vs => by unfold wipe; rw [List.length_set, wipe_length σ vs]
theorem wipe_some {σ : St} {i : Nat} {x : V} : ∀ {vs : List Nat}, (wipe σ vs)[i]? = some (some x) → σ[i]? = some (some x) ∧ i ∉ vs
  | [], h => ⟨h, by simp⟩
  | v :: vs, h => by
    unfold wipe at h
    by_cases hi : v = i
    · subst hi
      by_cases hv : v < (wipe σ vs).length
      · rw [List.getElem?_set_self hv] at h; cases h
      · rw [List.getElem?_eq_none (by simpa using hv)] at h; cases h
    · rw [List.getElem?_set_ne hi] at h
      obtain ⟨h1, h2⟩ := wipe_some h
      exact ⟨h1, by simp only [List.mem_cons, not_or]; exact ⟨fun e => hi e.symm, h2⟩⟩

/-- the context of a block that starts at s, its iterator's objects at fp -/
abbrev Cx.blk (X : Cx) (s : Shared) (H : Hp) (scope : Scope) (cenv : Env) (fp : List Addr) : Cx := { X with s_0 := s, H_0 := H, env := cenv, outer := X.stack, ex := fp, fn := fun x => scope.names.lookup x == some .cell, pn := [], xe := fun _ _ => False }
section
variable {X : Cx} {pins : List (Addr × Obj)} {σ : St} {H : Hp} {s : Shared}
theorem block_start {scope : Scope} {own : List (Str × Nat)} {fp : List Addr} (I : Inv X pins σ H s) (ok : BlkOk X.N X.env.scope scope own) (hN : X.N.Nodup) (hfp : ∀ b ∈ fp, FpOk X pins H b ∧ b < s.heap.objs.size) :
    Inv (X.blk s H scope (compEnvC scope (cellsFrom (s.heap.objs.size + 1) scope.names (cloFrom X.env.cells scope.names [])) s.heap.objs.size X.env) fp) [] (wipe σ (own.map (·.2))) H { s with heap := pushCells (s.heap.push { cls := .type "dict", data := .dict #[] }) scope.names } := by
  have hfree : ∀ y ∈ scope.names, y.2 = .free → ∃ c, X.env.cells.lookup y.1 = some c := fun y hy e => by
    rcases ok.free y hy e with k | k
    · exact I.ok.has _ (.inl k)
    · exact I.ok.has _ (.inr k)
  generalize hcenv : compEnvC scope (cellsFrom (s.heap.objs.size + 1) scope.names (cloFrom X.env.cells scope.names [])) s.heap.objs.size X.env = cenv
  have kp : ∀ b o, s.heap.get? b = some o → (pushCells (s.heap.push { cls := .type "dict", data := .dict #[] }) scope.names).get? b = some o := fun b o e => pushCells_keeps _ _ _ _ (Heap.get?_push_of_some _ e)
  have hL : cenv.locals = s.heap.objs.size := by rw [← hcenv]; rfl
  have hcl : cenv.cells = cellsFrom (s.heap.objs.size + 1) scope.names (cloFrom X.env.cells scope.names []) := by rw [← hcenv]; rfl
  have hsc : cenv.scope = relS scope X.env.scope := by rw [← hcenv]; rfl
  rw [← Heap.size_push s.heap { cls := .type "dict", data := .dict #[] }] at hcl
  have cm : ∀ {y c}, (y, c) ∈ cloFrom X.env.cells scope.names [] → X.env.cells.lookup y = some c ∧ c < s.heap.objs.size := fun {y c} hm => by
    rcases cloFrom_mem hm with hm | ⟨h1, rfl⟩
    · cases hm
    · obtain ⟨c, hc⟩ := hfree _ h1 rfl
      rw [hc]
      obtain ⟨w, z⟩ := I.cell _ _ hc
      exact ⟨rfl, z.lt⟩
  have mem : ∀ {y c}, cenv.cells.lookup y = some c → (X.env.cells.lookup y = some c ∧ c < s.heap.objs.size) ∨ (s.heap.objs.size + 1 ≤ c ∧ CellAt (pushCells (s.heap.push { cls := .type "dict", data := .dict #[] }) scope.names) c none) := fun {y c} e => by
    rw [hcl] at e
    rcases cells_mem (PySem.mem_of_lookup e) with hm | ⟨_, h2, h3⟩
    · exact .inl (cm hm)
    · rw [Heap.size_push] at h2; exact .inr ⟨h2, h3⟩
  have look : ∀ {y}, scope.names.lookup y = some .free → ∃ c, cenv.cells.lookup y = some c ∧ X.env.cells.lookup y = some c := fun {y} hl => by
    have hy : (y, NameKind.free) ∈ scope.names := PySem.mem_of_lookup hl
    obtain ⟨c', e'⟩ := mem_lookup (cells_acc (names := scope.names) (n := (s.heap.push { cls := .type "dict", data := .dict #[] }).objs.size) (cloFrom_has (cells := X.env.cells) (acc := []) hy))
    rw [← hcl] at e'
    refine ⟨c', e', ?_⟩
    rw [hcl] at e'
    rcases cells_mem (PySem.mem_of_lookup e') with hm | ⟨h1, _, _⟩
    · exact (cm hm).1
    · have := ok.uniq _ h1
      rw [hl] at this; cases this
  have okB : (X.blk s H scope cenv fp).Ok := by
    refine ⟨I.ok.mod, by show cenv.scope.kind = _; rw [hsc]; exact ok.kind, by show cenv.globals = _; rw [← hcenv]; exact I.ok.glob, by show cenv.builtins = _; rw [← hcenv]; exact I.ok.blt, by show s.heap.objs.size ≤ cenv.locals; rw [hL]; exact Nat.le_refl _,
      fun y z c e1 e2 => ?_, fun y hy => ?_, fun y c z e => ?_, I.ok.hd, I.ok.frames, .inl rfl, fun b hb => ⟨?_, fun y c e z => ?_⟩, I.bs, Nat.le_trans I.ok.bsz I.sz, fun b o e hb => ?_, fun b hb z => ?_, I.stack, I.stkFree⟩
    · have e1 : cenv.cells.lookup y = some c := e1
      have e2 : cenv.cells.lookup z = some c := e2
      rw [hcl] at e1 e2
      refine cells_inj (fun p hp => ?_) (fun y z c a b => I.ok.inj y z c (cm a).1 (cm b).1) (PySem.mem_of_lookup e1) (PySem.mem_of_lookup e2)
      rw [Heap.size_push]
      exact Nat.lt_succ_of_lt (cm (y := p.1) (c := p.2) hp).2
    · show ∃ c, cenv.cells.lookup y = some c
      have key : ∀ k, cenv.kindOf y = some k → (k = .cell ∨ k = .free) → ∃ c, cenv.cells.lookup y = some c := fun k hk hk' => by
        unfold Env.kindOf at hk
        rw [hsc] at hk
        obtain ⟨k', e, r⟩ := lookup_relS hk
        have : k' = .cell ∨ k' = .free := by
          rcases r with rfl | ⟨rfl, _⟩
          · exact hk'
          · exact .inr rfl
        rcases this with rfl | rfl
        · obtain ⟨c, hm⟩ := cells_has (n := (s.heap.push { cls := .type "dict", data := .dict #[] }).objs.size) (acc := cloFrom X.env.cells scope.names []) (PySem.mem_of_lookup e)
          obtain ⟨c', e'⟩ := mem_lookup hm
          exact ⟨c', by rw [hcl]; exact e'⟩
        · obtain ⟨c, h1, _⟩ := look e
          exact ⟨c, h1⟩
      rcases hy with hy | hy
      · exact key _ hy (.inl rfl)
      · exact key _ hy (.inr rfl)
    · have z : (scope.names.lookup y == some NameKind.cell) = true := z
      have z : scope.names.lookup y = some .cell := by simpa using z
      have e : cenv.cells.lookup y = some c := e
      rw [hcl] at e
      rcases cells_mem (PySem.mem_of_lookup e) with hm | ⟨_, h2, _⟩
      · rcases cloFrom_mem hm with hm | ⟨h1, _⟩
        · cases hm
        · have q := ok.uniq _ h1
          rw [z] at q; cases q
      · rw [Heap.size_push] at h2
        exact Nat.le_of_succ_le h2
    · show b ≠ cenv.locals
      rw [hL]; exact Nat.ne_of_lt (hfp b hb).2
    · have e : cenv.cells.lookup y = some c := e
      rcases mem e with ⟨h1, _⟩ | ⟨h1, _⟩
      · exact (hfp b hb).1.2.2.2.2.1 y c h1 z
      · have h2 : s.heap.objs.size + 1 ≤ b := by rw [← z]; exact h1
        exact absurd (Nat.lt_of_lt_of_le (hfp b hb).2 (Nat.le_of_succ_le h2)) (Nat.lt_irrefl _)
    · rcases (hfp b hb).1.2.2.2.1 with z | z
      · exact I.ok.noex b o e z
      · exact absurd (Nat.lt_of_lt_of_le (Heap.lt_size e) (Nat.le_trans I.ok.bsz z)) (Nat.lt_irrefl _)
    · rcases List.mem_cons.mp (I.stkSub b z) with z | z
      · exact (hfp b hb).1.2.1 z
      · exact (hfp b hb).1.2.2.1 z
  refine ⟨okB, rfl, I.bare, Un.kept kp, ⟨fun _ => none, ?_, fun i y av e1 e2 e3 => ?_⟩, fun y c e => ?_, ?_, fun y c e => ?_, fun p hp => ?_, I.hok.kept kp, by rw [wipe_length]; exact I.len⟩
  · show Heap.Ns _ cenv.locals _
    rw [hL]
    exact Heap.Ns.keeps (Heap.Ns.new ..) fun b o e => pushCells_keeps _ _ _ _ e
  · obtain ⟨e2, hne⟩ := wipe_some e2
    have hfr : scope.names.lookup y = some .free ∧ (cenv.kindOf y = some .cell ∨ cenv.kindOf y = some .free) := by
      have key : ∀ k, cenv.scope.names.lookup y = some k → k = .local ∨ k = .cell ∨ k = .free → scope.names.lookup y = some .free ∧ (cenv.kindOf y = some .cell ∨ cenv.kindOf y = some .free) := fun k hk hk' => by
        have hk0 := hk
        rw [hsc] at hk
        obtain ⟨k', e, r⟩ := lookup_relS hk
        have no : ¬ (k' = .local ∨ k' = .cell) := fun hh => by
          rcases ok.own _ (PySem.mem_of_lookup e) hh with e' | e'
          · obtain ⟨p, hp, hpy⟩ := List.mem_map.mp e'
            have e3 := ok.ix p hp
            have : p.1 = y := hpy
            rw [this] at e3
            exact hne (List.mem_map.mpr ⟨p, hp, nodup_ix hN e3 e1⟩)
          · exact e' (List.mem_of_getElem? e1)
        rcases r with rfl | ⟨rfl, rfl⟩
        · rcases hk' with rfl | rfl | rfl
          · exact absurd (.inl rfl) no
          · exact absurd (.inr rfl) no
          · exact ⟨e, .inr hk0⟩
        · exact ⟨e, .inl hk0⟩
      have e3 : Vis cenv.scope y := e3
      rcases e3 with e3 | e3 | e3
      · exact key _ e3 (.inl rfl)
      · exact key _ e3 (.inr (.inl rfl))
      · exact key _ e3 (.inr (.inr rfl))
    obtain ⟨m, hn, hl⟩ := I.loc
    have hvis : Vis X.env.scope y := (ok.free _ (PySem.mem_of_lookup hfr.1) rfl).elim (fun k => .inr (.inl k)) (fun k => .inr (.inr k))
    obtain ⟨w, r, q⟩ := hl i y av e1 e2 hvis
    refine ⟨w, r, .inr ⟨hfr.2, ?_⟩⟩
    obtain ⟨c, h1, h2⟩ := look hfr.1
    rcases q with ⟨k, _⟩ | ⟨_, c', e', z⟩
    · have k : X.env.scope.names.lookup y = some .local := k
      rcases ok.free _ (PySem.mem_of_lookup hfr.1) rfl with k' | k' <;> rw [show X.env.scope.names.lookup y = _ from k'] at k <;> cases k
    · rw [h2] at e'; cases e'
      exact ⟨c, h1, z.keeps kp⟩
  · have e : cenv.cells.lookup y = some c := e
    rcases mem e with ⟨h1, _⟩ | ⟨_, z⟩
    · obtain ⟨w, z⟩ := I.cell y c h1
      exact ⟨w, z.keeps kp⟩
    · exact ⟨_, z⟩
  · show H cenv.locals = none
    rw [hL]; exact I.hok.fresh (Nat.le_refl _)
  · have e : cenv.cells.lookup y = some c := e
    rcases mem e with ⟨h1, _⟩ | ⟨h1, _⟩
    · exact I.freeC y c h1
    · exact I.hok.fresh (Nat.le_of_succ_le h1)
  · exact absurd (show p ∈ ([] : List (Addr × Obj)) ++ [] from hp) (by simp)

/-- an item appended to a tracked list -/
theorem app_ok {E : Value → Shared → Prop} {D : Addr} {xs : List V} {y : V} {v : Value} {Q : Value → Shared → Prop} (I : Inv X pins σ H s) (hD : H D = some (.lst xs)) (hz : xs.length < sizeLine) (r : RelV y v)
    (h : ∀ s', Inv X pins σ (upd H D (.lst (xs ++ [y]))) s' → Q .none s') : wpAny (model X.prog X.w) X.A (call (.builtin "list.append") [.ref D, v]) Q E s := by
  obtain ⟨hz', its, n, ri, e⟩ := I.hok D _ hD
  have hl := ri.length
  refine append_at (hsz := by rw [List.size_toArray]; omega) e fun h' sb ho' => ?_
  refine h { s with heap := h' } (I.write (t' := s.toks) (by rw [hD]; trivial) (.inl rfl) (fun b u hb q => (sb.2 b hb).trans q) ⟨_, ho'⟩ ⟨by rw [List.length_append]; exact hz, its ++ [v], n + 1, ri.append (.cons r .nil), ?_⟩)
  rw [ho']
  simp

/-- a clause's tests -/
def PTs (X : Cx) (ifs : List Expr) (t : TT) : Prop :=
  ∀ (pins : List (Addr × Obj)) (s : Shared) (σ : St) (H : Hp) (Q : Bool → Hp → Prop), Inv X pins σ H s → t σ H Q →
    wpAny (model X.prog X.w) X.A (forIn ifs true fun c r => if r = true then do let ok ← isTrue c X.env (eval c X.env); pure (ForInStep.yield ok) else pure (ForInStep.yield r)) (TP X pins σ Q) X.xe s
def tYes : TT := fun _ H Q => Q true H
theorem pts_nil : PTs X [] tYes := fun _ _ _ H _ I h => wpAny_tests_nil ⟨H, I, h⟩
theorem pts_one {c : Expr} {t : TT} (h : PT X c t) : PTs X [c] t := fun pins s σ H Q I hw => wpAny_tests_one (h pins s σ H Q I hw)
end

theorem thnF {α : Type} {t : Sem α} {Q Q' : α → Shared → Prop} {M : Model} {A : Around} {E : Value → Shared → Prop} {s : Shared} (h : wpAny M A t Q (fun _ _ => False) s) (hQ : ∀ a s, Q a s → Q' a s) : wpAny M A t Q' E s := wpAny_mono h hQ fun _ _ z => False.elim z

/-- the loop of a list comprehension's block, the target of any form (codeAny_compLoop_tests asks a target that no tuple goes to; statement and proof follow it, PyProof/CompMap.lean:41-61, with the step letOwnedTupleGo kept) -/
theorem compLoop_any {prog : Program} {w : World} {A : Around} {R : Result → Shared → Prop} {s : Shared} {elt target iter : Expr} {ifs : List Expr} {scope : Scope} {pos : Pos} {it acc : Value} {env : Env} (I : Nat → Shared → Prop)
    (turn : ∀ n s, I n s → wpAny (model prog w) A (pyNext it) (fun r s₁ => match r with
      | none => R (.ok .next) s₁
      | some v => wpAny (model prog w) A (letOwnedTupleGo target it v) (fun _ s₁' => wpAny (model prog w) A (assign target env v) (fun _ s₂ =>
          wpAny (model prog w) A (forIn ifs true fun c r => if r = true then do let ok ← isTrue c env (eval c env); pure (ForInStep.yield ok) else pure (ForInStep.yield r)) (fun ok s₃ =>
            if ok = true then wpAny (model prog w) A (eval elt env) (fun x s₄ =>
              wpAny (model prog w) A (call (.builtin "list.append") [acc, x]) (fun _ s₅ => ∃ m, m < n ∧ I m s₅) (notedBy (model prog w) A env fun e s' => R (.error e) s') s₄) (notedBy (model prog w) A env fun e s' => R (.error e) s') s₃
            else ∃ m, m < n ∧ I m s₃) (notedBy (model prog w) A env fun e s' => R (.error e) s') s₂) (notedBy (model prog w) A env fun e s' => R (.error e) s') s₁') (notedBy (model prog w) A env fun e s' => R (.error e) s') s₁) (notedBy (model prog w) A env fun e s' => R (.error e) s') s)
    (n : Nat) (h : I n s) :
    codeAny (model prog w) A (.compLoop (.ListComp elt [⟨target, iter, ifs, 0⟩] scope pos) 0 it acc env) R s := by
  refine codeAny_loop rfl I (fun n s hI => ?_) n h
  show wpAny _ A ((compTurn (.ListComp elt [⟨target, iter, ifs, 0⟩] scope pos) 0 it acc env).onRaise (fun x => do noteFrame x env; theTreesLotGoes x)) _ _ s
  refine wpAny_noted ?_
  rw [compTurn_list]
  refine wpAny_bind (wpAny_standAt (wpAny_bind (wpAny_mono (turn n s hI) (fun r s₁ h₁ => ?_) fun _ _ h' => h')))
  cases r with
  | none => exact wpAny_pure h₁
  | some v =>
    refine wpAny_bind (wpAny_mono h₁ (fun _ s₁' h₁' => ?_) fun _ _ h' => h')
    refine wpAny_bind (wpAny_mono h₁' (fun _ s₂ h₂ => wpAny_bind (wpAny_mono h₂ (fun ok s₃ h₃ => ?_) fun _ _ h' => h')) fun _ _ h' => h')
    cases ok with
    | false => exact wpAny_pure ⟨rfl, h₃⟩
    | true =>
      exact wpAny_bind (wpAny_bind (wpAny_mono h₃ (fun x s₄ h₄ => wpAny_bind (wpAny_mono h₄ (fun _ s₅ h₅ => wpAny_pure (wpAny_pure ⟨rfl, h₅⟩)) fun _ _ h' => h')) fun _ _ h' => h'))

section
variable {X : Cx}
/-- [elt for target in iter if ..]: D the new list; W by the turn and a measure, Nx what a turn is to reach -/
def tLc (wi : TI) (g : TG) (tt : TT) (te : TE) (vs : List Nat) : TE := fun σ H Q => wi σ H fun J H1 => ∀ D, H1 D = none → ∃ W : Nat → Nat → Hp → Prop, (∃ m, W 0 m (upd H1 D (.lst []))) ∧ ∀ i m H, W i m H →
  (J.stop i H ∧ Q (.ref D) H) ∨ (J.go i H ∧ ∃ Nx : Hp → Prop, (∀ H', Nx H' → ∃ m', m' < m ∧ W (i + 1) m' H') ∧ ∀ x H', J.yld i H x H' → g x (wipe σ vs) H' fun σ2 H2 => wipe σ2 vs = wipe σ vs ∧ tt σ2 H2 fun b H3 =>
    if b = true then te σ2 H3 fun y H4 => ∃ acc, H4 D = some (.lst acc) ∧ acc.length < sizeLine ∧ Nx (upd H4 D (.lst (acc ++ [y]))) else Nx H3)
theorem lc_core {pins : List (Addr × Obj)} {s : Shared} {σ : St} {H : Hp} {Q : VK} {elt tg iter : Expr} {ifs : List Expr} {scope : Scope} {own : List (Str × Nat)} {pos pos' : Pos} {wi : TI} {g : TG} {tt : TT} {te : TE} {use : Option (Value → Sem Unit)} {Qf : Value → Shared → Prop}
    (hc : X.calm = true) (hN : X.N.Nodup) (I : Inv X pins σ H s) (hi : PI X tg iter wi) (ok : BlkOk X.N X.env.scope scope own)
    (hg : ∀ (s : Shared) (H : Hp) (C : Addr) (cl : List (Str × Addr)) (fp : List Addr), PG (X.blk s H scope (compEnvC scope cl C X.env) fp) tg g) (ht : ∀ (s : Shared) (H : Hp) (C : Addr) (cl : List (Str × Addr)) (fp : List Addr), PTs (X.blk s H scope (compEnvC scope cl C X.env) fp) ifs tt)
    (he : ∀ (s : Shared) (H : Hp) (C : Addr) (cl : List (Str × Addr)) (fp : List Addr), PE (X.blk s H scope (compEnvC scope cl C X.env) fp) elt te) (hs : ∀ x, foldedSetIterable iter X.env x = pure x)
    (h : tLc wi g tt te (own.map (·.2)) σ H Q)
    (hRR : ∀ D C s' m H', Inv X pins σ H' s' → Q (.ref D) H' → s'.heap.Ns C m → FpOk X pins H' C → compPost (model X.prog X.w) X.A X.xe use Qf (.ref D) C (.ok .next) s') :
    wpAny (model X.prog X.w) X.A (comprehension (.ListComp elt [⟨tg, iter, ifs, 0⟩] scope pos) scope X.env pos' (newList []) false (eval iter X.env) use) Qf X.xe s := by
  have hfree : ∀ y ∈ scope.names, y.2 = .free → ∃ c, X.env.cells.lookup y.1 = some c := fun y hy e => by
    rcases ok.free y hy e with k | k
    · exact I.ok.has _ (.inl k)
    · exact I.ok.has _ (.inr k)
  refine wpAny_comprehension_free (use := use) rfl hs (closure_ok hfree) ok.kind (fun y hy e => by rw [ok.uniq y hy, e])
    (thn (hi pins s σ H _ I h) fun xv s1 hx => thn hx fun itv s2 h2 => ?_)
  obtain ⟨it, fp, tn, J, H2, e, I2, T, st2, f2, q⟩ := h2
  subst e
  refine wpAny_newObj_type (newEnv_comp ?_) (by show 0 ≤ sizeLine; decide)
  generalize hD : s2.heap.objs.size = D
  have hDn : H2 D = none := I2.hok.fresh (Nat.le_of_eq hD)
  obtain ⟨W, ⟨m0, w0⟩, turn⟩ := q D hDn
  -- the new list
  generalize hs3 : ({ s2 with heap := s2.heap.push { cls := .type "list", data := .seq ([] : List Value).toArray } } : Shared) = s3
  have I3 : Inv X pins σ (upd H2 D (.lst [])) s3 := by
    rw [← hs3]
    refine I2.laid (t' := s2.toks) (fun b o e => Heap.get?_push_of_some _ e) (Nat.le_of_eq hD) ⟨Nat.zero_le _, [], 0, .nil, ?_⟩
    rw [← hD]
    exact Heap.get?_push_size _ rfl
  have h3 : s3.heap = s2.heap.push { cls := .type "list", data := .seq ([] : List Value).toArray } := by rw [← hs3]
  have sz : ∀ b ∈ fp, b < s2.heap.objs.size := fun b hb => by
    obtain ⟨o, e, _⟩ := T.obj _ _ st2 b hb
    exact Heap.lt_size e
  have f3 : ∀ b ∈ fp, FpOk X pins (upd H2 D (.lst [])) b ∧ b < s3.heap.objs.size := fun b hb => by
    have hlt := sz b hb
    refine ⟨⟨?_, (f2 b hb).2⟩, by rw [h3, Heap.size_push]; exact Nat.lt_succ_of_lt hlt⟩
    rw [upd_ne (by rw [← hD]; exact Nat.ne_of_lt hlt)]
    exact (f2 b hb).1
  have st3 : tn 0 s3.heap := T.keep _ _ _ st2 fun b _ o e => by rw [h3]; exact Heap.get?_push_of_some _ e
  have I4 := block_start I3 ok hN f3
  have pg := hg s3 (upd H2 D (.lst [])) s3.heap.objs.size (cellsFrom (s3.heap.objs.size + 1) scope.names (cloFrom X.env.cells scope.names [])) fp
  have pt := ht s3 (upd H2 D (.lst [])) s3.heap.objs.size (cellsFrom (s3.heap.objs.size + 1) scope.names (cloFrom X.env.cells scope.names [])) fp
  have pe := he s3 (upd H2 D (.lst [])) s3.heap.objs.size (cellsFrom (s3.heap.objs.size + 1) scope.names (cloFrom X.env.cells scope.names [])) fp
  show codeAny _ _ (.compStart (.ListComp elt [⟨tg, iter, ifs, 0⟩] scope pos) 0 (.ref it) (.ref D) (compEnvC scope (cellsFrom (s3.heap.objs.size + 1) scope.names (cloFrom X.env.cells scope.names [])) s3.heap.objs.size X.env)) (compPost (model X.prog X.w) X.A X.xe use Qf (.ref D) s3.heap.objs.size) { s3 with heap := pushCells (s3.heap.push { cls := .type "dict", data := .dict #[] }) scope.names }
  have nfp : ∀ b ∈ fp, (upd H2 D (.lst [])) b = none := fun b hb => (f3 b hb).1.1
  generalize hce : compEnvC scope (cellsFrom (s3.heap.objs.size + 1) scope.names (cloFrom X.env.cells scope.names [])) s3.heap.objs.size X.env = ce at I4 pg pt pe ⊢
  have cL : ce.locals = s3.heap.objs.size := by subst hce; rfl
  generalize hH3 : upd H2 D (.lst []) = H3 at I3 I4 pg pt pe w0 nfp f3
  generalize hs4 : ({ s3 with heap := pushCells (s3.heap.push { cls := .type "dict", data := .dict #[] }) scope.names } : Shared) = s4 at I4 ⊢
  have st4 : tn 0 s4.heap := T.keep _ _ _ st3 fun b _ o e => by rw [← hs4]; exact pushCells_keeps _ _ _ _ (Heap.get?_push_of_some _ e)
  have stat : ∀ {σ' : St} {H' : Hp} {s' : Shared}, Inv (X.blk s3 H3 scope ce fp) [] σ' H' s' → (∀ b ∈ fp, H' b = none) → ∀ b ∈ fp, FpOk (X.blk s3 H3 scope ce fp) [] H' b := fun {σ' H' s'} I' hn b hb =>
    ⟨hn b hb, (I'.ok.exf b hb).1, I'.ok.exfs b hb, .inl hb, fun x c e => (I'.ok.exf b hb).2 x c e, fun p hp => absurd (show p ∈ ([] : List (Addr × Obj)) ++ [] from hp) (by simp)⟩
  have loop : codeAny (model X.prog X.w) X.A (.compLoop (.ListComp elt [⟨tg, iter, ifs, 0⟩] scope pos) 0 (.ref it) (.ref D) ce) (compPost (model X.prog X.w) X.A X.xe use Qf (.ref D) s3.heap.objs.size) s4 := by
    refine compLoop_any (fun n s' => ∃ i H', Inv (X.blk s3 H3 scope ce fp) [] (wipe σ (own.map (·.2))) H' s' ∧ tn i s'.heap ∧ (∀ b ∈ fp, H' b = none) ∧ W i n H') ?_ m0 ⟨0, H3, I4, st4, nfp, w0⟩
    rintro n s5 ⟨i, H5, I5, st5, n5, w5⟩
    rcases turn i n H5 w5 with ⟨stop, qq⟩ | ⟨go, Nx, hNx, step⟩
    · have td := T.done (X.blk s3 H3 scope ce fp) rfl rfl rfl hc i [] s5 _ H5 (fun _ _ => False) I5 (stat I5 n5) st5 stop
      refine thnF td fun r s6 ⟨hr, I6⟩ => ?_
      subst hr
      -- back in the def's context
      have I7 : Inv X pins σ H5 s6 := I3.call' (ch := fp) I6.os I6.base I6.hok I6.bare fun b hb => ⟨(f3 b hb).1.2.2.2.1, (f3 b hb).1.2.1, (f3 b hb).1.2.2.2.2.1, (f3 b hb).1.2.2.2.2.2⟩
      have nC : H5 s3.heap.objs.size = none := by
        have z : H5 ce.locals = none := I6.free
        rw [cL] at z
        exact z
      obtain ⟨m, hn, _⟩ := I6.loc
      have hn : s6.heap.Ns ce.locals m := hn
      rw [cL] at hn
      exact hRR D s3.heap.objs.size s6 m H5 I7 qq hn (I3.fpOk (Nat.le_refl _) nC)
    · have ti := T.item (X.blk s3 H3 scope ce fp) rfl rfl rfl hc i [] s5 _ H5 (fun _ _ => False) I5 (stat I5 n5) st5 go
      refine thnF ti fun r s6 ⟨u, hr, h6⟩ => ?_
      subst hr
      refine thnF h6 fun _ s7 ⟨x, H7, I7, r7, y7, st7, n7⟩ => ?_
      have I7' := I7.pinned (stat I7 n7) (T.obj _ _ st7)
      refine thnF (pg _ s7 _ H7 x u _ I7' r7 (step x H7 y7)) fun _ s8 ⟨σ8, H8, I8, hw8, q8⟩ => ?_
      refine thnF (pt _ s8 σ8 H8 _ I8 q8) fun b s9 ⟨H9, I9, q9⟩ => ?_
      -- the turn's end
      have fin : ∀ {s' : Shared} {H' : Hp}, Inv (X.blk s3 H3 scope ce fp) ([] ++ pinsAt fp s7.heap) σ8 H' s' → Nx H' → ∃ m, m < n ∧ ∃ i H', Inv (X.blk s3 H3 scope ce fp) [] (wipe σ (own.map (·.2))) H' s' ∧ tn i s'.heap ∧ (∀ b ∈ fp, H' b = none) ∧ W i m H' := fun {s' H'} I' nx => by
        obtain ⟨m', hm, w'⟩ := hNx H' nx
        have pin' : ∀ b ∈ fp, ∀ o, s7.heap.get? b = some o → s'.heap.get? b = some o ∧ H' b = none := fun b hb o e =>
          let z := I'.pin (b, o) (List.mem_append_right _ (List.mem_append_right _ (mem_pinsAt hb e)))
          ⟨z.1, z.2.1⟩
        have hl : (wipe σ (own.map (·.2))).length = σ8.length := by rw [← hw8, wipe_length]
        refine ⟨m', hm, i + 1, H', (I'.unpinned (pins := [])).weak hl (fun j v e => ?_), T.keep _ _ _ st7 fun b hb o e => (pin' b hb o e).1, fun b hb => ?_, w'⟩
        · rw [← hw8] at e
          exact (wipe_some e).1
        · obtain ⟨o, e, _⟩ := T.obj _ _ st7 b hb
          exact (pin' b hb o e).2
      cases b with
      | false =>
        simp only [Bool.false_eq_true, if_false] at q9 ⊢
        exact fin I9 q9
      | true =>
        simp only [if_true] at q9 ⊢
        refine thnF (pe _ s9 σ8 H9 _ I9 q9) fun z s10 ⟨yv, H10, I10, r10, acc, hD10, hz10, nx⟩ => ?_
        exact app_ok (X := X.blk s3 H3 scope ce fp) I10 hD10 hz10 r10 fun s11 I11 => fin I11 nx
  exact codeAny_compStart_list loop (T.self X.A 0 _ _ _ st4 loop)
/-- as a value -/
theorem pe_lc {elt tg iter : Expr} {ifs : List Expr} {scope : Scope} {own : List (Str × Nat)} {pos : Pos} {wi : TI} {g : TG} {tt : TT} {te : TE} (hc : X.calm = true) (hN : X.N.Nodup) (hi : PI X tg iter wi) (ok : BlkOk X.N X.env.scope scope own)
    (hg : ∀ (s : Shared) (H : Hp) (C : Addr) (cl : List (Str × Addr)) (fp : List Addr), PG (X.blk s H scope (compEnvC scope cl C X.env) fp) tg g) (ht : ∀ (s : Shared) (H : Hp) (C : Addr) (cl : List (Str × Addr)) (fp : List Addr), PTs (X.blk s H scope (compEnvC scope cl C X.env) fp) ifs tt)
    (he : ∀ (s : Shared) (H : Hp) (C : Addr) (cl : List (Str × Addr)) (fp : List Addr), PE (X.blk s H scope (compEnvC scope cl C X.env) fp) elt te) (hs : ∀ x, foldedSetIterable iter X.env x = pure x := by intro _; rfl) :
    PE X (.ListComp elt [⟨tg, iter, ifs, 0⟩] scope pos) (tLc wi g tt te (own.map (·.2))) := by
  intro pins s σ H Q I h
  rw [eval_ListComp]
  refine lc_core hc hN I hi ok hg ht he hs h fun D C s' m H' I' q hn f => ⟨m, hn, fun h'' sb => ?_⟩
  obtain ⟨f0, f1, f2, f3, f4, f5⟩ := f
  exact ⟨.ref D, H', I'.turned (t' := s'.toks) (fun b o hb e => (sb.2 b hb).trans e) f0 f1 f3 f4 f5, rfl, q⟩
/-- name = [..] on one line, the name a local -/
theorem ps_setLc {i : Nat} {y : Str} {py : Pos} {elt tg iter : Expr} {ifs : List Expr} {scope : Scope} {own : List (Str × Nat)} {pos spos : Pos} {wi : TI} {g : TG} {tt : TT} {te : TE} (hc : X.calm = true) (hN : X.N.Nodup) (hy : X.N[i]? = some y) (hyl : X.env.scope.names.lookup y = some .local)
    (hsw : swapsWith (.ListComp elt [⟨tg, iter, ifs, 0⟩] scope pos) (some (.Name y py)) spos.line X.env = pure true) (hi : PI X tg iter wi) (ok : BlkOk X.N X.env.scope scope own)
    (hg : ∀ (s : Shared) (H : Hp) (C : Addr) (cl : List (Str × Addr)) (fp : List Addr), PG (X.blk s H scope (compEnvC scope cl C X.env) fp) tg g) (ht : ∀ (s : Shared) (H : Hp) (C : Addr) (cl : List (Str × Addr)) (fp : List Addr), PTs (X.blk s H scope (compEnvC scope cl C X.env) fp) ifs tt)
    (he : ∀ (s : Shared) (H : Hp) (C : Addr) (cl : List (Str × Addr)) (fp : List Addr), PE (X.blk s H scope (compEnvC scope cl C X.env) fp) elt te) (hs : ∀ x, foldedSetIterable iter X.env x = pure x := by intro _; rfl) :
    PS X (.Assign [.Name y py] (.ListComp elt [⟨tg, iter, ifs, 0⟩] scope pos) spos) (tAsg (tLc wi g tt te (own.map (·.2))) (gName i)) := by
  intro pins s σ H D I h
  rw [exec_Assign_Name_used _ _ _ _ hsw]
  refine wpAny_bind (wpAny_standAt (wpAny_bind ?_))
  show wpAny _ X.A (do let _ ← comprehension (.ListComp elt [⟨tg, iter, ifs, 0⟩] scope pos) scope X.env (firstIterPos [⟨tg, iter, ifs, 0⟩] pos) (newList []) false (eval iter X.env) (some (assign (.Name y py) X.env))) _ _ s
  have h : tLc wi g tt te (own.map (·.2)) σ H (fun x H1 => gName i x σ H1 D.nx) := h
  refine wpAny_bind (thn (lc_core (Qf := fun _ s' => SP X pins D .next s') hc hN I hi ok hg ht he hs h fun L C s' m H' I' q hn f => ?_) fun _ s' hq => wpAny_pure (wpAny_pure hq))
  show wpAny _ _ (assign (.Name y py) X.env (.ref L)) _ _ _
  refine wpAny_assign_Name (store_ok2 (v := V.ref L) I' hN hy (.inl hyl) rfl (fun s2 I2 ⟨a, sb, ha⟩ => ?_) (.inr hyl))
  obtain ⟨f0, f1, f2, f3, f4, f5⟩ := f
  have haC : C ≠ a := by
    rcases ha with z | z
    · rw [z]; exact f1
    · exact fun e => f4 y a z e.symm
  refine ⟨m, hn.sameBut sb haC, fun h3 sb3 => ?_⟩
  exact ⟨_, H', I2.turned (t' := s2.toks) (fun b o hb e => (sb3.2 b hb).trans e) f0 f1 f3 f4 f5, q⟩
theorem sw_true {elt : Expr} {gs : List Comprehension} {scope : Scope} {pos py : Pos} {y : Str} {l : Nat} {env : Env} (hk : env.scope.kind = .function) (hy : env.scope.names.lookup y = some .local) (hl : (py.line == pos.line) = true)
    (ha : (scope.names.any fun (n, k) => n == y && (k == .local || k == .cell)) = false) : swapsWith (.ListComp elt gs scope pos) (some (.Name y py)) l env = pure true := by
  have ky : env.kindOf y = some .local := hy
  have hb : env.blockKind = .function := by unfold Env.blockKind; rw [hk]; rfl
  unfold swapsWith
  simp only [hb, ky, ha, Expr.pos, hl]
  rfl
end

/-! ### the forms one uses -/
/-- over a range: Pv by the turn and the heap (the new list at D within) -/
theorem lc_range {lo : Int} {n : Nat} {g : TG} {tt : TT} {te : TE} {vs : List Nat} {σ : St} {H1 : Hp} {D : Addr} {Qd : Hp → Prop} (Pv : Nat → Hp → Prop) (h0 : Pv 0 (upd H1 D (.lst [])))
    (hs : ∀ i H, i < n → Pv i H → g (.int (lo + i)) (wipe σ vs) H fun σ2 H2 => wipe σ2 vs = wipe σ vs ∧ tt σ2 H2 fun b H3 =>
      if b = true then te σ2 H3 fun y H4 => ∃ acc, H4 D = some (.lst acc) ∧ acc.length < sizeLine ∧ Pv (i + 1) (upd H4 D (.lst (acc ++ [y]))) else Pv (i + 1) H3) (hd : ∀ H, Pv n H → Qd H) :
    ∃ W : Nat → Nat → Hp → Prop, (∃ m, W 0 m (upd H1 D (.lst []))) ∧ ∀ i m H, W i m H →
      ((Itr lo n).stop i H ∧ Qd H) ∨ ((Itr lo n).go i H ∧ ∃ Nx : Hp → Prop, (∀ H', Nx H' → ∃ m', m' < m ∧ W (i + 1) m' H') ∧ ∀ x H', (Itr lo n).yld i H x H' → g x (wipe σ vs) H' fun σ2 H2 => wipe σ2 vs = wipe σ vs ∧ tt σ2 H2 fun b H3 =>
        if b = true then te σ2 H3 fun y H4 => ∃ acc, H4 D = some (.lst acc) ∧ acc.length < sizeLine ∧ Nx (upd H4 D (.lst (acc ++ [y]))) else Nx H3) := by
  refine ⟨fun i m H => m = n - i ∧ i ≤ n ∧ Pv i H, ⟨n, by simp, Nat.zero_le _, h0⟩, ?_⟩
  rintro i m H ⟨rfl, hi, p⟩
  by_cases hlt : i < n
  · refine .inr ⟨hlt, Pv (i + 1), fun H' p' => ⟨n - (i + 1), by omega, rfl, hlt, p'⟩, fun x H' y => ?_⟩
    obtain ⟨e, y⟩ := y
    subst e y
    exact hs i _ hlt p
  · have e : i = n := by omega
    subst e
    exact .inl ⟨Nat.le_refl _, hd H p⟩
/-- over a list that the block leaves as it is -/
theorem lc_list {K : PySem.W.Frag} {a : Addr} {xs : List V} {g : TG} {tt : TT} {te : TE} {vs : List Nat} {σ : St} {H1 : Hp} {D : Addr} {Qd : Hp → Prop} (Pv : Nat → Hp → Prop) (h0 : Pv 0 (upd H1 D (.lst []))) (hl : ∀ i H, i ≤ xs.length → Pv i H → SqL K H a xs)
    (hs : ∀ i x H, xs[i]? = some x → Pv i H → g x (wipe σ vs) H fun σ2 H2 => wipe σ2 vs = wipe σ vs ∧ tt σ2 H2 fun b H3 =>
      if b = true then te σ2 H3 fun y H4 => ∃ acc, H4 D = some (.lst acc) ∧ acc.length < sizeLine ∧ Pv (i + 1) (upd H4 D (.lst (acc ++ [y]))) else Pv (i + 1) H3) (hd : ∀ H, Pv xs.length H → Qd H) :
    ∃ W : Nat → Nat → Hp → Prop, (∃ m, W 0 m (upd H1 D (.lst []))) ∧ ∀ i m H, W i m H →
      ((Itl K a).stop i H ∧ Qd H) ∨ ((Itl K a).go i H ∧ ∃ Nx : Hp → Prop, (∀ H', Nx H' → ∃ m', m' < m ∧ W (i + 1) m' H') ∧ ∀ x H', (Itl K a).yld i H x H' → g x (wipe σ vs) H' fun σ2 H2 => wipe σ2 vs = wipe σ vs ∧ tt σ2 H2 fun b H3 =>
        if b = true then te σ2 H3 fun y H4 => ∃ acc, H4 D = some (.lst acc) ∧ acc.length < sizeLine ∧ Nx (upd H4 D (.lst (acc ++ [y]))) else Nx H3) := by
  refine ⟨fun i m H => m = xs.length - i ∧ i ≤ xs.length ∧ Pv i H, ⟨xs.length, by simp, Nat.zero_le _, h0⟩, ?_⟩
  rintro i m H ⟨rfl, hi, p⟩
  have q := hl i H hi p
  by_cases hlt : i < xs.length
  · refine .inr ⟨⟨xs, xs[i], q, by simp [hlt]⟩, Pv (i + 1), fun H' p' => ⟨xs.length - (i + 1), by omega, rfl, hlt, p'⟩, fun x H' y => ?_⟩
    obtain ⟨e, y⟩ := y
    subst e
    exact hs i x _ (y xs q) p
  · have e : i = xs.length := by omega
    subst e
    exact .inl ⟨⟨xs, q, Nat.le_refl _⟩, hd H p⟩
def blkC (N : List Str) (sc scope : Scope) (own : List (Str × Nat)) : Bool :=
  (match scope.kind with | .function => true | _ => false) && (scope.names.all fun y => decide (scope.names.lookup y.1 = some y.2)) && (own.all fun p => decide (N[p.2]? = some p.1)) &&
    (scope.names.all fun y => match y.2 with
      | .free => (match sc.names.lookup y.1 with | some .cell => true | some .free => true | _ => false)
      | .local => decide (y.1 ∈ own.map (·.1)) || decide (y.1 ∉ N)
      | .cell => decide (y.1 ∈ own.map (·.1)) || decide (y.1 ∉ N)
      | _ => true)
theorem blkOk_by {N : List Str} {sc scope : Scope} {own : List (Str × Nat)} (h : blkC N sc scope own = true) : BlkOk N sc scope own := by
  unfold blkC at h
  simp only [Bool.and_eq_true, List.all_eq_true, decide_eq_true_eq] at h
  obtain ⟨⟨⟨h1, h2⟩, h3⟩, h4⟩ := h
  refine ⟨?_, h2, h3, fun y hy e => ?_, fun y hy e => ?_⟩
  · split at h1
    · assumption
    · cases h1
  · have q := h4 y hy
    simp only [e] at q
    split at q <;> first | exact .inl (by assumption) | exact .inr (by assumption) | cases q
  · have q := h4 y hy
    rcases e with e | e <;> (simp only [e, Bool.or_eq_true, decide_eq_true_eq] at q; exact q)
end L2

namespace L2
open PySem PySem.Spec PyProof.Rows


section
variable {prog : Program} {w : World} {A : Around} {R : Result → Shared → Prop} {s : Shared} {elt t0 i0 t1 i1 : Expr} {ifs0 ifs1 : List Expr} {scope : Scope} {pos : Pos} {it acc : Value} {env : Env}
end

section
variable {X : Cx}
end
end L2

namespace L2
open PySem PySem.Spec PyProof.Rows

/-! ### lists of pairs as tables -/
section
variable {κ : Type} [DecidableEq κ]
def valV (kvs : List (κ × V)) (k : κ) : Option V := (kvs.find? fun kv => decide (kv.1 = k)).map (·.2)
/-- in its place, or at the end -/
def putK (kvs : List (κ × V)) (k : κ) (v : V) : List (κ × V) :=
  if (kvs.any fun kv => decide (kv.1 = k)) = true then kvs.map (fun kv => if kv.1 = k then (kv.1, v) else kv) else kvs ++ [(k, v)]

theorem valV_pos {p : κ × V} {r : List (κ × V)} {k : κ} (e : p.1 = k) : valV (p :: r) k = some p.2 := by simp [valV, List.find?_cons, e]
theorem valV_neg {p : κ × V} {r : List (κ × V)} {k : κ} (e : ¬ p.1 = k) : valV (p :: r) k = valV r k := by simp [valV, List.find?_cons, e]
theorem valV_any (k : κ) : ∀ kvs : List (κ × V), (kvs.any fun kv => decide (kv.1 = k)) = (valV kvs k).isSome
  | [] => rfl
  | p :: r => by
    rw [List.any_cons]
    by_cases e : p.1 = k
    · simp only [valV_pos e, decide_eq_true e, Bool.true_or, Option.isSome_some]
    · rw [valV_neg e, decide_eq_false e, Bool.false_or]; exact valV_any k r
theorem length_putK (kvs : List (κ × V)) (k : κ) (v : V) : (putK kvs k v).length ≤ kvs.length + 1 := by
  unfold putK
  split
  · rw [List.length_map]; omega
  · rw [List.length_append, List.length_cons, List.length_nil]; omega

theorem RelO.isSome_eq {o : Option V} {u : Option Value} (r : RelO o u) : o.isSome = u.isSome := by
  cases o with
  | none => cases u with
    | none => rfl
    | some _ => exact (show False from r).elim
  | some _ => cases u with
    | none => exact (show False from r).elim
    | some _ => rfl
theorem RelO.getD {o : Option V} {u : Option Value} {d : V} {d' : Value} (r : RelO o u) (rd : RelV d d') : RelV (o.getD d) (u.getD d') := by
  cases o with
  | none => cases u with
    | none => exact rd
    | some _ => exact (show False from r).elim
  | some _ => cases u with
    | none => exact (show False from r).elim
    | some _ => exact r

/-- raw tables of the same keys -/
theorem KV.val {kvs : List (κ × V)} {vs : List (κ × Value)} (r : KV kvs vs) (k : κ) : RelO (valV kvs k) (valueAt vs k) := by
  unfold KV at r
  induction r with
  | nil => exact True.intro
  | @cons p q ps qs h t ih =>
    obtain ⟨h1, h2⟩ := h
    by_cases e : p.1 = k
    · have e' : q.1 = k := h1.symm.trans e
      have b : valueAt (q :: qs) k = some q.2 := by simp [valueAt, List.find?_cons, e']
      rw [valV_pos e, b]; exact h2
    · have e' : ¬ q.1 = k := fun z => e (h1.trans z)
      have b : valueAt (q :: qs) k = valueAt qs k := by simp [valueAt, List.find?_cons, e']
      rw [valV_neg e, b]; exact ih
theorem KV.any {kvs : List (κ × V)} {vs : List (κ × Value)} (r : KV kvs vs) (k : κ) : (kvs.any fun kv => decide (kv.1 = k)) = vs.any fun kv => decide (kv.1 = k) := by
  unfold KV at r
  induction r with
  | nil => rfl
  | cons h t ih => rw [List.any_cons, List.any_cons, ih, h.1]
theorem KV.repl {kvs : List (κ × V)} {vs : List (κ × Value)} (r : KV kvs vs) (k : κ) {y : V} {u : Value} (ry : RelV y u) :
    KV (kvs.map fun kv => if kv.1 = k then (kv.1, y) else kv) (vs.map fun kv => if kv.1 = k then (kv.1, u) else kv) := by
  unfold KV at r ⊢
  induction r with
  | nil => exact .nil
  | @cons p q ps qs h t ih =>
    rw [List.map_cons, List.map_cons]
    refine .cons ?_ ih
    obtain ⟨h1, h2⟩ := h
    by_cases e : p.1 = k
    · rw [if_pos e, if_pos (h1.symm.trans e)]; exact ⟨h1, ry⟩
    · rw [if_neg e, if_neg (fun z => e (h1.trans z))]; exact ⟨h1, h2⟩
theorem KV.put {kvs : List (κ × V)} {vs : List (κ × Value)} (r : KV kvs vs) (k : κ) {y : V} {u : Value} (ry : RelV y u) : KV (putK kvs k y) (stored vs k u) := by
  unfold putK stored
  rw [r.any k]
  by_cases e : (vs.any fun kv => decide (kv.1 = k)) = true
  · rw [if_pos e, if_pos e]; exact r.repl k ry
  · rw [if_neg e, if_neg e]; exact Paired.snoc r ⟨rfl, ry⟩
theorem KV.length {kvs : List (κ × V)} {vs : List (κ × Value)} (r : KV kvs vs) : kvs.length = vs.length := Paired.length r
end


/-! ### a tracked dict, its keys ints and texts or tuples of these -/
theorem kV_is {P : Program} {w : World} {k : Key} {u : Value} (r : RelV (kV k) u) : (mixKind P w).is k u = true := by
  cases k with
  | inl i => obtain ⟨t, e⟩ := (show ∃ t, u = Value.int i t from r); subst e; exact mixKind_int P w i t
  | inr x => obtain ⟨t, e⟩ := (show ∃ t, u = Value.str x t from r); subst e; exact mixKind_str P w x t
theorem items_are {P : Program} {w : World} : ∀ {ks : List Key} {us : List Value}, Vals (ks.map kV) us → ItemsAre (mixKind P w) ks us
  | [], _, r => by rw [List.map_nil] at r; cases r; exact .nil
  | k :: ks, _, r => by
    rw [List.map_cons] at r
    cases r with
    | cons h t => exact .cons (kV_is h) (items_are t)

/-- raw entries of a dict with tuple keys -/
abbrev KT (H : Hp) : List (List Key × V) → List (List Key × Addr × Value) → Prop := Paired fun p q => p.1 = q.1 ∧ H q.2.1 = some (.tup (p.1.map kV)) ∧ RelV p.2 q.2.2
theorem KT.val {H : Hp} {kvs : List (List Key × V)} {xs : List (List Key × Addr × Value)} (r : KT H kvs xs) (k : List Key) : RelO (valV kvs k) ((atKey xs k).map (·.2)) := by
  induction r with
  | nil => exact True.intro
  | @cons p q ps qs h t ih =>
    obtain ⟨h1, _, h2⟩ := h
    by_cases e : p.1 = k
    · have e' : q.1 = k := h1.symm.trans e
      have b : atKey (q :: qs) k = some q.2 := by simp [atKey, List.find?_cons, e']
      rw [valV_pos e, b]; exact h2
    · have e' : ¬ q.1 = k := fun z => e (h1.trans z)
      have b : atKey (q :: qs) k = atKey qs k := by simp [atKey, List.find?_cons, e']
      rw [valV_neg e, b]; exact ih
theorem KT.repl {H : Hp} {kvs : List (List Key × V)} {xs : List (List Key × Addr × Value)} (r : KT H kvs xs) (k : List Key) {y : V} {u : Value} (ry : RelV y u) :
    KT H (kvs.map fun kv => if kv.1 = k then (kv.1, y) else kv) (xs.map (putAt k u)) := by
  induction r with
  | nil => exact .nil
  | @cons p q ps qs h t ih =>
    rw [List.map_cons, List.map_cons]
    refine .cons ?_ ih
    obtain ⟨h1, h2, h3⟩ := h
    unfold putAt
    by_cases e : p.1 = k
    · rw [if_pos e, if_pos (h1.symm.trans e)]; exact ⟨h1, h2, ry⟩
    · rw [if_neg e, if_neg (fun z => e (h1.trans z))]; exact ⟨h1, h2, h3⟩
theorem KT.put {H : Hp} {kvs : List (List Key × V)} {xs : List (List Key × Addr × Value)} (r : KT H kvs xs) (k : List Key) {b : Addr} {y : V} {u : Value} (hb : H b = some (.tup (k.map kV))) (ry : RelV y u) :
    KT H (putK kvs k y) (storedH xs k b u) := by
  have e : (kvs.any fun kv => decide (kv.1 = k)) = (atKey xs k).isSome := by
    rw [valV_any, (r.val k).isSome_eq, Option.isSome_map]
  unfold putK storedH
  rw [e]
  by_cases q : (atKey xs k).isSome = true
  · rw [if_pos q, if_pos q]; exact r.repl k ry
  · rw [if_neg q, if_neg q]; exact Paired.snoc r ⟨rfl, hb, ry⟩
theorem KT.keeps {H H' : Hp} {kvs : List (List Key × V)} {xs : List (List Key × Addr × Value)} (r : KT H kvs xs) (ht : ∀ b ys, H b = some (.tup ys) → H' b = some (.tup ys)) : KT H' kvs xs :=
  Paired.mapP r fun _ _ z => ⟨z.1, ht _ _ z.2.1, z.2.2⟩

section
variable {P : Program} {w : World} {H : Hp} {h : Heap} {a : Addr}
theorem rd_of {u : HO} (ok : HOk P w H h) (e : Rd H a u) : ObjOk P w H h a u := e.ok ok
theorem dk_rd {kvs : List (Key × V)} (ok : HOk P w H h) (e : Rd H a (.dK kvs)) : kvs.length ≤ sizeLine ∧ (a == sysModules) = false ∧ ∃ vs, KV kvs vs ∧ h.DictOf (mixKind P w) a vs :=
  show ObjOk P w H h a (.dK kvs) from rd_of ok e
theorem dk_of {kvs : List (Key × V)} (ok : HOk P w H h) (e : H a = some (.dK kvs)) : kvs.length ≤ sizeLine ∧ (a == sysModules) = false ∧ ∃ vs, KV kvs vs ∧ h.DictOf (mixKind P w) a vs := dk_rd ok (.inl e)
/-- a tracked tuple of ints and texts is a key -/
theorem key_of {ks : List Key} (ok : HOk P w H h) (e : H a = some (.tup (ks.map kV))) : (tupleKind (mixKind P w)).is h ks a := by
  obtain ⟨_, its, r, o, h1, h2, n, h3⟩ := (show ObjOk P w H h a (.tup (ks.map kV)) from ok a _ e)
  exact ⟨o, its.toArray, n, h1, h2, h3, by simpa using items_are r⟩
theorem dt_rd {kvs : List (List Key × V)} (ok : HOk P w H h) (e : Rd H a (.dT kvs)) : kvs.length ≤ sizeLine ∧ (a == sysModules) = false ∧
    ∃ xs, KT H kvs xs ∧ h.DictOfH (tupleKind (mixKind P w)) a xs := by
  obtain ⟨z, y, xs, r, o, es, ep, h1, h2, h3, h4, h5⟩ := (show ObjOk P w H h a (.dT kvs) from rd_of ok e)
  refine ⟨z, y, xs, r, o, es, ep, h1, h2, h3, h4, fun x hx => ?_, h5⟩
  have all : ∀ {l : List (List Key × V)} {m : List (List Key × Addr × Value)}, KT H l m → ∀ x ∈ m, (tupleKind (mixKind P w)).is h x.1 x.2.1 := by
    intro l m q
    induction q with
    | nil => intro x hx; exact nomatch hx
    | @cons p q ps qs hq t ih =>
      intro x hx
      rcases List.mem_cons.mp hx with e | hx
      · subst e
        exact key_of ok (by rw [← hq.1]; exact hq.2.1)
      · exact ih x hx
  exact all r x hx
theorem dt_of {kvs : List (List Key × V)} (ok : HOk P w H h) (e : H a = some (.dT kvs)) : kvs.length ≤ sizeLine ∧ (a == sysModules) = false ∧
    ∃ xs, KT H kvs xs ∧ h.DictOfH (tupleKind (mixKind P w)) a xs := dt_rd ok (.inl e)
end

/-- what the dict at a holds at the key y -/
def DGet (H : Hp) (a : Addr) (y : V) (r : Option V) : Prop :=
  (∃ kvs k, Rd H a (.dK kvs) ∧ y = kV k ∧ r = valV kvs k) ∨ ∃ kvs k b, Rd H a (.dT kvs) ∧ y = .ref b ∧ H b = some (.tup (k.map kV)) ∧ r = valV kvs k
/-- the heap behind a[y] = v -/
def DPut (H : Hp) (a : Addr) (y v : V) (H' : Hp) : Prop :=
  (∃ kvs k, H a = some (.dK kvs) ∧ y = kV k ∧ kvs.length < sizeLine ∧ H' = upd H a (.dK (putK kvs k v))) ∨
  ∃ kvs k b, H a = some (.dT kvs) ∧ y = .ref b ∧ H b = some (.tup (k.map kV)) ∧ kvs.length < sizeLine ∧ H' = upd H a (.dT (putK kvs k v))
theorem DGet.k {H : Hp} {a : Addr} {kvs : List (Key × V)} {k : Key} (e : H a = some (.dK kvs)) : DGet H a (kV k) (valV kvs k) := .inl ⟨kvs, k, .inl e, rfl, rfl⟩
theorem DPut.k {H : Hp} {a : Addr} {kvs : List (Key × V)} {k : Key} {v : V} (e : H a = some (.dK kvs)) (hl : kvs.length < sizeLine) : DPut H a (kV k) v (upd H a (.dK (putK kvs k v))) := .inl ⟨kvs, k, e, rfl, hl, rfl⟩


section
variable {X : Cx} {pins : List (Addr × Obj)} {σ : St} {H : Hp} {s : Shared} {a : Addr} {y v : V} {u r : Value} {o : Option V} {A : Around} {E : Value → Shared → Prop}

theorem Inv.big (I : Inv X pins σ H s) : sysModules < s.heap.objs.size := by
  have h : mainGlobals < s.heap.objs.size := (I.mod.glob.keeps I.bk).lt
  exact Nat.lt_trans (by decide) h

/-- d[y], there -/
theorem d_getItem {Q : Value → Shared → Prop} (hu : A.units + 1 < cLine) (I : Inv X pins σ H s) (g : DGet H a y (some v)) (ry : RelV y u) (h : ∀ w' s', Inv X pins σ H s' → RelV v w' → Q w' s') :
    wpAny (model X.prog X.w) A (getItem (.ref a) u) Q E s := by
  rcases g with ⟨kvs, k, e, ey, l⟩ | ⟨kvs, k, b, e, ey, eb, l⟩
  · subst ey
    obtain ⟨z, hd, vs, rel, dd⟩ := dk_rd I.hok e
    obtain ⟨w', hw, rw'⟩ := RelO.some_of (v := v) (o := valueAt vs k) (by rw [l]; exact rel.val k)
    exact wpAny_getItem_of (kV_is ry) dd.mapOf hw (h w' _ (I.tok _) rw')
  · subst ey
    cases (show u = Value.ref b from ry)
    obtain ⟨z, hd, xs, rel, dd⟩ := dt_rd I.hok e
    obtain ⟨w', hw, rw'⟩ := RelO.some_of (v := v) (o := (atKey xs k).map (·.2)) (by rw [l]; exact rel.val k)
    obtain ⟨p, hp, hp2⟩ := Option.map_eq_some_iff.mp hw
    refine wpAny_getItem_heap (tupleKind_room_in1 hu) (key_of I.hok eb) dd hp ?_
    rw [hp2]
    exact h w' _ (I.tok _) rw'
/-- a dict's object is replaced -/
theorem d_write {h' : Heap} {t' : Nat} {ob : HO} (I : Inv X pins σ H s) (mu : Mut (H a)) (hs : Heap.SameBut a s.heap h') (he : ∃ q, h'.get? a = some q) (new : ObjOk X.prog X.w (upd H a ob) h' a ob) :
    Inv X pins σ (upd H a ob) { s with heap := h', toks := t' } :=
  I.write (x := a) (e := a) mu (.inl rfl) (fun b q hb z => (hs.2 b hb).trans z) he new
theorem dk_new {P : Program} {w : World} {H' : Hp} {h' : Heap} {kvs : List (Key × V)} {vs : List (Key × Value)} (z : kvs.length ≤ sizeLine) (hd : (a == sysModules) = false) (rel : KV kvs vs) (dd : h'.DictOf (mixKind P w) a vs) :
    ObjOk P w H' h' a (.dK kvs) := ⟨z, hd, vs, rel, dd⟩
/-- d[y] = v -/
theorem d_setItem {H' : Hp} {Q : Unit → Shared → Prop} (hu : A.units + 1 < cLine) (I : Inv X pins σ H s) (g : DPut H a y v H') (ry : RelV y u) (rv : RelV v r) (h : ∀ s', Inv X pins σ H' s' → Q () s') :
    wpAny (model X.prog X.w) A (setItem (.ref a) u r) Q E s := by
  rcases g with ⟨kvs, k, e, ey, l, eH⟩ | ⟨kvs, k, b, e, ey, eb, l, eH⟩
  · subst ey eH
    obtain ⟨z, hd, vs, rel, dd⟩ := dk_of I.hok e
    have hz : vs.length ≤ sizeLine := by rw [← rel.length]; exact z
    have hl : (putK kvs k v).length ≤ sizeLine := by have := length_putK kvs k v; omega
    refine wpAny_setItem_pairs (hsz := hz) (kV_is ry) dd fun h' dd' hs => h _ ?_
    have he : ∃ q, h'.get? a = some q := let ⟨q, _, _, hq, _⟩ := dd'; ⟨q, hq⟩
    exact d_write I (by rw [e]; exact True.intro) hs he (dk_new hl hd (rel.put k rv) dd')
  · subst ey eH
    cases (show u = Value.ref b from ry)
    obtain ⟨z, hd, xs, rel, dd⟩ := dt_of I.hok e
    have hz : xs.length ≤ sizeLine := by rw [← Paired.length rel]; exact z
    have hl : (putK kvs k v).length ≤ sizeLine := by have := length_putK kvs k v; omega
    refine wpAny_setItem_heap (hsz := hz) (tupleKind_room_in1 hu) (key_of I.hok eb) dd fun h' dd' hs => h _ ?_
    obtain ⟨q, es, ep, hq, h2, h3, h4, _, h5⟩ := dd'
    refine d_write I (by rw [e]; exact True.intro) hs ⟨q, hq⟩ ⟨hl, hd, _, (rel.put k eb rv).keeps fun c ys ec => ?_, q, es, ep, hq, h2, h3, h4, h5⟩
    rw [upd_ne (ne_of ec e (fun z => nomatch z))]
    exact ec
end

section
variable {X : Cx} {pins : List (Addr × Obj)} {σ : St} {H : Hp} {s : Shared} {a : Addr} {kvs : List (Key × V)} {k : Key} {u : Value} {A : Around} {E : Value → Shared → Prop}
end


/-! ### readings and rules -/
/-- the element of a subscription, not a slice -/
def NoSl (i : Expr) : Prop := ∀ ov iv, subscripted i false ov iv = operate [ov, iv] (getItem ov iv)
theorem subD_of {prog : Program} {w : World} {A : Around} {E : Value → Shared → Prop} {s : Shared} {env : Env} {value slice : Expr} {pos : Pos} {T id : String} {Q : Value → Shared → Prop}
    (hl : typeLookup (.type T) "__getitem__" = pure (some (.builtin id))) (hs : NoSl slice)
    (h : wpAny (model prog w) A (eval value env) (fun o s₁ => wpAny (model prog w) A (eval slice env) (fun i s₂ => s₂.TypeIs o T ∧ wpAny (model prog w) A (getItem o i) Q E s₂) E s₁) E s) :
    wpAny (model prog w) A (eval (.Subscript value slice pos) env) Q E s := by
  refine Subscript_ (wpAny_mono h (fun o s₁ h₁ => wpAny_mono h₁ (fun i s₂ h₂ => ?_) fun _ _ x => x) fun _ _ x => x)
  obtain ⟨hT, h₂⟩ := h₂
  unfold subscriptTail
  refine wpAny_bind ?_
  rw [getitemInPython_of_ne hT.not_modules]
  refine wpAny_bind (wpAny_specialOf hT hl ?_)
  have fin : wpAny (model prog w) A (subscripted slice false o i) (fun r s₃ => wpAny (model prog w) A (letTemporaryGo value o r >>= fun _ => pure r) Q E s₃) E s₂ := by
    rw [hs o i]
    exact wpAny_operating (wpAny_mono h₂ (fun r s₃ h₃ => wpAny_bind (wpAny_letTemporaryGo (wpAny_pure h₃))) fun _ _ x => x)
  first
    | exact wpAny_pure (wpAny_bind fin)
    | exact wpAny_bind (wpAny_pure (wpAny_bind fin))
    | exact wpAny_bind fin

theorem dict_typeIs {X : Cx} {pins : List (Addr × Obj)} {σ : St} {H : Hp} {s : Shared} {a : Addr} {y : V} {o : Option V} (I : Inv X pins σ H s) (g : DGet H a y o) : s.TypeIs (.ref a) "dict" := by
  rcases g with ⟨kvs, k, e, _, _⟩ | ⟨kvs, k, b, e, _, _, _⟩
  · obtain ⟨_, _, vs, _, dd⟩ := dk_rd I.hok e
    exact dd.typeIs
  · obtain ⟨_, _, xs, _, dd⟩ := dt_rd I.hok e
    exact dd.typeIs

/-- d[y] -/
def tDGet (td ty : TE) : TE := fun σ H Q => td σ H fun x H1 => ty σ H1 fun y H2 => ∃ a v, x = .ref a ∧ DGet H2 a y (some v) ∧ Q v H2
/-- d[y] = v -/
def sDPut (td ty tv : TE) : TS := fun D σ H => tv σ H fun v H1 => td σ H1 fun x H2 => ty σ H2 fun y H3 => ∃ a H4, x = .ref a ∧ DPut H3 a y v H4 ∧ D.nx σ H4

section
variable {X : Cx} {o i e value : Expr} {pos pos' tpos : Pos} {td ty tv : TE}
theorem pe_dget (hu : X.A.units + 1 < cLine) (ho : PE X o td) (hi : PE X i ty) (hs : NoSl i) : PE X (.Subscript o i pos) (tDGet td ty) := by
  intro pins s σ H Q I h
  refine subD_of PySem.F.slot_dict_getitem.lookup hs (thn (ho pins s σ H _ I h) fun u s1 ⟨x, H1, I1, rx, q1⟩ => thn (hi pins s1 σ H1 _ I1 q1) fun iv s2 ⟨y, H2, I2, ry, a, v, ex, g, q2⟩ => ?_)
  subst ex
  obtain rfl : u = Value.ref a := rx
  exact ⟨dict_typeIs I2 g, d_getItem hu I2 g ry fun w' s3 I3 rw' => ⟨v, H2, I3, rw', q2⟩⟩
theorem ps_dput (hu : X.A.units + 1 < cLine) (ho : PE X o td) (hi : PE X i ty) (hv : PE X value tv) (hs : swapsWith value (some (.Subscript o i pos')) pos.line X.env = pure false) :
    PS X (.Assign [.Subscript o i pos'] value pos) (sDPut td ty tv) := by
  intro pins s σ H D I h
  refine wpAny_Assign_Subscript (thn (hv pins s σ H _ I h) fun r s1 ⟨v, H1, I1, rv, q1⟩ => thn (ho pins s1 σ H1 _ I1 q1) fun u s2 ⟨x, H2, I2, rx, q2⟩ => thn (hi pins s2 σ H2 _ I2 q2) fun iv s3 ⟨y, H3, I3, ry, a, H4, ex, g, q3⟩ => ?_) hs
  subst ex
  obtain rfl : u = Value.ref a := rx
  exact d_setItem hu I3 g ry rv fun s4 I4 => ⟨σ, H4, I4, q3⟩
end


/-! ### displays -/
theorem dk_empty {P : Program} {w : World} {H : Hp} (h : Heap) (hb : sysModules < h.objs.size) : ObjOk P w H (h.push { cls := .type "dict", data := .dict #[] }) h.objs.size (.dK []) :=
  ⟨Nat.zero_le _, beq_eq_false_iff_ne.mpr (Ne.symm (Nat.ne_of_lt hb)), [], .nil, Heap.DictOf.new h⟩
/-- {}, to be a dict of the kind that is wanted -/
def tDNewK : TE := fun _ H Q => ∀ p, H p = none → Q (.ref p) (upd H p (.dK []))
section
variable {X : Cx} {pos : Pos}
theorem pe_dnewK : PE X (.Dict [] [] pos) tDNewK := fun pins s σ H Q I h =>
  wpAny_Dict_empty ⟨.ref s.heap.objs.size, _, I.laid (a := s.heap.objs.size) (o := .dK []) (t' := s.toks) (fun _ _ q => Heap.get?_push_of_some _ q) (Nat.le_refl _) (dk_empty s.heap I.big), rfl, h _ (I.hok.fresh (Nat.le_refl _))⟩
end

/-- the pairs of a display, from the left -/
def tPairs : List (TE × TE) → St → Hp → (List (V × V) → Hp → Prop) → Prop
  | [], _, H, Q => Q [] H
  | (tk, tv) :: r, σ, H, Q => tk σ H fun x H1 => tv σ H1 fun y H2 => tPairs r σ H2 fun ps H3 => Q ((x, y) :: ps) H3
abbrev VV : List (V × V) → List (Value × Value) → Prop := Paired fun p q => RelV p.1 q.1 ∧ RelV p.2 q.2
def PPs (X : Cx) (pos : Pos) (keys : List (Option Expr)) (values : List Expr) (trs : List (TE × TE)) : Prop :=
  ∀ (pins : List (Addr × Obj)) (s : Shared) (σ : St) (H : Hp) (Q : List (V × V) → Hp → Prop), Inv X pins σ H s → tPairs trs σ H Q →
    wpAny (model X.prog X.w) X.A (evalPairs (pairTrees keys values X.env pos)) (fun vs s' => ∃ ps H', Inv X pins σ H' s' ∧ VV ps vs ∧ Q ps H') X.xe s
theorem pps_nil {X : Cx} {pos : Pos} : PPs X pos [] [] [] := fun pins s σ H Q I h => pairTrees_nil_walk ⟨[], H, I, .nil, h⟩
theorem pps_cons {X : Cx} {pos : Pos} {k v : Expr} {ks : List (Option Expr)} {vs : List Expr} {tk tv : TE} {trs : List (TE × TE)} (hk : PE X k tk) (hv : PE X v tv) (hr : PPs X pos ks vs trs) :
    PPs X pos (some k :: ks) (v :: vs) ((tk, tv) :: trs) := fun pins s σ H Q I h =>
  pairTrees_cons_walk (thn (hk pins s σ H _ I h) fun u s1 ⟨x, H1, I1, rx, q1⟩ => thn (hv pins s1 σ H1 _ I1 q1) fun w2 s2 ⟨y, H2, I2, ry, q2⟩ =>
    thn (hr pins s2 σ H2 _ I2 q2) fun ws s3 ⟨ps, H3, I3, rel, q3⟩ => ⟨(x, y) :: ps, H3, I3, .cons ⟨rx, ry⟩ rel, q3⟩)

def mergeK (kvs more : List (Key × V)) : List (Key × V) := more.foldl (fun acc kv => putK acc kv.1 kv.2) kvs
theorem KV.merge : ∀ {more : List (Key × V)} {rs : List (Key × Value)} {kvs : List (Key × V)} {vs : List (Key × Value)}, KV more rs → KV kvs vs → KV (mergeK kvs more) (merged vs rs) := by
  intro more rs kvs vs r
  unfold KV at r
  induction r generalizing kvs vs with
  | nil => intro q; exact q
  | @cons p q ps qs h t ih =>
    intro r0
    have e : KV (putK kvs p.1 p.2) (stored vs q.1 q.2) := by
      have := r0.put p.1 h.2
      rw [← h.1]; exact this
    exact ih e
theorem length_mergeK : ∀ (more kvs : List (Key × V)), (mergeK kvs more).length ≤ kvs.length + more.length
  | [], kvs => by show kvs.length ≤ kvs.length + 0; omega
  | p :: r, kvs => by
    have h1 := length_mergeK r (putK kvs p.1 p.2)
    have h2 := length_putK kvs p.1 p.2
    show (mergeK (putK kvs p.1 p.2) r).length ≤ _
    rw [List.length_cons]; omega
theorem carries_of {P : Program} {w : World} : ∀ {kvs : List (Key × V)} {ws : List (Value × Value)}, VV (kvs.map fun kv => (kV kv.1, kv.2)) ws → ∃ rs, Carries (mixKind P w) ws rs ∧ KV kvs rs
  | [], _, r => by rw [List.map_nil] at r; cases r; exact ⟨[], True.intro, .nil⟩
  | p :: kvs, _, r => by
    rw [List.map_cons] at r
    cases r with
    | @cons a b as bs h t =>
      obtain ⟨rs, c, q⟩ := carries_of (P := P) (w := w) t
      obtain ⟨b1, b2⟩ := b
      exact ⟨(p.1, b2) :: rs, ⟨kV_is h.1, rfl, c⟩, .cons ⟨rfl, h.2⟩ q⟩
/-- {k: v, ..} with keys ints and texts; the new dict stands empty while the pairs are made -/
def tDisp (trs : List (TE × TE)) : TE := fun σ H Q => ∀ p, H p = none → tPairs trs σ (upd H p (.dK [])) fun ps H2 => H2 p = some (.dK []) ∧ ∃ kvs : List (Key × V), ps = kvs.map (fun kv => (kV kv.1, kv.2)) ∧ kvs.length ≤ 15 ∧ Q (.ref p) (upd H2 p (.dK (mergeK [] kvs)))
theorem pe_disp {X : Cx} {pos : Pos} {keys : List (Option Expr)} {values : List Expr} {trs : List (TE × TE)} (h : PPs X pos keys values trs) (hall : keys.all (·.isSome) = true) (hl : keys.length = values.length) (h0 : keys ≠ [])
    (h15 : keys.length ≤ 15) : PE X (.Dict keys values pos) (tDisp trs) := by
  intro pins s σ H Q I q
  have hn := I.hok.fresh (Nat.le_refl s.heap.objs.size)
  have I1 := I.laid (a := s.heap.objs.size) (o := .dK []) (h' := s.heap.push { cls := .type "dict", data := .dict #[] }) (t' := s.toks) (fun _ _ q => Heap.get?_push_of_some _ q) (Nat.le_refl _) (dk_empty s.heap I.big)
  refine wpAny_Dict_walk (knd := mixKind X.prog X.w) hall hl h0 h15 (thn (h pins _ σ _ _ I1 (q _ hn)) fun ws s2 ⟨ps, H2, I2, rel, e, kvs, ep, lk, q2⟩ => ?_)
  subst ep
  obtain ⟨rs, c, rk⟩ := carries_of (P := X.prog) (w := X.w) rel
  obtain ⟨z, hd, vs0, r0, dd⟩ := dk_of I2.hok e
  cases r0
  refine ⟨rs, c, dd, fun h' dd' hs => ⟨.ref s.heap.objs.size, _, ?_, rfl, q2⟩⟩
  have hz : (mergeK [] kvs).length ≤ sizeLine := by
    have h1 := length_mergeK kvs []
    rw [List.length_nil] at h1
    rw [sizeLine_eq]; omega
  have he : ∃ q, h'.get? s.heap.objs.size = some q := let ⟨q, _, _, hq, _⟩ := dd'; ⟨q, hq⟩
  exact d_write I2 (by rw [e]; exact True.intro) hs he (dk_new hz hd (rk.merge .nil) dd')


/-! ### methods -/
/-- a method call o.m(e) of a built-in, with one argument: what must be seen of the text -/
structure M1 (X : Cx) (o : Expr) (m : Str) (apos : Pos) (e : Expr) (cpos : Pos) : Prop where
  base : attributeBase o m X.env (eval o X.env) = eval o X.env
  few : ((backTo cpos (starEach [e] X.env)).all (fun x => !x.1) && (backToKw cpos (keywordEach [] X.env)).all (fun x => x.1.isSome)
    && decide (([e] : List Expr).length + ([] : List Keyword).length + (if ([] : List Keyword).isEmpty then 0 else 1) < 30)) = true
  line : (apos.endLine == cpos.line) = true
  trees : backTo cpos (starEach [e] X.env) = [(false, eval e X.env)]
structure M2 (X : Cx) (o : Expr) (m : Str) (apos : Pos) (e f : Expr) (cpos : Pos) : Prop where
  base : attributeBase o m X.env (eval o X.env) = eval o X.env
  few : ((backTo cpos (starEach [e, f] X.env)).all (fun x => !x.1) && (backToKw cpos (keywordEach [] X.env)).all (fun x => x.1.isSome)
    && decide (([e, f] : List Expr).length + ([] : List Keyword).length + (if ([] : List Keyword).isEmpty then 0 else 1) < 30)) = true
  line : (apos.endLine == cpos.line) = true
  trees : backTo cpos (starEach [e, f] X.env) = [(false, eval e X.env), (false, eval f X.env)]

/-- a is a dict, whatever its keys -/
def IsD (H : Hp) (a : Addr) : Prop := (∃ kvs, Rd H a (.dK kvs)) ∨ ∃ kvs, Rd H a (.dT kvs)
theorem isD_at {X : Cx} {pins : List (Addr × Obj)} {σ : St} {H : Hp} {s : Shared} {a : Addr} (I : Inv X pins σ H s) (d : IsD H a) :
    s.TypeIs (.ref a) "dict" ∧ (∀ b, Value.ref a = .ref b → ∃ ob, s.heap.get? b = some ob ∧ ob.dict = none) ∧ (a == sysModules) = false := by
  rcases d with ⟨kvs, e⟩ | ⟨kvs, e⟩
  · obtain ⟨_, hd, vs, _, dd⟩ := dk_rd I.hok e
    refine ⟨dd.typeIs, fun b q => ?_, hd⟩
    cases q
    obtain ⟨ob, _, _, h1, h2, _⟩ := dd
    exact ⟨ob, h1, h2.2.1⟩
  · obtain ⟨_, hd, xs, _, dd⟩ := dt_rd I.hok e
    refine ⟨dd.typeIs, fun b q => ?_, hd⟩
    cases q
    obtain ⟨ob, _, _, h1, h2, _⟩ := dd
    exact ⟨ob, h1, h2.2.1⟩

section
variable {X : Cx} {pins : List (Addr × Obj)} {σ : St} {H : Hp} {s : Shared} {a : Addr} {y d : V} {u r : Value} {o : Option V} {A : Around} {E : Value → Shared → Prop}
/-- d.get(y, x) -/
theorem d_get2 {Q : Value → Shared → Prop} (hu : A.units + 1 < cLine) (I : Inv X pins σ H s) (g : DGet H a y o) (ry : RelV y u) (rd : RelV d r) (h : ∀ w' s', Inv X pins σ H s' → RelV (o.getD d) w' → Q w' s') :
    wpAny (model X.prog X.w) A (call (.builtin "dict.get") [.ref a, u, r]) Q E s := by
  rcases g with ⟨kvs, k, e, ey, l⟩ | ⟨kvs, k, b, e, ey, eb, l⟩
  · subst ey
    obtain ⟨z, hd, vs, rel, dd⟩ := dk_rd I.hok e
    refine call_meetsIn PySem.F.slot_dict_get dd.typeIs PySem.F.entry_dict_get (PySem.F.args_dict_get_3 _ _ _) (meets_dict_get_default (mixKind X.prog X.w) a (kV_is ry) hd r) ⟨_, dd.mapOf, h _ _ (I.tok _) ?_⟩
    rw [l]
    exact (rel.val k).getD rd
  · subst ey
    cases (show u = Value.ref b from ry)
    obtain ⟨z, hd, xs, rel, dd⟩ := dt_rd I.hok e
    refine call_meetsIn PySem.F.slot_dict_get dd.typeIs PySem.F.entry_dict_get (PySem.F.args_dict_get_3 _ _ _) (meetsH_dict_get_default (tupleKind (mixKind X.prog X.w)) a b hd r) ⟨tupleKind_room_in1 hu, k, xs, key_of I.hok eb, dd, h _ _ (I.tok _) ?_⟩
    rw [l]
    exact (rel.val k).getD rd
end

def tDGet2 (td ty tx : TE) : TE := fun σ H Q => td σ H fun x H1 => ∃ a, x = .ref a ∧ IsD H1 a ∧ ty σ H1 fun y H2 => tx σ H2 fun z H3 => ∃ o, DGet H3 a y o ∧ Q (o.getD z) H3
section
variable {X : Cx} {o e f : Expr} {apos cpos : Pos} {td ty tx : TE}
theorem pe_dget2 (hu : X.A.units + 1 < cLine) (ho : PE X o td) (he : PE X e ty) (hf : PE X f tx) (m : M2 X o "get" apos e f cpos) : PE X (.Call (.Attribute o "get" apos) [e, f] [] cpos) (tDGet2 td ty tx) := by
  intro pins s σ H Q I h
  refine wpAny_Call_method m.base m.few m.line PySem.F.plainAttrs_dict PySem.F.slot_dict_get PySem.F.type_dict_get (thn (ho pins s σ H _ I h) fun u s1 ⟨x, H1, I1, rx, a, ex, d, q1⟩ => ?_)
  subst ex
  obtain rfl : u = Value.ref a := rx
  obtain ⟨t1, t2, _⟩ := isD_at I1 d
  refine ⟨t1, t2, ?_⟩
  rw [m.trees]
  refine Calls.callWith_builtin rfl (Calls.evalArgs_plain (Calls.spliced_cons (thn (he pins s1 σ H1 _ I1 q1) fun iv s2 ⟨y, H2, I2, ry, q2⟩ =>
    Calls.spliced_cons (thn (hf pins s2 σ H2 _ I2 q2) fun fv s3 ⟨z, H3, I3, rz, ov, g, q3⟩ => Calls.spliced_nil ?_))))
  exact d_get2 hu I3 g ry rz fun w' s4 I4 rw' => ⟨_, H3, I4, rw', q3⟩
end

/-! ### dict(d): a copy -/
section
variable {X : Cx} {pins : List (Addr × Obj)} {σ : St} {H : Hp} {s : Shared} {a : Addr} {kvs : List (Key × V)} {A : Around} {E : Value → Shared → Prop}
end


section
variable {X : Cx} {pins : List (Addr × Obj)} {σ : St} {H : Hp} {s : Shared} {a : Addr} {y : V} {u : Value} {A : Around} {E : Value → Shared → Prop}
end
end L2

namespace L2
open PySem PySem.Spec PyProof.Rows


section
variable {prog : Program} {w : World} {A : Around} {E : Value → Shared → Prop}


end

section
variable {X : Cx}
end
end L2

namespace L2
open PySem PySem.Spec PyProof.Rows


section
variable {X : Cx} {pins : List (Addr × Obj)} {σ : St} {H : Hp} {s : Shared} {h' : Heap}

/-! ### locking a thing while a statement runs -/
theorem Inv.lock {d : Addr} {u : HO} (I : Inv X pins σ H s) (h : H d = some u) (mu : Mut (some u)) : ∃ od, Inv X pins σ (upd H d (.frz od u)) s := by
  have x := I.hok d u h
  have ex : ∃ od, s.heap.get? d = some od := by
    cases u with
    | lst xs => obtain ⟨_, _, _, _, e⟩ := x; exact ⟨_, e⟩
    | dK kvs => obtain ⟨_, _, _, _, o, _, _, e, _⟩ := x; exact ⟨o, e⟩
    | dT kvs => obtain ⟨_, _, _, _, o, _, _, e, _⟩ := x; exact ⟨o, e⟩
    | set S n => obtain ⟨o, _, _, _, e, _⟩ := x; exact ⟨o, e⟩
    | ins C dx fs => obtain ⟨_, _, _, e, _⟩ := x; exact ⟨_, e⟩
    | ext φ => obtain ⟨_, ⟨_, e⟩, _⟩ := x; exact ⟨_, e⟩
    | _ => exact False.elim mu
  obtain ⟨od, e⟩ := ex
  have new : ObjOk X.prog X.w (upd H d (.frz od u)) s.heap d (.frz od u) := by
    refine ⟨e, x.stay (fun b v _ q => q) (fun b q => ?_) fun b xs q => ?_⟩
    · rw [upd_ne (fun z => by rw [z, h] at q; cases q; exact mu)]; exact q
    · rw [upd_ne (fun z => by rw [z, h] at q; cases q; exact mu)]; exact q
  exact ⟨od, I.write (x := d) (e := d) (t' := s.toks) (h' := s.heap) (by rw [h]; exact mu) (.inl rfl) (fun b v _ q => q) ⟨od, e⟩ new⟩
theorem Inv.nofrz {d : Addr} {u : HO} (I : Inv X pins σ H s) (h : H d = some u) (mu : Mut (some u)) : ∀ o' u', X.H_0 d ≠ some (.frz o' u') := fun o' u' e => by
  have q := I.base.frzs d o' u' e
  rw [h] at q
  cases q
  exact mu
theorem Inv.unlock {d : Addr} {od : Obj} {u : HO} (I : Inv X pins σ H s) (h : H d = some (.frz od u)) (hn : ∀ o' u', X.H_0 d ≠ some (.frz o' u')) : Inv X pins σ (upd H d u) s := by
  have neH : ∀ b o, H b = some o → (∀ o' u', o ≠ .frz o' u') → b ≠ d := fun b o e hne z => by
    rw [z, h] at e
    cases e
    exact hne _ _ rfl
  have neN : ∀ b, H b = none → b ≠ d := fun b e z => by rw [z, h] at e; cases e
  refine ⟨I.ok, I.os, I.bare, ⟨I.base.keep, I.base.slot, fun b o e n hx => ?_, I.base.there, fun b xs e => ?_, fun b o x e => ?_, fun b ps e => ?_⟩, I.loc, I.cell, ?_, fun x c e => ?_, fun p hp => ?_, fun b o e => ?_, I.len⟩
  · rw [upd_ne (neN b (I.base.free b o e n hx))]; exact I.base.free b o e n hx
  · have q := I.base.tups b xs e
    rw [upd_ne (neH b _ q (fun _ _ z => nomatch z))]; exact q
  · have q := I.base.frzs b o x e
    rw [upd_ne (fun z => by rw [z] at e; exact hn _ _ e)]; exact q
  · obtain ⟨m, q⟩ := I.base.tbls b ps e
    exact ⟨m, by rw [upd_ne (neH b _ q (fun _ _ z => nomatch z))]; exact q⟩
  · rw [upd_ne (neN _ I.free)]; exact I.free
  · rw [upd_ne (neN c (I.freeC x c e))]; exact I.freeC x c e
  · obtain ⟨e, n, r⟩ := I.pin p hp
    exact ⟨e, by rw [upd_ne (neN _ n)]; exact n, r⟩
  · by_cases hb : b = d
    · rw [hb, upd_same] at e
      cases e
      rw [hb]
      obtain ⟨_, x⟩ := I.hok d _ h
      exact x.stay (fun c v _ q => q) (fun c q => by rw [upd_ne (neH c _ q (fun _ _ z => nomatch z))]; exact q) fun c xs q => by rw [upd_ne (neH c _ q (fun _ _ z => nomatch z))]; exact q
    · rw [upd_ne hb] at e
      exact (I.hok b o e).stay (fun c v _ q => q) (fun c q => by rw [upd_ne (neH c _ q (fun _ _ z => nomatch z))]; exact q) fun c xs q => by rw [upd_ne (neH c _ q (fun _ _ z => nomatch z))]; exact q
end
/-- the statement runs while the thing at d is locked (read, not written); d and what stands there are the reading's choice -/
def tLock (t : TS) : TS := fun D σ H => ∃ d u, H d = some u ∧ Mut (some u) ∧ ∀ od, t ⟨fun σ' H' => H' d = some (.frz od u) ∧ D.nx σ' (upd H' d u), fun v H' => H' d = some (.frz od u) ∧ D.rt v (upd H' d u), fun σ' H' => H' d = some (.frz od u) ∧ D.bk σ' (upd H' d u), fun σ' H' => H' d = some (.frz od u) ∧ D.ct σ' (upd H' d u)⟩ σ (upd H d (.frz od u))
section
variable {X : Cx}
theorem ps_lock {st : Stmt} {t : TS} (h : PS X st t) : PS X st (tLock t) := by
  intro pins s σ H D I hw
  obtain ⟨d, u, hd, mu, hw⟩ := hw
  obtain ⟨od, I1⟩ := I.lock hd mu
  refine thn (h pins s σ _ _ I1 (hw od)) fun f s1 q => ?_
  cases f with
  | next => obtain ⟨σ', H', I2, e, q⟩ := q; exact ⟨σ', _, I2.unlock e (I.nofrz hd mu), q⟩
  | brk => obtain ⟨σ', H', I2, e, q⟩ := q; exact ⟨σ', _, I2.unlock e (I.nofrz hd mu), q⟩
  | cont => obtain ⟨σ', H', I2, e, q⟩ := q; exact ⟨σ', _, I2.unlock e (I.nofrz hd mu), q⟩
  | ret v => obtain ⟨x, σ', H', I2, r, e, q⟩ := q; exact ⟨x, σ', _, I2.unlock e (I.nofrz hd mu), r, q⟩

/-! ### one iterator just laid -/
theorem pi_one {tg : Expr} {pins : List (Addr × Obj)} {σ : St} {H : Hp} {s : Shared} {R : It → Hp → Prop} {J : It} {tn : Nat → Heap → Prop} {tk : Nat} (I : Inv X pins σ H s) (o : Obj)
    (T : Turn X.prog X.w X.K tg J [s.heap.objs.size] s.heap.objs.size tn) (st : tn 0 (s.heap.push o)) (q : R J H) : PIE X pins σ tg R (.ref s.heap.objs.size) { s with heap := s.heap.push o, toks := tk } := by
  refine ⟨s.heap.objs.size, [s.heap.objs.size], tn, J, H, rfl, I.kept fun b ob e => Heap.get?_push_of_some _ e, T, st, fun b hb => ?_, q⟩
  have e : b = s.heap.objs.size := by simpa using hb
  subst e
  exact I.fpOk (Nat.le_refl _) (I.hok.fresh (Nat.le_refl _))
end

/-! ### range with a step -/
section
variable {X : Cx} {tg : Expr}
end

/-! ### reversed(list) -/
section
variable {X : Cx} {tg : Expr}
end

/-! ### a str -/
def Its (x : Str) : It := ⟨fun i _ => i < x.cps.size, fun i H v H' => H' = H ∧ ∃ c, x.cps[i]? = some c ∧ v = .str ⟨#[c]⟩, fun i _ => x.cps.size ≤ i⟩
theorem turn_str {P : Program} {w : World} {K : PySem.W.Frag} {tg : Expr} (it : Addr) (x : Str) (t : Tok) (ty : String) (hty : ty = "str_ascii_iterator" ∨ ty = "str_iterator") :
    Turn P w K tg (Its x) [it] it (fun i h => h.IsStrIter it ty x t i) where
  mem := by simp
  obj := fun i h st b hb => by
    have e : b = it := by simpa using hb
    subst e
    obtain ⟨o, e, c, d⟩ := st
    exact ⟨o, e, fun v z => by rw [d] at z; cases z⟩
  keep := fun i h h' st k => let ⟨o, ho, r⟩ := st; ⟨o, k it (by simp) o ho, r⟩
  item := by
    intro X hP hw hK hc i pins s σ H E I hf st hg
    subst hP hw hK
    obtain ⟨f0, f1, f2, f3, f4, f5⟩ := hf it (by simp)
    have W : Walks X.prog X.w X.A it [it] [it] x.cps.size (SignAt x) (fun i h => h.IsStrIter it ty x t i) := by
      rcases hty with e | e
      · rw [e]; exact Walks.strAscii (I.ok.hd hc) it x t
      · rw [e]; exact Walks.strWide (I.ok.hd hc) it x t
    have hno : ["enumerate", "zip", "dict_itemiterator", "dict_reverseitemiterator", "odict_iterator", "itertools.zip_longest", "itertools.pairwise"].contains ty = false := by
      rcases hty with e | e
      · rw [e]; decide
      · rw [e]; decide
    refine W.item i s _ _ hg st fun v h' tk hv st' kk => ?_
    obtain ⟨c, u, hcx, rfl⟩ := hv
    have I1 : Inv X pins σ H { s with heap := h', toks := tk } := I.turned (fun b o hb e => kk b o (by simpa using hb) e) f0 f1 f3 f4 f5
    obtain ⟨oi, e, cc, dd⟩ := id st'
    exact ⟨_, rfl, go_of (s := { s with heap := h', toks := tk }) e cc dd hno ⟨.str ⟨#[c]⟩, H, I1, ⟨u, rfl⟩, ⟨rfl, c, hcx, rfl⟩, st', fun b hb => (hf b hb).1⟩⟩
  done := by
    intro X hP hw hK hc i pins s σ H E I hf st hg
    subst hP hw hK
    obtain ⟨f0, f1, f2, f3, f4, f5⟩ := hf it (by simp)
    have hx : x.cps[i]? = none := Array.getElem?_eq_none hg
    rcases hty with e | e
    · rw [e] at st
      exact wpAny_pyNext_ascii_end (I.ok.hd hc) st hx fun h' eb => ⟨rfl, I.turned (t' := s.toks) (fun b o hb e => eb b o hb e) f0 f1 f3 f4 f5⟩
    · rw [e] at st
      exact wpAny_pyNext_wide_end (I.ok.hd hc) st hx fun h' eb => ⟨rfl, I.turned (t' := s.toks) (fun b o hb e => eb b o hb e) f0 f1 f3 f4 f5⟩
  self := fun A i s Q E st h => by
    rcases hty with e | e
    · rw [e] at st; exact wpAny_pyIter_striter_ascii st h
    · rw [e] at st; exact wpAny_pyIter_striter_wide st h
def iStr (te : TE) : TI := fun σ H R => te σ H fun v H1 => ∃ x, v = .str x ∧ R (Its x) H1
theorem pi_str {X : Cx} {tg e : Expr} {te : TE} (he : PE X e te) : PI X tg e (iStr te) := by
  intro pins s σ H R I h
  refine thn (he pins s σ H _ I h) fun v s1 ⟨y, H1, I1, r1, x, ex, q⟩ => ?_
  subst ex
  obtain ⟨t, rfl⟩ := r1
  cases ha : x.cps.all (· < 128)
  · exact wpAny_pyIter_wide ha (pi_one (tk := s1.toks) I1 _ (turn_str _ x t "str_iterator" (.inr rfl)) ⟨_, Heap.get?_push_size _ rfl, rfl, rfl⟩ q)
  · exact wpAny_pyIter_ascii ha (pi_one (tk := s1.toks) I1 _ (turn_str _ x t "str_ascii_iterator" (.inl rfl)) ⟨_, Heap.get?_push_size _ rfl, rfl, rfl⟩ q)

/-! ### a dict's keys: any dict's entries -/
section
variable {prog : Program} {w : World} {A : Around} {E : Value → Shared → Prop} {s : Shared}
theorem iter_keys {d : Addr} {o : Obj} {es : Array DictEntry} {ep : Nat} {Q : Value → Shared → Prop} (hd : (d == sysModules) = false) (ho : s.heap.get? d = some o) (hc : o.ExactDict) (hdat : o.data = .dict es ep)
    (hQ : Q (.ref s.heap.objs.size) { s with heap := s.heap.push { cls := .type "dict_keyiterator", data := .fields #[.ref d, .int 0 0, .int es.size 0, .int ep 0] } }) :
    wpAny (model prog w) A (pyIter (.ref d)) Q E s := by
  have hT : s.TypeIs (.ref d) "dict" := ⟨o, ho, hc.1⟩
  refine wpAny_pyIter_slot hT F.slot_dict_iter (wpAny_call_entry F.slot_dict_iter hT F.entry_dict_iter ?_ (F.args_dict_iter_1 _))
  unfold Builtin.«dict.__iter__»
  refine wpAny_bind ?_
  unfold Builtin.Dict.dictSlotNone
  refine wpAny_bind (wpAny_notOrdered_dict hT ?_)
  show wpAny _ _ (pure (Value.ref d)) _ _ s
  refine wpAny_pure ?_
  show wpAny _ _ (Builtin.Dict.showsAll d >>= _) _ _ s
  unfold Builtin.Dict.showsAll
  rw [if_neg (by rw [hd]; exact Bool.false_ne_true)]
  refine wpAny_bind (wpAny_pure ?_)
  refine wpAny_bind (wpAny_dictEntries ho hdat ?_)
  refine wpAny_bind (wpAny_dictEpoch ho hdat ?_)
  refine wpAny_bind (wpAny_newObj_type (wpAny_pure ⟨_, rfl, "dict_keyiterator", _, ⟨_, Heap.get?_push_size _ rfl, rfl⟩, F.slot_dict_keyiterator_next.lookup, ?_⟩))
  simpa [rawInt] using hQ
theorem next_key_item {it d : Addr} {i n ep : Nat} {od : Obj} {es : Array DictEntry} {en : DictEntry} {Q : Option Value → Shared → Prop} (hit : s.heap.IsKeyIter it d i n ep) (hod : s.heap.get? d = some od) (hdd : od.data = .dict es ep)
    (hsz : es.size = n) (hx : es[i]? = some en) (hQ : ∀ h', h'.IsKeyIter it d (i + 1) n ep → Heap.SameBut it s.heap h' → Q (some en.key) { s with heap := h' }) : wpAny (model prog w) A (pyNext (.ref it)) Q E s := by
  obtain ⟨o, ho, hc, hd⟩ := id hit
  unfold pyNext
  refine wpAny_bind (wpAny_attempt (wpAny_callSpecial?_slot (name := Str.ofString "__next__") hit.typeIs F.slot_dict_keyiterator_next
    (wpAny_call_entry F.slot_dict_keyiterator_next hit.typeIs F.entry_dict_keyiterator_next ?_ (F.args_dict_keyiterator_next_1 _))))
  refine wpAny_bind (wpAny_pure ?_)
  refine wpAny_bind ?_
  refine wpAny_bind ?_
  first | refine wpAny_bind (wpAny_typeNameOfWhole_keyiter hit.typeIs (wpAny_pure ?_)) | refine wpAny_bind (wpAny_typeNameOf_keyiter hit.typeIs (wpAny_pure ?_))
  refine wpAny_bind (wpAny_fieldsOf ho hd ?_)
  have hown : Builtin.Dict_items.ownsTuple "dict_keyiterator" = false := by decide
  simp only [hown, Bool.false_eq_true, if_false]
  show wpAny _ _ (if (Value.ref d == Value.none) = true then _ else _) _ _ s
  rw [if_neg (show ¬ ((Value.ref d == Value.none) = true) from Bool.false_ne_true)]
  refine wpAny_bind (wpAny_pure ?_)
  refine wpAny_bind (wpAny_dictEntries hod hdd ?_)
  rw [if_neg (by rw [hsz]; simp)]
  refine wpAny_bind (wpAny_pure ?_)
  refine wpAny_bind (wpAny_dictEpoch hod hdd ?_)
  rw [if_neg (by simp)]
  refine wpAny_pure ?_
  obtain ⟨hlt', hen⟩ := Array.getElem?_eq_some_iff.mp hx
  simp only [show ¬ ((i : Int) < 0) from by omega, if_false, Int.toNat_natCast, Array.getElem?_eq_getElem hlt']
  refine wpAny_bind ?_
  first | refine wpAny_bind (wpAny_typeNameOfWhole_keyiter hit.typeIs (wpAny_pure ?_)) | refine wpAny_bind (wpAny_typeNameOf_keyiter hit.typeIs (wpAny_pure ?_))
  refine wpAny_bind (wpAny_isOneOf_keyiter hit.typeIs ?_)
  show wpAny _ _ (setField (.ref it) 1 (rawInt ((i : Int) + 1)) >>= _) _ _ s
  refine wpAny_bind (wpAny_setField ho hd (by simp) ?_)
  have hit' : (s.heap.update it (Obj.mapFields (·.setIfInBounds 1 (rawInt ((i : Int) + 1))))).IsKeyIter it d (i + 1) n ep :=
    ⟨_, Heap.get?_update_self _ ho (Obj.isFreed_of_fields (Obj.data_mapFields hd _)), (Obj.cls_mapFields ..).trans hc, by rw [Obj.data_mapFields hd]; simp [rawInt]⟩
  refine wpAny_bind (wpAny_holding ?_)
  refine wpAny_bind (wpAny_isOneOf_keyiter (s := { s with heap := s.heap.update it (Obj.mapFields (·.setIfInBounds 1 (rawInt ((i : Int) + 1)))) }) hit'.typeIs ?_)
  show wpAny _ _ (pure es[i].key) _ _ _
  rw [hen]
  exact wpAny_pure (wpAny_pure ⟨_, rfl, wpAny_pure (hQ _ hit' (Heap.SameBut.update ..))⟩)
theorem next_key_end {it d : Addr} {i n ep : Nat} {od : Obj} {es : Array DictEntry} {Q : Option Value → Shared → Prop} (hh : A.handled = none) (hit : s.heap.IsKeyIter it d i n ep) (hod : s.heap.get? d = some od) (hdd : od.data = .dict es ep)
    (hsz : es.size = n) (hge : n ≤ i) (hQ : ∀ h', Heap.ExtBut it s.heap h' → Q none { s with heap := h' }) : wpAny (model prog w) A (pyNext (.ref it)) Q E s := by
  obtain ⟨o, ho, hc, hd⟩ := id hit
  unfold pyNext
  refine wpAny_bind (wpAny_attempt (wpAny_callSpecial?_slot (name := Str.ofString "__next__") hit.typeIs F.slot_dict_keyiterator_next
    (wpAny_call_entry F.slot_dict_keyiterator_next hit.typeIs F.entry_dict_keyiterator_next ?_ (F.args_dict_keyiterator_next_1 _))))
  refine wpAny_bind (wpAny_pure ?_)
  refine wpAny_bind ?_
  refine wpAny_bind ?_
  first | refine wpAny_bind (wpAny_typeNameOfWhole_keyiter hit.typeIs (wpAny_pure ?_)) | refine wpAny_bind (wpAny_typeNameOf_keyiter hit.typeIs (wpAny_pure ?_))
  refine wpAny_bind (wpAny_fieldsOf ho hd ?_)
  have hown : Builtin.Dict_items.ownsTuple "dict_keyiterator" = false := by decide
  simp only [hown, Bool.false_eq_true, if_false]
  show wpAny _ _ (if (Value.ref d == Value.none) = true then _ else _) _ _ s
  rw [if_neg (show ¬ ((Value.ref d == Value.none) = true) from Bool.false_ne_true)]
  refine wpAny_bind (wpAny_pure ?_)
  refine wpAny_bind (wpAny_dictEntries hod hdd ?_)
  rw [if_neg (by rw [hsz]; simp)]
  refine wpAny_bind (wpAny_pure ?_)
  refine wpAny_bind (wpAny_dictEpoch hod hdd ?_)
  rw [if_neg (by simp)]
  refine wpAny_pure ?_
  have hge' : es.size ≤ i := by rw [hsz]; exact hge
  simp only [show ¬ ((i : Int) < 0) from by omega, if_false, Int.toNat_natCast, Array.getElem?_eq_none hge']
  refine wpAny_bind ?_
  first | refine wpAny_bind (wpAny_typeNameOfWhole_keyiter hit.typeIs (wpAny_pure ?_)) | refine wpAny_bind (wpAny_typeNameOf_keyiter hit.typeIs (wpAny_pure ?_))
  show wpAny _ _ (setField (.ref it) 0 .none >>= _) _ _ s
  refine wpAny_bind (wpAny_setField ho hd (by simp) ?_)
  show wpAny _ _ (newExc (.type "StopIteration") [] >>= _) _ _ _
  refine wpAny_bind ?_
  simp only [newExc, newTuple]
  refine wpAny_bind (wpAny_newObj_type ?_ (by size_fits))
  refine wpAny_bind (m := firstArgMember _ _) (wpAny_of_eq (a := Value.none) (by first | rfl | (simp only [firstArgMember]; rfl)) ?_)
  refine wpAny_newObj_type ?_ (by size_fits)
  simp only [raiseNew]
  refine wpAny_bind (wpAny_handled ?_)
  rw [show A.in1.handled = none from hh]
  refine wpAny_bind (wpAny_pure (wpAny_throw ?_))
  refine wpAny_bind (wpAny_isInstance (T := "StopIteration") (b := true) ⟨_, Heap.get?_push_size _ rfl, rfl⟩ isSubtype_stop ?_)
  exact wpAny_pure (hQ _ (((Heap.SameBut.update ..).extBut.push _).push _))
end

/-! ### a locked dict -/
theorem kv_get {κ : Type} {kvs : List (κ × V)} {vs : List (κ × Value)} (h : KV kvs vs) : ∀ {i : Nat} {k : κ} {v : V}, kvs[i]? = some (k, v) → ∃ u, vs[i]? = some (k, u) ∧ RelV v u := by
  unfold KV at h
  induction h with
  | nil => intro i k v e; simp at e
  | @cons a b l₁ l₂ r t ih =>
    intro i k v e
    cases i with
    | zero =>
      simp only [List.getElem?_cons_zero, Option.some.injEq] at e
      subst e
      refine ⟨b.2, ?_, r.2⟩
      simp only [List.getElem?_cons_zero]
      exact congrArg some (Prod.ext r.1.symm rfl)
    | succ j =>
      simp only [List.getElem?_cons_succ] at e ⊢
      exact ih e
theorem paired_get {α β : Type} {G : α → β → Prop} {l₁ : List α} {l₂ : List β} (h : Paired G l₁ l₂) : ∀ {i : Nat} {a : α}, l₁[i]? = some a → ∃ b, l₂[i]? = some b ∧ G a b := by
  induction h with
  | nil => intro i a e; simp at e
  | @cons a b l₁ l₂ r t ih =>
    intro i a' e
    cases i with
    | zero =>
      simp only [List.getElem?_cons_zero, Option.some.injEq] at e
      subst e
      exact ⟨b, rfl, r⟩
    | succ j =>
      simp only [List.getElem?_cons_succ] at e ⊢
      exact ih e
theorem relV_key {k : Key} {u : Value} (h : keyIs k u = true) : RelV (kV k) u := by
  rcases keyIs_shape h with ⟨i, t, rfl, rfl⟩ | ⟨x, t, rfl, rfl⟩
  · exact ⟨t, rfl⟩
  · exact ⟨t, rfl⟩
section
variable {X : Cx} {pins : List (Addr × Obj)} {σ : St} {H : Hp} {s : Shared} {d : Addr} {o : Obj}
theorem Inv.frzK {kvs : List (Key × V)} (I : Inv X pins σ H s) (h : H d = some (.frz o (.dK kvs))) :
    (d == sysModules) = false ∧ s.heap.get? d = some o ∧ o.ExactDict ∧ ∃ (es : Array DictEntry) (ep : Nat) (vs : List (Key × Value)), o.data = .dict es ep ∧ es.size = kvs.length ∧ KV kvs vs ∧ s.heap.DictAt (mixKind X.prog X.w) d vs ep := by
  obtain ⟨hd, z, hs, vs, kv, o', es, ep, ho, hx, hdt, r⟩ := I.hok d _ h
  rw [hd] at ho
  cases ho
  refine ⟨hs, hd, hx, es, ep, vs, hdt, ?_, kv, o, es, hd, hx, hdt, r⟩
  have l1 := r.2.1.length
  have l2 : kvs.length = vs.length := Paired.length kv
  rw [Array.length_toList] at l1
  omega
/-- the same for tuple keys -/
theorem Inv.frzT {kvs : List (List Key × V)} (I : Inv X pins σ H s) (h : H d = some (.frz o (.dT kvs))) :
    (d == sysModules) = false ∧ s.heap.get? d = some o ∧ o.ExactDict ∧ ∃ (es : Array DictEntry) (ep : Nat), o.data = .dict es ep ∧ es.size = kvs.length ∧
      ∀ (i : Nat) (k : List Key) (v : V), kvs[i]? = some (k, v) → ∃ (en : DictEntry) (q : Addr), es[i]? = some en ∧ en.key = .ref q ∧ H q = some (.tup (k.map kV)) := by
  obtain ⟨hd, z, hs, xs, pr, o', es, ep, ho, hx, hdt, he, _⟩ := I.hok d _ h
  rw [hd] at ho
  cases ho
  refine ⟨hs, hd, hx, es, ep, hdt, ?_, fun i k v e => ?_⟩
  · have l1 : es.size = xs.length := size_of_entries he
    have l2 : kvs.length = xs.length := Paired.length pr
    omega
  · obtain ⟨b, hb, e1, e2, _⟩ := paired_get pr e
    have q := entry_at he i
    rw [hb] at q
    exact ⟨_, b.2.1, q, rfl, e2⟩
end

/-- the keys of the locked dict at d, in their order -/
def Itk (d : Addr) (o : Obj) (kvs : List (Key × V)) : It :=
  ⟨fun i H => H d = some (.frz o (.dK kvs)) ∧ i < kvs.length, fun i H x H' => H' = H ∧ ∃ k v, kvs[i]? = some (k, v) ∧ x = kV k, fun i H => H d = some (.frz o (.dK kvs)) ∧ kvs.length ≤ i⟩
/-- .. of tuple keys: the key's own tuple -/
def Itkt (d : Addr) (o : Obj) (kvs : List (List Key × V)) : It :=
  ⟨fun i H => H d = some (.frz o (.dT kvs)) ∧ i < kvs.length, fun i H x H' => H' = H ∧ ∃ (k : List Key) (v : V) (q : Addr), kvs[i]? = some (k, v) ∧ x = .ref q ∧ H q = some (.tup (k.map kV)), fun i H => H d = some (.frz o (.dT kvs)) ∧ kvs.length ≤ i⟩
theorem dict_ep {o : Obj} {es es' : Array DictEntry} {ep ep' : Nat} (h : o.data = .dict es ep) (h' : o.data = .dict es' ep') : es' = es ∧ ep' = ep := by
  rw [h] at h'
  cases h'
  exact ⟨rfl, rfl⟩
section
variable {P : Program} {w : World} {K : PySem.W.Frag} {tg : Expr} {d : Addr} {o : Obj} {es : Array DictEntry} {ep : Nat}
theorem turn_keys {kvs : List (Key × V)} (it : Addr) (hod : o.data = .dict es ep) : Turn P w K tg (Itk d o kvs) [it] it (fun i h => h.IsKeyIter it d i kvs.length ep) where
  mem := by simp
  obj := fun i h st b hb => by
    have e : b = it := by simpa using hb
    subst e
    obtain ⟨oi, e, c, dd⟩ := st
    exact ⟨oi, e, fun v z => by rw [dd] at z; cases z⟩
  keep := fun i h h' st k => st.at fun oi e => k it (by simp) oi e
  item := by
    intro X hP hw hK hc i pins s σ H E I hf st hg
    subst hP hw hK
    obtain ⟨hd, hi⟩ := hg
    obtain ⟨f0, f1, f2, f3, f4, f5⟩ := hf it (by simp)
    obtain ⟨hs, hgd, hx, es', ep', vs, hdt, hsz, kv, hm⟩ := I.frzK hd
    obtain ⟨rfl, rfl⟩ := dict_ep hod hdt
    obtain ⟨⟨k, v⟩, hkv⟩ : ∃ p, kvs[i]? = some p := ⟨kvs[i], List.getElem?_eq_getElem hi⟩
    obtain ⟨u, hu, ru⟩ := kv_get kv hkv
    have hl : kvs.length = vs.length := Paired.length kv
    rw [hl] at st
    refine wpAny_pyNext_dict_item st hm hu fun key h' hkey st' sb => ?_
    have I1 : Inv X pins σ H { s with heap := h' } := I.turned (t' := s.toks) (fun b ob hb e => (sb.2 b hb).trans e) f0 f1 f3 f4 f5
    obtain ⟨oi, e, c, dd⟩ := id st'
    refine ⟨key, rfl, go_of (s := { s with heap := h' }) e c dd (by decide) ⟨kV k, H, I1, relV_key (show keyIs k key = true from hkey), ⟨rfl, k, v, hkv, rfl⟩, ?_, fun b hb => (hf b hb).1⟩⟩
    show h'.IsKeyIter it d (i + 1) kvs.length _
    rw [hl]
    exact st'
  done := by
    intro X hP hw hK hc i pins s σ H E I hf st hg
    subst hP hw hK
    obtain ⟨hd, hi⟩ := hg
    obtain ⟨f0, f1, f2, f3, f4, f5⟩ := hf it (by simp)
    obtain ⟨hs, hgd, hx, es', ep', vs, hdt, hsz, kv, hm⟩ := I.frzK hd
    obtain ⟨rfl, rfl⟩ := dict_ep hod hdt
    exact next_key_end (I.ok.hd hc) st hgd hdt hsz hi fun h' eb => ⟨rfl, I.turned (t' := s.toks) (fun b ob hb e => eb b ob hb e) f0 f1 f3 f4 f5⟩
  self := fun A i s Q E st h => wpAny_pyIter_keyiter st h
theorem turn_keysT {kvs : List (List Key × V)} (it : Addr) (hod : o.data = .dict es ep) : Turn P w K tg (Itkt d o kvs) [it] it (fun i h => h.IsKeyIter it d i kvs.length ep) where
  mem := by simp
  obj := fun i h st b hb => by
    have e : b = it := by simpa using hb
    subst e
    obtain ⟨oi, e, c, dd⟩ := st
    exact ⟨oi, e, fun v z => by rw [dd] at z; cases z⟩
  keep := fun i h h' st k => st.at fun oi e => k it (by simp) oi e
  item := by
    intro X hP hw hK hc i pins s σ H E I hf st hg
    subst hP hw hK
    obtain ⟨hd, hi⟩ := hg
    obtain ⟨f0, f1, f2, f3, f4, f5⟩ := hf it (by simp)
    obtain ⟨hs, hgd, hx, es', ep', hdt, hsz, ent⟩ := I.frzT hd
    obtain ⟨rfl, rfl⟩ := dict_ep hod hdt
    obtain ⟨⟨k, v⟩, hkv⟩ : ∃ p, kvs[i]? = some p := ⟨kvs[i], List.getElem?_eq_getElem hi⟩
    obtain ⟨en, q, hen, hkey, hq⟩ := ent i k v hkv
    refine next_key_item st hgd hdt hsz hen fun h' st' sb => ?_
    have I1 : Inv X pins σ H { s with heap := h' } := I.turned (t' := s.toks) (fun b ob hb e => (sb.2 b hb).trans e) f0 f1 f3 f4 f5
    obtain ⟨oi, e, c, dd⟩ := id st'
    exact ⟨en.key, rfl, go_of (s := { s with heap := h' }) e c dd (by decide) ⟨.ref q, H, I1, hkey, ⟨rfl, k, v, q, hkv, rfl, hq⟩, st', fun b hb => (hf b hb).1⟩⟩
  done := by
    intro X hP hw hK hc i pins s σ H E I hf st hg
    subst hP hw hK
    obtain ⟨hd, hi⟩ := hg
    obtain ⟨f0, f1, f2, f3, f4, f5⟩ := hf it (by simp)
    obtain ⟨hs, hgd, hx, es', ep', hdt, hsz, ent⟩ := I.frzT hd
    obtain ⟨rfl, rfl⟩ := dict_ep hod hdt
    exact next_key_end (I.ok.hd hc) st hgd hdt hsz hi fun h' eb => ⟨rfl, I.turned (t' := s.toks) (fun b ob hb e => eb b ob hb e) f0 f1 f3 f4 f5⟩
  self := fun A i s Q E st h => by
    refine wpAny_pyIter_slot st.typeIs F.slot_dict_keyiterator_iter (wpAny_call_entry F.slot_dict_keyiterator_iter st.typeIs F.entry_dict_keyiterator_iter ?_ (F.args_dict_keyiterator_iter_1 _))
    show wpAny _ _ (ret (.ref it)) _ _ s
    exact wpAny_pure ⟨_, rfl, "dict_keyiterator", _, st.typeIs, F.slot_dict_keyiterator_next.lookup, h⟩
end

/-! ### for k in d, d.keys(), d.values(), d.items() -/
/-- the dict is locked (tLock, or by the caller) -/
def iKeys (td : TE) : TI := fun σ H R => td σ H fun x H1 => ∃ d o, x = .ref d ∧ ((∃ kvs, H1 d = some (.frz o (.dK kvs)) ∧ R (Itk d o kvs) H1) ∨ ∃ kvs, H1 d = some (.frz o (.dT kvs)) ∧ R (Itkt d o kvs) H1)
section
variable {X : Cx} {tg e : Expr} {td : TE} {apos cpos : Pos}
theorem pi_keys (he : PE X e td) : PI X tg e (iKeys td) := by
  intro pins s σ H R I h
  refine thn (he pins s σ H _ I h) fun u s1 ⟨x, H1, I1, rx, d, o, ex, q⟩ => ?_
  subst ex
  obtain rfl : u = Value.ref d := rx
  rcases q with ⟨kvs, hd, q⟩ | ⟨kvs, hd, q⟩
  · obtain ⟨hs, hgd, hx, es, ep, vs, hdt, hsz, kv, hm⟩ := I1.frzK hd
    refine iter_keys hs hgd hx hdt (pi_one (tk := s1.toks) I1 _ (turn_keys _ hdt) ⟨_, Heap.get?_push_size _ rfl, rfl, ?_⟩ q)
    rw [hsz] <;> rfl
  · obtain ⟨hs, hgd, hx, es, ep, hdt, hsz, ent⟩ := I1.frzT hd
    refine iter_keys hs hgd hx hdt (pi_one (tk := s1.toks) I1 _ (turn_keysT _ hdt) ⟨_, Heap.get?_push_size _ rfl, rfl, ?_⟩ q)
    rw [hsz] <;> rfl
end

/-! ### enumerate(list) -/
/-! ### zip(list, list) -/
end L2

section 
namespace Bits
open PySem PyProof.Rows







theorem bitOr_pp {x y : Int} (hx : 0 ≤ x) (hy : 0 ≤ y) : Builtin.bitOr x y = ((x.toNat ||| y.toNat : Nat) : Int) := by
  have e := nat_or_add_and x.toNat y.toNat
  rw [bitOr_and, bitAnd_pp hx hy]
  omega

end Bits
end 

section 
namespace TL
open PySem PySem.Builtin PySem.Builtin.Str PySem.StrLaws


/-! ### the list functions -/




/-! ### the model's split and partition are these -/




/-! ### computing spl and par -/


/-! ### digits -/

/-! ### words: x.split() -/
end TL
end 

namespace L2
open PySem PySem.Spec PyProof.Rows




section
variable {X : Cx} {pins : List (Addr × Obj)} {σ : St} {H : Hp} {s : Shared} {Q : VK}
end

section
variable {X : Cx}





/-! ### of a text alone -/

/-! ### of a text and a text -/

/-- int(text) -/
theorem call_int_str : CallR X (.type "int") (fun xs H Q => ∃ a n, xs = [.str a] ∧ PySem.intText? a = some n ∧ a.length ≤ 640 ∧ Q (.int n) H) := by
  intro pins s σ H xs us Q I rs h
  obtain ⟨a, n, rfl, hn, hl, h⟩ := h
  cases rs with
  | cons r1 rs =>
    cases rs
    obtain ⟨t, rfl⟩ := r1
    exact PySem.W.KIN.call_text hn hl ⟨.int n, H, I.tok _, ⟨_, rfl⟩, h⟩
end

section
variable {X : Cx} {o e : Expr} {to te : TE}
def tM1 (r : V → List V → Hp → VK → Prop) (to te : TE) : TE := fun σ H Q => to σ H fun x H1 => (∃ a, x = .str a) ∧ te σ H1 fun y H2 => r x [y] H2 Q
theorem pe_m1 {id : String} {name : Str} {apos pos : Pos} {r : V → List V → Hp → VK → Prop} (slot : Slot "str" name id) (ty : typeOf (.builtin id) = pure (.type "method_descriptor")) (rule : MtR X id r) (ho : PE X o to) (he : PE X e te)
    (hs : starEach [e] X.env = [(false, eval e X.env)] := by rfl) (hbase : attributeBase o name X.env (eval o X.env) = eval o X.env := by rfl) (hline : (apos.endLine == pos.line) = true := by rfl) :
    PE X (.Call (.Attribute o name apos) [e] [] pos) (tM1 r to te) := by
  intro pins s σ H Q I h
  refine PySem.Call_method1 hbase hs hline (thn (ho pins s σ H _ I h) fun v s1 ⟨x, H1, I1, r1, q1⟩ => ?_)
  obtain ⟨⟨a, rfl⟩, q1⟩ := q1
  obtain ⟨t, rfl⟩ := _root_.id r1
  refine ⟨"str", _, F.plainAttrs_str, slot, ty, typeIs_str _ _ _, (fun _ e => nomatch e), Calls.callWith_builtin rfl (Calls.evalArgs_plain (Calls.spliced_cons ?_))⟩
  exact thn (he pins s1 σ H1 _ I1 q1) fun u s2 ⟨y, H2, I2, r2, q2⟩ => Calls.spliced_nil (rule pins s2 σ H2 _ [y] _ [u] Q I2 r1 (.cons r2 .nil) q2)

end
end L2

namespace L2
open PySem PySem.Spec PyProof.Rows

section
variable {X : Cx}
end

/-! ### slices of a text -/


end L2

namespace Att
open PySem PySem.W PySem.Calls PyProof.Rows

/-! ### the script -/



/-! ### the attachment: holds_open's last premise (the goal 'hc' behind k_head) from a wpAny of the law's body -/



/-! ### rules over ANY heap (no ledger) from facts about the written part K: the library's own take a ledger (News) for what they write -/
section
variable {prog : Program} {w : World} {A : Around} {E : Value → Shared → Prop} {s : Shared} {K : Frag}





/-! the whole heap as the ledger: makes every rule that writes through a ledger a rule over any heap -/

end
end Att

namespace L2
open PySem PySem.Spec PyProof.Rows



end L2

namespace L2
open PySem PySem.Spec PyProof.Rows

abbrev KOf {K : PySem.W.Frag} {h : Heap} (_ : K.In h) : PySem.W.Frag := K

end L2

/- THE LAST THEOREM (shape; LID, My.* are yours):
   My.Adr: a structure of the addresses that your layer names (classes, functions); My.Txt K t: a structure (Prop) of the equations over K;
   My.txt_mk : {K} {implicit addresses ..} (e1 : nsIn K mainGlobals "law" = some (some (.ref f))) (e2 : K.lookup f = some ⟨oc, od, .func (fnOf "law" "law" params body scope dV kV doc pm an cdv ct), sl⟩) (e3 : codeIn K cdv "law" = true) .. : ∃ t, My.Txt K t

set_option maxRecDepth 100000 in
set_option maxHeartbeats 0 in
theorem PySem.Challenge.cw_LID_holds : PySem.Challenge.rw_LID.Holds := by
  w_on; o_law; k_head; (case hw => w_witness2)
  k_fill
  refine L2.walk_of (l := PySem.Challenge.rw_LID) (n := 63) (k := 40) (x := "script") (CX := fun w => ..) (sp := fun _ => My.sp_law) rfl (by decide) rfl ⟨rfl, by decide, by decide⟩ (fun w h Y => PySem.W.kIn_of Y) ?F ?S ?C
  case F =>
    intro w mg fa h KX G hmg
    have T : ∃ t, My.Txt (L2.KOf KX) t := by
      dsimp only [L2.KOf]                          -- K must stand as «<heap const> w.params» for k_is
      refine' My.txt_mk ?e1 ?e2 ?e3 ..
      (case e1 => PySem.W.k_is)                    -- in the order: a name -> its address -> its object -> its parts
      (case e2 => PySem.W.k_is)
      ..
    obtain ⟨t, T⟩ := T
    have e0 := hmg.symm.trans (PySem.W.mg_of KX G T.law)
    cases e0                                       -- fa is the law's own address
    exact ⟨_, fun s u => .of_eq rfl, fun base kb nb => My.law_fn T kb nb⟩     -- if «.of_eq rfl» comes too early: refine' ⟨_, ?b, fun base kb nb => My.law_fn T kb nb⟩; exact fun s u => .of_eq rfl
  case S => exact fun w H a ns hl hO hS => ..
  case C => exact ..
(the tactic k_is has no namespace: write k_is) -/

/-! SHORT WORDS over the layer: a def of the text, its body, what a loop and a test want. -/
namespace L2
open PySem PySem.Spec PyProof.Rows

/-! ### the text by places -/
/-- the j-th statement of a class's body -/
def inClass (s : Stmt) (j : Nat) : Stmt := match s with
  | .ClassDef _ _ _ body _ _ _ _ _ _ _ => body.getD j (.Pass ⟨0, 0, 0, 0⟩)
  | _ => .Pass ⟨0, 0, 0, 0⟩
def defArgs (s : Stmt) : Arguments := match s with
  | .FunctionDef _ a _ _ _ _ _ _ _ _ => a
  | _ => { posonlyargs := [], args := [], vararg := none, kwonlyargs := [], kw_defaults := [], kwarg := none, defaults := [] }
def defBody (s : Stmt) : List Stmt := match s with
  | .FunctionDef _ _ b _ _ _ _ _ _ _ => b
  | _ => []
def defScope (s : Stmt) : Scope := match s with
  | .FunctionDef _ _ _ _ _ _ sc _ _ _ => sc
  | _ => { kind := .function, names := [], isGenerator := false, isCoroutine := false }

/-! ### no exception leaves a def -/
abbrev CX0 : CXT := fun _ _ _ _ _ _ => False
abbrev E0 : XK := fun _ _ _ => False
theorem pass0 {X : Cx} : Passes CX0 X E0 := fun _ _ _ _ _ _ _ h => h.elim

/-! ### a def (or method) of the text as it stands behind the top -/
structure Fun (K : PySem.W.Frag) (x qual : Str) (st : Stmt) (f : Addr) (fd : FuncData) : Prop where
  ex : ∃ (oc : Value) (od : Option Addr) (kV doc pm : Value) (an : Option Addr) (cdv ct : Value) (osl : Array (Option Value)),
    fd = PySem.W.fnOf x qual (defArgs st) (defBody st) (defScope st) .none kV doc pm an cdv ct ∧ K.lookup f = some ⟨oc, od, .func fd, osl⟩ ∧ PySem.W.codeIn K cdv qual = true
  kp : PySem.W.keepIn K (.ref f) = true
section
variable {P : Program} {w : World} {K : PySem.W.Frag} {mg : Str → Option Value} {base : Heap}
/-- THE RULE for a def: its body as a term of rules, and the reading of that term -/
theorem Fun.ok {x qual : Str} {st : Stmt} {f : Addr} {fd : FuncData} {N ps : List Str} {k : Nat} {sp : Sp} (F : Fun K x qual st f fd) (S : FnScope N ps (defScope st)) (len : ∀ vs H Q E, sp vs H Q E → vs.length = ps.length)
    (hbody : ∀ (cdv : Value) (A : Around) (outer : List Env) (s : Shared) (H : Hp) (vs : List V) (Q : VK) (E : XK), Room k (A.deeper (envOfC qual (defScope st) s.heap.objs.size f cdv)) → sp vs H Q E →
      ∃ t, PSs (cxOf CX0 P w K mg base N qual (defScope st) f cdv A outer s H E).nox (defBody st) t ∧ t { nx := fun _ H' => Q .non H', rt := Q } (start N vs) H) : FnOk P w K mg base CX0 (k + 1) f fd ps sp := by
  obtain ⟨oc, od, kV, doc, pm, an, cdv, ct, osl, rfl, lk, hcd⟩ := F.ex
  refine fn_of lk hcd S len fun A outer s H vs Q E hr hsp => ?_
  obtain ⟨t, h, q⟩ := hbody cdv A outer s H vs Q E hr hsp
  exact ⟨t, h.nox, q⟩
/-- how its arguments bind (no defaults): h is «fun _ _ _ _ _ _ us hl => match us, hl with | [_, _], _ => rfl», one _ a parameter -/
theorem Fun.binds {x qual : Str} {st : Stmt} {f : Addr} {fd : FuncData} {ps : List Str} (F : Fun K x qual st f fd)
    (h : ∀ (kV doc pm : Value) (an : Option Addr) (cdv ct : Value) (us : List Value), us.length = ps.length → bindArgs (PySem.W.fnOf x qual (defArgs st) (defBody st) (defScope st) .none kV doc pm an cdv ct) ⟨us, []⟩ = pure (ps.zip us)) : Binds K fd ps [] := by
  obtain ⟨oc, od, kV, doc, pm, an, cdv, ct, osl, rfl, lk, hcd⟩ := F.ex
  exact .all (h kV doc pm an cdv ct)
theorem fun_mk {x qual : Str} {st : Stmt} {f : Addr} {oc : Value} {od an : Option Addr} {osl : Array (Option Value)} {kV doc pm cdv ct : Value} (l : K.lookup f = some ⟨oc, od, .func (PySem.W.fnOf x qual (defArgs st) (defBody st) (defScope st) .none kV doc pm an cdv ct), osl⟩)
    (c : PySem.W.codeIn K cdv qual = true) (k : PySem.W.keepIn K (.ref f) = true) : Fun K x qual st f (PySem.W.fnOf x qual (defArgs st) (defBody st) (defScope st) .none kV doc pm an cdv ct) := ⟨⟨oc, od, kV, doc, pm, an, cdv, ct, osl, rfl, l, c⟩, k⟩
end
theorem hu_of {A : Around} {k : Nat} (hr : Room k A) : A.units + 1 < cLine := Nat.lt_of_le_of_lt (Nat.add_le_add_left (by decide : 1 ≤ 64) _) hr.units

/-! ### expressions in short: the name that stands in the i-th slot -/
section
variable {X : Cx}
theorem pv (i : Nat) {x : Str} {pos : Pos} (hN : X.N[i]? = some x := by rfl) (hv : Vis X.env.scope x := by first | exact Or.inl rfl | exact Or.inr (Or.inl rfl) | exact Or.inr (Or.inr rfl)) (hd : (x == ("__debug__" : Str)) = false := by decide)
    (hcd : (x == ("__classdict__" : Str)) = false := by decide) : PE X (.Name x pos) (tVar i) := pe_var hN hv hd hcd
end

/-! ### tests -/
theorem iteF {A B : Prop} (h : B) : if false = true then A else B := by
  rw [if_neg Bool.false_ne_true]
  exact h
theorem iteT {A B : Prop} (h : A) : if true = true then A else B := by
  rw [if_pos rfl]
  exact h

/-! ### heaps -/
/-- all that was tracked is as it was -/
def Same (H H' : Hp) : Prop := ∀ b o, H b = some o → H' b = some o
theorem Same.refl (H : Hp) : Same H H := fun _ _ h => h
theorem Same.trans {H H1 H2 : Hp} (a : Same H H1) (b : Same H1 H2) : Same H H2 := fun c o h => b c o (a c o h)
theorem Same.free {H H' : Hp} (e : Same H H') {l : Addr} (h : H' l = Option.none) : H l = Option.none := by
  cases q : H l with
  | none => rfl
  | some o =>
    rw [e l o q] at h
    cases h
theorem Same.seq {K : PySem.W.Frag} {H H' : Hp} {a : Addr} {xs : List V} (e : Same H H') (h : SqL K H a xs) : SqL K H' a xs := by
  rcases h with (h | ⟨o, h⟩) | h
  · exact .inl (.inl (e _ _ h))
  · exact .inl (.inr ⟨o, e _ _ h⟩)
  · exact .inr h

/-! ### a dict's pairs: keys that differ -/
section
variable {κ : Type} [DecidableEq κ]
end
/-! ### lists -/
end L2

section
set_option Elab.async false
set_option linter.all false
set_option maxRecDepth 100000
set_option maxHeartbeats 2000000
namespace L2
open PySem PySem.Spec PyProof.Rows
open PySem.W (WData Codec OpenSpec Well WellAll ReadsW ReadsAllW)
/-! ### an answer as data -/
mutual
/-- x stands for the datum d, lists and tuples all the way -/
inductive Dw (K : PySem.W.Frag) (H : Hp) : V → WData → Prop
  | non : Dw K H .non .none
  | bl (b : Bool) : Dw K H (.bl b) (.bool b)
  | int (i : Int) : Dw K H (.int i) (.int i)
  | str (x : Str) : Dw K H (.str x) (.str x)
  | byt (b : Array UInt8) : Dw K H (.byt b) (.bytes b.toList)
  | lst {a : Addr} {xs : List V} {ds : List WData} : SqL K H a xs → DwAll K H xs ds → Dw K H (.ref a) (.list ds)
  | tup {a : Addr} {xs : List V} {ds : List WData} : SqT K H a xs → DwAll K H xs ds → Dw K H (.ref a) (.tuple ds)
inductive DwAll (K : PySem.W.Frag) (H : Hp) : List V → List WData → Prop
  | nil : DwAll K H [] []
  | cons {v : V} {vs : List V} {d : WData} {ds : List WData} : Dw K H v d → DwAll K H vs ds → DwAll K H (v :: vs) (d :: ds)
end
theorem dw_ints {K : PySem.W.Frag} {H : Hp} : ∀ ns : List Int, DwAll K H (ns.map V.int) (ns.map WData.int)
  | [] => .nil
  | n :: r => .cons (.int n) (dw_ints r)
theorem ints_dw {K : PySem.W.Frag} {H : Hp} : ∀ (ns : List Int) (xs : List V), DwAll K H xs (ns.map WData.int) → xs = ns.map V.int
  | [], xs, h => by
    cases h
    rfl
  | n :: r, xs, h => by
    cases h with
    | cons h1 h2 =>
      cases h1
      rw [ints_dw r _ h2] <;> rfl
section
variable {P : Program} {w : World} {K : PySem.W.Frag} {H : Hp} {h : Heap} {R : PySem.W.WRecords} {cl : Str → Option Addr}
theorem sqL_at {a : Addr} {xs : List V} (hok : HOk P w H h) (KX : K.In h) (q : SqL K H a xs) : ∃ (its : List Value) (o : Obj) (n : Nat), Vals xs its ∧ h.get? a = some o ∧ o.cls = .type "list" ∧ o.data = .seq its.toArray n := by
  rcases q with q | ⟨o, its, n, e, hc, _, hd, _, hv⟩
  · obtain ⟨_, its, n, hv, e⟩ := (show ObjOk P w H h a (.lst xs) from q.ok hok)
    exact ⟨its, _, n, hv, e, rfl, rfl⟩
  · exact ⟨its.toList, o, n, hv, KX _ _ e, hc, by simp [hd]⟩
theorem sqT_at {a : Addr} {xs : List V} (hok : HOk P w H h) (KX : K.In h) (q : SqT K H a xs) : ∃ (its : List Value) (o : Obj) (n : Nat), Vals xs its ∧ h.get? a = some o ∧ o.cls = .type "tuple" ∧ o.data = .seq its.toArray n := by
  rcases q with q | ⟨o, its, n, e, hc, hd, _, hv⟩
  · obtain ⟨_, its, hv, o, e, hc, n, hd⟩ := (show ObjOk P w H h a (.tup xs) from q.ok hok)
    exact ⟨its, o, n, hv, e, hc, hd⟩
  · exact ⟨its.toList, o, n, hv, KX _ _ e, hc, by simp [hd]⟩
mutual
theorem Dw.reads (hok : HOk P w H h) (KX : K.In h) : ∀ (d : WData) (v : V) (u : Value), Dw K H v d → RelV v u → ∃ as, ReadsW R cl h u d as
  | .none, _, _, x, r => by
    cases x
    cases r
    exact ⟨_, ReadsW.none⟩
  | .bool b, _, _, x, r => by
    cases x
    cases r
    exact ⟨_, ReadsW.bool b⟩
  | .int i, _, _, x, r => by
    cases x
    obtain ⟨t, rfl⟩ := r
    exact ⟨_, ReadsW.int i t⟩
  | .str s, _, _, x, r => by
    cases x
    obtain ⟨t, rfl⟩ := r
    exact ⟨_, ReadsW.str s t⟩
  | .bytes b, _, _, x, r => by
    cases x
    obtain ⟨t, rfl⟩ := r
    exact ⟨_, ReadsW.bytes _ t⟩
  | .list ds, _, _, x, r => by
    cases x with
    | lst hs ha =>
      cases r
      obtain ⟨its, o, n, rv, ho, hc, hd⟩ := sqL_at hok KX hs
      obtain ⟨as, hr⟩ := Dw.readsAll hok KX ds _ its ha rv
      exact ⟨_, ReadsW.list ho hc hd hr⟩
  | .tuple ds, _, _, x, r => by
    cases x with
    | tup hs ha =>
      cases r
      obtain ⟨its, o, n, rv, ho, hc, hd⟩ := sqT_at hok KX hs
      obtain ⟨as, hr⟩ := Dw.readsAll hok KX ds _ its ha rv
      exact ⟨_, ReadsW.tuple ho hc hd hr⟩
  | .float _, _, _, x, _ => by cases x
  | .dict _, _, _, x, _ => by cases x
  | .bytearray _, _, _, x, _ => by cases x
  | .set _, _, _, x, _ => by cases x
  | .frozenset _, _, _, x, _ => by cases x
  | .obj _ _, _, _, x, _ => by cases x
theorem Dw.readsAll (hok : HOk P w H h) (KX : K.In h) : ∀ (ds : List WData) (vs : List V) (us : List Value), DwAll K H vs ds → Vals vs us → ∃ as, ReadsAllW R cl h us ds as
  | [], _, _, x, r => by
    cases x
    cases r
    exact ⟨_, ReadsAllW.nil⟩
  | d :: ds, _, _, x, r => by
    cases x with
    | cons h1 h2 =>
      cases r with
      | cons r1 r2 =>
        obtain ⟨as, q1⟩ := Dw.reads hok KX d _ _ h1 r1
        obtain ⟨bs, q2⟩ := Dw.readsAll hok KX ds _ _ h2 r2
        exact ⟨_, ReadsAllW.cons q1 q2⟩
end
end
/-! ### the arguments -/
mutual
/-- data that a codec tells -/
def plW : WData → Bool
  | .none => true
  | .bool _ => true
  | .int _ => true
  | .str _ => true
  | .bytes _ => true
  | .list xs => plWs xs
  | .tuple xs => plWs xs
  | _ => false
def plWs : List WData → Bool
  | [] => true
  | x :: r => plW x && plWs r
end
theorem plWs_map {α : Type} {f : α → WData} (h : ∀ a, plW (f a) = true) : ∀ l : List α, plWs (l.map f) = true
  | [] => rfl
  | x :: r => by
    show (plW (f x) && plWs (r.map f)) = true
    rw [h x, plWs_map h r] <;> rfl
theorem pl_enc : ∀ (c : Codec) (a : c.denote), plW (c.enc a) = true
  | .unit, _ => rfl
  | .bool, _ => rfl
  | .int _ _, _ => rfl
  | .nat _ _, _ => rfl
  | .u8, _ => rfl
  | .bytes _ _, _ => rfl
  | .text _ _ _ _, _ => rfl
  | .list _ _ c, a => plWs_map (fun x => pl_enc c x) a
  | .pair c d, a => by
    show (plW (c.enc a.1) && (plW (d.enc a.2) && true)) = true
    rw [pl_enc c a.1, pl_enc d a.2] <;> rfl
  | .triple c d e, a => by
    show (plW (c.enc a.1) && (plW (d.enc a.2.1) && (plW (e.enc a.2.2) && true))) = true
    rw [pl_enc c a.1, pl_enc d a.2.1, pl_enc e a.2.2] <;> rfl
  | .option c, none => rfl
  | .option c, some x => pl_enc c x
theorem pl_encAll : ∀ (cs : List Codec) (a : Codec.denoteAll cs), plWs (Codec.encAll cs a) = true
  | [], _ => rfl
  | c :: cs, a => by
    show (plW (c.enc a.1) && plWs (Codec.encAll cs a.2)) = true
    rw [pl_enc c a.1, pl_encAll cs a.2] <;> rfl
theorem weight_mem : ∀ {xs : List WData} {d : WData}, d ∈ xs → d.weight ≤ WData.weightAll xs
  | [], d, h => absurd h (by simp)
  | x :: r, d, h => by
    show d.weight ≤ x.weight + 1 + WData.weightAll r
    rcases List.mem_cons.mp h with e | m
    · rw [e]
      omega
    · have z := weight_mem m
      omega
def toV : Value → V
  | .none => .non
  | .bool b => .bl b
  | .int i _ => .int i
  | .str x _ => .str x
  | .bytes b _ => .byt b
  | .ref a => .ref a
  | _ => .non
/-- a value of the arguments, its objects among A -/
def OkU (A : List Addr) : Value → Prop
  | .none => True
  | .bool _ => True
  | .int _ _ => True
  | .str _ _ => True
  | .bytes _ _ => True
  | .ref a => a ∈ A
  | _ => False
theorem OkU.mono {A B : List Addr} (h : ∀ a ∈ A, a ∈ B) : ∀ {u : Value}, OkU A u → OkU B u := fun {u} x => by
  cases u with
  | ref a => exact h a x
  | none => trivial
  | bool b => trivial
  | int i t => trivial
  | str s t => trivial
  | bytes b t => trivial
  | _ => exact False.elim x
theorem relV_toV {A : List Addr} {u : Value} (x : OkU A u) : RelV (toV u) u := by
  cases u with
  | ref a => rfl
  | none => rfl
  | bool b => rfl
  | int i t => exact ⟨t, rfl⟩
  | str s t => exact ⟨t, rfl⟩
  | bytes b t => exact ⟨t, rfl⟩
  | _ => exact False.elim x
theorem vals_toV {A : List Addr} : ∀ {vs : List Value}, (∀ u ∈ vs, OkU A u) → Vals (vs.map toV) vs
  | [], _ => .nil
  | u :: r, h => .cons (relV_toV (h u (List.mem_cons_self ..))) (vals_toV fun x hx => h x (List.mem_cons_of_mem _ hx))
/-- an object of the arguments -/
def ArgOb (h : Heap) (A : List Addr) (a : Addr) : Prop := ∃ vs : List Value, vs.length ≤ sizeLine ∧ (∀ u ∈ vs, OkU A u) ∧
  (h.get? a = some { cls := .type "list", data := .seq vs.toArray } ∨ h.get? a = some { cls := .type "tuple", data := .seq vs.toArray })
theorem ArgOb.mono {h : Heap} {A B : List Addr} {a : Addr} (k : ∀ a ∈ A, a ∈ B) (x : ArgOb h A a) : ArgOb h B a := by
  obtain ⟨vs, h1, h2, h3⟩ := x
  exact ⟨vs, h1, fun u hu => (h2 u hu).mono k, h3⟩
theorem wellAll_len {P : Params} {h : Heap} : ∀ {vs : List Value} {ds : List WData}, WellAll P h vs ds → vs.length = ds.length
  | _, _, .nil => rfl
  | _, _, .cons _ b => by
    show _ + 1 = _ + 1
    rw [wellAll_len b]
theorem well_list {P : Params} {h : Heap} {v : Value} {ds : List WData} (x : Well P h v (.list ds)) : ∃ (a : Addr) (vs : List Value), v = .ref a ∧ h.get? a = some { cls := .type "list", data := .seq vs.toArray } ∧ WellAll P h vs ds := by
  cases x with
  | list ho hall => exact ⟨_, _, rfl, ho, hall⟩
theorem well_tuple {P : Params} {h : Heap} {v : Value} {ds : List WData} (x : Well P h v (.tuple ds)) : ∃ (a : Addr) (vs : List Value), v = .ref a ∧ h.get? a = some { cls := .type "tuple", data := .seq vs.toArray } ∧ WellAll P h vs ds := by
  cases x with
  | tuple ho hall => exact ⟨_, _, rfl, ho, hall⟩
theorem well_cons {P : Params} {h : Heap} {us : List Value} {d : WData} {ds : List WData} (x : WellAll P h us (d :: ds)) : ∃ (v : Value) (vs : List Value), us = v :: vs ∧ Well P h v d ∧ WellAll P h vs ds := by
  cases x with
  | cons a b => exact ⟨_, _, rfl, a, b⟩
theorem line_of {n : Nat} (h : n ≤ 1048576) : n ≤ sizeLine := Nat.le_trans h (by decide)
section
variable {P : Params} {h : Heap}
mutual
theorem area_one : ∀ (d : WData) (v : Value), Well P h v d → plW d = true → d.weight ≤ 1048576 → ∃ A : List Addr, OkU A v ∧ ∀ a ∈ A, ArgOb h A a
  | .none, _, x, _, _ => by
    cases x
    exact ⟨[], trivial, fun a m => absurd m (by simp)⟩
  | .bool b, _, x, _, _ => by
    cases x
    exact ⟨[], trivial, fun a m => absurd m (by simp)⟩
  | .int i, _, x, _, _ => by
    cases x
    exact ⟨[], trivial, fun a m => absurd m (by simp)⟩
  | .str s, _, x, _, _ => by
    cases x
    exact ⟨[], trivial, fun a m => absurd m (by simp)⟩
  | .bytes b, _, x, _, _ => by
    cases x
    exact ⟨[], trivial, fun a m => absurd m (by simp)⟩
  | .list ds, _, x, p, z => by
    obtain ⟨a, vs, rfl, ho, hall⟩ := well_list x
    have z2 : WData.weightAll ds ≤ 1048576 := z
    obtain ⟨A, h1, h2⟩ := area_all ds _ hall p fun d hd => Nat.le_trans (weight_mem hd) z2
    have k : ∀ b ∈ A, b ∈ a :: A := fun b hb => List.mem_cons_of_mem _ hb
    refine ⟨a :: A, List.mem_cons_self .., fun b hb => ?_⟩
    rcases List.mem_cons.mp hb with e | m
    · rw [e]
      exact ⟨vs, line_of (by rw [wellAll_len hall]; exact Nat.le_trans (PySem.W.length_le_weightAllW ds) z2), fun u hu => (h1 u hu).mono k, .inl ho⟩
    · exact (h2 b m).mono k
  | .tuple ds, _, x, p, z => by
    obtain ⟨a, vs, rfl, ho, hall⟩ := well_tuple x
    have z2 : WData.weightAll ds ≤ 1048576 := z
    obtain ⟨A, h1, h2⟩ := area_all ds _ hall p fun d hd => Nat.le_trans (weight_mem hd) z2
    have k : ∀ b ∈ A, b ∈ a :: A := fun b hb => List.mem_cons_of_mem _ hb
    refine ⟨a :: A, List.mem_cons_self .., fun b hb => ?_⟩
    rcases List.mem_cons.mp hb with e | m
    · rw [e]
      exact ⟨vs, line_of (by rw [wellAll_len hall]; exact Nat.le_trans (PySem.W.length_le_weightAllW ds) z2), fun u hu => (h1 u hu).mono k, .inr ho⟩
    · exact (h2 b m).mono k
  | .float _, _, _, p, _ => Bool.noConfusion (show false = true from p)
  | .dict _, _, _, p, _ => Bool.noConfusion (show false = true from p)
  | .bytearray _, _, _, p, _ => Bool.noConfusion (show false = true from p)
  | .set _, _, _, p, _ => Bool.noConfusion (show false = true from p)
  | .frozenset _, _, _, p, _ => Bool.noConfusion (show false = true from p)
  | .obj _ _, _, _, p, _ => Bool.noConfusion (show false = true from p)
theorem area_all : ∀ (ds : List WData) (vs : List Value), WellAll P h vs ds → plWs ds = true → (∀ d ∈ ds, d.weight ≤ 1048576) → ∃ A : List Addr, (∀ u ∈ vs, OkU A u) ∧ ∀ a ∈ A, ArgOb h A a
  | [], _, x, _, _ => by
    cases x
    exact ⟨[], fun u m => absurd m (by simp), fun a m => absurd m (by simp)⟩
  | d :: ds, _, x, p, z => by
    obtain ⟨v, vs, rfl, x1, x2⟩ := well_cons x
    have q : plW d = true ∧ plWs ds = true := Bool.and_eq_true_iff.mp p
    obtain ⟨A, a1, a2⟩ := area_one d v x1 q.1 (z d (List.mem_cons_self ..))
    obtain ⟨B, b1, b2⟩ := area_all ds vs x2 q.2 fun e he => z e (List.mem_cons_of_mem _ he)
    have kA : ∀ b ∈ A, b ∈ A ++ B := fun b hb => List.mem_append.mpr (.inl hb)
    have kB : ∀ b ∈ B, b ∈ A ++ B := fun b hb => List.mem_append.mpr (.inr hb)
    refine ⟨A ++ B, fun u hu => ?_, fun b hb => ?_⟩
    · rcases List.mem_cons.mp hu with e | m
      · rw [e]
        exact a1.mono kA
      · exact (b1 u m).mono kB
    · rcases List.mem_append.mp hb with m | m
      · exact (a2 b m).mono kA
      · exact (b2 b m).mono kB
end
end
/-- what is tracked of an argument's object -/
def hoOf (o : Obj) : Option HO := match o.data with
  | .seq vs _ => if (o.cls == Value.type "list") = true then some (.frz o (.lst (vs.toList.map toV))) else some (.frz o (.tup (vs.toList.map toV)))
  | _ => none
def argH (K : PySem.W.Frag) (h : Heap) (A : List Addr) : Hp := fun b => if b ∈ A then (if (K.lookup b).isNone = true then (h.get? b).bind hoOf else none) else none
/-- nothing is tracked but what is known to the object -/
def OnlyF (H : Hp) : Prop := ∀ b, H b = none ∨ ∃ o u, H b = some (.frz o u)
theorem hoOf_lst (vs : List Value) : hoOf { cls := .type "list", data := .seq vs.toArray } = some (.frz { cls := .type "list", data := .seq vs.toArray } (.lst (vs.map toV))) := by
  show (if (Value.type "list" == Value.type "list") = true then some (HO.frz { cls := .type "list", data := .seq vs.toArray } (.lst (vs.toArray.toList.map toV))) else some (HO.frz { cls := .type "list", data := .seq vs.toArray } (.tup (vs.toArray.toList.map toV)))) = _
  rw [if_pos (beq_self_eq_true _)]
theorem hoOf_tup (vs : List Value) : hoOf { cls := .type "tuple", data := .seq vs.toArray } = some (.frz { cls := .type "tuple", data := .seq vs.toArray } (.tup (vs.map toV))) := by
  show (if (Value.type "tuple" == Value.type "list") = true then some (HO.frz { cls := .type "tuple", data := .seq vs.toArray } (.lst (vs.toArray.toList.map toV))) else some (HO.frz { cls := .type "tuple", data := .seq vs.toArray } (.tup (vs.toArray.toList.map toV)))) = _
  rw [if_neg (by decide)]
section
variable {P : Program} {w : World} {K : PySem.W.Frag} {h : Heap} {A : List Addr}
theorem argH_at {b : Addr} {o : Obj} (hb : b ∈ A) (hk : K.lookup b = none) (e : h.get? b = some o) : argH K h A b = hoOf o := by
  unfold argH
  rw [if_pos hb, hk, if_pos (show (none : Option Obj).isNone = true from rfl), e] <;> rfl
theorem of_argH {b : Addr} {u : HO} (q : argH K h A b = some u) : b ∈ A ∧ K.lookup b = none := by
  unfold argH at q
  by_cases hb : b ∈ A
  · rw [if_pos hb] at q
    cases hk : K.lookup b with
    | none => exact ⟨hb, rfl⟩
    | some o =>
      rw [hk, if_neg (by simp)] at q
      cases q
  · rw [if_neg hb] at q
    cases q
/-- what stands tracked -/
theorem argH_is (ar : ∀ a ∈ A, ArgOb h A a) {b : Addr} {u : HO} (q : argH K h A b = some u) : K.lookup b = none ∧ ∃ vs : List Value, vs.length ≤ sizeLine ∧ (∀ u ∈ vs, OkU A u) ∧
    ((h.get? b = some { cls := .type "list", data := .seq vs.toArray } ∧ u = .frz { cls := .type "list", data := .seq vs.toArray } (.lst (vs.map toV))) ∨
     (h.get? b = some { cls := .type "tuple", data := .seq vs.toArray } ∧ u = .frz { cls := .type "tuple", data := .seq vs.toArray } (.tup (vs.map toV)))) := by
  obtain ⟨hb, hk⟩ := of_argH q
  obtain ⟨vs, h1, h2, h3⟩ := ar b hb
  refine ⟨hk, vs, h1, h2, ?_⟩
  rcases h3 with e | e
  · rw [argH_at hb hk e, hoOf_lst] at q
    exact .inl ⟨e, (Option.some.inj q).symm⟩
  · rw [argH_at hb hk e, hoOf_tup] at q
    exact .inr ⟨e, (Option.some.inj q).symm⟩
theorem argH_only (ar : ∀ a ∈ A, ArgOb h A a) : OnlyF (argH K h A) := fun b => by
  cases q : argH K h A b with
  | none => exact .inl rfl
  | some u =>
    obtain ⟨_, vs, _, _, ⟨_, e⟩ | ⟨_, e⟩⟩ := argH_is ar q
    · exact .inr ⟨_, _, by rw [e]⟩
    · exact .inr ⟨_, _, by rw [e]⟩
theorem argH_ok (ar : ∀ a ∈ A, ArgOb h A a) : HOk P w (argH K h A) h := fun b u q => by
  obtain ⟨_, vs, h1, h2, ⟨e, rfl⟩ | ⟨e, rfl⟩⟩ := argH_is ar q
  · exact ⟨e, by rw [List.length_map]; exact h1, vs, _, vals_toV h2, e⟩
  · exact ⟨e, by rw [List.length_map]; exact h1, vs, vals_toV h2, _, e, rfl, _, rfl⟩
theorem seq_inj {c c' : Value} {vs us : List Value} (e : (some { cls := c, data := .seq vs.toArray } : Option Obj) = some { cls := c', data := .seq us.toArray }) : c = c' ∧ vs = us := by
  have e1 := Option.some.inj e
  have e2 : c = c' := congrArg Obj.cls e1
  have e3 : Data.seq vs.toArray = Data.seq us.toArray := congrArg Obj.data e1
  injection e3 with e4
  refine ⟨e2, ?_⟩
  have e5 := congrArg Array.toList e4
  simpa using e5
/-- a list argument -/
theorem argL (KX : K.In h) (ar : ∀ a ∈ A, ArgOb h A a) {a : Addr} {vs : List Value} (ha : a ∈ A) (e : h.get? a = some { cls := .type "list", data := .seq vs.toArray }) : (∀ u ∈ vs, OkU A u) ∧ SqL K (argH K h A) a (vs.map toV) := by
  obtain ⟨us, h1, h2, h3⟩ := ar a ha
  have hu : us = vs := by
    rcases h3 with q | q
    · rw [e] at q
      exact (seq_inj q).2.symm
    · rw [e] at q
      exact absurd (Value.type.inj (seq_inj q).1) (by decide)
  subst hu
  refine ⟨h2, ?_⟩
  cases hk : K.lookup a with
  | none => exact .inl (.inr ⟨_, by rw [argH_at ha hk e, hoOf_lst]⟩)
  | some o =>
    have e2 := KX a o hk
    rw [e] at e2
    obtain rfl := Option.some.inj e2
    exact .inr ⟨_, us.toArray, _, hk, rfl, rfl, rfl, by rw [List.size_toArray]; exact h1, by simpa using vals_toV h2⟩
theorem argT (KX : K.In h) (ar : ∀ a ∈ A, ArgOb h A a) {a : Addr} {vs : List Value} (ha : a ∈ A) (e : h.get? a = some { cls := .type "tuple", data := .seq vs.toArray }) : (∀ u ∈ vs, OkU A u) ∧ SqT K (argH K h A) a (vs.map toV) := by
  obtain ⟨us, h1, h2, h3⟩ := ar a ha
  have hu : us = vs := by
    rcases h3 with q | q
    · rw [e] at q
      exact absurd (Value.type.inj (seq_inj q).1) (by decide)
    · rw [e] at q
      exact (seq_inj q).2.symm
  subst hu
  refine ⟨h2, ?_⟩
  cases hk : K.lookup a with
  | none => exact .inl (.inr ⟨_, by rw [argH_at ha hk e, hoOf_tup]⟩)
  | some o =>
    have e2 := KX a o hk
    rw [e] at e2
    obtain rfl := Option.some.inj e2
    exact .inr ⟨_, us.toArray, _, hk, rfl, rfl, by rw [List.size_toArray]; exact h1, by simpa using vals_toV h2⟩
mutual
theorem dw_one {Pm : Params} (KX : K.In h) (ar : ∀ a ∈ A, ArgOb h A a) : ∀ (d : WData) (v : Value), Well Pm h v d → plW d = true → OkU A v → Dw K (argH K h A) (toV v) d
  | .none, _, x, _, _ => by
    cases x
    exact .non
  | .bool b, _, x, _, _ => by
    cases x
    exact .bl b
  | .int i, _, x, _, _ => by
    cases x
    exact .int i
  | .str s, _, x, _, _ => by
    cases x
    exact .str s
  | .bytes b, _, x, _, _ => by
    cases x
    have z := Dw.byt (K := K) (H := argH K h A) b.toArray
    exact z
  | .list ds, _, x, p, hu => by
    obtain ⟨a, vs, rfl, ho, hall⟩ := well_list x
    obtain ⟨h2, hs⟩ := argL KX ar hu ho
    exact .lst hs (dw_all KX ar ds _ hall p h2)
  | .tuple ds, _, x, p, hu => by
    obtain ⟨a, vs, rfl, ho, hall⟩ := well_tuple x
    obtain ⟨h2, hs⟩ := argT KX ar hu ho
    exact .tup hs (dw_all KX ar ds _ hall p h2)
  | .float _, _, _, p, _ => Bool.noConfusion (show false = true from p)
  | .dict _, _, _, p, _ => Bool.noConfusion (show false = true from p)
  | .bytearray _, _, _, p, _ => Bool.noConfusion (show false = true from p)
  | .set _, _, _, p, _ => Bool.noConfusion (show false = true from p)
  | .frozenset _, _, _, p, _ => Bool.noConfusion (show false = true from p)
  | .obj _ _, _, _, p, _ => Bool.noConfusion (show false = true from p)
theorem dw_all {Pm : Params} (KX : K.In h) (ar : ∀ a ∈ A, ArgOb h A a) : ∀ (ds : List WData) (vs : List Value), WellAll Pm h vs ds → plWs ds = true → (∀ u ∈ vs, OkU A u) → DwAll K (argH K h A) (vs.map toV) ds
  | [], _, x, _, _ => by
    cases x
    exact .nil
  | d :: ds, _, x, p, hu => by
    obtain ⟨v, vs, rfl, x1, x2⟩ := well_cons x
    have q : plW d = true ∧ plWs ds = true := Bool.and_eq_true_iff.mp p
    exact .cons (dw_one KX ar d v x1 q.1 (hu _ (List.mem_cons_self ..))) (dw_all KX ar ds vs x2 q.2 fun u m => hu u (List.mem_cons_of_mem _ m))
end
end
/-! ### the call -/
theorem spec_call {P : Program} {w : World} {K : PySem.W.Frag} {mg mb : Str → Option Value} {CX : CXT} {k : Nat} {fa : Addr} {fd : FuncData} {ps : List Str} {sp : Sp} {s₁ : Shared} {vals : List Value} {ds : List WData} {R : PySem.W.WRecords} {cl : Str → Option Addr} {d0 : WData}
    (KX : K.In s₁.heap) (hns : s₁.heap.Ns mainGlobals mg) (hb : s₁.heap.Ns builtinsNs mb) (hbb : ∀ x : Str, x ≠ "__name__" → mb x = bootBuiltins x) (hlim : s₁.heap.NoLimit) (hg : s₁.gens = #[])
    (hwl : WellAll w.params s₁.heap vals ds) (hpl : plWs ds = true) (hwt : ∀ d ∈ ds, d.weight ≤ 1048576) (hr : Room k callerA)
    (F : ∀ base : Heap, K.In base → base.Ns mainGlobals mg → FnOk P w K mg base CX k fa fd ps sp) (hbind : ∀ (s : Shared) (us : List Value), us.length = ps.length → BindsTo s fd ⟨us, []⟩ (ps.zip us)) (hlen : ds.length = ps.length)
    (hsp : ∀ (H : Hp) (xs : List V), OnlyF H → DwAll K H xs ds → sp xs H (fun v H' => Dw K H' v d0) fun _ _ _ => False)
    (hCX : ∀ H e s', CX [] H s₁ (fun _ _ _ => False) e s' → False) :
    codeAny (model P w) callerA (.call (.ref fa) ⟨vals, []⟩) (fun r s' => ∃ u as, r = .ok (.ret u) ∧ ReadsW R cl s'.heap u d0 as ∧ OldK s₁.heap s'.heap ∧ s'.os = s₁.os ∧ AllBare s'.gens) s₁ := by
  obtain ⟨A, ho, ar⟩ := area_all ds vals hwl hpl hwt
  have hO : OnlyF (argH K s₁.heap A) := argH_only ar
  have hok : HOk P w (argH K s₁.heap A) s₁.heap := argH_ok ar
  have hS := dw_all KX ar ds vals hwl hpl ho
  have hV := vals_toV ho
  have hK : ∀ b u, argH K s₁.heap A b = some u → K.lookup b = none := fun b u q => (argH_is ar q).1
  have noA : ∀ {b : Addr} {o : Obj} {es : Array DictEntry} {ep : Nat}, s₁.heap.get? b = some o → o.data = .dict es ep → argH K s₁.heap A b = none := fun {b o es ep} e d => by
    cases q : argH K s₁.heap A b with
    | none => rfl
    | some u =>
      obtain ⟨_, vs, _, _, ⟨e2, _⟩ | ⟨e2, _⟩⟩ := argH_is ar q
      · rw [e2] at e
        cases e
        have d' : Data.seq vs.toArray _ = Data.dict es ep := d
        cases d'
      · rw [e2] at e
        cases e
        have d' : Data.seq vs.toArray _ = Data.dict es ep := d
        cases d'
  generalize argH K s₁.heap A = H at hO hok hS hK noA
  have base_of : ∀ {b : Addr} {o : Obj}, s₁.heap.get? b = some o → H b = none → (hidT s₁.heap H).get? b = some o := fun e n => hidT_get e n
  have nsK : ∀ {b : Addr} {m : Str → Option Value}, s₁.heap.Ns b m → (hidT s₁.heap H).Ns b m := fun {b m} ⟨o, es, ep, e, d, r⟩ => ⟨o, es, ep, base_of e (noA e d), d, r⟩
  have nK : ∀ b o, K.lookup b = some o → H b = none := fun b o e => by
    cases q : H b with
    | none => rfl
    | some u =>
      rw [hK b u q] at e
      cases e
  have hKb : K.In (hidT s₁.heap H) := fun b o e => base_of (KX b o e) (nK b o e)
  have hM : Mod K mg (hidT s₁.heap H) := ⟨hKb, nsK hns, ⟨mb, nsK hb, hbb⟩, let ⟨mc, h1, h2⟩ := hlim; ⟨mc, nsK h1, h2⟩⟩
  have e0 : Env0 P w K mg (hidT s₁.heap H) callerA [] s₁ H := ⟨rfl, hM, fun b o e => of_hidT e, Nat.le_of_eq (hidT_size _ _), trivial, fun b hb => absurd (show b ∈ ([] : List Addr) from hb) (by simp), hok, .of_eq hg⟩
  have hl : vals.length = ps.length := by rw [wellAll_len hwl]; exact hlen
  refine codeAny_mono ((F _ hKb (nsK hns)).run callerA [] s₁ H ⟨vals, []⟩ vals (vals.map toV) _ _ hr e0 (hbind s₁ vals hl) hV (hsp H _ hO hS)) fun r s' x => ?_
  cases r with
  | error e => exact (hCX H e s' x).elim
  | ok fl =>
    cases fl with
    | next => exact False.elim x
    | brk => exact False.elim x
    | cont => exact False.elim x
    | ret u =>
      obtain ⟨v, H', os, bare, un, hok', r', q⟩ := x
      have kept : ∀ b o, s₁.heap.get? b = some o → s'.heap.get? b = some o := fun b o e => by
        cases q2 : H b with
        | none => exact un.keep b o e q2 (by intro z; exact absurd (show b ∈ ([] : List Addr) from z) (by simp)) (by simp)
        | some u2 =>
          rcases hO b with z | ⟨ob, u3, z⟩
          · rw [q2] at z
            cases z
          · have z2 := un.frzs b ob _ z
            obtain ⟨e1, _⟩ := hok b _ z
            obtain ⟨e2, _⟩ := hok' b _ z2
            rw [e] at e1
            cases e1
            exact e2
      have KX' : K.In s'.heap := fun b o e => kept b o (KX b o e)
      obtain ⟨as, hrd⟩ := Dw.reads (R := R) (cl := cl) hok' KX' d0 v u q r'
      exact ⟨u, as, rfl, hrd, OldK.of_keep kept, os, bare⟩
/-! ### the row -/
theorem layable_weight {ds : List WData} (h : WData.layableAll ds = true) : ∀ d ∈ ds, d.weight ≤ 1048576 := fun d hd =>
  (PySem.W.layableW_iff.mp (List.all_eq_true.mp h d hd)).2.2
theorem encAll_len : ∀ (cs : List Codec) (a : Codec.denoteAll cs), (Codec.encAll cs a).length = cs.length
  | [], _ => rfl
  | c :: cs, a => by
    show (Codec.encAll cs a.2).length + 1 = cs.length + 1
    rw [encAll_len cs a.2]
/-- the goal that k_headS leaves (case hc), from the promise of the row's def: whatever the arguments that the codecs let and the row asks for, the def gives what stands for enc (f ..) -/
theorem walk_spec {r : OpenSpec} {k : Nat} {q : Program} {loose : List Str} {XP : (Str → Option Value) → Heap → Prop} {YP : World → Heap → Prop} {d : DefRec} {K : Params → PySem.W.Frag} {CX : World → CXT} {ps : List Str} {sp : World → Sp}
    (hwell : r.wellSaid = true) (hdf : d.params.defaults = []) (hlen : r.args.length = ps.length) (hr : Room k callerA)
    (hY : ∀ (w : World) (h : Heap), YP w h → (K w.params).In h)
    (F : ∀ (w : World) (mg : Str → Option Value) (fa : Addr) (h : Heap), YP w h → (K w.params).In h → h.Ns mainGlobals mg → mg d.name = some (.ref fa) →
      ∃ fd : FuncData, (∀ (s : Shared) (us : List Value), us.length = ps.length → BindsTo s fd ⟨us, []⟩ (ps.zip us)) ∧
        ∀ base : Heap, (K w.params).In base → base.Ns mainGlobals mg → FnOk r.prog w (K w.params) mg base (CX w) k fa fd ps (sp w))
    (hsp : ∀ (w : World) (H : Hp) (xs : List V) (a : Codec.denoteAll r.args), OnlyF H → Codec.withinAll r.args a = true → Codec.app r.args r.asked a = true → DwAll (K w.params) H xs (Codec.encAll r.args a) →
      sp w xs H (fun v H' => Dw (K w.params) H' v (r.ret.enc (Codec.app r.args r.f a))) fun _ _ _ => False)
    (hCX : ∀ (w : World) (H : Hp) (s : Shared) (e : Value) (s' : Shared), CX w [] H s (fun _ _ _ => False) e s' → False) :
    PySem.W.WalkOS q loose XP YP r d [] (fun f vs => PySem.call f vs) := by
  intro w s_0 s₁ mg mb G Y fa o pm cd doc dV kV ho hd hcd hD hmg hg args vals as hpre hlay hrd hwl hlo
  obtain ⟨a, e1, e2⟩ := PySem.W.os_pre_some hpre
  obtain ⟨e3, hwi⟩ := Codec.encAll_of_decAll r.args args a e1
  subst e3
  have KX := hY w _ Y
  obtain ⟨fd, hb, hF⟩ := F w mg fa _ Y KX G.T.g hmg
  refine PySem.W.enter_call (codeAny_mono (spec_call (R := []) (cl := classAt s_0.heap) (d0 := r.ret.enc (Codec.app r.args r.f a)) KX G.T.g G.T.b G.T.builtins G.T.nolimit hg hwl (pl_encAll _ _) (layable_weight hlay) hr hF hb (by rw [encAll_len]; exact hlen)
    (fun H xs hO hS => hsp w H xs a hO hwi e2 hS) fun H e s' => hCX w H s₁ e s') fun r' s' hq => ?_)
  obtain ⟨u, as', rfl, h1, h2, h3, h4⟩ := hq
  exact ⟨.inl ⟨u, _, as', rfl, fun _ => rfl, h1, (OpenSpec.post_iff hwell hwi _ _).mpr rfl, fun z => Bool.noConfusion (show false = true from z)⟩, h2, h3, h4⟩
/-- the same where the promise hangs on the written part alone -/
theorem walk_specK {r : OpenSpec} {k : Nat} {q : Program} {loose : List Str} {XP : (Str → Option Value) → Heap → Prop} {YP : World → Heap → Prop} {d : DefRec} {K : Params → PySem.W.Frag} {CX : CXT} {ps : List Str} {sp : PySem.W.Frag → Sp}
    (hwell : r.wellSaid = true) (hdf : d.params.defaults = []) (hlen : r.args.length = ps.length) (hr : Room k callerA)
    (hY : ∀ (w : World) (h : Heap), YP w h → (K w.params).In h)
    (F : ∀ (w : World) (mg : Str → Option Value) (fa : Addr) (h : Heap), YP w h → (K w.params).In h → h.Ns mainGlobals mg → mg d.name = some (.ref fa) →
      ∃ fd : FuncData, (∀ (s : Shared) (us : List Value), us.length = ps.length → BindsTo s fd ⟨us, []⟩ (ps.zip us)) ∧
        ∀ base : Heap, (K w.params).In base → base.Ns mainGlobals mg → FnOk r.prog w (K w.params) mg base CX k fa fd ps (sp (K w.params)))
    (hsp : ∀ (K : PySem.W.Frag) (H : Hp) (xs : List V) (a : Codec.denoteAll r.args), OnlyF H → Codec.withinAll r.args a = true → Codec.app r.args r.asked a = true → DwAll K H xs (Codec.encAll r.args a) →
      sp K xs H (fun v H' => Dw K H' v (r.ret.enc (Codec.app r.args r.f a))) fun _ _ _ => False)
    (hCX : ∀ (H : Hp) (s : Shared) (e : Value) (s' : Shared), CX [] H s (fun _ _ _ => False) e s' → False) :
    PySem.W.WalkOS q loose XP YP r d [] (fun f vs => PySem.call f vs) :=
  walk_spec (K := K) (CX := fun _ => CX) (sp := fun w => sp (K w.params)) hwell hdf hlen hr hY F (fun w H xs a h1 h2 h3 h4 => hsp (K w.params) H xs a h1 h2 h3 h4) fun _ H s e s' => hCX H s e s'
end L2
-- rests on (row put in by the clerk, for the bench that shows a file only what it spells): KE.SpHead KE.OsShapes
end

set_option Elab.async false
set_option linter.all false
set_option maxRecDepth 100000
namespace L3
open PySem PySem.Spec PyProof.Rows L2

/-! ### rows of whole numbers -/
def vN (l : List Nat) : List V := l.map fun n : Nat => V.int (n : Int)
theorem vN_len (l : List Nat) : (vN l).length = l.length := List.length_map _
theorem vN_app (l m : List Nat) : vN (l ++ m) = vN l ++ vN m := List.map_append
theorem vN_get {l : List Nat} {i : Nat} {v : V} (h : (vN l)[i]? = some v) : ∃ n, l[i]? = some n ∧ v = V.int (n : Int) := by
  unfold vN at h
  rw [List.getElem?_map] at h
  cases e : l[i]? with
  | none => rw [e] at h; cases h
  | some n => rw [e] at h; exact ⟨n, rfl, (Option.some.inj h).symm⟩
theorem vN_at {l : List Nat} {i n : Nat} (h : l[i]? = some n) : (vN l)[i]? = some (V.int (n : Int)) := by
  unfold vN
  rw [List.getElem?_map, h]
  rfl
theorem vN_inj : ∀ {l m : List Nat}, vN l = vN m → l = m
  | [], [], _ => rfl
  | [], _ :: _, h => by cases h
  | _ :: _, [], h => by cases h
  | a :: l, b :: m, h => by
    have h1 := (List.cons.inj h).1
    have h2 := vN_inj (List.cons.inj h).2
    have h3 : (a : Int) = b := V.int.inj h1
    rw [h2, Int.ofNat.inj h3]
theorem vN_ints (l : List Nat) : vN l = (l.map fun n : Nat => (n : Int)).map V.int := by
  unfold vN
  rw [List.map_map]
  rfl
theorem vN_flat (l : List Nat) : (vN l).all flatV = true := by
  unfold vN
  rw [List.all_map]
  exact List.all_eq_true.mpr fun _ _ => rfl
theorem inV_vN (n : Nat) (l : List Nat) : inV (.int (n : Int)) (vN l) = l.contains n := by
  unfold inV vN
  rw [List.any_map, List.contains_eq_any_beq]
  congr 1
  funext x
  show ((x : Int) == (n : Int)) = (n == x)
  by_cases h : x = n
  · subst h; simp
  · have h1 : ¬ (x : Int) = n := fun e => h (Int.ofNat.inj e)
    rw [beq_eq_false_iff_ne.mpr h1, beq_eq_false_iff_ne.mpr (Ne.symm h)]

/-- the rows that stand at these addresses -/
def RowsAt (H : Hp) : List Addr → List (List Nat) → Prop
  | [], [] => True
  | a :: as, l :: ls => H a = some (.lst (vN l)) ∧ RowsAt H as ls
  | [], _ :: _ => False
  | _ :: _, [] => False
theorem RowsAt.len {H : Hp} : ∀ {as : List Addr} {ls : List (List Nat)}, RowsAt H as ls → as.length = ls.length
  | [], [], _ => rfl
  | _ :: _, _ :: _, h => by rw [List.length_cons, List.length_cons, RowsAt.len h.2]
  | [], _ :: _, h => h.elim
  | _ :: _, [], h => h.elim
theorem RowsAt.mono {H H' : Hp} : ∀ {as : List Addr} {ls : List (List Nat)}, RowsAt H as ls → (∀ a ∈ as, ∀ o, H a = some o → H' a = some o) → RowsAt H' as ls
  | [], [], _, _ => trivial
  | a :: as, _ :: _, h, k => ⟨k a (List.mem_cons_self ..) _ h.1, RowsAt.mono h.2 fun b hb => k b (List.mem_cons_of_mem _ hb)⟩
  | [], _ :: _, h, _ => h.elim
  | _ :: _, [], h, _ => h.elim
theorem RowsAt.same {H H' : Hp} {as : List Addr} {ls : List (List Nat)} (h : RowsAt H as ls) (s : Same H H') : RowsAt H' as ls := h.mono fun a _ o e => s a o e
theorem RowsAt.get {H : Hp} : ∀ {as : List Addr} {ls : List (List Nat)} {i : Nat} {a : Addr}, RowsAt H as ls → as[i]? = some a → ∃ l, ls[i]? = some l ∧ H a = some (.lst (vN l))
  | [], _, _, _, _, e => by simp at e
  | _ :: _, [], _, _, h, _ => h.elim
  | a :: as, l :: ls, 0, b, h, e => by
    have e : a = b := Option.some.inj e
    subst e
    exact ⟨l, rfl, h.1⟩
  | a :: as, l :: ls, i + 1, b, h, e => RowsAt.get (as := as) (ls := ls) (i := i) h.2 e
theorem RowsAt.get' {H : Hp} {as : List Addr} {ls : List (List Nat)} {i : Nat} {l : List Nat} (h : RowsAt H as ls) (e : ls[i]? = some l) : ∃ a, as[i]? = some a ∧ H a = some (.lst (vN l)) := by
  have hi : i < as.length := by rw [h.len]; exact (List.getElem?_eq_some_iff.mp e).1
  obtain ⟨l', e', hl⟩ := h.get (List.getElem?_eq_getElem hi)
  rw [e] at e'
  cases e'
  exact ⟨_, List.getElem?_eq_getElem hi, hl⟩
theorem RowsAt.mem {H : Hp} : ∀ {as : List Addr} {ls : List (List Nat)} {a : Addr}, RowsAt H as ls → a ∈ as → ∃ l ∈ ls, H a = some (.lst (vN l))
  | [], _, _, _, e => by cases e
  | _ :: _, [], _, h, _ => h.elim
  | a :: as, l :: ls, b, h, e => by
    rcases List.mem_cons.mp e with rfl | e
    · exact ⟨l, List.mem_cons_self .., h.1⟩
    · obtain ⟨l', m, q⟩ := RowsAt.mem h.2 e
      exact ⟨l', List.mem_cons_of_mem _ m, q⟩
theorem RowsAt.app {H : Hp} : ∀ {as bs : List Addr} {ls ms : List (List Nat)}, RowsAt H as ls → RowsAt H bs ms → RowsAt H (as ++ bs) (ls ++ ms)
  | [], _, [], _, _, h => h
  | _ :: _, _, _ :: _, _, h, k => ⟨h.1, RowsAt.app h.2 k⟩
  | [], _, _ :: _, _, h, _ => h.elim
  | _ :: _, _, [], _, h, _ => h.elim
theorem RowsAt.set {H : Hp} {a : Addr} {l : List Nat} (e : H a = some (.lst (vN l))) : ∀ {as : List Addr} {ls : List (List Nat)} (i : Nat), RowsAt H as ls → RowsAt H (as.set i a) (ls.set i l)
  | [], [], _, _ => trivial
  | _ :: _, _ :: _, 0, h => ⟨e, h.2⟩
  | _ :: _, _ :: _, i + 1, h => ⟨h.1, RowsAt.set e i h.2⟩
  | [], _ :: _, _, h => h.elim
  | _ :: _, [], _, h => h.elim
/-- a list of rows never lies among its own rows -/
theorem RowsAt.notMem {H : Hp} {as : List Addr} {ls : List (List Nat)} {p : Addr} (h : RowsAt H as ls) (e : H p = some (.lst (as.map V.ref))) : p ∉ as := fun m => by
  obtain ⟨l, _, q⟩ := h.mem m
  rw [e] at q
  have q := HO.lst.inj (Option.some.inj q)
  cases as with
  | nil => cases m
  | cons a as =>
    cases l with
    | nil => cases q
    | cons n l => exact V.noConfusion (List.cons.inj q).1
/-- a list of rows -/
def LL (H : Hp) (p : Addr) (ls : List (List Nat)) : Prop := ∃ as, H p = some (.lst (as.map V.ref)) ∧ RowsAt H as ls
theorem LL.same {H H' : Hp} {p : Addr} {ls : List (List Nat)} (h : LL H p ls) (s : Same H H') : LL H' p ls := by
  obtain ⟨as, e, r⟩ := h
  exact ⟨as, s _ _ e, r.same s⟩
/-! ### in: a row among rows -/
def intOf : Value → Int
  | .int i _ => i
  | _ => 0
def rowOf (h : Heap) (u : Value) : Option (List Int) := match u with
  | .ref a => (h.get? a).map fun o => match o.data with
    | .seq its _ => its.toList.map intOf
    | _ => []
  | _ => none
def dN (l : List Nat) : PyData := .list (l.map fun n : Nat => PyData.int (n : Int))
theorem dp_vN {K : PySem.W.Frag} {H : Hp} : ∀ (l : List Nat), DpAll K H (vN l) (l.map fun n : Nat => PyData.int (n : Int))
  | [] => .nil
  | n :: l => .cons (.int _) (dp_vN l)
theorem dp_row {K : PySem.W.Frag} {H : Hp} {a : Addr} {l : List Nat} (h : SqL K H a (vN l)) : Dp K H (.ref a) (dN l) := .lst h (dp_vN l)
theorem eqv_all : ∀ (l m : List Nat), PyData.eqvAll (l.map fun n : Nat => PyData.int (n : Int)) (m.map fun n : Nat => PyData.int (n : Int)) = (l == m)
  | [], [] => rfl
  | [], _ :: _ => rfl
  | _ :: _, [] => rfl
  | a :: l, b :: m => by
    show (PyData.eqv (.int a) (.int b) && PyData.eqvAll _ _) = ((a == b) && (l == m))
    rw [eqv_all l m]
    congr 1
    show ((a : Int) == (b : Int)) = (a == b)
    by_cases h : a = b
    · subst h; simp
    · rw [beq_eq_false_iff_ne.mpr h]
      exact beq_eq_false_iff_ne.mpr fun e => h (Int.ofNat.inj e)
theorem eqv_dN (l m : List Nat) : PyData.eqv (dN l) (dN m) = (l == m) := eqv_all l m
theorem canLay_all : ∀ (l : List Nat), PyData.canLayAll0 (l.map fun n : Nat => PyData.int (n : Int)) = true
  | [] => rfl
  | n :: l => by
    show ((PyData.int (n : Int)).canLay0 && PyData.canLayAll0 _) = true
    rw [canLay_all l]
    rfl
theorem depth_all : ∀ (l : List Nat), PyData.depthAll (l.map fun n : Nat => PyData.int (n : Int)) ≤ 1
  | [] => by decide
  | n :: l => by
    show max ((PyData.int (n : Int)).depth) (PyData.depthAll _) ≤ 1
    exact Nat.max_le.mpr ⟨by show 0 ≤ 1; decide, depth_all l⟩

section
variable {X : Cx} {pins : List (Addr × Obj)} {σ : L2.St} {H : Hp} {s : Shared}
theorem vals_intOf : ∀ {l : List Nat} {us : List Value}, Vals (vN l) us → us.map intOf = l.map fun n : Nat => (n : Int)
  | [], _, r => by cases r; rfl
  | n :: l, _, r => by
    cases r with
    | cons r1 r2 =>
      obtain ⟨t, rfl⟩ := r1
      show (n : Int) :: _ = (n : Int) :: _
      rw [vals_intOf r2]
theorem rowOf_at {a : Addr} {l : List Nat} (I : Inv X pins σ H s) (h : SqL X.K H a (vN l)) : rowOf s.heap (.ref a) = some (l.map fun n : Nat => (n : Int)) := by
  obtain ⟨its, r, ⟨o, n, ho, hc, hd, hq⟩, _⟩ := I.list h
  show (s.heap.get? a).map _ = _
  rw [ho]
  show some (match o.data with | .seq its _ => its.toList.map intOf | _ => []) = _
  rw [hq]
  show some (its.toArray.toList.map intOf) = _
  rw [List.toList_toArray, vals_intOf r]
theorem map_int_inj : ∀ {l m : List Nat}, (l.map fun n : Nat => (n : Int)) = (m.map fun n : Nat => (n : Int)) → l = m
  | [], [], _ => rfl
  | [], _ :: _, h => by cases h
  | _ :: _, [], h => by cases h
  | a :: l, b :: m, h => by
    have h1 := (List.cons.inj h).1
    have h2 := map_int_inj (List.cons.inj h).2
    rw [h2, Int.ofNat.inj h1]
def isRowU (h : Heap) (l : List Nat) (u : Value) : Bool := rowOf h u == some (l.map fun n : Nat => (n : Int))
theorem isRowU_at {a : Addr} {l m : List Nat} (I : Inv X pins σ H s) (h : SqL X.K H a (vN m)) : isRowU s.heap l (.ref a) = (m == l) := by
  unfold isRowU
  rw [rowOf_at I h]
  by_cases e : m = l
  · subst e; simp
  · rw [beq_eq_false_iff_ne.mpr e]
    exact beq_eq_false_iff_ne.mpr fun q => e (map_int_inj (Option.some.inj q))
theorem eqAt_rows {A : Around} {a b : Addr} {l m : List Nat} (I : Inv X pins σ H s) (ha : SqL X.K H a (vN m)) (hb : SqL X.K H b (vN l)) (hu : A.units + 2 < cLine) : SeqAt.EqAt A s (.ref a) (.ref b) (m == l) := by
  obtain ⟨as, r1⟩ := Dp.reads I (dN m) (.ref a) (.ref a) (dp_row ha) rfl
  obtain ⟨bs, r2⟩ := Dp.reads I (dN l) (.ref b) (.ref b) (dp_row hb) rfl
  have q := SeqAt.eqAt_reads (dN m) (dN l) A s (.ref a) (.ref b) as bs r1 r2 (canLay_all m) (canLay_all l) (by
    have d1 : (dN m).depth ≤ 2 := Nat.succ_le_succ (depth_all m)
    have d2 : min (dN m).depth (dN l).depth ≤ 2 := Nat.le_trans (Nat.min_le_left _ _) d1
    omega)
  rw [eqv_dN] at q
  exact q
theorem rows_any {l : List Nat} (I : Inv X pins σ H s) : ∀ {as : List Addr} {ls : List (List Nat)} {us : List Value}, RowsAt H as ls → Vals (as.map V.ref) us → us.any (isRowU s.heap l) = ls.contains l
  | [], [], _, _, r => by cases r; rfl
  | [], _ :: _, _, h, _ => h.elim
  | _ :: _, [], _, h, _ => h.elim
  | a :: as, m :: ls, _, h, r => by
    cases r with
    | cons r1 r2 =>
      cases r1
      rw [List.any_cons, isRowU_at I (SqL.of h.1), rows_any I h.2 r2, List.contains_cons]
      congr 1
      by_cases e : m = l
      · subst e; rfl
      · rw [beq_eq_false_iff_ne.mpr e]
        exact (beq_eq_false_iff_ne.mpr (Ne.symm e)).symm
theorem rows_eqAt {A : Around} {b : Addr} {l : List Nat} (I : Inv X pins σ H s) (hb : SqL X.K H b (vN l)) (hu : A.units + 2 < cLine) : ∀ {as : List Addr} {ls : List (List Nat)} {us : List Value}, RowsAt H as ls → Vals (as.map V.ref) us →
    ∀ u ∈ us, SeqAt.EqAt A s u (.ref b) (isRowU s.heap l u)
  | [], [], _, _, r => by cases r; exact fun u m => by cases m
  | [], _ :: _, _, h, _ => h.elim
  | _ :: _, [], _, h, _ => h.elim
  | a :: as, m :: ls, _, h, r => by
    cases r with
    | cons r1 r2 =>
      cases r1
      intro u hm
      rcases List.mem_cons.mp hm with rfl | hm
      · rw [isRowU_at I (SqL.of h.1)]
        exact eqAt_rows I (SqL.of h.1) hb hu
      · exact rows_eqAt I hb hu h.2 r2 u hm
end
section
variable {X : Cx}
/-- a row among rows -/
def rInR (K : PySem.W.Frag) (neg : Bool) : R2 := fun x y H Q => ∃ b p l as ls, x = .ref b ∧ y = .ref p ∧ SqL K H b (vN l) ∧ SqL K H p (as.map V.ref) ∧ RowsAt H as ls ∧ Q (.bl (if neg then !ls.contains l else ls.contains l)) H
theorem in1_units {A : Around} : A.in1.units = A.units + 1 := rfl
theorem op_in_rows (hu : X.A.units + 4 < cLine) : OpR X (compareOp .In) (rInR X.K false) := by
  intro pins s σ H x y v u Q I rx ry h
  obtain ⟨b, p, l, as, ls, rfl, rfl, hb, hp, hr, q⟩ := h
  cases ry
  cases rx
  obtain ⟨its, r, pl, hz⟩ := I.list hp
  refine SeqAt.in_listAt (isRowU s.heap l) pl.isList (fun w hw => rows_eqAt I hb (by rw [in1_units]; omega) hr r w (by simpa using hw)) ⟨.bl _, H, I, rfl, ?_⟩
  rw [show its.toArray.any (isRowU s.heap l) = its.any (isRowU s.heap l) by simp, rows_any I hr r]
  exact q
theorem op_notIn_rows (hu : X.A.units + 4 < cLine) : OpR X (compareOp .NotIn) (rInR X.K true) := by
  intro pins s σ H x y v u Q I rx ry h
  obtain ⟨b, p, l, as, ls, rfl, rfl, hb, hp, hr, q⟩ := h
  cases ry
  cases rx
  obtain ⟨its, r, pl, hz⟩ := I.list hp
  refine SeqAt.notIn_listAt (isRowU s.heap l) pl.isList (fun w hw => rows_eqAt I hb (by rw [in1_units]; omega) hr r w (by simpa using hw)) ⟨.bl _, H, I, rfl, ?_⟩
  rw [show its.toArray.any (isRowU s.heap l) = its.any (isRowU s.heap l) by simp, rows_any I hr r]
  exact q

/-! ### len(set(row)) -/
theorem foldl_dedup_range (ns : List Int) : PyProof.Rows.firstMet (fun i => ns.getD i 0) ns.length = ns.foldl PyProof.Rows.step_dedup [] := by
  unfold PyProof.Rows.firstMet
  congr 1
  apply List.ext_getElem
  · rw [List.length_map, List.length_range]
  · intro i h1 h2
    rw [List.getElem_map, List.getElem_range]
    simp [List.getD, h2]
/-- set(row): its members, as many as there are unlike -/
theorem call_set_row (hc : X.calm = true) : CallR X (.type "set") (fun xs H Q => ∃ (a : Addr) (ns : List Int), xs = [.ref a] ∧ SqL X.K H a (ns.map V.int) ∧ ns.length + 1 < scanBound ∧
    ∀ (S : Int → Bool) l, H l = none → Q (.ref l) (upd H l (.set S (ns.foldl PyProof.Rows.step_dedup []).length))) := by
  intro pins s σ H xs us Q I r h
  obtain ⟨a, ns, rfl, hs, hb, q⟩ := h
  obtain ⟨its, rv, hl, _⟩ := I.list hs
  rw [Vals.ref1 r]
  have hi := intsAre_of rv
  have hlen : its.length = ns.length := by rw [← rv.length, List.length_map]
  refine call_set_list (I.ok.hd hc) hl.isList (by simpa using hi) (by rw [List.size_toArray, hlen]; exact hb) fun h' tk hS hk => ?_
  have es : its.toArray.size = ns.length := by rw [List.size_toArray, hlen]
  rw [es, foldl_dedup_range] at hS
  exact ⟨.ref s.heap.objs.size, _, I.laid (t' := tk) (h' := h') (o := .set (fun k' => (ns.foldl PyProof.Rows.step_dedup []).any (· == k')) (ns.foldl PyProof.Rows.step_dedup []).length) (fun b u e => hk b u (Heap.lt_size e) e) (Nat.le_refl _) hS, rfl, q _ _ (I.hok.fresh (Nat.le_refl _))⟩
theorem call_len_setO : CallR X (.builtin "len") (fun xs H Q => ∃ p S n, xs = [.ref p] ∧ H p = some (.set S n) ∧ Q (.int n) H) := by
  intro pins s σ H xs us Q I r h
  obtain ⟨p, S, n, rfl, hs, q⟩ := h
  rw [Vals.ref1 r]
  obtain ⟨o, es, ep, t, ho, hex, hd, _, _, hsz, hf, rfl⟩ := I.hok p _ hs
  have hfit : (es.size : Int) < 2 ^ 63 := by
    have : es.size < 4096 := hsz
    omega
  exact call_len_set ho hex hd hf hfit ⟨.int _, H, I.tok _, ⟨_, rfl⟩, q⟩
/-! ### zfill -/
theorem mt_zfill : MtR X "str.zfill" (fun x xs H Q => ∃ a i, x = .str a ∧ xs = [.int i] ∧ PadOk i = true ∧ Q (.str (Txt.zfill a i)) H) := by
  intro pins s σ H x xs v us Q I rx rs h
  obtain ⟨a, i, rfl, rfl, hp, h⟩ := h
  obtain ⟨t, rfl⟩ := rx
  cases rs with
  | cons r1 rs =>
    cases rs
    obtain ⟨u, rfl⟩ := r1
    exact PySem.SC.zfill hp fun t' k => ⟨.str _, H, I.tok k, ⟨t', rfl⟩, h⟩
end

/-! ### a comprehension whose items are plain values -/
theorem Same.new {H : Hp} {D : Addr} {o : HO} (h : H D = none) : Same H (upd H D o) := fun b u e => by
  rw [upd_ne (ne_of_none e h)]
  exact e
theorem Same.put {H1 H : Hp} {D : Addr} {o : HO} (hD : H1 D = none) (s : Same H1 H) : Same H1 (upd H D o) := fun b u e => by
  rw [upd_ne (ne_of_none e hD)]
  exact s b u e
theorem lc_list_by {K : PySem.W.Frag} {a : Addr} {xs : List V} {g : TG} {tt : TT} {te : TE} {vs : List Nat} {σ : L2.St} {H1 : Hp} {D : Addr} {Qd : Hp → Prop} (ys : Nat → List V) (hD : H1 D = none) (hS : SqL K H1 a xs) (h0 : ys 0 = [])
    (hlen : ∀ i, i < xs.length → (ys i).length < sizeLine)
    (hs : ∀ i x H, xs[i]? = some x → Same H1 H → H D = some (.lst (ys i)) → g x (wipe σ vs) H fun σ2 H2 => wipe σ2 vs = wipe σ vs ∧ tt σ2 H2 fun b H3 =>
      if b = true then te σ2 H3 fun y H4 => Same H H4 ∧ ys (i + 1) = ys i ++ [y] else Same H H3 ∧ ys (i + 1) = ys i) (hd : ∀ H, Same H1 H → H D = some (.lst (ys xs.length)) → Qd H)
    (mg : ∀ x σ H (Q Q' : L2.St → Hp → Prop), (∀ σ H, Q σ H → Q' σ H) → g x σ H Q → g x σ H Q' := by intro x σ H Q Q' f h; exact f _ _ h)
    (mt : ∀ σ H (Q Q' : Bool → Hp → Prop), (∀ b H, Q b H → Q' b H) → tt σ H Q → tt σ H Q' := by intro σ H Q Q' f h; exact f _ _ h)
    (me : ∀ σ H (Q Q' : VK), (∀ v H, Q v H → Q' v H) → te σ H Q → te σ H Q') :
    ∃ W : Nat → Nat → Hp → Prop, (∃ m, W 0 m (upd H1 D (.lst []))) ∧ ∀ i m H, W i m H →
      ((Itl K a).stop i H ∧ Qd H) ∨ ((Itl K a).go i H ∧ ∃ Nx : Hp → Prop, (∀ H', Nx H' → ∃ m', m' < m ∧ W (i + 1) m' H') ∧ ∀ x H', (Itl K a).yld i H x H' → g x (wipe σ vs) H' fun σ2 H2 => wipe σ2 vs = wipe σ vs ∧ tt σ2 H2 fun b H3 =>
        if b = true then te σ2 H3 fun y H4 => ∃ acc, H4 D = some (.lst acc) ∧ acc.length < sizeLine ∧ Nx (upd H4 D (.lst (acc ++ [y]))) else Nx H3) := by
  refine lc_list (Pv := fun i H => Same H1 H ∧ H D = some (.lst (ys i))) ⟨Same.new hD, by rw [upd_same, h0]⟩ (fun i H _ p => p.1.seq hS) (fun i x H hx p => ?_) fun H p => hd H p.1 p.2
  refine mg _ _ _ _ _ (fun σ2 H2 q => ⟨q.1, mt _ _ _ _ (fun b H3 q => ?_) q.2⟩) (hs i x H hx p.1 p.2)
  cases b with
  | true =>
    rw [if_pos rfl] at q ⊢
    refine me _ _ _ _ (fun y H4 q => ?_) q
    have hi : i < xs.length := (List.getElem?_eq_some_iff.mp hx).1
    exact ⟨ys i, q.1 _ _ p.2, hlen i hi, Same.put hD (p.1.trans q.1), by rw [upd_same, q.2]⟩
  | false =>
    rw [if_neg (by decide)] at q ⊢
    exact ⟨p.1.trans q.1, by rw [q.2]; exact q.1 _ _ p.2⟩
theorem take_snoc {α : Type} : ∀ {l : List α} {i : Nat} {x : α}, l[i]? = some x → l.take (i + 1) = l.take i ++ [x]
  | [], i, x, h => by simp at h
  | a :: l, 0, x, h => by
    have e : a = x := Option.some.inj h
    subst e
    rfl
  | a :: l, i + 1, x, h => by
    have ih := take_snoc (l := l) (i := i) (x := x) h
    show a :: l.take (i + 1) = a :: l.take i ++ [x]
    rw [ih]
    rfl
theorem yes_if {σ : L2.St} {H : Hp} {f g : Hp → Prop} (h : f H) : tYes σ H (fun b H3 => if b = true then f H3 else g H3) := by
  show if true = true then f H else g H
  rw [if_pos rfl]
  exact h
/-- over a text -/
theorem lc_str_by {x : Str} {g : TG} {tt : TT} {te : TE} {vs : List Nat} {σ : L2.St} {H1 : Hp} {D : Addr} {Qd : Hp → Prop} (ys : Nat → List V) (hD : H1 D = none) (h0 : ys 0 = [])
    (hlen : ∀ i, i < x.cps.size → (ys i).length < sizeLine)
    (hs : ∀ i c H, x.cps[i]? = some c → Same H1 H → H D = some (.lst (ys i)) → g (.str ⟨#[c]⟩) (wipe σ vs) H fun σ2 H2 => wipe σ2 vs = wipe σ vs ∧ tt σ2 H2 fun b H3 =>
      if b = true then te σ2 H3 fun y H4 => Same H H4 ∧ ys (i + 1) = ys i ++ [y] else Same H H3 ∧ ys (i + 1) = ys i) (hd : ∀ H, Same H1 H → H D = some (.lst (ys x.cps.size)) → Qd H)
    (me : ∀ σ H (Q Q' : VK), (∀ v H, Q v H → Q' v H) → te σ H Q → te σ H Q')
    (mg : ∀ x σ H (Q Q' : L2.St → Hp → Prop), (∀ σ H, Q σ H → Q' σ H) → g x σ H Q → g x σ H Q' := by intro x σ H Q Q' f h; exact f _ _ h)
    (mt : ∀ σ H (Q Q' : Bool → Hp → Prop), (∀ b H, Q b H → Q' b H) → tt σ H Q → tt σ H Q' := by intro σ H Q Q' f h; exact f _ _ h) :
    ∃ W : Nat → Nat → Hp → Prop, (∃ m, W 0 m (upd H1 D (.lst []))) ∧ ∀ i m H, W i m H →
      ((Its x).stop i H ∧ Qd H) ∨ ((Its x).go i H ∧ ∃ Nx : Hp → Prop, (∀ H', Nx H' → ∃ m', m' < m ∧ W (i + 1) m' H') ∧ ∀ y H', (Its x).yld i H y H' → g y (wipe σ vs) H' fun σ2 H2 => wipe σ2 vs = wipe σ vs ∧ tt σ2 H2 fun b H3 =>
        if b = true then te σ2 H3 fun y H4 => ∃ acc, H4 D = some (.lst acc) ∧ acc.length < sizeLine ∧ Nx (upd H4 D (.lst (acc ++ [y]))) else Nx H3) := by
  refine ⟨fun i m H => m = x.cps.size - i ∧ i ≤ x.cps.size ∧ Same H1 H ∧ H D = some (.lst (ys i)), ⟨x.cps.size, by simp, Nat.zero_le _, Same.new hD, by rw [upd_same, h0]⟩, ?_⟩
  rintro i m H ⟨rfl, hi, p1, p2⟩
  by_cases hlt : i < x.cps.size
  · refine .inr ⟨hlt, fun H' => Same H1 H' ∧ H' D = some (.lst (ys (i + 1))), fun H' p' => ⟨x.cps.size - (i + 1), by omega, rfl, hlt, p'.1, p'.2⟩, fun y H' q => ?_⟩
    obtain ⟨e, c, hc, rfl⟩ := q
    subst e
    refine mg _ _ _ _ _ (fun σ2 H2 q => ⟨q.1, mt _ _ _ _ (fun b H3 q => ?_) q.2⟩) (hs i c _ hc p1 p2)
    cases b with
    | true =>
      rw [if_pos rfl] at q ⊢
      refine me _ _ _ _ (fun y H4 q => ?_) q
      exact ⟨ys i, q.1 _ _ p2, hlen i hlt, Same.put hD (p1.trans q.1), by rw [upd_same, q.2]⟩
    | false =>
      rw [if_neg (by decide)] at q ⊢
      exact ⟨p1.trans q.1, by rw [q.2]; exact q.1 _ _ p2⟩
  · have e : i = x.cps.size := by omega
    subst e
    exact .inl ⟨Nat.le_refl _, hd H p1 p2⟩
/-! ### lists of rows that grow -/
theorem LL.push {H : Hp} {p q : Addr} {as : List Addr} {ls : List (List Nat)} {l : List Nat} (e : H p = some (.lst (as.map V.ref))) (r : RowsAt H as ls) (hq : H q = some (.lst (vN l))) (hpq : q ≠ p) :
    RowsAt (upd H p (.lst (as.map V.ref ++ [V.ref q]))) (as ++ [q]) (ls ++ [l]) := by
  have hn := r.notMem e
  refine RowsAt.app (r.mono fun a ha o ho => by rw [upd_ne (fun z : a = p => hn (by rw [← z]; exact ha))]; exact ho) ⟨by rw [upd_ne hpq]; exact hq, trivial⟩
theorem ref_get {as : List Addr} {i : Nat} {x : V} (h : (as.map V.ref)[i]? = some x) : ∃ b, as[i]? = some b ∧ x = V.ref b := by
  rw [List.getElem?_map] at h
  cases e : as[i]? with
  | none => rw [e] at h; cases h
  | some b => rw [e] at h; exact ⟨b, rfl, (Option.some.inj h).symm⟩
theorem ref_at {as : List Addr} {i : Nat} {b : Addr} (h : as[i]? = some b) : (as.map V.ref)[i]? = some (V.ref b) := by
  rw [List.getElem?_map, h]
  rfl
theorem getD_of {α : Type} {l : List α} {i : Nat} {x d : α} (h : l[i]? = some x) : l.getD i d = x := by
  rw [List.getD_eq_getElem?_getD, h]
  rfl
theorem u4 {k : Nat} {A : Around} (h : Room k A) : A.units + 4 < cLine := by
  have := h.units
  omega
/-- behind a statement with several ways out: what they have in common -/
theorem seq_cont {t u : TS} {D : Ends} {σ : L2.St} {H : Hp} (Cond : L2.St → Hp → Prop) (h : ∀ N : L2.St → Hp → Prop, (∀ σ H, Cond σ H → N σ H) → t { D with nx := N } σ H) (cont : ∀ σ H, Cond σ H → u D σ H) : tSeq t u D σ H := h (u D) cont
theorem cut_vN (l : List Nat) {i j : Nat} (h1 : i ≤ j) (h2 : j ≤ l.length) : cutV (vN l) (some (i : Int)) (some (j : Int)) = vN ((l.drop i).take (j - i)) := by
  unfold cutV
  rw [HT.sIx_nat, HT.sIx_nat, vN_len, Nat.min_eq_left h2, Nat.min_eq_left (Nat.le_trans h1 h2)]
  unfold vN
  rw [List.map_take, List.map_drop]
theorem atI_vN {l : List Nat} {i n : Nat} (h : l[i]? = some n) : atI (vN l) (i : Int) = some (V.int (n : Int)) := atI_nat (vN_at h)
end L3

set_option Elab.async false
set_option linter.all false
set_option maxRecDepth 100000
namespace L4
open PySem PySem.Spec PyProof.Rows L2 L3
/-! ### max(xs, default = d) -/
def up (a : Int) (l : List Int) : Int := l.foldl (fun a x => if a < x then x else a) a
section
variable {prog : Program} {w : World} {A : Around} {R : Result → Shared → Prop} {I : Addr} {fp wr : List Addr} {P : Nat → Value → Prop} {St : Nat → Heap → Prop} {ns : List Int}
abbrev best (x : Array Value) (c : Nat) : Obj := { cls := .type "list", dict := none, data := .seq x c, slots := #[] }
theorem gt_ints {M : Around} {s : Shared} {Q E : Value → Shared → Prop} (a b : Int) (t u : Tok) (h : Q (.bool (decide (b < a))) s) : wpAny (model prog w) M (richCompare .Gt (.int a t) (.int b u)) Q E s :=
  richCompare_gives (op := .Gt) (typeIs_int s _ t) (typeIs_int s _ u) PySem.F.slot_int_gt PySem.F.entry_int_gt (PySem.F.args_int_gt_2 _ _) (gives_int_gt _ _ t u) (fun x => nomatch x) h
theorem maxd_loop (W : Walks prog w A.in1 I fp wr ns.length P St) (hv : ∀ i v, P i v → ∃ t, v = .int (ns.getD i 0) t) (S : Addr) (hSf : S ∉ fp) (kw : List (Str × Value)) : ∀ (k j : Nat) (s : Shared) (m : Int) (t : Tok) (c : Nat), ns.length - j = k → j ≤ ns.length → St j s.heap →
    s.heap.get? S = some (best #[.int m t, .int m t] c) →
    (∀ t h' tk, (∀ b o, b ∉ wr → b ≠ S → s.heap.get? b = some o → h'.get? b = some o) → R (.ok (.ret (.int (up m (ns.drop j)) t))) { s with heap := h', toks := tk }) →
    codeAny (model prog w) A (.builtin "max.loop" ⟨[.ref I, .none, .ref S], kw⟩) R s := by
  have hSw : S ∉ wr := fun h => hSf (W.sub _ h)
  have hn : (toString "max" ++ toString ".loop" : String) = "max.loop" := by decide
  intro k; induction k with
  | zero =>
    intro j s m t c hk hj hst hS hR
    have e : j = ns.length := by omega
    subst e
    refine codeAny_builtin PySem.F.entry_max_loop ?_; rw [Around.under_plainId PySem.F.plain_max_loop _]
    show wpAny _ A.in1 (seqItems? (.ref S) >>= _) _ _ s; refine wpAny_bind (wpAny_seqItems hS rfl ?_)
    show wpAny _ A.in1 (tryCatch (pyNext (.ref I)) _ >>= _) _ _ s; refine wpAny_bind (wpAny_tryCatch (W.done s _ _ hst fun h' tk hk' => ?_))
    have hS' := hk' S _ hSw hS
    show wpAny _ A.in1 (updateSeq S (fun _ => #[]) >>= _) _ _ _; refine wpAny_bind ?_
    refine wpAny_updateSeq hS' rfl (wpAny_bind (wpAny_letGo (wpAny_pure ?_)))
    rw [List.drop_of_length_le (Nat.le_refl _)] at hR
    exact hR t _ tk fun b o hbw hbS e => (Heap.get?_update_other _ _ (Ne.symm hbS)).trans (hk' b o hbw e)
  | succ k ih =>
    intro j s m t c hk hj hst hS hR
    have hlt : j < ns.length := by omega
    refine codeAny_builtin PySem.F.entry_max_loop ?_; rw [Around.under_plainId PySem.F.plain_max_loop _]
    show wpAny _ A.in1 (seqItems? (.ref S) >>= _) _ _ s; refine wpAny_bind (wpAny_seqItems hS rfl ?_)
    show wpAny _ A.in1 (tryCatch (pyNext (.ref I)) _ >>= _) _ _ s; refine wpAny_bind (wpAny_tryCatch (W.item j s _ _ hlt hst fun v h' tk hP hst' hk' => ?_))
    obtain ⟨u, rfl⟩ := hv j v hP
    have hS' := hk' S _ hSw hS
    have hd : ns.drop j = ns.getD j 0 :: ns.drop (j + 1) := by
      rw [List.drop_eq_getElem_cons hlt, List.getD_eq_getElem?_getD, List.getElem?_eq_getElem hlt]; rfl
    rw [hd] at hR
    show wpAny _ A.in1 (tryCatch (holding [.int (ns.getD j 0) u, .int (ns.getD j 0) u] (richCompare .Gt (.int (ns.getD j 0) u) (.int m t) >>= _)) _ >>= _) _ _ _
    refine wpAny_bind (wpAny_tryCatch (wpAny_holding (wpAny_bind (gt_ints _ _ _ _ ?_))))
    refine wpAny_bind (wpAny_holding (wpAny_truthy_bool ?_)); refine wpAny_bind (wpAny_letGo (wpAny_pure ?_))
    by_cases hb : m < ns.getD j 0
    · simp only [decide_eq_true hb, if_true]
      refine wpAny_bind ?_; refine wpAny_updateSeq hS' rfl (wpAny_bind (wpAny_letGo ?_)); rw [hn]
      refine wpAny_pure ⟨plainId_quiet PySem.F.plain_max_loop _, ih (j + 1) _ (ns.getD j 0) u _ (by omega) hlt (W.frame _ _ _ hst' fun b hbf o e => ?_) (Heap.get?_update_self _ hS' rfl) fun t' h2 tk2 hk2 => ?_⟩
      · exact (Heap.get?_update_other _ _ (fun h : S = b => hSf (by rw [h]; exact hbf))).trans e
      · have q := hR t' h2 tk2 fun b o hbw hbS e => hk2 b o hbw hbS ((Heap.get?_update_other _ _ (Ne.symm hbS)).trans (hk' b o hbw e))
        unfold up at q ⊢; rw [List.foldl_cons, if_pos hb] at q; exact q
    · simp only [decide_eq_false hb, Bool.false_eq_true, if_false]
      refine wpAny_bind (wpAny_letGo ?_); rw [hn]
      refine wpAny_pure ⟨plainId_quiet PySem.F.plain_max_loop _, ih (j + 1) _ m t c (by omega) hlt hst' hS' fun t' h2 tk2 hk2 => ?_⟩
      have q := hR t' h2 tk2 fun b o hbw hbS e => hk2 b o hbw hbS (hk' b o hbw e)
      unfold up at q ⊢; rw [List.foldl_cons, if_neg hb] at q; exact q
theorem maxd_first (W : Walks prog w A.in1 I fp wr ns.length P St) (hv : ∀ i v, P i v → ∃ t, v = .int (ns.getD i 0) t) (S : Addr) (hSf : S ∉ fp) (nm : Str) (dv : Int) (dt : Tok) {s : Shared} {c : Nat} (hst : St 0 s.heap) (h0 : ∀ x ∈ ns, dv ≤ x)
    (hS : s.heap.get? S = some (best #[] c))
    (hR : ∀ t h' tk, (∀ b o, b ∉ wr → b ≠ S → s.heap.get? b = some o → h'.get? b = some o) → R (.ok (.ret (.int (up dv ns) t))) { s with heap := h', toks := tk }) :
    codeAny (model prog w) A (.builtin "max.loop" ⟨[.ref I, .none, .ref S], [(nm, .int dv dt)]⟩) R s := by
  have hSw : S ∉ wr := fun h => hSf (W.sub _ h)
  have hn : (toString "max" ++ toString ".loop" : String) = "max.loop" := by decide
  refine codeAny_builtin PySem.F.entry_max_loop ?_; rw [Around.under_plainId PySem.F.plain_max_loop _]
  show wpAny _ A.in1 (seqItems? (.ref S) >>= _) _ _ s; refine wpAny_bind (wpAny_seqItems hS rfl ?_)
  show wpAny _ A.in1 (tryCatch (pyNext (.ref I)) _ >>= _) _ _ s
  cases ns with
  | nil =>
    refine wpAny_bind (wpAny_tryCatch (W.done s _ _ hst fun h' tk hk' => ?_))
    refine wpAny_bind (wpAny_rule (wpAny_pure ?_))
    exact hR dt h' tk fun b o hbw hbS e => hk' b o hbw e
  | cons x ns =>
    refine wpAny_bind (wpAny_tryCatch (W.item 0 s _ _ (by simp) hst fun v h' tk hP hst' hk' => ?_))
    obtain ⟨u, rfl⟩ := hv 0 v hP
    have hS' := hk' S _ hSw hS
    show wpAny _ A.in1 (updateSeq S (fun _ => #[.int x u, .int x u]) >>= _) _ _ _; refine wpAny_bind ?_
    refine wpAny_updateSeq hS' rfl ?_; rw [hn]
    refine wpAny_pure ⟨plainId_quiet PySem.F.plain_max_loop _, maxd_loop W hv S hSf _ _ 1 _ x u _ rfl (by simp) (W.frame _ _ _ hst' fun b hbf o e => ?_) (Heap.get?_update_self _ hS' rfl) fun t' h2 tk2 hk2 => ?_⟩
    · exact (Heap.get?_update_other _ _ (fun h : S = b => hSf (by rw [h]; exact hbf))).trans e
    · have q := hR t' h2 tk2 fun b o hbw hbS e => hk2 b o hbw hbS ((Heap.get?_update_other _ _ (Ne.symm hbS)).trans (hk' b o hbw e))
      have hx := h0 x (List.mem_cons_self ..)
      have e : up dv (x :: ns) = up x ns := by
        unfold up
        rw [List.foldl_cons]
        by_cases hb : dv < x
        · rw [if_pos hb]
        · rw [if_neg hb, show dv = x by omega]
      rw [e] at q; exact q
end
section
variable {prog : Program} {w : World} {A : Around} {E : Value → Shared → Prop} {s : Shared} {l : Addr} {its : List Value} {ns : List Int} {Q : Value → Shared → Prop}
theorem maxd_args (a v : Value) : argsOk "max" ⟨[a], [(Str.ofString "default", v)]⟩ := by unfold argsOk; kernel_rfl
theorem maxd_raw (hh : A.handled = none) (hl : s.heap.IsList l its.toArray) (hi : IntsAre its ns) (dv : Int) (dt : Tok) (h0 : ∀ x ∈ ns, dv ≤ x)
    (h : ∀ h' tk t', (∀ b o, s.heap.get? b = some o → h'.get? b = some o) → Q (.int (up dv ns) t') { s with heap := h', toks := tk }) : wpAny (model prog w) A (call (.builtin "max") [.ref l] [(Str.ofString "default", .int dv dt)]) Q E s := by
  have hn : (toString "max" ++ toString ".loop" : String) = "max.loop" := by decide
  obtain ⟨xs, e⟩ := hi.allInts.items
  have hm : numsOf (intItems xs).toList = ns := by rw [← e]; exact hi.numsOf
  rw [nums_intItems] at hm
  subst hm
  rw [e] at hl
  refine kmk_tree PySem.F.kind_max PySem.F.plain_max PySem.F.entry_max (maxd_args _ _) ?_
  show wpAny _ A.in1 (Builtin.Builtins.bindParams "max" ["key", "default"] 0 ⟨[], [(Str.ofString "default", .int dv dt)]⟩ >>= _) _ _ s
  refine wpAny_bind (wpAny_of_eq (show Builtin.Builtins.bindParams "max" ["key", "default"] 0 ⟨[], [(Str.ofString "default", .int dv dt)]⟩ = pure [none, some (.int dv dt)] from rfl) ?_)
  refine wpAny_bind (wpAny_pure ?_)
  refine wpAny_bind (iter_intList hl fun s₂ e2 st hfp hlI => ?_)
  refine wpAny_bind (wpAny_newObj_type ?_)
  have hSf : s₂.heap.objs.size ∉ [s.heap.objs.size, l] := fun hm => Nat.lt_irrefl _ (hfp _ hm)
  have W := Walks.list (prog := prog) (w := w) (A := A.in1) hh s.heap.objs.size l hlI (intItems xs)
  rw [hn]
  subst e2
  have hlen : (intItems xs).size = (List.map (fun x => x.fst) xs.toList).length := by simp [intItems]
  rw [hlen] at W
  refine wpAny_pure ⟨plainId_quiet PySem.F.plain_max_loop _, maxd_first W (fun i v hP => ?_) _ hSf _ dv dt (W.frame _ _ _ st fun b _ o e => Heap.get?_push_of_some _ e) h0 (Heap.get?_push_size _ rfl) fun t h' tk hk => ?_⟩
  · obtain ⟨t, rfl⟩ := intItems_at hP
    exact ⟨t, by rw [numAt_eq]⟩
  · exact h h' tk t (old_kept fun b o hbw e => hk b o hbw (Nat.ne_of_lt (Heap.lt_size e)) (Heap.get?_push_of_some _ e))
end
section
variable {X : Cx}
def tMaxD (K : PySem.W.Frag) (t tk : TA) : TE := fun σ H Q => t σ H fun vs H1 => tk σ H1 fun zs H2 => ∃ (a : Addr) (ns : List Int) (d : Int), vs = [.ref a] ∧ zs = [.int d] ∧ SqL K H2 a (ns.map V.int) ∧ (∀ x ∈ ns, d ≤ x) ∧ Q (.int (up d ns)) H2
theorem pe_maxD {e d : Expr} {p pos kp : Pos} {t tk : TA} (hc : X.calm = true) (hg : Gl X "max") (hm : X.mg "max" = none) (ha : PA X [e] t) (hkw : PK X [⟨some "default", d, kp⟩] tk)
    (hv : bootBuiltins "max" = some (.builtin "max") := by decide +kernel) (he : backTo pos (starEach [e] X.env) = (false, eval e X.env) :: backTo pos (starEach [] X.env) := by rfl) (hpl : (backTo pos (starEach [e] X.env)).any (·.1) = false := by rfl) :
    PE X (.Call (.Name "max" p) [e] [⟨some "default", d, kp⟩] pos) (tMaxD X.K t tk) := by
  intro pins s σ H Q I h
  refine wpAny_Call_Name_kw (ld_blt I hg hm hv ?_ (by decide) (by decide))
  refine callWith_kw (thn (ha pos pins s σ H _ I h) fun us s1 ⟨vs, H1, I1, r, q⟩ => ?_) he hpl rfl rfl
  refine thn (hkw pos pins s1 σ H1 _ I1 q) fun ws s2 ⟨zs, H2, I2, rz, q2⟩ => ?_
  obtain ⟨a, ns, dv, rfl, rfl, hs, h0, q3⟩ := q2
  cases rz with
  | cons z1 z2 =>
    cases z2
    obtain ⟨dt, rfl⟩ := z1
    obtain ⟨its, rv, hl, _⟩ := I2.list hs
    rw [Vals.ref1 r]
    exact maxd_raw (I2.ok.hd hc) hl.isList rv.ints dv dt h0 fun h' tk t' hk => ⟨.int _, H2, I2.kept hk, ⟨_, rfl⟩, q3⟩
/-! ### list.count -/
theorem mt_countL : MtR X "list.count" (fun x xs H Q => ∃ (a : Addr) (ns : List Int) (k : Int), x = .ref a ∧ xs = [.int k] ∧ SqL X.K H a (ns.map V.int) ∧ Q (.int ((ns.count k : Nat) : Int)) H) := by
  intro pins s σ H x xs v us Q I rx rs h
  obtain ⟨a, ns, k, rfl, rfl, hs, q⟩ := h
  cases rs with
  | cons r1 rs =>
    cases rs
    obtain ⟨t, rfl⟩ := r1
    obtain ⟨its, rv, hl, _⟩ := I.list hs
    cases rx
    exact count_list_ints hl.isList rv.ints ⟨.int _, H, I.tok _, ⟨_, rfl⟩, q⟩
end
end L4

set_option Elab.async false
set_option linter.all false
set_option maxRecDepth 100000
namespace DM
open PySem
def codes (n : Nat) : List Nat := (Nat.toDigits 10 n).map Char.toNat
theorem digitChar_code : ∀ d : Nat, d < 10 → (Nat.digitChar d).toNat = 48 + d := by decide
theorem codes_lt {n : Nat} (h : n < 10) : codes n = [48 + n] := by
  unfold codes
  rw [Nat.toDigits_of_lt_base h, List.map_cons, List.map_nil, digitChar_code n h]
theorem codes_ge {n : Nat} (h : 10 ≤ n) : codes n = codes (n / 10) ++ [48 + n % 10] := by
  unfold codes
  rw [Nat.toDigits_of_base_le (by decide) h, List.map_append, List.map_cons, List.map_nil, digitChar_code (n % 10) (Nat.mod_lt _ (by decide))]
theorem codes_len {n k : Nat} (hk : 0 < k) : (codes n).length ≤ k ↔ n < 10 ^ k := by
  unfold codes
  rw [List.length_map]
  exact Nat.length_toDigits_le_iff (by decide) hk
theorem codes_pos (n : Nat) : 0 < (codes n).length := by
  unfold codes
  rw [List.length_map]
  exact Nat.length_toDigits_pos
theorem digits_zero : ∀ k : Nat, Uw70.digits k 0 = List.replicate k 0
  | 0 => rfl
  | k + 1 => by
    show Uw70.digits k (0 / 10) ++ [0 % 10] = _
    rw [Nat.zero_div, digits_zero k, List.replicate_succ']
theorem fill_codes : ∀ (k n : Nat), n < 10 ^ (k + 1) → List.replicate (k + 1 - (codes n).length) 48 ++ codes n = (Uw70.digits (k + 1) n).map (48 + ·)
  | k, n, h => by
    by_cases h9 : n < 10
    · rw [codes_lt h9]
      show List.replicate k 48 ++ [48 + n] = (Uw70.digits k (n / 10) ++ [n % 10]).map (48 + ·)
      rw [show n / 10 = 0 by omega, show n % 10 = n by omega, digits_zero, List.map_append, List.map_replicate]
      rfl
    · cases k with
      | zero => omega
      | succ k =>
        have hn : n / 10 < 10 ^ (k + 1) := by
          rw [Nat.pow_succ] at h
          omega
        rw [codes_ge (by omega), List.length_append, List.length_singleton]
        show _ = (Uw70.digits (k + 1) (n / 10) ++ [n % 10]).map (48 + ·)
        rw [List.map_append, ← fill_codes k (n / 10) hn, ← List.append_assoc, show k + 1 + 1 - ((codes (n / 10)).length + 1) = k + 1 - (codes (n / 10)).length by omega]
        rfl
theorem digits_len : ∀ (k n : Nat), (Uw70.digits k n).length = k
  | 0, _ => rfl
  | k + 1, n => by
    show (Uw70.digits k (n / 10) ++ [n % 10]).length = k + 1
    rw [List.length_append, digits_len k]
    rfl
theorem digits_le : ∀ (k n c : Nat), c ∈ Uw70.digits k n → c ≤ 9
  | 0, _, _, h => by cases h
  | k + 1, n, c, h => by
    have h : c ∈ Uw70.digits k (n / 10) ++ [n % 10] := h
    rcases List.mem_append.mp h with h | h
    · exact digits_le k _ c h
    · rw [List.mem_singleton.mp h]
      omega
theorem codes_range (n : Nat) : ∀ c ∈ codes n, 48 ≤ c ∧ c ≤ 57 := by
  induction n using Nat.strongRecOn with
  | _ n ih =>
    intro c hc
    by_cases h : n < 10
    · rw [codes_lt h] at hc
      rw [List.mem_singleton.mp hc]
      omega
    · rw [codes_ge (by omega)] at hc
      rcases List.mem_append.mp hc with hc | hc
      · exact ih (n / 10) (by omega) c hc
      · rw [List.mem_singleton.mp hc]
        omega
/-- str(n) filled up with zeros, by its codes -/
theorem zfill_codes {k n : Nat} (hk : 0 < k) (h : n < 10 ^ k) : (Txt.zfill (Str.ofString (toString ((n : Nat) : Int))) (k : Int)).cps.toList = (Uw70.digits k n).map (48 + ·) := by
  obtain ⟨k, rfl⟩ : ∃ j, k = j + 1 := ⟨k - 1, by omega⟩
  have hs : (Str.ofString (toString ((n : Nat) : Int))).cps.toList = codes n := PySem.W.KIN.signs_num n
  generalize Str.ofString (toString ((n : Nat) : Int)) = x at hs
  have hl : x.length = (codes n).length := by rw [← hs]; exact Array.length_toList.symm
  rw [← fill_codes k n h]
  unfold Txt.zfill
  by_cases hc : ((k + 1 : Nat) : Int) ≤ (x.length : Int)
  · rw [if_pos hc, show k + 1 - (codes n).length = 0 by omega, hs]
    rfl
  · rw [if_neg hc, Int.toNat_natCast, hl]
    unfold PySem.zfilled
    have hin : ∀ c, x.cps[0]? = some c → 48 ≤ c := fun c e => by
      refine (codes_range n c ?_).1
      rw [← hs]
      exact List.mem_of_getElem? (i := 0) (by simpa using e)
    split
    · rename_i e
      exact absurd (hin _ e) (by decide)
    · rename_i e
      exact absurd (hin _ e) (by decide)
    · show (Array.replicate (k + 1 - (codes n).length) 48 ++ x.cps ++ Array.replicate 0 48).toList = _
      rw [Array.toList_append, Array.toList_append, hs]
      simp
theorem sign_int {e : Nat} (h : e ≤ 9) : PySem.intText? (⟨#[48 + e]⟩ : Str) = some ((e : Nat) : Int) := by
  have r := PySem.intText_digits (x := (⟨#[48 + e]⟩ : Str)) (fun c hc => by
    have : c = 48 + e := by simpa using hc
    omega) (by simp) (by show 1 ≤ 4300; decide)
  rw [r]
  show some (((0 * 10 + (48 + e - 48) : Nat) : Nat) : Int) = _
  congr 2
  omega
end DM

set_option Elab.async false
set_option linter.all false
set_option maxRecDepth 100000
namespace DM
open Uw70
/-- the program's step: each way by one more cube -/
def longer (cubes : List (List Nat)) (c : Nat) (ws : List (List Nat)) : List (List Nat) :=
  ws.flatMap fun w => ((List.range cubes.length).filter fun i => !w.contains i && (cubes.getD i []).contains c).map fun i => w ++ [i]
/-- one way by one more of the first j cubes -/
def inner (cubes : List (List Nat)) (c : Nat) (w : List Nat) (j : Nat) : List (List Nat) := ((List.range j).filter fun i => !w.contains i && (cubes.getD i []).contains c).map fun i => w ++ [i]
theorem inner_yes {cubes : List (List Nat)} {c : Nat} {w : List Nat} {j : Nat} (h : (!w.contains j && (cubes.getD j []).contains c) = true) : inner cubes c w (j + 1) = inner cubes c w j ++ [w ++ [j]] := by
  unfold inner
  rw [List.range_succ, List.filter_append, List.map_append, List.filter_cons, if_pos h]
  rfl
theorem inner_no {cubes : List (List Nat)} {c : Nat} {w : List Nat} {j : Nat} (h : (!w.contains j && (cubes.getD j []).contains c) = false) : inner cubes c w (j + 1) = inner cubes c w j := by
  unfold inner
  rw [List.range_succ, List.filter_append, List.map_append, List.filter_cons, if_neg (by rw [h]; decide), List.filter_nil, List.map_nil, List.append_nil]
theorem longer_snoc (cubes : List (List Nat)) (c : Nat) (ws : List (List Nat)) (w : List Nat) : longer cubes c (ws ++ [w]) = longer cubes c ws ++ inner cubes c w cubes.length := by
  unfold longer
  rw [List.flatMap_append, List.flatMap_cons, List.flatMap_nil, List.append_nil]
  rfl
theorem longer_le (cubes : List (List Nat)) (c : Nat) {ws : List (List Nat)} {i j : Nat} {w : List Nat} (h : ws[i]? = some w) (hj : j ≤ cubes.length) : (longer cubes c (ws.take i)).length + (inner cubes c w j).length ≤ (longer cubes c ws).length := by
  have e : longer cubes c ws = longer cubes c (ws.take (i + 1)) ++ longer cubes c (ws.drop (i + 1)) := by
    unfold longer
    rw [← List.flatMap_append, List.take_append_drop]
  rw [e, L3.take_snoc h, longer_snoc, List.length_append, List.length_append]
  have : (inner cubes c w j).length ≤ (inner cubes c w cubes.length).length := by
    obtain ⟨k, hk⟩ : ∃ k, cubes.length = j + k := ⟨cubes.length - j, by omega⟩
    rw [hk]
    clear hk hj
    induction k with
    | zero => exact Nat.le_refl _
    | succ k ih =>
      refine Nat.le_trans ih ?_
      rw [← Nat.add_assoc]
      cases h : (!w.contains (j + k) && (cubes.getD (j + k) []).contains c) with
      | true => rw [inner_yes h, List.length_append]; omega
      | false => rw [inner_no h]; exact Nat.le_refl _
  omega
def freeOf (n : Nat) (w : List Nat) : List Nat := (List.range n).filter fun i => !w.contains i
theorem freeOf_snoc (n : Nat) (w : List Nat) (i : Nat) : freeOf n (w ++ [i]) = (freeOf n w).filter fun j => j != i := by
  unfold freeOf
  rw [List.filter_filter]
  congr 1
  funext j
  rw [List.contains_eq_any_beq, List.contains_eq_any_beq, List.any_append]
  show (!(_ || ((j == i) || false))) = ((j != i) && _)
  rw [Bool.or_false, Bool.not_or, Bool.and_comm]
  rfl
theorem longer_all (cubes : List (List Nat)) : ∀ (r : List Nat) (ws : List (List Nat)), r.foldl (fun a c => longer cubes c a) ws = ws.flatMap fun w => (shows cubes (freeOf cubes.length w) r).map fun v => w ++ v
  | [], ws => by
    show ws = ws.flatMap fun w => [w ++ []]
    induction ws with
    | nil => rfl
    | cons w ws ih => rw [List.flatMap_cons, ← ih, List.append_nil]; rfl
  | c :: r, ws => by
    rw [List.foldl_cons, longer_all cubes r]
    unfold longer
    rw [List.flatMap_assoc]
    congr 1
    funext w
    show _ = (((freeOf cubes.length w).filter fun i => (cubes.getD i []).contains c).flatMap fun i => (shows cubes ((freeOf cubes.length w).filter fun j => j != i) r).map fun v => i :: v).map fun v => w ++ v
    rw [List.map_flatMap, List.flatMap_map]
    have e : (List.range cubes.length).filter (fun i => !w.contains i && (cubes.getD i []).contains c) = (freeOf cubes.length w).filter fun i => (cubes.getD i []).contains c := by
      unfold freeOf
      rw [List.filter_filter]
      congr 1
      funext i
      exact Bool.and_comm _ _
    rw [e]
    congr 1
    funext i
    rw [freeOf_snoc, List.map_map]
    congr 1
    funext v
    show (w ++ [i]) ++ v = w ++ (i :: v)
    rw [List.append_assoc]
    rfl
theorem longer_ways (cubes : List (List Nat)) (r : List Nat) : r.foldl (fun a c => longer cubes c a) [[]] = ways cubes r := by
  rw [longer_all, List.flatMap_cons, List.flatMap_nil, List.append_nil]
  unfold ways
  have e : freeOf cubes.length [] = List.range cubes.length := by
    unfold freeOf
    exact List.filter_eq_self.mpr fun _ _ => rfl
  rw [e]
  show (shows cubes (List.range cubes.length) r).map (fun v => v) = _
  exact List.map_id' _
theorem snoc_ind {α : Type} {P : List α → Prop} (h0 : P []) (hs : ∀ l x, P l → P (l ++ [x])) (l : List α) : P l := by
  have h : ∀ m : List α, P m.reverse := fun m => by
    induction m with
    | nil => exact h0
    | cons x m ih =>
      rw [List.reverse_cons]
      exact hs _ x ih
  have := h l.reverse
  rwa [List.reverse_reverse] at this
/-- alike ones left out, one by one -/
theorem eraseDups_snoc {α : Type} [BEq α] [LawfulBEq α] (l : List α) (x : α) : (l ++ [x]).eraseDups = if l.contains x = true then l.eraseDups else l.eraseDups ++ [x] := by
  rw [List.eraseDups_append]
  unfold List.removeAll
  rw [List.filter_cons]
  by_cases h : l.contains x = true
  · have h' : List.elem x l = true := h
    rw [if_pos h, h']
    simp
  · have h' : List.elem x l = false := by simpa using h
    rw [if_neg h, h', List.filter_nil]
    rfl
theorem contains_dups {α : Type} [BEq α] [LawfulBEq α] (l : List α) (x : α) : l.eraseDups.contains x = l.contains x := by
  rw [Bool.eq_iff_iff, List.contains_iff_mem, List.contains_iff_mem, List.mem_eraseDups]
/-- the set's count -/
theorem dedup_map (l : List Nat) : (l.map fun n : Nat => (n : Int)).foldl PyProof.Rows.step_dedup [] = l.eraseDups.map fun n : Nat => (n : Int) := by
  induction l using snoc_ind with
  | h0 => rfl
  | hs l x ih =>
    rw [List.map_append, List.foldl_append, ih, eraseDups_snoc]
    show PyProof.Rows.step_dedup _ (x : Int) = _
    unfold PyProof.Rows.step_dedup
    have e : (l.eraseDups.map fun n : Nat => (n : Int)).any (fun k => k == (x : Int)) = l.contains x := by
      rw [← contains_dups, List.any_map, List.contains_eq_any_beq]
      congr 1
      funext y
      show ((y : Int) == (x : Int)) = (x == y)
      by_cases h : y = x
      · subst h; simp
      · rw [beq_eq_false_iff_ne.mpr (Ne.symm h)]
        exact beq_eq_false_iff_ne.mpr fun q => h (Int.ofNat.inj q)
    rw [e]
    by_cases h : l.contains x = true
    · rw [if_pos h, if_pos h]
    · rw [if_neg h, if_neg h, List.map_append]
      rfl
theorem dedup_len (l : List Nat) : ((l.map fun n : Nat => (n : Int)).foldl PyProof.Rows.step_dedup []).length = l.eraseDups.length := by
  rw [dedup_map, List.length_map]
theorem dups_le {α : Type} [BEq α] [LawfulBEq α] (l : List α) : l.eraseDups.length ≤ l.length := by
  induction l using snoc_ind with
  | h0 => exact Nat.le_refl _
  | hs l x ih =>
    rw [eraseDups_snoc, List.length_append, List.length_singleton]
    by_cases h : l.contains x = true
    · rw [if_pos h]; omega
    · rw [if_neg h, List.length_append, List.length_singleton]; omega
def fold (cubes : List (List Nat)) (r : List Nat) : List (List Nat) := r.foldl (fun a c => longer cubes c a) [[]]
theorem fold_snoc (cubes : List (List Nat)) (r : List Nat) (c : Nat) : fold cubes (r ++ [c]) = longer cubes c (fold cubes r) := by
  unfold fold
  rw [List.foldl_append]
  rfl
theorem inner_len (cubes : List (List Nat)) (c : Nat) (w : List Nat) (j : Nat) : (inner cubes c w j).length ≤ j := by
  unfold inner
  rw [List.length_map]
  exact Nat.le_trans (List.length_filter_le _ _) (by rw [List.length_range]; exact Nat.le_refl _)
theorem longer_len (cubes : List (List Nat)) (c : Nat) (ws : List (List Nat)) : (longer cubes c ws).length ≤ ws.length * cubes.length := by
  induction ws with
  | nil => simp [longer]
  | cons w ws ih =>
    have e : longer cubes c (w :: ws) = inner cubes c w cubes.length ++ longer cubes c ws := rfl
    have := inner_len cubes c w cubes.length
    rw [e, List.length_append, List.length_cons, Nat.add_mul, Nat.one_mul]
    omega
theorem longer_mem {cubes : List (List Nat)} {c n : Nat} {ws : List (List Nat)} (h : ∀ w ∈ ws, w.length = n) : ∀ w ∈ longer cubes c ws, w.length = n + 1 := by
  intro w hw
  unfold longer at hw
  obtain ⟨v, hv, hw⟩ := List.mem_flatMap.mp hw
  obtain ⟨i, _, rfl⟩ := List.mem_map.mp hw
  rw [List.length_append, h v hv]
  rfl
theorem fold_mem (cubes : List (List Nat)) (r : List Nat) : ∀ w ∈ fold cubes r, w.length = r.length := by
  induction r using snoc_ind with
  | h0 =>
    intro w hw
    have : w = [] := by simpa [fold] using hw
    rw [this]
  | hs r c ih =>
    rw [fold_snoc, List.length_append]
    exact longer_mem ih
theorem fold_len {cubes : List (List Nat)} (h : cubes.length ≤ 4) (r : List Nat) : (fold cubes r).length ≤ 4 ^ r.length := by
  induction r using snoc_ind with
  | h0 => exact Nat.le_refl 1
  | hs r c ih =>
    rw [fold_snoc, List.length_append]
    refine Nat.le_trans (longer_len _ _ _) ?_
    show _ ≤ 4 ^ (r.length + 1)
    rw [Nat.pow_succ]
    exact Nat.mul_le_mul ih h
end DM

set_option Elab.async false
set_option linter.all false
set_option maxRecDepth 100000
namespace DM
abbrev iN (l : List Nat) : List Int := l.map fun n : Nat => (n : Int)
/-- the call that stands first, and how many numbers it takes -/
def view : List Nat → Option (Uw70.Call × Nat)
  | 0 :: n :: f :: t :: _ => some (.begins n f t, 4)
  | 1 :: m :: r => if m ≤ r.length then some (.want (r.take m), m + 2) else none
  | 2 :: a :: b :: _ => some (.wants a b, 3)
  | 3 :: i :: m :: r => if m ≤ r.length then some (.mark i (r.take m), m + 3) else none
  | 4 :: m :: r => if m ≤ r.length then some (.show_ (r.take m), m + 2) else none
  | 5 :: _ => some (.missing, 1)
  | 6 :: _ => some (.idle, 1)
  | 7 :: _ => some (.need, 1)
  | 8 :: _ => some (.ways, 1)
  | 9 :: _ => some (.fewest, 1)
  | _ => none
theorem iN_take (l : List Nat) (n : Nat) : (iN l).take n = iN (l.take n) := List.map_take.symm
theorem iN_drop (l : List Nat) (n : Nat) : (iN l).drop n = iN (l.drop n) := List.map_drop.symm
theorem row_iN {m : Nat} {r : List Nat} {x s : List Int} (h : PyFlat.row (iN (m :: r)) = some (x, s)) : m ≤ r.length ∧ x = iN (r.take m) ∧ s = iN (r.drop m) := by
  have h : (if 0 ≤ (m : Int) ∧ (m : Int).toNat ≤ (iN r).length then some ((iN r).take (m : Int).toNat, (iN r).drop (m : Int).toNat) else none) = some (x, s) := h
  rw [Int.toNat_natCast] at h
  by_cases k : 0 ≤ (m : Int) ∧ m ≤ (iN r).length
  · rw [if_pos k] at h
    obtain ⟨e1, e2⟩ := Prod.mk.inj (Option.some.inj h)
    rw [iN_take] at e1
    rw [iN_drop] at e2
    exact ⟨by have := k.2; rwa [List.length_map] at this, e1.symm, e2.symm⟩
  · rw [if_neg k] at h
    cases h
theorem row_nil {x s : List Int} (h : PyFlat.row (iN []) = some (x, s)) : False := by cases h
theorem rows0 {l : List Int} {xs : List (List Int)} {t : List Int} (h : PyFlat.rows 0 l = some (xs, t)) : xs = [] ∧ t = l := by
  have h : some (([] : List (List Int)), l) = some (xs, t) := h
  obtain ⟨e1, e2⟩ := Prod.mk.inj (Option.some.inj h)
  exact ⟨e1.symm, e2.symm⟩
theorem rows1 {r : List Nat} {xs : List (List Int)} {t : List Int} (h : PyFlat.rows 1 (iN r) = some (xs, t)) : ∃ m r', r = m :: r' ∧ m ≤ r'.length ∧ xs = [iN (r'.take m)] ∧ t = iN (r'.drop m) := by
  have h : (match PyFlat.row (iN r) with
    | none => none
    | some (x, s) => match PyFlat.rows 0 s with
      | none => none
      | some (ys, t) => some (x :: ys, t)) = some (xs, t) := h
  cases r with
  | nil => cases h
  | cons m r =>
    cases e : PyFlat.row (iN (m :: r)) with
    | none => rw [e] at h; cases h
    | some q =>
      obtain ⟨x, s⟩ := q
      rw [e] at h
      obtain ⟨h1, h2, h3⟩ := row_iN e
      have h : some ([x], s) = some (xs, t) := h
      obtain ⟨e1, e2⟩ := Prod.mk.inj (Option.some.inj h)
      exact ⟨m, r, rfl, h1, by rw [← e1, h2], by rw [← e2, h3]⟩
theorem all_nat {l : List Nat} (h : ∀ x ∈ l, x < 2 ^ 32) : (iN l).all Uw70Neutral.nat = true := by
  rw [List.all_eq_true]
  intro z hz
  obtain ⟨n, hn, rfl⟩ := List.mem_map.mp hz
  unfold Uw70Neutral.nat
  rw [decide_eq_true (by omega), decide_eq_true (by have := h n hn; omega)]
  rfl
theorem toNat_iN (l : List Nat) : (iN l).map Int.toNat = l := by
  unfold iN
  rw [List.map_map]
  show l.map (fun n : Nat => ((n : Int)).toNat) = l
  simp
theorem step_of {l : List Nat} {c : Uw70.Call} (h : ∀ x ∈ l, x < 2 ^ 32) (e : Uw70Neutral.callIn l = some c) (d : Uw70.Desk) : Uw70Neutral.step d (iN l) = Uw70.step d c := by
  have : Uw70Neutral.callOf (iN l) = some c := by
    unfold Uw70Neutral.callOf
    rw [all_nat h, if_neg (by decide), toNat_iN, e]
  unfold Uw70Neutral.step
  rw [this]
  rfl
theorem call_view {rest : List Nat} {c : List (List Int)} {t : List Int} (hb : ∀ x ∈ rest, x < 2 ^ 32) (h : PyFlat.call PyUw70.shape (iN rest) = some (c, t)) :
    ∃ call len, view rest = some (call, len) ∧ 1 ≤ len ∧ len ≤ rest.length ∧ t = iN (rest.drop len) ∧ ∀ d, Uw70Neutral.step d ((PyUw70.whole c).headD []) = Uw70.step d call := by
  cases rest with
  | nil => cases h
  | cons p r =>
    have h : (match PyUw70.shape (p : Int) with
      | none => none
      | some (n, k) => if (iN r).length < n then none else match PyFlat.rows k ((iN r).drop n) with
        | none => none
        | some (xs, t) => some (((p : Int) :: (iN r).take n) :: xs, t)) = some (c, t) := h
    have hp : p = 0 ∨ p = 1 ∨ p = 2 ∨ p = 3 ∨ p = 4 ∨ p = 5 ∨ p = 6 ∨ p = 7 ∨ p = 8 ∨ p = 9 ∨ 10 ≤ p := by omega
    have fin : ∀ {n k : Nat}, PyUw70.shape (p : Int) = some (n, k) → n ≤ r.length ∧ ∃ xs t', PyFlat.rows k (iN (r.drop n)) = some (xs, t') ∧ c = ((p : Int) :: iN (r.take n)) :: xs ∧ t = t' := by
      intro n k e
      rw [e] at h
      have h : (if (iN r).length < n then none else match PyFlat.rows k ((iN r).drop n) with
        | none => none
        | some (xs, t) => some (((p : Int) :: (iN r).take n) :: xs, t)) = some (c, t) := h
      by_cases hl : (iN r).length < n
      · rw [if_pos hl] at h; cases h
      · rw [if_neg hl, iN_drop, iN_take] at h
        rw [List.length_map] at hl
        refine ⟨by omega, ?_⟩
        cases e2 : PyFlat.rows k (iN (r.drop n)) with
        | none => rw [e2] at h; cases h
        | some q =>
          obtain ⟨xs, t'⟩ := q
          rw [e2] at h
          obtain ⟨e3, e4⟩ := Prod.mk.inj (Option.some.inj h)
          exact ⟨xs, t', rfl, e3.symm, e4.symm⟩
    rcases hp with rfl | rfl | rfl | rfl | rfl | rfl | rfl | rfl | rfl | rfl | hp
    · obtain ⟨hl, xs, t', e, rfl, rfl⟩ := fin (n := 3) (k := 0) rfl
      obtain ⟨rfl, rfl⟩ := rows0 e
      match r, hl with
      | a :: b :: f :: r, _ => exact ⟨_, 4, rfl, by decide, by simp, rfl, fun d => step_of (l := [0, a, b, f]) (fun x hx => hb x (by simp at hx ⊢; rcases hx with h | h | h | h <;> simp [h])) rfl d⟩
    · obtain ⟨hl, xs, t', e, rfl, rfl⟩ := fin (n := 0) (k := 1) rfl
      obtain ⟨m, r', rfl, hm, rfl, rfl⟩ := rows1 (r := r) e
      refine ⟨_, m + 2, if_pos hm, by omega, by simp; omega, rfl, fun d => step_of (l := 1 :: r'.take m) (fun x hx => hb x ?_) rfl d⟩
      rcases List.mem_cons.mp hx with rfl | hx
      · simp
      · simp [List.mem_of_mem_take hx]
    · obtain ⟨hl, xs, t', e, rfl, rfl⟩ := fin (n := 2) (k := 0) rfl
      obtain ⟨rfl, rfl⟩ := rows0 e
      match r, hl with
      | a :: b :: r, _ => exact ⟨_, 3, rfl, by decide, by simp, rfl, fun d => step_of (l := [2, a, b]) (fun x hx => hb x (by simp at hx ⊢; rcases hx with h | h | h <;> simp [h])) rfl d⟩
    · obtain ⟨hl, xs, t', e, rfl, rfl⟩ := fin (n := 1) (k := 1) rfl
      match r, hl with
      | i :: r, _ =>
        obtain ⟨m, r', hr, hm, rfl, rfl⟩ := rows1 (r := r) e
        subst hr
        refine ⟨_, m + 3, if_pos hm, by omega, by simp; omega, rfl, fun d => step_of (l := 3 :: i :: r'.take m) (fun x hx => hb x ?_) rfl d⟩
        rcases List.mem_cons.mp hx with rfl | hx
        · simp
        rcases List.mem_cons.mp hx with rfl | hx
        · simp
        · simp [List.mem_of_mem_take hx]
    · obtain ⟨hl, xs, t', e, rfl, rfl⟩ := fin (n := 0) (k := 1) rfl
      obtain ⟨m, r', rfl, hm, rfl, rfl⟩ := rows1 (r := r) e
      refine ⟨_, m + 2, if_pos hm, by omega, by simp; omega, rfl, fun d => step_of (l := 4 :: r'.take m) (fun x hx => hb x ?_) rfl d⟩
      rcases List.mem_cons.mp hx with rfl | hx
      · simp
      · simp [List.mem_of_mem_take hx]
    · obtain ⟨hl, xs, t', e, rfl, rfl⟩ := fin (n := 0) (k := 0) rfl
      obtain ⟨rfl, rfl⟩ := rows0 e
      exact ⟨_, 1, rfl, by decide, by simp, rfl, fun d => step_of (l := [5]) (fun x hx => by rw [List.mem_singleton.mp hx]; decide) rfl d⟩
    · obtain ⟨hl, xs, t', e, rfl, rfl⟩ := fin (n := 0) (k := 0) rfl
      obtain ⟨rfl, rfl⟩ := rows0 e
      exact ⟨_, 1, rfl, by decide, by simp, rfl, fun d => step_of (l := [6]) (fun x hx => by rw [List.mem_singleton.mp hx]; decide) rfl d⟩
    · obtain ⟨hl, xs, t', e, rfl, rfl⟩ := fin (n := 0) (k := 0) rfl
      obtain ⟨rfl, rfl⟩ := rows0 e
      exact ⟨_, 1, rfl, by decide, by simp, rfl, fun d => step_of (l := [7]) (fun x hx => by rw [List.mem_singleton.mp hx]; decide) rfl d⟩
    · obtain ⟨hl, xs, t', e, rfl, rfl⟩ := fin (n := 0) (k := 0) rfl
      obtain ⟨rfl, rfl⟩ := rows0 e
      exact ⟨_, 1, rfl, by decide, by simp, rfl, fun d => step_of (l := [8]) (fun x hx => by rw [List.mem_singleton.mp hx]; decide) rfl d⟩
    · obtain ⟨hl, xs, t', e, rfl, rfl⟩ := fin (n := 0) (k := 0) rfl
      obtain ⟨rfl, rfl⟩ := rows0 e
      exact ⟨_, 1, rfl, by decide, by simp, rfl, fun d => step_of (l := [9]) (fun x hx => by rw [List.mem_singleton.mp hx]; decide) rfl d⟩
    · have : PyUw70.shape (p : Int) = none := by
        unfold PyUw70.shape
        rw [if_neg (by omega), if_neg (by omega), if_neg (by omega), if_neg (by omega), if_neg (by omega), if_neg (by omega), if_neg (by omega), if_neg (by omega), if_neg (by omega), if_neg (by omega)]
      rw [this] at h
      cases h
/-- between two calls: pos numbers are taken, the desk is d, told is what was answered -/
def Mid (ns : List Nat) (pos : Nat) (d : Uw70.Desk) (told : List Int) : Prop := pos ≤ ns.length ∧ ∃ fuel raw, PyFlat.calls PyUw70.shape fuel (iN (ns.drop pos)) = some raw ∧
  PyUw70.answers (iN ns) = told ++ PyFlat.told (PyFlat.played (fun s c => Uw70Neutral.step s (c.headD [])) d (raw.map PyUw70.whole))
theorem Mid.start {ns : List Nat} (h : PyUw70.answers_asked (iN ns) = true) : Mid ns 0 Uw70.init [] := by
  refine ⟨Nat.zero_le _, ?_⟩
  unfold PyUw70.answers_asked at h
  cases e : PyFlat.calls PyUw70.shape (iN ns).length (iN ns) with
  | none => rw [e] at h; cases h
  | some raw =>
    refine ⟨(iN ns).length, raw, e, ?_⟩
    unfold PyUw70.answers PyUw70.calls
    rw [e]
    rfl
theorem Mid.turn {ns : List Nat} {pos : Nat} {d : Uw70.Desk} {told : List Int} (hb : ∀ x ∈ ns, x < 2 ^ 32) (M : Mid ns pos d told) (hp : pos < ns.length) :
    ∃ call len, view (ns.drop pos) = some (call, len) ∧ 1 ≤ len ∧ pos + len ≤ ns.length ∧ Mid ns (pos + len) (Uw70.step d call).1 (told ++ ((Uw70.step d call).2.length : Int) :: (Uw70.step d call).2) := by
  obtain ⟨_, fuel, raw, e, ea⟩ := M
  cases hr : ns.drop pos with
  | nil =>
    have : (ns.drop pos).length = 0 := by rw [hr]; rfl
    rw [List.length_drop] at this
    omega
  | cons p r =>
    rw [hr] at e
    cases fuel with
    | zero => cases e
    | succ fuel =>
      have e : (match PyFlat.call PyUw70.shape (iN (p :: r)) with
        | none => none
        | some (c, t) => match PyFlat.calls PyUw70.shape fuel t with
          | none => none
          | some cs => some (c :: cs)) = some raw := e
      cases ec : PyFlat.call PyUw70.shape (iN (p :: r)) with
      | none => rw [ec] at e; cases e
      | some q =>
        obtain ⟨c, t⟩ := q
        rw [ec] at e
        have e : (match PyFlat.calls PyUw70.shape fuel t with
          | none => none
          | some cs => some (c :: cs)) = some raw := e
        obtain ⟨call, len, hv, h1, h2, ht, hs⟩ := call_view (fun x hx => hb x (by rw [← hr] at hx; exact List.mem_of_mem_drop hx)) ec
        subst ht
        have h2' : pos + len ≤ ns.length := by
          rw [← hr, List.length_drop] at h2
          omega
        cases et : PyFlat.calls PyUw70.shape fuel (iN ((p :: r).drop len)) with
        | none => rw [et] at e; cases e
        | some cs =>
          rw [et] at e
          obtain rfl := Option.some.inj e
          refine ⟨call, len, hv, h1, h2', h2', fuel, cs, ?_, ?_⟩
          · rw [← et, ← hr, List.drop_drop]
          · rw [ea, List.map_cons]
            show told ++ PyFlat.told ((Uw70Neutral.step d ((PyUw70.whole c).headD [])).2 :: PyFlat.played _ (Uw70Neutral.step d ((PyUw70.whole c).headD [])).1 (cs.map PyUw70.whole)) = _
            rw [hs d]
            unfold PyFlat.told
            rw [List.flatMap_cons, List.append_assoc]
theorem Mid.done {ns : List Nat} {pos : Nat} {d : Uw70.Desk} {told : List Int} (M : Mid ns pos d told) (hp : ns.length ≤ pos) : PyUw70.answers (iN ns) = told := by
  obtain ⟨_, fuel, raw, e, ea⟩ := M
  rw [List.drop_of_length_le hp] at e
  have : raw = [] := by
    cases fuel <;> exact (Option.some.inj e).symm
  rw [ea, this]
  exact List.append_nil _
theorem Mid.len {ns : List Nat} {pos : Nat} {d : Uw70.Desk} {told : List Int} (M : Mid ns pos d told) : told.length ≤ (PyUw70.answers (iN ns)).length := by
  obtain ⟨_, fuel, raw, e, ea⟩ := M
  rw [ea, List.length_append]
  omega
theorem asked_short {ns : List Nat} (h : PyUw70.answers_asked (iN ns) = true) : (PyUw70.answers (iN ns)).length ≤ 10000000 := by
  unfold PyUw70.answers_asked at h
  cases e : PyFlat.calls PyUw70.shape (iN ns).length (iN ns) with
  | none => rw [e] at h; cases h
  | some raw =>
    rw [e] at h
    have h := (Bool.and_eq_true_iff.mp h).2
    exact of_decide_eq_true h
/-! the call by its number, its whole numbers and its row -/
def wn : List Nat := [3, 0, 2, 1, 0, 0, 0, 0, 0, 0]
def hr : List Bool := [false, true, false, true, true, false, false, false, false, false]
def callBy : Nat → List Nat → List Nat → Option Uw70.Call
  | 0, [n, f, t], _ => some (.begins n f t)
  | 1, [], r => some (.want r)
  | 2, [a, b], _ => some (.wants a b)
  | 3, [i], r => some (.mark i r)
  | 4, [], r => some (.show_ r)
  | 5, [], _ => some .missing
  | 6, [], _ => some .idle
  | 7, [], _ => some .need
  | 8, [], _ => some .ways
  | 9, [], _ => some .fewest
  | _, _, _ => none
theorem view_parts {rest : List Nat} {call : Uw70.Call} {len : Nat} (h : view rest = some (call, len)) : ∃ c r n b, rest = c :: r ∧ wn[c]? = some n ∧ hr[c]? = some b ∧ n ≤ r.length ∧
    (b = false → len = 1 + n ∧ callBy c (r.take n) [] = some call) ∧ (b = true → ∃ m, r[n]? = some m ∧ len = n + 2 + m ∧ n + 1 + m ≤ r.length ∧ callBy c (r.take n) ((r.drop (n + 1)).take m) = some call) := by
  unfold view at h
  split at h
  · obtain ⟨rfl, rfl⟩ := Prod.mk.inj (Option.some.inj h)
    exact ⟨0, _, 3, false, rfl, rfl, rfl, by simp, fun _ => ⟨rfl, rfl⟩, fun e => by cases e⟩
  · rename_i m r
    by_cases hm : m ≤ r.length
    · rw [if_pos hm] at h
      obtain ⟨rfl, rfl⟩ := Prod.mk.inj (Option.some.inj h)
      exact ⟨1, _, 0, true, rfl, rfl, rfl, by simp, (fun e => by cases e), fun _ => ⟨m, rfl, by omega, by simp; omega, rfl⟩⟩
    · rw [if_neg hm] at h; cases h
  · obtain ⟨rfl, rfl⟩ := Prod.mk.inj (Option.some.inj h)
    exact ⟨2, _, 2, false, rfl, rfl, rfl, by simp, fun _ => ⟨rfl, rfl⟩, fun e => by cases e⟩
  · rename_i i m r
    by_cases hm : m ≤ r.length
    · rw [if_pos hm] at h
      obtain ⟨rfl, rfl⟩ := Prod.mk.inj (Option.some.inj h)
      exact ⟨3, _, 1, true, rfl, rfl, rfl, by simp, (fun e => by cases e), fun _ => ⟨m, rfl, by omega, by simp; omega, rfl⟩⟩
    · rw [if_neg hm] at h; cases h
  · rename_i m r
    by_cases hm : m ≤ r.length
    · rw [if_pos hm] at h
      obtain ⟨rfl, rfl⟩ := Prod.mk.inj (Option.some.inj h)
      exact ⟨4, _, 0, true, rfl, rfl, rfl, by simp, (fun e => by cases e), fun _ => ⟨m, rfl, by omega, by simp; omega, rfl⟩⟩
    · rw [if_neg hm] at h; cases h
  · obtain ⟨rfl, rfl⟩ := Prod.mk.inj (Option.some.inj h)
    exact ⟨5, _, 0, false, rfl, rfl, rfl, by simp, fun _ => ⟨rfl, rfl⟩, fun e => by cases e⟩
  · obtain ⟨rfl, rfl⟩ := Prod.mk.inj (Option.some.inj h)
    exact ⟨6, _, 0, false, rfl, rfl, rfl, by simp, fun _ => ⟨rfl, rfl⟩, fun e => by cases e⟩
  · obtain ⟨rfl, rfl⟩ := Prod.mk.inj (Option.some.inj h)
    exact ⟨7, _, 0, false, rfl, rfl, rfl, by simp, fun _ => ⟨rfl, rfl⟩, fun e => by cases e⟩
  · obtain ⟨rfl, rfl⟩ := Prod.mk.inj (Option.some.inj h)
    exact ⟨8, _, 0, false, rfl, rfl, rfl, by simp, fun _ => ⟨rfl, rfl⟩, fun e => by cases e⟩
  · obtain ⟨rfl, rfl⟩ := Prod.mk.inj (Option.some.inj h)
    exact ⟨9, _, 0, false, rfl, rfl, rfl, by simp, fun _ => ⟨rfl, rfl⟩, fun e => by cases e⟩
  · cases h
end DM

set_option Elab.async false
set_option linter.all false
set_option maxRecDepth 100000
set_option maxHeartbeats 2000000
namespace DC
open PySem PySem.Spec PyProof.Rows L2 L3
def top (i : Nat) : Stmt := PySem.Challenge.pw_datecubes_s01_answers.main.body.getD i (.Pass ⟨0, 0, 0, 0⟩)
abbrev sAllDigits : Stmt := top 23
abbrev sReadDigit : Stmt := top 24
abbrev sDigitsOf : Stmt := top 25
abbrev sLonger : Stmt := top 26
abbrev sWays : Stmt := top 27
abbrev sIsShown : Stmt := top 28
abbrev sShownRows : Stmt := top 29
abbrev sWithout : Stmt := top 30
abbrev sMostIn : Stmt := top 31
abbrev sDigitsIn : Stmt := top 32
abbrev sLongerCh : Stmt := top 33
abbrev sChoicesFor : Stmt := top 34
abbrev sCountM : Stmt := top 35
abbrev sRowsWith : Stmt := top 36
abbrev sRowsBy : Stmt := top 37
abbrev sOneMore : Stmt := top 38
abbrev sLongerM : Stmt := top 39
abbrev sGoodM : Stmt := top 40
abbrev sDesk : Stmt := top 41
abbrev sAnswer : Stmt := top 42
abbrev sAnswers : Stmt := top 43
abbrev sInit : Stmt := inClass sDesk 0
abbrev sIsRow : Stmt := inClass sDesk 1
abbrev sAsRead : Stmt := inClass sDesk 2
abbrev sRowsBetween : Stmt := inClass sDesk 3
abbrev sBegins : Stmt := inClass sDesk 4
abbrev sWant : Stmt := inClass sDesk 5
abbrev sWants : Stmt := inClass sDesk 6
abbrev sMark : Stmt := inClass sDesk 7
abbrev sShow : Stmt := inClass sDesk 8
abbrev sMissing : Stmt := inClass sDesk 9
abbrev sIdle : Stmt := inClass sDesk 10
abbrev sNeed : Stmt := inClass sDesk 11
abbrev sWaysM : Stmt := inClass sDesk 12
abbrev sFewest : Stmt := inClass sDesk 13

/-- a def of the module's -/
def Def (K : PySem.W.Frag) (mg : Str → Option Value) (x : Str) (st : Stmt) (ps : List Str) : Prop := ∃ f fd, mg x = some (.ref f) ∧ Fun K x x st f fd ∧ Binds K fd ps []
/-- a method of the class -/
def Mth (K : PySem.W.Frag) (C : Addr) (x qual : Str) (st : Stmt) (ps : List Str) : Prop := ∃ f fd, Meth K C x f ∧ Fun K x qual st f fd ∧ Binds K fd ps []
/-- what the module's names stand for -/
structure Txt (K : PySem.W.Frag) (mg : Str → Option Value) (C : Addr) : Prop where
  all : mg "all" = none
  len : mg "len" = none
  range : mg "range" = none
  str : mg "str" = none
  int : mg "int" = none
  set : mg "set" = none
  max : mg "max" = none
  min : mg "min" = none
  sum : mg "sum" = none
  sorted : mg "sorted" = none
  list : mg "list" = none
  nothing : ∃ t, mg "NOTHING_WANTED" = some (.int (-3) t)
  noGood : ∃ t, mg "NO_GOOD_MARKING" = some (.int (-6) t)
  tooMany : ∃ t, mg "TOO_MANY" = some (.int (-7) t)
  mostMarkings : ∃ t, mg "MOST_MARKINGS" = some (.int 32000 t)
  notTold : ∃ t, mg "NOT_AS_TOLD" = some (.int (-1) t)
  noCube : ∃ t, mg "NO_SUCH_CUBE" = some (.int (-2) t)
  already : ∃ t, mg "WANTED_ALREADY" = some (.int (-4) t)
  enough : ∃ t, mg "ENOUGH_WANTED" = some (.int (-5) t)
  mostCubes : ∃ t, mg "MOST_CUBES" = some (.int 4 t)
  mostFaces : ∃ t, mg "MOST_FACES" = some (.int 6 t)
  mostWanted : ∃ t, mg "MOST_WANTED" = some (.int 40 t)
  allDigits : Def K mg "all_digits" sAllDigits ["numbers"]
  readDigit : Def K mg "read_digit" sReadDigit ["digit", "turned"]
  digitsOf : Def K mg "digits_of" sDigitsOf ["number", "places"]
  longer : Def K mg "longer_ways" sLonger ["ways", "digit", "cubes"]
  ways : Def K mg "ways_to_show" sWays ["row", "cubes"]
  isShown : Def K mg "is_shown" sIsShown ["row", "cubes"]
  shownRows : Def K mg "shown_rows" sShownRows ["rows", "cubes"]
  without : Def K mg "without" sWithout ["cubes", "cube", "digit"]
  mostIn : Def K mg "most_in_a_row" sMostIn ["digit", "rows"]
  digitsIn : Def K mg "digits_in" sDigitsIn ["rows"]
  longerCh : Def K mg "longer_choices" sLongerCh ["choices", "digits"]
  choicesFor : Def K mg "choices_for" sChoicesFor ["rows", "faces"]
  countM : Def K mg "count_markings" sCountM ["choices", "cubes"]
  rowsWith : Def K mg "rows_with" sRowsWith ["choice", "place", "rows"]
  rowsBy : Def K mg "rows_by_place" sRowsBy ["choice", "rows"]
  oneMore : Def K mg "with_one_cube_more" sOneMore ["filled", "by_place"]
  longerM : Def K mg "longer_markings" sLongerM ["begun", "choices", "by_places"]
  goodM : Def K mg "good_markings" sGoodM ["rows", "choices", "cubes"]
  cl : Cls K C
  desk : mg "Desk" = some (.ref C)
  nCubes : NoAttr K C "cubes"
  nFaces : NoAttr K C "faces"
  nTurned : NoAttr K C "turned"
  nWanted : NoAttr K C "wanted"
  isRow : Mth K C "is_row" "Desk.is_row" sIsRow ["self", "numbers"]
  asRead : Mth K C "as_read" "Desk.as_read" sAsRead ["self", "digits"]
  rowsBetween : Mth K C "rows_between" "Desk.rows_between" sRowsBetween ["self", "first", "last"]
section
variable {P : Program} {w : World} {K : PySem.W.Frag} {mg : Str → Option Value} {base : Heap} {C : Addr}
/-- all_digits -/
def spAllDigits (K : PySem.W.Frag) : Sp := fun vs H Q _ => ∃ (a : Addr) (l : List Nat), vs = [.ref a] ∧ SqL K H a (vN l) ∧ l.length < sizeLine ∧ ∀ H', Same H H' → Q (.bl (l.all fun c => decide (c ≤ 9))) H'
theorem scAllDigits : FnScope ["numbers", "number"] ["numbers"] (defScope sAllDigits) := ⟨rfl, rfl, rfl, by decide +kernel, rfl, by decide +kernel, by decide +kernel⟩
theorem ok_allDigits {f : Addr} {fd : FuncData} (F : Fun K "all_digits" "all_digits" sAllDigits f fd) (T : Txt K mg C) : FnOk P w K mg base CX0 1 f fd ["numbers"] (spAllDigits K) := by
  refine F.ok scAllDigits (fun vs H Q E h => ?_) (fun cdv A outer s H vs Q E hr h => ?_)
  · obtain ⟨a, l, rfl, _⟩ := h
    rfl
  · obtain ⟨a, l, rfl, hS, hl, k⟩ := h
    refine ⟨_, pss_one (ps_ret (pe_callB (cr_all rfl) (by rfl) T.all (by decide +kernel) (pa_cons (pe_lc (own := [("number", 1)]) rfl scAllDigits.nd (pi_list (pv 0)) (blkOk_by (N := ["numbers", "number"]) (sc := defScope sAllDigits) (by decide +kernel)) (fun _ _ _ _ _ => pg_name (i := 1) scAllDigits.nd rfl (Or.inl rfl)) (fun _ _ _ _ _ => pts_nil) (fun _ _ _ _ _ => pe_cmpR op_le (pv 1) pe_int (nomark _))) pa_nil))), ?_⟩
    refine ⟨_, rfl, a, rfl, ⟨_, hS⟩, fun D hD => lc_list_by (xs := vN l) (fun i => (l.take i).map fun c : Nat => V.bl (decide (c ≤ 9))) hD hS (by simp) (fun i hi => ?_) (fun i x H1 hx s1 hd => ?_) (fun H1 s1 hd => ?_) (me := ?_)⟩
    · rw [List.length_map, List.length_take]
      rw [vN_len] at hi
      omega
    · obtain ⟨n, hn, rfl⟩ := vN_get hx
      refine ⟨rfl, yes_if ⟨_, rfl, _, _, rfl, rfl, Same.refl _, ?_⟩⟩
      rw [take_snoc hn, List.map_append]
      have e : decide ((n : Int) ≤ 9) = decide (n ≤ 9) := by
        by_cases h : n ≤ 9
        · rw [decide_eq_true h, decide_eq_true (by omega)]
        · rw [decide_eq_false h, decide_eq_false (by omega)]
      show _ = _ ++ [V.bl (decide ((n : Int) ≤ 9))]
      rw [e]
      rfl
    · rw [vN_len, List.take_length] at hd
      refine ⟨D, l.map fun c : Nat => decide (c ≤ 9), rfl, SqL.of (by rw [hd, List.map_map]; rfl), ?_⟩
      rw [List.all_map]
      exact k H1 s1
    · intro σ H Q Q' f h
      obtain ⟨x, e, i, j, e1, e2, q⟩ := h
      exact ⟨x, e, i, j, e1, e2, f _ _ q⟩
/-- read_digit -/
def tn (b : Bool) : Int := if b then 1 else 0
def spReadDigit : Sp := fun vs H Q _ => ∃ (c : Nat) (b : Bool), vs = [.int (c : Int), .int (tn b)] ∧ Q (.int (Uw70.reads b c : Nat)) H
theorem scReadDigit : FnScope ["digit", "turned"] ["digit", "turned"] (defScope sReadDigit) := ⟨rfl, rfl, rfl, by decide +kernel, rfl, by decide +kernel, by decide +kernel⟩
theorem ok_readDigit {f : Addr} {fd : FuncData} (F : Fun K "read_digit" "read_digit" sReadDigit f fd) : FnOk P w K mg base CX0 1 f fd ["digit", "turned"] spReadDigit := by
  refine F.ok scReadDigit (fun vs H Q E h => ?_) (fun cdv A outer s H vs Q E hr h => ?_)
  · obtain ⟨c, b, rfl, _⟩ := h
    rfl
  · obtain ⟨c, b, rfl, k⟩ := h
    refine ⟨_, pss_one (ps_ret (pe_ifExp (PW.pt (pw_and (pt_cmpR op_eq (pv 1) pe_int (nomark _)) (pw_and1 (pt_cmpR op_eq (pv 0) pe_int (nomark _))))) pe_int (pv 0))), ?_⟩
    unfold Uw70.reads at k
    refine ⟨_, rfl, rfl, _, rfl, ?_⟩
    cases b with
    | false =>
      rw [if_neg (by intro h; cases h.1)] at k
      exact iteF (iteF ⟨_, rfl, k⟩)
    | true =>
      refine iteT ⟨_, rfl, rfl, _, rfl, ?_⟩
      by_cases h : c = 9
      · subst h
        rw [if_pos ⟨rfl, rfl⟩] at k
        exact iteT k
      · rw [if_neg (fun e => h e.2)] at k
        have e : decide (V.int (c : Int) = V.int 9) = false := decide_eq_false fun q => h (by have := V.int.inj q; omega)
        rw [e]
        exact iteF ⟨_, rfl, k⟩
/-- digits_of -/
theorem pad_le4 {c : Nat} (h : c ≤ 4) : PadOk (c : Int) = true := by
  have : c = 0 ∨ c = 1 ∨ c = 2 ∨ c = 3 ∨ c = 4 := by omega
  rcases this with rfl | rfl | rfl | rfl | rfl <;> decide
def spDigitsOf : Sp := fun vs H Q _ => ∃ n k : Nat, vs = [.int (n : Int), .int (k : Int)] ∧ 0 < k ∧ k ≤ 4 ∧ n < 10 ^ k ∧ ∀ H' p, Same H H' → H p = none → H' p = some (.lst (vN (Uw70.digits k n))) → Q (.ref p) H'
theorem scDigitsOf : FnScope ["number", "places", "sign"] ["number", "places"] (defScope sDigitsOf) := ⟨rfl, rfl, rfl, by decide +kernel, rfl, by decide +kernel, by decide +kernel⟩
theorem ok_digitsOf {f : Addr} {fd : FuncData} (F : Fun K "digits_of" "digits_of" sDigitsOf f fd) (T : Txt K mg C) : FnOk P w K mg base CX0 1 f fd ["number", "places"] spDigitsOf := by
  refine F.ok scDigitsOf (fun vs H Q E h => ?_) (fun cdv A outer s H vs Q E hr h => ?_)
  · obtain ⟨c, b, rfl, _⟩ := h
    rfl
  · obtain ⟨n, c, rfl, h0, h4, hn, k⟩ := h
    refine ⟨_, pss_one (ps_ret (pe_lc (own := [("sign", 2)]) rfl scDigitsOf.nd (pi_str (pe_m1 PySem.F.slot_str_zfill PySem.F.type_str_zfill mt_zfill (pe_callTy call_str_int (by rfl) T.str (by decide +kernel) (pa_cons (pv 0) pa_nil)) (pv 1)))
      (blkOk_by (N := ["number", "places", "sign"]) (sc := defScope sDigitsOf) (by decide +kernel)) (fun _ _ _ _ _ => pg_name (i := 2) scDigitsOf.nd rfl (Or.inl rfl)) (fun _ _ _ _ _ => pts_nil) (fun _ _ _ _ _ => pe_callTy call_int_str (by rfl) T.int (by decide +kernel) (pa_cons (pv 2) pa_nil)))), ?_⟩
    have hn4 : n < 10 ^ 4 := Nat.lt_of_lt_of_le hn (Nat.pow_le_pow_right (by decide) h4)
    have hz := DM.zfill_codes h0 hn
    refine ⟨_, rfl, _, rfl, ?_, ⟨_, rfl⟩, _, rfl, _, _, rfl, rfl, ?_, _, rfl, fun D hD => lc_str_by (fun i => vN ((Uw70.digits c n).take i)) hD rfl (fun i hi => ?_) (fun i d H1 hx s1 hd => ?_) (fun H1 s1 hd => ?_) (fun σ H Q Q' f h => ?_)⟩
    · show ((n : Int)).natAbs.log2 < 1920
      rw [Int.natAbs_natCast]
      by_cases z : n = 0
      · subst z; decide
      · exact (Nat.log2_lt z).mpr (Nat.lt_of_lt_of_le hn4 (Nat.le_trans (by decide : 10 ^ 4 ≤ 2 ^ 14) (Nat.pow_le_pow_right (by decide) (by decide))))
    · exact pad_le4 h4
    · rw [vN_len, List.length_take, DM.digits_len]
      have : sizeLine = 2 ^ 24 := rfl
      omega
    · have hd2 : ((Uw70.digits c n).map (48 + ·))[i]? = some d := by
        rw [← hz]
        simpa using hx
      rw [List.getElem?_map] at hd2
      obtain ⟨e, he, rfl⟩ := Option.map_eq_some_iff.mp hd2
      have he9 : e ≤ 9 := DM.digits_le c n e (List.mem_of_getElem? he)
      refine ⟨rfl, yes_if ⟨_, rfl, _, (e : Int), rfl, DM.sign_int he9, (by show 1 ≤ 640; decide), Same.refl _, ?_⟩⟩
      rw [take_snoc he, vN_app]
      rfl
    · have hsz : (Txt.zfill (Str.ofString (toString ((n : Nat) : Int))) (c : Int)).cps.size = c := by
        rw [← Array.length_toList, hz, List.length_map, DM.digits_len]
      rw [show (Txt.zfill (toString ((n : Nat) : Int)) (c : Int)).cps.size = c from hsz, List.take_of_length_le (by rw [DM.digits_len]; exact Nat.le_refl _)] at hd
      exact k H1 D s1 hD hd
    · obtain ⟨x, e, a, j, e1, e2, e3, q⟩ := h
      exact ⟨x, e, a, j, e1, e2, e3, f _ _ q⟩
/-- longer_ways -/
def spLonger (K : PySem.W.Frag) : Sp := fun vs H Q _ => ∃ (aw ac : Addr) (d : Nat) (was cas : List Addr) (ws cubes : List (List Nat)), vs = [.ref aw, .int (d : Int), .ref ac] ∧ H aw = some (.lst (was.map V.ref)) ∧ RowsAt H was ws ∧
  H ac = some (.lst (cas.map V.ref)) ∧ RowsAt H cas cubes ∧ cubes.length ≤ 1000 ∧ (∀ w ∈ ws, w.length < 1000) ∧ (DM.longer cubes d ws).length < sizeLine ∧
  ∀ H' p, Same H H' → H p = none → LL H' p (DM.longer cubes d ws) → Q (.ref p) H'
theorem scLonger : FnScope ["ways", "digit", "cubes", "longer", "way", "cube"] ["ways", "digit", "cubes"] (defScope sLonger) := ⟨rfl, rfl, rfl, by decide +kernel, rfl, by decide +kernel, by decide +kernel⟩
theorem ok_longer {f : Addr} {fd : FuncData} (F : Fun K "longer_ways" "longer_ways" sLonger f fd) (T : Txt K mg C) : FnOk P w K mg base CX0 1 f fd ["ways", "digit", "cubes"] (spLonger K) := by
  refine F.ok scLonger (fun vs H Q E h => ?_) (fun cdv A outer s H vs Q E hr h => ?_)
  · obtain ⟨aw, ac, d, was, cas, ws, cubes, rfl, _⟩ := h
    rfl
  · obtain ⟨aw, ac, d, was, cas, ws, cubes, rfl, haw, rw1, hac, rc, hc, hw, hl, k⟩ := h
    refine ⟨_, pss_cons (ps_set (i := 3) scLonger.nd rfl (Or.inl rfl) (pe_lst pa_nil))
      (pss_cons (ps_for PassesOwn.never rfl (pi_list (pv 0)) (pg_name (i := 4) scLonger.nd rfl (Or.inl rfl))
        (pss_one (ps_for PassesOwn.never rfl (pi_range1 (by rfl) T.range (pa_cons (pe_callB call_len_seq (by rfl) T.len PySem.boot_len (pa_cons (pv 2) pa_nil)) pa_nil)) (pg_name (i := 5) scLonger.nd rfl (Or.inl rfl))
          (pss_one (ps_if (PW.pt (pw_and (pt_cmpR op_notIn_seq (pv 5) (pv 4) rfl) (pw_and1 (pt_cmpR op_in_seq (pv 1) (pe_ix ix_list (pv 2) (pv 5) (fun _ _ => rfl)) rfl))))
            (pss_one (ps_expr (pe_bm PySem.F.plainAttrs_list PySem.F.slot_list_append PySem.F.type_list_append mt_append (pv 3) (pa_cons (pe_op op_cat (pv 4) (pe_lst (pa_cons (pv 5) pa_nil))) pa_nil))))
            pss_nil)))))
      (pss_one (ps_ret (pv 3)))), ?_⟩
    refine ⟨Nat.zero_le _, fun p hp => ?_⟩
    refine ⟨_, rfl, aw, rfl, ⟨_, SqL.of (by rw [upd_ne (ne_of_none haw hp)]; exact haw)⟩, for_list (K := K) (a := aw) (xs := was.map V.ref) (fun i σ H' => ∃ v4 v5 : Option V, σ = [some (.ref aw), some (.int (d : Int)), some (.ref ac), some (.ref p), v4, v5] ∧ Same H H' ∧ LL H' p (DM.longer cubes d (ws.take i)))
      ⟨none, none, rfl, Same.new hp, [], upd_same, trivial⟩ (fun i σ H' _ ⟨_, _, _, s5, _⟩ => SqL.of (s5 _ _ haw)) ?_ ?_⟩
    · rintro i x σ H1 hi ⟨v4, v5, rfl, s5, hp5⟩
      obtain ⟨b, hb, rfl⟩ := ref_get hi
      obtain ⟨wv, hwi, hwH⟩ := rw1.get hb
      have hwl : wv.length < 1000 := hw wv (List.mem_of_getElem? hwi)
      have hN : ((((cas.map V.ref).length : Nat) : Int)).toNat = cubes.length := by rw [Int.toNat_natCast, List.length_map, rc.len]
      refine ⟨_, rfl, ac, _, rfl, .inl (SqL.of (s5 _ _ hac)), _, rfl, ?_, ?_, for_range (fun j σ H' => ∃ v5 : Option V, σ = [some (.ref aw), some (.int (d : Int)), some (.ref ac), some (.ref p), some (.ref b), v5] ∧ Same H H' ∧ LL H' p (DM.longer cubes d (ws.take i) ++ DM.inner cubes d wv j))
        ⟨v5, rfl, s5, by show LL _ _ (_ ++ []); rw [List.append_nil]; exact hp5⟩ ?_ ?_⟩
      · omega
      · rw [List.length_map, rc.len]; omega
      · rintro j σ H2 hj ⟨v5, rfl, s6, as6, e6, r6⟩
        rw [hN] at hj
        obtain ⟨cv, hcv⟩ : ∃ cv, cubes[j]? = some cv := ⟨_, List.getElem?_eq_getElem hj⟩
        obtain ⟨cb, hcb, hcH⟩ := rc.get' hcv
        rw [Int.zero_add]
        refine ⟨_, rfl, _, rfl, b, vN wv, rfl, .inl (SqL.of (s6 _ _ hwH)), rfl, vN_flat _, _, rfl, ?_⟩
        rw [if_pos rfl, inV_vN]
        have en : (DM.longer cubes d (ws.take i) ++ DM.inner cubes d wv j).length < sizeLine := by
          rw [List.length_append]
          exact Nat.lt_of_le_of_lt (DM.longer_le cubes d hwi (Nat.le_of_lt hj)) hl
        cases h1 : wv.contains j with
        | true =>
          refine iteF (iteF ?_)
          exact ⟨_, rfl, s6, as6, e6, by rw [DM.inner_no (by rw [h1]; rfl)]; exact r6⟩
        | false =>
          refine iteT ⟨_, rfl, _, rfl, _, rfl, ac, _, _, _, rfl, rfl, SqL.of (s6 _ _ hac), atI_nat (ref_at hcb), cb, vN cv, rfl, .inl (SqL.of (s6 _ _ hcH)), rfl, vN_flat _, _, rfl, ?_⟩
          rw [if_neg (by decide), inV_vN]
          cases h2 : cv.contains d with
          | false =>
            refine iteF ?_
            exact ⟨_, rfl, s6, as6, e6, by rw [DM.inner_no (by rw [h1, getD_of hcv, h2]; rfl)]; exact r6⟩
          | true =>
            refine iteT ?_
            refine ⟨_, rfl, .inl ⟨rfl, _, SqL.of e6⟩, _, rfl, _, rfl, (by show 1 ≤ sizeLine; decide), fun q1 hq1 => ?_⟩
            have s7 := Same.new (o := .lst [V.int (j : Int)]) hq1
            refine ⟨b, q1, _, _, rfl, rfl, s7 _ _ (s6 _ _ hwH), upd_same, ?_, fun q2 hq2 => ?_⟩
            · rw [vN_len]
              show wv.length + 1 ≤ sizeLine
              have : sizeLine = 2 ^ 24 := rfl
              omega
            · have s8 := Same.new (o := .lst (vN wv ++ [V.int (j : Int)])) hq2
              refine ⟨p, _, _, rfl, rfl, s8 _ _ (s7 _ _ e6), ?_, ?_⟩
              · rw [List.length_map, r6.len]; exact en
              · have hnp : q2 ≠ p := fun z => by rw [z, s7 _ _ e6] at hq2; cases hq2
                refine ⟨_, rfl, Same.put hp ((s6.trans s7).trans s8), as6 ++ [q2], by rw [upd_same, List.map_append]; rfl, ?_⟩
                rw [DM.inner_yes (by rw [h1, getD_of hcv, h2]; rfl), ← List.append_assoc]
                exact LL.push (l := wv ++ [j]) (s8 _ _ (s7 _ _ e6)) ((r6.same s7).same s8) (by rw [upd_same, vN_app]; rfl) hnp
      · rintro σ H2 ⟨v5, rfl, s6, hp6⟩
        rw [hN] at hp6
        refine ⟨_, _, rfl, s6, ?_⟩
        rw [take_snoc hwi, DM.longer_snoc]
        exact hp6
    · rintro σ H' ⟨v4, v5, rfl, s5, hp5⟩
      rw [List.length_map, rw1.len, List.take_length] at hp5
      exact ⟨_, rfl, k H' p s5 hp hp5⟩
/-- ways_to_show -/
def spWays (K : PySem.W.Frag) : Sp := fun vs H Q _ => ∃ (ar ac : Addr) (cas : List Addr) (row : List Nat) (cubes : List (List Nat)), vs = [.ref ar, .ref ac] ∧ SqL K H ar (vN row) ∧
  H ac = some (.lst (cas.map V.ref)) ∧ RowsAt H cas cubes ∧ cubes.length ≤ 4 ∧ row.length ≤ 4 ∧ ∀ H' p, Same H H' → H p = none → LL H' p (Uw70.ways cubes row) → Q (.ref p) H'
theorem scWays : FnScope ["row", "cubes", "ways", "digit"] ["row", "cubes"] (defScope sWays) := ⟨rfl, rfl, rfl, by decide +kernel, rfl, by decide +kernel, by decide +kernel⟩
theorem ok_ways {f : Addr} {fd : FuncData} (F : Fun K "ways_to_show" "ways_to_show" sWays f fd) (T : Txt K mg C) : FnOk P w K mg base CX0 2 f fd ["row", "cubes"] (spWays K) := by
  obtain ⟨fl, fdl, ml, FL, bL⟩ := T.longer
  have GL : FnOk P w K mg base CX0 1 fl fdl ["ways", "digit", "cubes"] (spLonger K) := ok_longer FL T
  refine F.ok scWays (fun vs H Q E h => ?_) (fun cdv A outer s H vs Q E hr h => ?_)
  · obtain ⟨ar, ac, cas, row, cubes, rfl, _⟩ := h
    rfl
  · obtain ⟨ar, ac, cas, row, cubes, rfl, har, hac, rc, hc4, hr4, k⟩ := h
    refine ⟨_, pss_cons (ps_set (i := 2) scWays.nd rfl (Or.inl rfl) (pe_lst (pa_cons (pe_lst pa_nil) pa_nil)))
      (pss_cons (ps_for PassesOwn.never rfl (pi_list (pv 0)) (pg_name (i := 3) scWays.nd rfl (Or.inl rfl))
        (pss_one (ps_set (i := 2) scWays.nd rfl (Or.inl rfl) (pe_call GL hr (by rfl) ml FL.kp bL .nil pass0 (pa_cons (pv 2) (pa_cons (pv 3) (pa_cons (pv 1) pa_nil)))))))
      (pss_one (ps_ret (pv 2)))), ?_⟩
    refine ⟨Nat.zero_le _, fun q hq => ⟨(by show 1 ≤ sizeLine; decide), fun p hp => ?_⟩⟩
    have s1 := Same.new (o := .lst []) hq
    have s2 := Same.new (o := .lst [V.ref q]) hp
    have s3 := s1.trans s2
    have hpH : H p = none := s1.free hp
    refine ⟨_, rfl, ar, rfl, ⟨_, s3.seq har⟩, for_list (K := K) (a := ar) (xs := vN row) (fun i σ H' => ∃ (v3 : Option V) (pw : Addr), σ = [some (.ref ar), some (.ref ac), some (.ref pw), v3] ∧ Same H H' ∧ H pw = none ∧ LL H' pw (DM.fold cubes (row.take i)))
      ⟨none, p, rfl, s3, hpH, [q], upd_same, s2 _ _ upd_same, trivial⟩ (fun i σ H' _ ⟨_, _, _, s5, _⟩ => s5.seq har) ?_ ?_⟩
    · rintro i x σ H1 hi ⟨v3, pw, rfl, s5, hpw, was, ew, rw5⟩
      obtain ⟨d, hd, rfl⟩ := vN_get hi
      have hi4 : i < row.length := (List.getElem?_eq_some_iff.mp hd).1
      have hlt : (row.take i).length = i := by rw [List.length_take]; omega
      refine ⟨_, rfl, _, rfl, _, rfl, pw, ac, d, was, cas, DM.fold cubes (row.take i), cubes, rfl, ew, rw5, s5 _ _ hac, rc.same s5, by omega, fun w hw => ?_, ?_, fun H' p' s6 hp' hL => ?_⟩
      · rw [DM.fold_mem _ _ w hw, hlt]; omega
      · refine Nat.lt_of_le_of_lt (DM.longer_len _ _ _) ?_
        have h1 := DM.fold_len hc4 (row.take i)
        have h2 : 4 ^ (row.take i).length ≤ 4 ^ 4 := Nat.pow_le_pow_right (by decide) (by omega)
        have h3 := Nat.mul_le_mul (Nat.le_trans h1 h2) hc4
        exact Nat.lt_of_le_of_lt h3 (by decide)
      · exact ⟨_, p', rfl, s5.trans s6, s5.free hp', by rw [take_snoc hd, DM.fold_snoc]; exact hL⟩
    · rintro σ H1 ⟨v3, pw, rfl, s5, hpw, hL⟩
      rw [vN_len, List.take_length] at hL
      exact ⟨_, rfl, k H1 pw s5 hpw (by rw [← DM.longer_ways]; exact hL)⟩
end
end DC

set_option Elab.async false
set_option linter.all false
set_option maxRecDepth 100000
set_option maxHeartbeats 2000000
namespace DM
/-- what holds of a desk -/
structure Ok (d : Uw70.Desk) : Prop where
  c1 : 1 ≤ d.cubes.length
  c4 : d.cubes.length ≤ 4
  f1 : 1 ≤ d.faces
  f6 : d.faces ≤ 6
  w40 : d.wanted.length ≤ 40
  wl : ∀ r ∈ d.wanted, r.length = d.cubes.length
  w9 : ∀ r ∈ d.wanted, ∀ c ∈ r, c ≤ 9
  q6 : ∀ q ∈ d.cubes, q.length ≤ d.faces
  q9 : ∀ q ∈ d.cubes, ∀ c ∈ q, c ≤ 9
  qd : ∀ q ∈ d.cubes, q.eraseDups.length = q.length
theorem reads_le {b : Bool} {c : Nat} (h : c ≤ 9) : Uw70.reads b c ≤ 9 := by
  unfold Uw70.reads
  split
  · decide
  · exact h
theorem Ok.want {d : Uw70.Desk} (o : Ok d) {l : List Nat} (h : Uw70.isRow d l = true) (h40 : ¬ 40 ≤ d.wanted.length) : Ok { d with wanted := d.wanted ++ [l.map (Uw70.reads d.turned)] } := by
  unfold Uw70.isRow at h
  rw [Bool.and_eq_true, beq_iff_eq, List.all_eq_true] at h
  refine ⟨o.c1, o.c4, o.f1, o.f6, ?_, fun r hr => ?_, fun r hr c hc => ?_, o.q6, o.q9, o.qd⟩
  · show (d.wanted ++ _).length ≤ 40
    rw [List.length_append, List.length_singleton]
    omega
  · rcases List.mem_append.mp (show r ∈ d.wanted ++ _ from hr) with hr | hr
    · exact o.wl r hr
    · rw [List.mem_singleton.mp hr, List.length_map]
      exact h.1
  · rcases List.mem_append.mp (show r ∈ d.wanted ++ _ from hr) with hr | hr
    · exact o.w9 r hr c hc
    · rw [List.mem_singleton.mp hr] at hc
      obtain ⟨x, hx, rfl⟩ := List.mem_map.mp hc
      exact reads_le (of_decide_eq_true (h.2 x hx))
end DM
namespace DC
open PySem PySem.Spec PyProof.Rows L2 L3
/-- the attributes of a desk -/
def dk (lc lw : Addr) (f t : Int) : List (Str × V) := [("cubes", .ref lc), ("faces", .int f), ("turned", .int t), ("wanted", .ref lw)]
structure DeskAt (C : Addr) (H : Hp) (p : Addr) (d : Uw70.Desk) (dx lc lw : Addr) (cas was : List Addr) : Prop where
  obj : H p = some (.ins C dx (dk lc lw d.faces (tn d.turned)))
  cub : H lc = some (.lst (cas.map V.ref))
  rcu : RowsAt H cas d.cubes
  wan : H lw = some (.lst (was.map V.ref))
  rwa : RowsAt H was d.wanted
  sep : lw ∉ cas
  ne : lc ≠ lw
  ok : DM.Ok d
theorem DeskAt.same {C : Addr} {H H' : Hp} {p : Addr} {d : Uw70.Desk} {dx lc lw : Addr} {cas was : List Addr} (D : DeskAt C H p d dx lc lw cas was) (s : Same H H') : DeskAt C H' p d dx lc lw cas was :=
  ⟨s _ _ D.obj, s _ _ D.cub, D.rcu.same s, s _ _ D.wan, D.rwa.same s, D.sep, D.ne, D.ok⟩
theorem DeskAt.push {C : Addr} {H : Hp} {p : Addr} {d : Uw70.Desk} {dx lc lw : Addr} {cas was : List Addr} (D : DeskAt C H p d dx lc lw cas was) {q : Addr} {row : List Nat} (hq : H q = some (.lst (vN row))) (hql : q ≠ lw) (ok : DM.Ok { d with wanted := d.wanted ++ [row] }) :
    DeskAt C (upd H lw (.lst (was.map V.ref ++ [V.ref q]))) p { d with wanted := d.wanted ++ [row] } dx lc lw cas (was ++ [q]) := by
  have hp : p ≠ lw := ne_of D.obj D.wan (by intro z; cases z)
  refine ⟨by rw [upd_ne hp]; exact D.obj, by rw [upd_ne D.ne]; exact D.cub, D.rcu.mono fun a ha o e => ?_, by rw [upd_same, List.map_append]; rfl, LL.push D.wan D.rwa hq hql, D.sep, D.ne, ok⟩
  rw [upd_ne (fun z : a = lw => D.sep (by rw [← z]; exact ha))]
  exact e
section
variable {P : Program} {w : World} {K : PySem.W.Frag} {mg : Str → Option Value} {base : Heap} {C : Addr}
/-- is_row -/
def spIsRow (K : PySem.W.Frag) (C : Addr) : Sp := fun vs H Q _ => ∃ (p a : Addr) (l : List Nat) (d : Uw70.Desk) (dx lc lw : Addr) (cas was : List Addr), vs = [.ref p, .ref a] ∧ DeskAt C H p d dx lc lw cas was ∧ SqL K H a (vN l) ∧ l.length < 1000 ∧ ∀ H', Same H H' → Q (.bl (Uw70.isRow d l)) H'
theorem scIsRow : FnScope ["self", "numbers"] ["self", "numbers"] (defScope sIsRow) := ⟨rfl, rfl, rfl, by decide +kernel, rfl, by decide +kernel, by decide +kernel⟩
theorem ok_isRow {f : Addr} {fd : FuncData} (F : Fun K "is_row" "Desk.is_row" sIsRow f fd) (T : Txt K mg C) : FnOk P w K mg base CX0 2 f fd ["self", "numbers"] (spIsRow K C) := by
  obtain ⟨f1, fd1, m1, F1, b1⟩ := T.allDigits
  have G1 : FnOk P w K mg base CX0 1 f1 fd1 ["numbers"] (spAllDigits K) := ok_allDigits F1 T
  refine F.ok scIsRow (fun vs H Q E h => ?_) (fun cdv A outer s H vs Q E hr h => ?_)
  · obtain ⟨p, a, l, d, dx, lc, lw, cas, was, rfl, _⟩ := h
    rfl
  · obtain ⟨p, a, l, d, dx, lc, lw, cas, was, rfl, D, hS, hl, k⟩ := h
    refine ⟨_, pss_one (ps_ret (pe_and (pe_cmpR op_eq (pe_callB call_len_seq (by rfl) T.len PySem.boot_len (pa_cons (pv 1) pa_nil)) (pe_callB call_len_seq (by rfl) T.len PySem.boot_len (pa_cons (pe_fld (pv 0) rfl) pa_nil)) (nomark _))
      (pe_one (pe_call G1 hr (by rfl) m1 F1.kp b1 .nil pass0 (pa_cons (pv 1) pa_nil))))), ?_⟩
    refine ⟨_, rfl, a, _, rfl, .inl hS, _, rfl, p, C, dx, _, _, rfl, D.obj, T.cl, T.nCubes, rfl, lc, _, rfl, .inl (SqL.of D.cub), rfl, _, rfl, ?_⟩
    unfold Uw70.isRow at k
    rw [List.length_map, vN_len, D.rcu.len]
    by_cases h : l.length = d.cubes.length
    · rw [decide_eq_true (by rw [h])]
      refine iteT ⟨_, rfl, a, l, rfl, hS, by have : sizeLine = 2 ^ 24 := rfl; omega, fun H' s' => ?_⟩
      have q := k H' s'
      rw [h, beq_self_eq_true, Bool.true_and] at q
      exact q
    · rw [decide_eq_false (fun e => h (by have := V.int.inj e; omega))]
      refine iteF ?_
      have q := k H (Same.refl H)
      rw [beq_eq_false_iff_ne.mpr h, Bool.false_and] at q
      exact q
/-- as_read -/
def spAsRead (K : PySem.W.Frag) (C : Addr) : Sp := fun vs H Q _ => ∃ (p a : Addr) (l : List Nat) (d : Uw70.Desk) (dx lc lw : Addr) (cas was : List Addr), vs = [.ref p, .ref a] ∧ DeskAt C H p d dx lc lw cas was ∧ SqL K H a (vN l) ∧ l.length < 1000 ∧
  ∀ H' q, Same H H' → H q = none → H' q = some (.lst (vN (l.map (Uw70.reads d.turned)))) → Q (.ref q) H'
theorem scAsRead : FnScope ["self", "digits", "digit"] ["self", "digits"] (defScope sAsRead) := ⟨rfl, rfl, rfl, by decide +kernel, rfl, by decide +kernel, by decide +kernel⟩
theorem ok_asRead {f : Addr} {fd : FuncData} (F : Fun K "as_read" "Desk.as_read" sAsRead f fd) (T : Txt K mg C) : FnOk P w K mg base CX0 2 f fd ["self", "digits"] (spAsRead K C) := by
  obtain ⟨f1, fd1, m1, F1, b1⟩ := T.readDigit
  have G1 : FnOk P w K mg base CX0 1 f1 fd1 ["digit", "turned"] spReadDigit := ok_readDigit F1
  refine F.ok scAsRead (fun vs H Q E h => ?_) (fun cdv A outer s H vs Q E hr h => ?_)
  · obtain ⟨p, a, l, d, dx, lc, lw, cas, was, rfl, _⟩ := h
    rfl
  · obtain ⟨p, a, l, d, dx, lc, lw, cas, was, rfl, D, hS, hl, k⟩ := h
    refine ⟨_, pss_one (ps_ret (pe_lc (own := [("digit", 2)]) (te := tCall spReadDigit [] E0 (tCons (tVar 2) (tCons (tFld K (tVar 0) "turned") tNil))) rfl scAsRead.nd (pi_list (pv 1)) (blkOk_by (N := ["self", "digits", "digit"]) (sc := defScope sAsRead) (by decide +kernel)) (fun _ _ _ _ _ => pg_name (i := 2) scAsRead.nd rfl (Or.inl rfl)) (fun _ _ _ _ _ => pts_nil)
      (fun _ _ _ _ _ => pe_call G1 hr (by rfl) m1 F1.kp b1 .nil pass0 (pa_cons (pv 2) (pa_cons (pe_fld (pv 0) rfl) pa_nil))))), ?_⟩
    refine ⟨_, rfl, a, rfl, ⟨_, hS⟩, fun q hq => lc_list_by (xs := vN l) (fun i => vN ((l.take i).map (Uw70.reads d.turned))) hq hS rfl (fun i hi => ?_) (fun i x H1 hx s1 hd => ?_) (fun H1 s1 hd => ?_) (me := ?_)⟩
    · rw [vN_len, List.length_map, List.length_take]
      have : sizeLine = 2 ^ 24 := rfl
      omega
    · obtain ⟨c, hc, rfl⟩ := vN_get hx
      refine ⟨rfl, yes_if ⟨_, rfl, _, rfl, p, C, dx, _, _, rfl, s1 _ _ D.obj, T.cl, T.nTurned, rfl, c, d.turned, rfl, Same.refl _, ?_⟩⟩
      rw [take_snoc hc, List.map_append, vN_app]
      rfl
    · rw [vN_len, List.take_length] at hd
      exact k H1 q s1 hq hd
    · intro σ H Q Q' f h
      obtain ⟨x, e, y, e', a, C', dx', fs, v, e1, e2, e3, e4, e5, c, b, e6, q⟩ := h
      exact ⟨x, e, y, e', a, C', dx', fs, v, e1, e2, e3, e4, e5, c, b, e6, f _ _ q⟩
/-- is_shown -/
def spIsShown (K : PySem.W.Frag) : Sp := fun vs H Q _ => ∃ (ar ac : Addr) (cas : List Addr) (row : List Nat) (cubes : List (List Nat)), vs = [.ref ar, .ref ac] ∧ SqL K H ar (vN row) ∧
  H ac = some (.lst (cas.map V.ref)) ∧ RowsAt H cas cubes ∧ cubes.length ≤ 4 ∧ row.length ≤ 4 ∧ ∀ H', Same H H' → Q (.bl (Uw70.isShown cubes row)) H'
theorem scIsShown : FnScope ["row", "cubes"] ["row", "cubes"] (defScope sIsShown) := ⟨rfl, rfl, rfl, by decide +kernel, rfl, by decide +kernel, by decide +kernel⟩
theorem shown_len (cubes : List (List Nat)) (l : List Nat) : decide ((0 : Int) < ((Uw70.ways cubes l).length : Int)) = Uw70.isShown cubes l := by
  unfold Uw70.isShown
  cases Uw70.ways cubes l with
  | nil => rfl
  | cons a r =>
    rw [decide_eq_true (by rw [List.length_cons]; omega)]
    rfl
theorem ok_isShown {f : Addr} {fd : FuncData} (F : Fun K "is_shown" "is_shown" sIsShown f fd) (T : Txt K mg C) : FnOk P w K mg base CX0 3 f fd ["row", "cubes"] (spIsShown K) := by
  obtain ⟨f1, fd1, m1, F1, b1⟩ := T.ways
  have G1 : FnOk P w K mg base CX0 2 f1 fd1 ["row", "cubes"] (spWays K) := ok_ways F1 T
  refine F.ok scIsShown (fun vs H Q E h => ?_) (fun cdv A outer s H vs Q E hr h => ?_)
  · obtain ⟨ar, ac, cas, row, cubes, rfl, _⟩ := h
    rfl
  · obtain ⟨ar, ac, cas, row, cubes, rfl, har, hac, rc, hc4, hr4, k⟩ := h
    refine ⟨_, pss_one (ps_ret (pe_cmpR op_gt (pe_callB call_len_seq (by rfl) T.len PySem.boot_len (pa_cons (pe_call G1 hr (by rfl) m1 F1.kp b1 .nil pass0 (pa_cons (pv 0) (pa_cons (pv 1) pa_nil))) pa_nil)) pe_int (nomark _))), ?_⟩
    refine ⟨_, rfl, _, rfl, ar, ac, cas, row, cubes, rfl, har, hac, rc, hc4, hr4, fun H' q s' hq ⟨as, e, r⟩ => ?_⟩
    refine ⟨q, _, rfl, .inl (SqL.of e), _, _, rfl, rfl, ?_⟩
    rw [List.length_map, r.len]
    show Q (V.bl (decide ((0 : Int) < ((Uw70.ways cubes row).length : Int)))) H'
    rw [shown_len]
    exact k H' s'
/-- shown_rows -/
def spShownRows (K : PySem.W.Frag) : Sp := fun vs H Q _ => ∃ (ar ac : Addr) (ras cas : List Addr) (rows cubes : List (List Nat)), vs = [.ref ar, .ref ac] ∧ H ar = some (.lst (ras.map V.ref)) ∧ RowsAt H ras rows ∧
  H ac = some (.lst (cas.map V.ref)) ∧ RowsAt H cas cubes ∧ cubes.length ≤ 4 ∧ rows.length ≤ 40 ∧ (∀ r ∈ rows, r.length ≤ 4) ∧
  ∀ H' q, Same H H' → H q = none → LL H' q (rows.filter (Uw70.isShown cubes)) → Q (.ref q) H'
theorem scShownRows : FnScope ["rows", "cubes", "row"] ["rows", "cubes"] (defScope sShownRows) := ⟨rfl, rfl, rfl, by decide +kernel, rfl, by decide +kernel, by decide +kernel⟩
theorem ok_shownRows {f : Addr} {fd : FuncData} (F : Fun K "shown_rows" "shown_rows" sShownRows f fd) (T : Txt K mg C) : FnOk P w K mg base CX0 4 f fd ["rows", "cubes"] (spShownRows K) := by
  obtain ⟨f1, fd1, m1, F1, b1⟩ := T.isShown
  have G1 : FnOk P w K mg base CX0 3 f1 fd1 ["row", "cubes"] (spIsShown K) := ok_isShown F1 T
  refine F.ok scShownRows (fun vs H Q E h => ?_) (fun cdv A outer s H vs Q E hr h => ?_)
  · obtain ⟨ar, ac, ras, cas, rows, cubes, rfl, _⟩ := h
    rfl
  · obtain ⟨ar, ac, ras, cas, rows, cubes, rfl, har, rr, hac, rc, hc4, h40, hr4, k⟩ := h
    refine ⟨_, pss_one (ps_ret (pe_lc (own := [("row", 2)]) (tt := tB (tCall (spIsShown K) [] E0 (tCons (tVar 2) (tCons (tVar 1) tNil)))) rfl scShownRows.nd (pi_list (pv 0)) (blkOk_by (N := ["rows", "cubes", "row"]) (sc := defScope sShownRows) (by decide +kernel)) (fun _ _ _ _ _ => pg_name (i := 2) scShownRows.nd rfl (Or.inl rfl))
      (fun _ _ _ _ _ => pts_one (pt_val (pe_call G1 hr (by rfl) m1 F1.kp b1 .nil pass0 (pa_cons (pv 2) (pa_cons (pv 1) pa_nil))))) (fun _ _ _ _ _ => pv 2))), ?_⟩
    refine ⟨_, rfl, ar, rfl, ⟨_, SqL.of har⟩, fun q hq => lc_list (xs := ras.map V.ref) (Pv := fun i H' => Same H H' ∧ LL H' q ((rows.take i).filter (Uw70.isShown cubes))) ⟨Same.new hq, [], upd_same, trivial⟩
      (fun i H' _ ⟨s', _⟩ => SqL.of (s' _ _ har)) (fun i x H1 hx ⟨s1, qas, e1, r1⟩ => ?_) (fun H1 ⟨s1, hL⟩ => ?_)⟩
    · obtain ⟨b, hb, rfl⟩ := ref_get hx
      obtain ⟨l, hl, hbH⟩ := rr.get hb
      refine ⟨rfl, _, rfl, _, rfl, b, ac, cas, l, cubes, rfl, SqL.of (s1 _ _ hbH), s1 _ _ hac, rc.same s1, hc4, hr4 l (List.mem_of_getElem? hl), fun H2 s2 => ⟨_, rfl, ?_⟩⟩
      cases hsh : Uw70.isShown cubes l with
      | true =>
        refine iteT ⟨_, rfl, _, s2 _ _ e1, ?_, Same.put hq (s1.trans s2), qas ++ [b], by rw [upd_same, List.map_append]; rfl, ?_⟩
        · have h1 := r1.len
          have h2 := List.length_filter_le (Uw70.isShown cubes) (rows.take i)
          rw [List.length_take] at h2
          rw [List.length_map]
          have : sizeLine = 2 ^ 24 := rfl
          omega
        · rw [take_snoc hl, List.filter_append, List.filter_cons, if_pos hsh]
          exact LL.push (s2 _ _ e1) (r1.same s2) (s2 _ _ (s1 _ _ hbH)) (ne_of_none hbH hq)
      | false =>
        refine iteF ⟨s1.trans s2, qas, s2 _ _ e1, ?_⟩
        rw [take_snoc hl, List.filter_append, List.filter_cons, if_neg (by rw [hsh]; decide), List.filter_nil, List.append_nil]
        exact r1.same s2
    · rw [List.length_map, rr.len, List.take_length] at hL
      exact k H1 q s1 hq hL
/-- rows_between -/
def rowNo (d : Uw70.Desk) (n : Nat) : List Nat := (Uw70.digits d.cubes.length n).map (Uw70.reads d.turned)
def spRowsBetween (C : Addr) : Sp := fun vs H Q _ => ∃ (p : Addr) (a b : Nat) (d : Uw70.Desk) (dx lc lw : Addr) (cas was : List Addr), vs = [.ref p, .int (a : Int), .int (b : Int)] ∧ DeskAt C H p d dx lc lw cas was ∧ a ≤ b ∧ b < 10 ^ d.cubes.length ∧ b - a + 1 ≤ 40 ∧
  ∀ H' q as, Same H H' → H q = none → H' q = some (.lst (as.map V.ref)) → RowsAt H' as ((List.range (b - a + 1)).map fun i => rowNo d (a + i)).eraseDups → (∀ c ∈ as, H c = none) → Q (.ref q) H'
theorem scRowsBetween : FnScope ["self", "first", "last", "rows", "number", "row"] ["self", "first", "last"] (defScope sRowsBetween) := ⟨rfl, rfl, rfl, by decide +kernel, rfl, by decide +kernel, by decide +kernel⟩
theorem ok_rowsBetween {f : Addr} {fd : FuncData} (F : Fun K "rows_between" "Desk.rows_between" sRowsBetween f fd) (T : Txt K mg C) : FnOk P w K mg base CX0 3 f fd ["self", "first", "last"] (spRowsBetween C) := by
  obtain ⟨g1, fd1, m1, F1, b1⟩ := T.asRead
  have G1 : FnOk P w K mg base CX0 2 g1 fd1 ["self", "digits"] (spAsRead K C) := ok_asRead F1 T
  obtain ⟨f2, fd2, m2, F2, b2⟩ := T.digitsOf
  have G2 : FnOk P w K mg base CX0 1 f2 fd2 ["number", "places"] spDigitsOf := ok_digitsOf F2 T
  refine F.ok scRowsBetween (fun vs H Q E h => ?_) (fun cdv A outer s H vs Q E hr h => ?_)
  · obtain ⟨p, a, b, d, dx, lc, lw, cas, was, rfl, _⟩ := h
    rfl
  · obtain ⟨p, a, b, d, dx, lc, lw, cas, was, rfl, D, hab, hb, h40, k⟩ := h
    refine ⟨_, pss_cons (ps_set (i := 3) scRowsBetween.nd rfl (Or.inl rfl) (pe_lst pa_nil))
      (pss_cons (ps_for PassesOwn.never rfl (pi_range2 (by rfl) T.range (pa_cons (pv 1) (pa_cons (pe_op op_add (pv 2) pe_int) pa_nil))) (pg_name (i := 4) scRowsBetween.nd rfl (Or.inl rfl))
        (pss_cons (ps_set (i := 5) scRowsBetween.nd rfl (Or.inl rfl) (pe_meth (pv 0) T.cl m1 G1 hr b1 .nil pass0 (pa_cons (pe_call G2 (hr.mono (by decide)) (by rfl) m2 F2.kp b2 .nil pass0 (pa_cons (pv 4) (pa_cons (pe_callB call_len_seq (by rfl) T.len PySem.boot_len (pa_cons (pe_fld (pv 0) rfl) pa_nil)) pa_nil))) pa_nil)))
        (pss_one (ps_if (pt_cmpR (op_notIn_rows (u4 hr)) (pv 5) (pv 3) rfl)
          (pss_one (ps_expr (pe_bm PySem.F.plainAttrs_list PySem.F.slot_list_append PySem.F.type_list_append mt_append (pv 3) (pa_cons (pv 5) pa_nil)))) pss_nil))))
      (pss_one (ps_ret (pv 3)))), ?_⟩
    have hp4 : 10 ^ d.cubes.length ≤ 10 ^ 4 := Nat.pow_le_pow_right (by decide) D.ok.c4
    have hN : ((b : Int) + 1 - (a : Int)).toNat = b - a + 1 := by omega
    refine ⟨Nat.zero_le _, fun q hq => ?_⟩
    refine ⟨_, rfl, _, rfl, _, _, rfl, rfl, _, _, rfl, by omega, for_range (fun i σ H' => ∃ v4 v5 : Option V, σ = [some (.ref p), some (.int (a : Int)), some (.int (b : Int)), some (.ref q), v4, v5] ∧ Same H H' ∧ ∃ as, H' q = some (.lst (as.map V.ref)) ∧ RowsAt H' as ((List.range i).map fun i => rowNo d (a + i)).eraseDups ∧ ∀ c ∈ as, H c = none)
      ⟨none, none, rfl, Same.new hq, [], upd_same, trivial, fun c hc => by cases hc⟩ ?_ ?_⟩
    · rintro i σ H1 hi ⟨v4, v5, rfl, s1, ras, e1, r1, f1⟩
      rw [hN] at hi
      have ei : (a : Int) + (i : Int) = ((a + i : Nat) : Int) := by omega
      rw [ei]
      refine ⟨_, rfl, p, dx, _, rfl, s1 _ _ D.obj, rfl, _, rfl, _, rfl, p, C, dx, _, _, rfl, s1 _ _ D.obj, T.cl, T.nCubes, rfl, lc, _, rfl, .inl (SqL.of (s1 _ _ D.cub)), a + i, d.cubes.length, ?_, D.ok.c1, D.ok.c4, by omega, fun H2 q2 s2 hq2 e2 => ?_⟩
      · rw [List.length_map, D.rcu.len]
        rfl
      · have s12 := s1.trans s2
        refine ⟨p, q2, _, d, dx, lc, lw, cas, was, rfl, D.same s12, SqL.of e2, by rw [DM.digits_len]; have := D.ok.c4; omega, fun H3 q3 s3 hq3 e3 => ?_⟩
        have s13 := s12.trans s3
        have e1' := s3 _ _ (s2 _ _ e1)
        have r1' := (r1.same s2).same s3
        refine ⟨_, rfl, _, rfl, q3, q, rowNo d (a + i), ras, _, rfl, rfl, SqL.of e3, SqL.of e1', r1', _, rfl, ?_⟩
        rw [if_pos rfl]
        have es : (((List.range (i + 1)).map fun i => rowNo d (a + i))).eraseDups = if (((List.range i).map fun i => rowNo d (a + i)).eraseDups).contains (rowNo d (a + i)) = true then (((List.range i).map fun i => rowNo d (a + i))).eraseDups else (((List.range i).map fun i => rowNo d (a + i))).eraseDups ++ [rowNo d (a + i)] := by
          rw [List.range_succ, List.map_append, List.map_cons, List.map_nil, DM.eraseDups_snoc, DM.contains_dups]
        cases hc : (((List.range i).map fun i => rowNo d (a + i)).eraseDups).contains (rowNo d (a + i)) with
        | true =>
          rw [if_pos hc] at es
          refine iteF ⟨_, _, rfl, s13, ras, e1', ?_, f1⟩
          rw [es]
          exact r1'
        | false =>
          rw [if_neg (by rw [hc]; decide)] at es
          refine iteT ⟨_, rfl, .inl ⟨rfl, _, SqL.of e1'⟩, _, rfl, q, _, _, rfl, rfl, e1', ?_, _, _, rfl, Same.put hq s13, ras ++ [q3], by rw [upd_same, List.map_append]; rfl, ?_, ?_⟩
          · have h1 := r1.len
            have h2 := DM.dups_le ((List.range i).map fun i => rowNo d (a + i))
            rw [List.length_map, List.length_range] at h2
            rw [List.length_map]
            have : sizeLine = 2 ^ 24 := rfl
            omega
          · rw [es]
            exact LL.push e1' r1' e3 (fun z => by rw [z, s2 _ _ e1] at hq3; cases hq3)
          · intro c hc
            rcases List.mem_append.mp hc with hc | hc
            · exact f1 c hc
            · rw [List.mem_singleton.mp hc]
              exact s12.free hq3
    · rintro σ H1 ⟨v4, v5, rfl, s1, as, e1, r1, f1⟩
      rw [hN] at r1
      exact ⟨_, rfl, k H1 q as s1 hq e1 r1 f1⟩
end
end DC

set_option Elab.async false
set_option linter.all false
set_option maxRecDepth 100000
set_option maxHeartbeats 2000000
namespace DC
open PySem PySem.Spec PyProof.Rows L2 L3
/-- all but these is as it was -/
def Kps (S : List Addr) (H H' : Hp) : Prop := ∀ b o, H b = some o → b ∉ S → H' b = some o
theorem Kps.same {S : List Addr} {H H' : Hp} (s : Same H H') : Kps S H H' := fun b o e _ => s b o e
theorem Kps.trans {S : List Addr} {H H1 H2 : Hp} (a : Kps S H H1) (b : Kps S H1 H2) : Kps S H H2 := fun c o e h => b c o (a c o e h) h
theorem Kps.upd {S : List Addr} {H : Hp} {p : Addr} {o : HO} (h : p ∈ S) : Kps S H (upd H p o) := fun b u e hb => by
  rw [upd_ne (fun z : b = p => hb (by rw [z]; exact h))]
  exact e
theorem Kps.free {S : List Addr} {H H' : Hp} (k : Kps S H H') {l : Addr} (h : H' l = none) (hl : l ∉ S) : H l = none := by
  cases q : H l with
  | none => rfl
  | some o => rw [k l o q hl] at h; cases h
/-- nothing that was tracked is lost -/
theorem upd_none {H : Hp} {p b : Addr} {o : HO} (h : upd H p o b = none) : H b = none := by
  by_cases e : b = p
  · rw [e, upd_same] at h; cases h
  · rw [upd_ne e] at h; exact h
theorem Kps.chain {H1 : Hp} {p l2 r : Addr} {o1 o2 o3 o4 o5 : HO} (o6 : HO) (hr : L2.upd (L2.upd (L2.upd (L2.upd (L2.upd H1 p o1) p o2) p o3) l2 o4) p o5 r = none) (hl2 : L2.upd (L2.upd (L2.upd H1 p o1) p o2) p o3 l2 = none) :
    Kps [p] H1 (L2.upd (L2.upd (L2.upd (L2.upd (L2.upd (L2.upd H1 p o1) p o2) p o3) l2 o4) p o5) r o6) := by
  have m : p ∈ [p] := List.mem_singleton.mpr rfl
  exact (((((Kps.upd m).trans (Kps.upd m)).trans (Kps.upd m)).trans (Kps.same (Same.new hl2))).trans (Kps.upd m)).trans (Kps.same (Same.new hr))
def foot (p lc lw : Addr) (cas was : List Addr) : List Addr := p :: lc :: lw :: (cas ++ was)
/-- what stands behind a call: the desk d', the answer ans in a new list -/
def After (C : Addr) (H : Hp) (p dx : Addr) (ft : List Addr) (d' : Uw70.Desk) (ans : List Int) (Q : VK) : Prop := ∀ H' lc' lw' cas' was' r, DeskAt C H' p d' dx lc' lw' cas' was' → Kps ft H H' →
  (∀ b ∈ foot p lc' lw' cas' was', b ∈ ft ∨ H b = none) → H r = none → H' r = some (.lst (ans.map V.int)) → Q (.ref r) H'
section
variable {P : Program} {w : World} {K : PySem.W.Frag} {mg : Str → Option Value} {base : Heap} {C : Addr}
theorem After.still {H H1 : Hp} {p dx lc lw : Addr} {cas was : List Addr} {d : Uw70.Desk} {xs : List V} {ans : List Int} {Q : VK} {r : Addr} (A : After C H p dx (foot p lc lw cas was) d ans Q) (D : DeskAt C H p d dx lc lw cas was) (s : Same H H1) (hr : H1 r = none) (e : xs = ans.map V.int) :
    Q (.ref r) (upd H1 r (.lst xs)) :=
  A _ lc lw cas was r (D.same (s.trans (Same.new hr))) (Kps.same (s.trans (Same.new hr))) (fun b hb => .inl hb) (s.free hr) (by rw [upd_same, e])
/-- want -/
def spWant (K : PySem.W.Frag) (C : Addr) : Sp := fun vs H Q _ => ∃ (p a : Addr) (l : List Nat) (d : Uw70.Desk) (dx lc lw : Addr) (cas was : List Addr), vs = [.ref p, .ref a] ∧ DeskAt C H p d dx lc lw cas was ∧ SqL K H a (vN l) ∧ l.length < 1000 ∧
  After C H p dx (foot p lc lw cas was) (Uw70.step d (.want l)).1 (Uw70.step d (.want l)).2 Q
theorem scWant : FnScope ["self", "numbers", "row"] ["self", "numbers"] (defScope sWant) := ⟨rfl, rfl, rfl, by decide +kernel, rfl, by decide +kernel, by decide +kernel⟩
theorem ok_want {f : Addr} {fd : FuncData} (F : Fun K "want" "Desk.want" sWant f fd) (T : Txt K mg C) : FnOk P w K mg base CX0 3 f fd ["self", "numbers"] (spWant K C) := by
  obtain ⟨f1, fd1, m1, F1, b1⟩ := T.asRead
  have G1 : FnOk P w K mg base CX0 2 f1 fd1 ["self", "digits"] (spAsRead K C) := ok_asRead F1 T
  obtain ⟨f2, fd2, m2, F2, b2⟩ := T.isRow
  have G2 : FnOk P w K mg base CX0 2 f2 fd2 ["self", "numbers"] (spIsRow K C) := ok_isRow F2 T
  obtain ⟨t1, mg1⟩ := T.notTold
  obtain ⟨t2, mg2⟩ := T.already
  obtain ⟨t3, mg3⟩ := T.enough
  obtain ⟨t4, mg4⟩ := T.mostWanted
  refine F.ok scWant (fun vs H Q E h => ?_) (fun cdv A outer s H vs Q E hr h => ?_)
  · obtain ⟨p, a, l, d, dx, lc, lw, cas, was, rfl, _⟩ := h
    rfl
  · obtain ⟨p, a, l, d, dx, lc, lw, cas, was, rfl, D, hS, hl, k⟩ := h
    refine ⟨_, pss_cons (ps_if (pt_not (pt_val (pe_meth (pv 0) T.cl m2 G2 hr b2 .nil pass0 (pa_cons (pv 1) pa_nil)))) (pss_one (ps_ret (pe_lst (pa_cons (pe_glob (v := .int (-1)) (by rfl) mg1 ⟨_, rfl⟩) pa_nil)))) pss_nil)
      (pss_cons (ps_set (i := 2) scWant.nd rfl (Or.inl rfl) (pe_meth (pv 0) T.cl m1 G1 hr b1 .nil pass0 (pa_cons (pv 1) pa_nil)))
      (pss_cons (ps_if (pt_cmpR (op_in_rows (u4 hr)) (pv 2) (pe_fld (pv 0) rfl) rfl) (pss_one (ps_ret (pe_lst (pa_cons (pe_glob (v := .int (-4)) (by rfl) mg2 ⟨_, rfl⟩) pa_nil)))) pss_nil)
      (pss_cons (ps_if (pt_cmpR op_ge (pe_callB call_len_seq (by rfl) T.len PySem.boot_len (pa_cons (pe_fld (pv 0) rfl) pa_nil)) (pe_glob (v := .int 40) (by rfl) mg4 ⟨_, rfl⟩) (nomark _)) (pss_one (ps_ret (pe_lst (pa_cons (pe_glob (v := .int (-5)) (by rfl) mg3 ⟨_, rfl⟩) pa_nil)))) pss_nil)
      (pss_cons (ps_expr (pe_bm PySem.F.plainAttrs_list PySem.F.slot_list_append PySem.F.type_list_append mt_append (pe_fld (pv 0) rfl) (pa_cons (pv 2) pa_nil)))
      (pss_one (ps_ret (pe_lst (pa_cons (pe_callB call_len_seq (by rfl) T.len PySem.boot_len (pa_cons (pe_fld (pv 0) rfl) pa_nil)) pa_nil)))))))), ?_⟩
    have one : (1 : Nat) ≤ sizeLine := by decide
    refine ⟨_, rfl, p, dx, _, rfl, D.obj, rfl, _, rfl, p, a, l, d, dx, lc, lw, cas, was, rfl, D, hS, hl, fun H1 s1 => ⟨_, rfl, ?_⟩⟩
    simp only [Uw70.step] at k
    cases hrow : Uw70.isRow d l with
    | false =>
      rw [hrow, if_pos rfl] at k
      exact iteT ⟨one, fun r hr => k.still D s1 hr rfl⟩
    | true =>
      rw [hrow, if_neg (by decide)] at k
      refine iteF ⟨_, rfl, p, dx, _, rfl, s1 _ _ D.obj, rfl, _, rfl, p, a, l, d, dx, lc, lw, cas, was, rfl, D.same s1, s1.seq hS, hl, fun H2 q s2 hq e2 => ?_⟩
      have s12 := s1.trans s2
      refine ⟨_, rfl, _, rfl, p, C, dx, _, _, rfl, s12 _ _ D.obj, T.cl, T.nWanted, rfl, q, lw, _, was, d.wanted, rfl, rfl, SqL.of e2, SqL.of (s12 _ _ D.wan), D.rwa.same s12, _, rfl, ?_⟩
      rw [if_neg (by decide)]
      cases hin : d.wanted.contains (l.map (Uw70.reads d.turned)) with
      | true =>
        rw [hin, if_pos rfl] at k
        exact iteT ⟨one, fun r hr => k.still D s12 hr rfl⟩
      | false =>
        rw [hin, if_neg (by decide)] at k
        refine iteF ⟨_, rfl, p, C, dx, _, _, rfl, s12 _ _ D.obj, T.cl, T.nWanted, rfl, lw, _, rfl, .inl (SqL.of (s12 _ _ D.wan)), _, _, rfl, rfl, _, rfl, ?_⟩
        rw [List.length_map, D.rwa.len]
        by_cases h40 : 40 ≤ d.wanted.length
        · rw [if_pos h40] at k
          rw [decide_eq_true (by omega)]
          exact iteT ⟨one, fun r hr => k.still D s12 hr rfl⟩
        · rw [if_neg h40] at k
          rw [decide_eq_false (by omega)]
          refine iteF ⟨_, rfl, p, C, dx, _, _, rfl, s12 _ _ D.obj, T.cl, T.nWanted, rfl, .inl ⟨rfl, _, SqL.of (s12 _ _ D.wan)⟩, _, rfl, lw, _, _, rfl, rfl, s12 _ _ D.wan, ?_, ?_⟩
          · rw [List.length_map, D.rwa.len]
            have : sizeLine = 2 ^ 24 := rfl
            omega
          · have hql : q ≠ lw := fun z => by rw [z, s1 _ _ D.wan] at hq; cases hq
            have D3 := (D.same s12).push e2 hql (D.ok.want hrow h40)
            refine ⟨_, rfl, p, C, dx, _, _, rfl, D3.obj, T.cl, T.nWanted, rfl, lw, _, rfl, .inl (SqL.of D3.wan), one, fun r hr => ?_⟩
            have s4 := Same.new (o := .lst [V.int (((was ++ [q]).map V.ref).length : Int)]) hr
            have hlw : lw ∈ foot p lc lw cas was := by simp [foot]
            have kk : Kps (foot p lc lw cas was) H _ := ((Kps.same s12).trans (Kps.upd hlw)).trans (Kps.same s4)
            refine k _ lc lw cas (was ++ [q]) r (D3.same s4) kk (fun b hb => ?_) ?_ ?_
            · have hb : b ∈ p :: lc :: lw :: (cas ++ (was ++ [q])) := hb
              by_cases e : b = q
              · rw [e]
                exact .inr (s1.free hq)
              · left
                simp only [foot, List.mem_cons, List.mem_append, List.mem_nil_iff, or_false] at hb ⊢
                rcases hb with h | h | h | h | h | h
                · exact .inl h
                · exact .inr (.inl h)
                · exact .inr (.inr (.inl h))
                · exact .inr (.inr (.inr (.inl h)))
                · exact .inr (.inr (.inr (.inr h)))
                · exact absurd h e
            · have h2 := Same.free (H := upd H2 lw (.lst (was.map V.ref ++ [V.ref q]))) (Same.refl _) hr
              cases e : H r with
              | none => rfl
              | some o =>
                by_cases hrl : r = lw
                · rw [hrl, upd_same] at h2; cases h2
                · rw [upd_ne hrl, s12 _ _ e] at h2; cases h2
            · rw [upd_same, List.length_map, List.length_append, D.rwa.len]
              rfl
/-- begins -/
def spBegins (C : Addr) : Sp := fun vs H Q _ => ∃ (p : Addr) (n f t : Nat) (d : Uw70.Desk) (dx lc lw : Addr) (cas was : List Addr), vs = [.ref p, .int (n : Int), .int (f : Int), .int (t : Int)] ∧ DeskAt C H p d dx lc lw cas was ∧
  After C H p dx (foot p lc lw cas was) (Uw70.step d (.begins n f t)).1 (Uw70.step d (.begins n f t)).2 Q
theorem scBegins : FnScope ["self", "cubes", "faces", "turned", "cube"] ["self", "cubes", "faces", "turned"] (defScope sBegins) := ⟨rfl, rfl, rfl, by decide +kernel, rfl, by decide +kernel, by decide +kernel⟩
theorem ok_begins {f : Addr} {fd : FuncData} (F : Fun K "begins" "Desk.begins" sBegins f fd) (T : Txt K mg C) : FnOk P w K mg base CX0 1 f fd ["self", "cubes", "faces", "turned"] (spBegins C) := by
  obtain ⟨t1, mg1⟩ := T.notTold
  obtain ⟨t2, mg2⟩ := T.mostCubes
  obtain ⟨t3, mg3⟩ := T.mostFaces
  refine F.ok scBegins (fun vs H Q E h => ?_) (fun cdv A outer s H vs Q E hr h => ?_)
  · obtain ⟨p, n, f, t, d, dx, lc, lw, cas, was, rfl, _⟩ := h
    rfl
  · obtain ⟨p, n, f, t, d, dx, lc, lw, cas, was, rfl, D, k⟩ := h
    refine ⟨_, pss_cons (ps_if (PW.pt (pw_or (pt_cmpR op_lt (pv 1) pe_int (nomark _)) (pw_or (pt_cmpR op_gt (pv 1) (pe_glob (v := .int 4) (by rfl) mg2 ⟨_, rfl⟩) (nomark _)) (pw_or (pt_cmpR op_lt (pv 2) pe_int (nomark _)) (pw_or (pt_cmpR op_gt (pv 2) (pe_glob (v := .int 6) (by rfl) mg3 ⟨_, rfl⟩) (nomark _)) (pw_or1 (pt_cmpR op_notIn_seq (pv 3) (pe_tup (pa_cons pe_int (pa_cons pe_int pa_nil))) rfl)))))))
        (pss_one (ps_ret (pe_lst (pa_cons (pe_glob (v := .int (-1)) (by rfl) mg1 ⟨_, rfl⟩) pa_nil)))) pss_nil)
      (pss_cons (ps_fld (pv 0) (pe_lc (own := [("cube", 4)]) rfl scBegins.nd (pi_range1 (by rfl) T.range (pa_cons (pv 1) pa_nil)) (blkOk_by (N := ["self", "cubes", "faces", "turned", "cube"]) (sc := defScope sBegins) (by decide +kernel)) (fun _ _ _ _ _ => pg_name (i := 4) scBegins.nd rfl (Or.inl rfl)) (fun _ _ _ _ _ => pts_nil) (fun _ _ _ _ _ => pe_lst pa_nil)) rfl)
      (pss_cons (ps_fld (pv 0) (pv 2) rfl)
      (pss_cons (ps_fld (pv 0) (pv 3) rfl)
      (pss_cons (ps_fld (pv 0) (pe_lst pa_nil) rfl)
      (pss_one (ps_ret (pe_lst (pa_cons pe_int pa_nil)))))))), ?_⟩
    have one : (1 : Nat) ≤ sizeLine := by decide
    simp only [Uw70.step] at k
    have no : n < 1 ∨ 4 < n ∨ f < 1 ∨ 6 < f ∨ 1 < t → After C H p dx (foot p lc lw cas was) d [-1] Q := fun h => by
      rw [if_pos h] at k
      exact k
    refine ⟨_, rfl, _, _, rfl, rfl, _, rfl, ?_⟩
    by_cases h1 : n < 1
    · rw [decide_eq_true (by omega)]
      exact iteT (iteT ⟨one, fun r hr => (no (.inl h1)).still D (Same.refl H) hr rfl⟩)
    rw [decide_eq_false (by omega)]
    refine iteF ⟨_, rfl, _, _, rfl, rfl, _, rfl, ?_⟩
    by_cases h2 : 4 < n
    · rw [decide_eq_true (by omega)]
      exact iteT (iteT ⟨one, fun r hr => (no (.inr (.inl h2))).still D (Same.refl H) hr rfl⟩)
    rw [decide_eq_false (by omega)]
    refine iteF ⟨_, rfl, _, _, rfl, rfl, _, rfl, ?_⟩
    by_cases h3 : f < 1
    · rw [decide_eq_true (by omega)]
      exact iteT (iteT ⟨one, fun r hr => (no (.inr (.inr (.inl h3)))).still D (Same.refl H) hr rfl⟩)
    rw [decide_eq_false (by omega)]
    refine iteF ⟨_, rfl, _, _, rfl, rfl, _, rfl, ?_⟩
    by_cases h4 : 6 < f
    · rw [decide_eq_true (by omega)]
      exact iteT (iteT ⟨one, fun r hr => (no (.inr (.inr (.inr (.inl h4))))).still D (Same.refl H) hr rfl⟩)
    rw [decide_eq_false (by omega)]
    refine iteF ⟨_, rfl, (by show 2 ≤ sizeLine; decide), fun q0 hq0 => ⟨q0, _, rfl, .inr (SqT.of upd_same), rfl, rfl, _, rfl, ?_⟩⟩
    have s0 := Same.new (o := .tup [V.int 0, V.int 1]) hq0
    rw [if_pos rfl]
    have hin : (!inV (V.int (t : Int)) [V.int 0, V.int 1]) = decide (1 < t) := by
      have e : inV (V.int (t : Int)) [V.int 0, V.int 1] = (((0 : Int) == (t : Int)) || (((1 : Int) == (t : Int)) || false)) := rfl
      rw [e]
      by_cases h5 : 1 < t
      · rw [beq_eq_false_iff_ne.mpr (by omega), beq_eq_false_iff_ne.mpr (by omega), decide_eq_true h5]
        rfl
      · have : t = 0 ∨ t = 1 := by omega
        rcases this with rfl | rfl <;> rfl
    rw [hin]
    by_cases h5 : 1 < t
    · rw [decide_eq_true h5]
      exact iteT ⟨one, fun r hr => (no (.inr (.inr (.inr (.inr h5))))).still D s0 hr rfl⟩
    rw [decide_eq_false h5]
    rw [if_neg (by omega)] at k
    refine iteF ⟨_, rfl, _, rfl, by omega, by omega, fun q hq => lc_range (Pv := fun i H' => Same H H' ∧ ∃ as, H' q = some (.lst (as.map V.ref)) ∧ RowsAt H' as (List.replicate i []) ∧ ∀ a ∈ as, H a = none)
      ⟨s0.trans (Same.new hq), [], upd_same, trivial, fun a ha => by cases ha⟩ (fun i H1 hi ⟨s1, as, e1, r1, f1⟩ => ?_) (fun H1 ⟨s1, as, e1, r1, f1⟩ => ?_)⟩
    · refine ⟨rfl, yes_if ⟨Nat.zero_le _, fun q1 hq1 => ?_⟩⟩
      have s2 := Same.new (o := .lst []) hq1
      have hqq : q1 ≠ q := fun z => by rw [z, e1] at hq1; cases hq1
      refine ⟨_, s2 _ _ e1, ?_, Same.put (s0.free hq) (s1.trans s2), as ++ [q1], by rw [upd_same, List.map_append]; rfl, ?_, fun a ha => ?_⟩
      · rw [List.length_map, r1.len, List.length_replicate]
        have : sizeLine = 2 ^ 24 := rfl
        have hi : i < ((n : Int)).toNat := hi
        omega
      · rw [List.replicate_succ']
        exact LL.push (s2 _ _ e1) (r1.same s2) upd_same hqq
      · rcases List.mem_append.mp ha with ha | ha
        · exact f1 a ha
        · rw [List.mem_singleton.mp ha]
          exact s1.free hq1
    · have hqH : H q = none := s0.free hq
      have hqp : q ≠ p := fun z => by rw [z, D.obj] at hqH; cases hqH
      rw [Int.toNat_natCast] at r1
      refine ⟨_, rfl, p, C, dx, _, rfl, s1 _ _ D.obj, T.cl, T.nCubes, (by show 4 < 1000; decide), ?_⟩
      refine ⟨_, rfl, _, rfl, p, C, dx, _, rfl, upd_same, T.cl, T.nFaces, (by show 4 < 1000; decide), ?_⟩
      refine ⟨_, rfl, _, rfl, p, C, dx, _, rfl, upd_same, T.cl, T.nTurned, (by show 4 < 1000; decide), ?_⟩
      refine ⟨Nat.zero_le _, fun l2 hl2 => ?_⟩
      refine ⟨_, rfl, p, C, dx, _, rfl, (by rw [upd_ne (fun z => by rw [← z, upd_same] at hl2; cases hl2)]; exact upd_same), T.cl, T.nWanted, (by show 4 < 1000; decide), one, fun r hr => ?_⟩
      have hl2' := upd_none (upd_none (upd_none hl2))
      have hpl : p ≠ l2 := ne_of_none (s1 _ _ D.obj) hl2'
      have k2 := Kps.chain (.lst [V.int 0]) hr hl2
      have hmem : ∀ b, b ∉ foot p lc lw cas was → b ∉ [p] := fun b hb z => hb (by rw [List.mem_singleton.mp z]; simp [foot])
      have hr1 := upd_none (upd_none hr)
      have hrp : r ≠ p := fun z => by rw [z, upd_same] at hr; cases hr
      have hrl : r ≠ l2 := fun z => by rw [z, upd_ne hpl.symm, upd_same] at hr; cases hr
      have hasp : ∀ a ∈ as, a ∉ [p] := fun a ha z => by
        have := f1 a ha
        rw [List.mem_singleton.mp z, D.obj] at this
        cases this
      refine k _ q l2 as [] r ⟨?_, k2 _ _ e1 (fun z => hqp (List.mem_singleton.mp z)), r1.mono (fun a ha o e => k2 _ _ e (hasp a ha)), ?_, trivial, fun z => ?_, fun z => ?_, ?_⟩ (fun b o e hb => k2 b o (s1 _ _ e) (hmem b hb)) (fun b hb => ?_) ?_ upd_same
      · rw [upd_ne hrp.symm, upd_same]
        have et : (t : Int) = tn (t == 1) := by
          have : t = 0 ∨ t = 1 := by omega
          rcases this with rfl | rfl <;> rfl
        rw [et]
        rfl
      · rw [upd_ne (Ne.symm hrl), upd_ne hpl.symm, upd_same]
        rfl
      · obtain ⟨l, _, hl⟩ := r1.mem z
        rw [hl] at hl2'
        cases hl2'
      · rw [← z, e1] at hl2'
        cases hl2'
      · refine ⟨?_, ?_, ?_, ?_, Nat.zero_le _, (fun r hr => by cases hr), (fun r hr => by cases hr), ?_, ?_, ?_⟩
        · show 1 ≤ (List.replicate n []).length
          rw [List.length_replicate]; omega
        · show (List.replicate n []).length ≤ 4
          rw [List.length_replicate]; omega
        · show 1 ≤ f
          omega
        · show f ≤ 6
          omega
        · intro q hq
          rw [List.eq_of_mem_replicate hq]
          exact Nat.zero_le _
        · intro q hq c hc
          rw [List.eq_of_mem_replicate hq] at hc
          cases hc
        · intro q hq
          rw [List.eq_of_mem_replicate hq]
          rfl
      · have hb : b ∈ p :: q :: l2 :: (as ++ []) := hb
        rw [List.append_nil] at hb
        rcases List.mem_cons.mp hb with rfl | hb
        · exact .inl (by simp [foot])
        rcases List.mem_cons.mp hb with rfl | hb
        · exact .inr hqH
        rcases List.mem_cons.mp hb with rfl | hb
        · exact .inr (s1.free hl2')
        · exact .inr (f1 b hb)
      · exact s1.free (upd_none (upd_none (upd_none hr1)))
/-- wants -/
theorem Ok_wants {d : Uw70.Desk} (o : DM.Ok d) {n : Nat} (a : Nat) (h : n ≤ 40) : DM.Ok { d with wanted := ((List.range n).map fun i => rowNo d (a + i)).eraseDups } := by
  refine ⟨o.c1, o.c4, o.f1, o.f6, ?_, fun r hr => ?_, fun r hr c hc => ?_, o.q6, o.q9, o.qd⟩
  · have h2 := DM.dups_le ((List.range n).map fun i => rowNo d (a + i))
    rw [List.length_map, List.length_range] at h2
    exact Nat.le_trans h2 h
  · obtain ⟨i, _, rfl⟩ := List.mem_map.mp (List.mem_eraseDups.mp hr)
    show (rowNo d (a + i)).length = d.cubes.length
    unfold rowNo
    rw [List.length_map, DM.digits_len]
  · obtain ⟨i, _, rfl⟩ := List.mem_map.mp (List.mem_eraseDups.mp hr)
    unfold rowNo at hc
    obtain ⟨x, hx, rfl⟩ := List.mem_map.mp hc
    exact DM.reads_le (DM.digits_le _ _ _ hx)
def spWants (C : Addr) : Sp := fun vs H Q _ => ∃ (p : Addr) (a b : Nat) (d : Uw70.Desk) (dx lc lw : Addr) (cas was : List Addr), vs = [.ref p, .int (a : Int), .int (b : Int)] ∧ DeskAt C H p d dx lc lw cas was ∧ b < 2 ^ 32 ∧
  After C H p dx (foot p lc lw cas was) (Uw70.step d (.wants a b)).1 (Uw70.step d (.wants a b)).2 Q
theorem scWants : FnScope ["self", "first", "last"] ["self", "first", "last"] (defScope sWants) := ⟨rfl, rfl, rfl, by decide +kernel, rfl, by decide +kernel, by decide +kernel⟩
theorem str_len (b : Nat) : (Str.ofString (toString ((b : Nat) : Int))).length = (DM.codes b).length := by
  unfold DM.codes
  rw [← PySem.W.KIN.signs_num]
  exact Array.length_toList.symm
theorem log_lt {b : Nat} (h : b < 2 ^ 32) : ((b : Int)).natAbs.log2 < 1920 := by
  rw [Int.natAbs_natCast]
  by_cases z : b = 0
  · subst z; decide
  · exact Nat.lt_of_lt_of_le ((Nat.log2_lt z).mpr h) (by decide)
theorem ok_wants {f : Addr} {fd : FuncData} (F : Fun K "wants" "Desk.wants" sWants f fd) (T : Txt K mg C) : FnOk P w K mg base CX0 4 f fd ["self", "first", "last"] (spWants C) := by
  obtain ⟨t1, mg1⟩ := T.notTold
  obtain ⟨t2, mg2⟩ := T.mostWanted
  obtain ⟨g1, fd1, m1, F1, b1⟩ := T.rowsBetween
  have G1 : FnOk P w K mg base CX0 3 g1 fd1 ["self", "first", "last"] (spRowsBetween C) := ok_rowsBetween F1 T
  refine F.ok scWants (fun vs H Q E h => ?_) (fun cdv A outer s H vs Q E hr h => ?_)
  · obtain ⟨p, a, b, d, dx, lc, lw, cas, was, rfl, _⟩ := h
    rfl
  · obtain ⟨p, a, b, d, dx, lc, lw, cas, was, rfl, D, hb32, k⟩ := h
    refine ⟨_, pss_cons (ps_if (PW.pt (pw_or (pt_cmpR op_gt (pv 1) (pv 2) (nomark _)) (pw_or (pt_cmpR op_gt (pe_callB call_len_str (by rfl) T.len PySem.boot_len (pa_cons (pe_callTy call_str_int (by rfl) T.str (by decide +kernel) (pa_cons (pv 2) pa_nil)) pa_nil)) (pe_callB call_len_seq (by rfl) T.len PySem.boot_len (pa_cons (pe_fld (pv 0) rfl) pa_nil)) (nomark _))
          (pw_or1 (pt_cmpR op_gt (pe_op op_add (pe_op op_sub (pv 2) (pv 1)) pe_int) (pe_glob (v := .int 40) (by rfl) mg2 ⟨_, rfl⟩) (nomark _))))))
        (pss_one (ps_ret (pe_lst (pa_cons (pe_glob (v := .int (-1)) (by rfl) mg1 ⟨_, rfl⟩) pa_nil)))) pss_nil)
      (pss_cons (ps_fld (pv 0) (pe_meth (pv 0) T.cl m1 G1 hr b1 .nil pass0 (pa_cons (pv 1) (pa_cons (pv 2) pa_nil))) rfl)
      (pss_one (ps_ret (pe_lst (pa_cons (pe_callB call_len_seq (by rfl) T.len PySem.boot_len (pa_cons (pe_fld (pv 0) rfl) pa_nil)) pa_nil))))), ?_⟩
    have one : (1 : Nat) ≤ sizeLine := by decide
    simp only [Uw70.step] at k
    have no : b < a ∨ 10 ^ d.cubes.length ≤ b ∨ 40 < b - a + 1 → After C H p dx (foot p lc lw cas was) d [-1] Q := fun h => by
      rw [if_pos h] at k
      exact k
    refine ⟨_, rfl, _, rfl, _, _, rfl, rfl, _, rfl, ?_⟩
    by_cases h1 : b < a
    · rw [decide_eq_true (by omega)]
      exact iteT (iteT ⟨one, fun r hr => (no (.inl h1)).still D (Same.refl H) hr rfl⟩)
    rw [decide_eq_false (by omega)]
    have hsl : (Str.ofString (toString ((b : Nat) : Int))).length ≤ sizeLine := by
      rw [str_len]
      have : (DM.codes b).length ≤ 10 := (DM.codes_len (by decide)).mpr (Nat.lt_trans hb32 (by decide))
      exact Nat.le_trans this (by decide)
    refine iteF ⟨_, rfl, _, rfl, log_lt hb32, _, rfl, hsl, _, rfl, p, C, dx, _, _, rfl, D.obj, T.cl, T.nCubes, rfl, lc, _, rfl, .inl (SqL.of D.cub), _, _, rfl, rfl, _, rfl, ?_⟩
    have hcl := DM.codes_len (n := b) D.ok.c1
    have e2 : ((toString ((b : Nat) : Int) : Str)).length = (DM.codes b).length := str_len b
    rw [e2, List.length_map, D.rcu.len]
    by_cases h2 : 10 ^ d.cubes.length ≤ b
    · rw [decide_eq_true (by omega)]
      exact iteT (iteT ⟨one, fun r hr => (no (.inr (.inl h2))).still D (Same.refl H) hr rfl⟩)
    rw [decide_eq_false (by omega)]
    refine iteF ⟨_, rfl, _, rfl, _, _, rfl, rfl, _, _, rfl, rfl, _, _, rfl, rfl, _, rfl, ?_⟩
    by_cases h3 : 40 < b - a + 1
    · rw [decide_eq_true (by omega)]
      exact iteT ⟨one, fun r hr => (no (.inr (.inr h3))).still D (Same.refl H) hr rfl⟩
    rw [decide_eq_false (by omega)]
    rw [if_neg (by omega)] at k
    refine iteF ⟨_, rfl, p, dx, _, rfl, D.obj, rfl, _, rfl, _, rfl, p, a, b, d, dx, lc, lw, cas, was, rfl, D, by omega, by omega, by omega, fun H1 q as s1 hq e1 r1 f1 => ?_⟩
    have hqp : q ≠ p := fun z => by rw [z, D.obj] at hq; cases hq
    refine ⟨_, rfl, p, C, dx, _, rfl, s1 _ _ D.obj, T.cl, T.nWanted, (by show 4 < 1000; decide), ?_⟩
    have kp : Kps [p] H1 (upd H1 p (.ins C dx (putF "wanted" (.ref q) (dk lc lw d.faces (tn d.turned))))) := Kps.upd (List.mem_singleton.mpr rfl)
    have e1' := kp _ _ e1 (fun z => hqp (List.mem_singleton.mp z))
    refine ⟨_, rfl, p, C, dx, _, _, rfl, upd_same, T.cl, T.nWanted, rfl, q, _, rfl, .inl (SqL.of e1'), one, fun r hr => ?_⟩
    have s2 := Same.new (o := .lst [V.int (((as.map V.ref).length : Nat) : Int)]) hr
    have np : ∀ c, H1 c = none ∨ H c = none → c ∉ [p] := fun c hc z => by
      rw [List.mem_singleton.mp z, D.obj, s1 _ _ D.obj] at hc
      rcases hc with hc | hc <;> cases hc
    have k2 : Kps [p] H1 _ := kp.trans (Kps.same s2)
    have hcp : lc ∉ [p] := fun z => by
      have e := D.cub
      rw [List.mem_singleton.mp z, D.obj] at e
      cases e
    have hcs : ∀ c ∈ cas, c ∉ [p] := fun c hc z => by
      obtain ⟨l, _, e⟩ := D.rcu.mem hc
      rw [List.mem_singleton.mp z, D.obj] at e
      cases e
    refine k _ lc q cas as r ⟨s2 _ _ upd_same, k2 _ _ (s1 _ _ D.cub) hcp, (D.rcu.same s1).mono (fun c hc o e => k2 _ _ e (hcs c hc)), s2 _ _ e1', r1.mono (fun c hc o e => k2 _ _ e (np c (.inr (f1 c hc)))), fun z => ?_, fun z => ?_, Ok_wants D.ok a (by omega)⟩
      (fun b o e hb => k2 b o (s1 _ _ e) (fun z => hb (by rw [List.mem_singleton.mp z]; simp [foot]))) (fun b hb => ?_) ?_ ?_
    · obtain ⟨l, _, e⟩ := D.rcu.mem z
      rw [hq] at e
      cases e
    · rw [← z, D.cub] at hq
      cases hq
    · have hb : b ∈ p :: lc :: q :: (cas ++ as) := hb
      rcases List.mem_cons.mp hb with rfl | hb
      · exact .inl (by simp [foot])
      rcases List.mem_cons.mp hb with rfl | hb
      · exact .inl (by simp [foot])
      rcases List.mem_cons.mp hb with rfl | hb
      · exact .inr hq
      rcases List.mem_append.mp hb with hb | hb
      · exact .inl (by simp [foot, hb])
      · exact .inr (f1 b hb)
    · exact s1.free (upd_none hr)
    · rw [upd_same, List.length_map, r1.len]
      rfl
/-- show -/
def spShow (K : PySem.W.Frag) (C : Addr) : Sp := fun vs H Q _ => ∃ (p a : Addr) (l : List Nat) (d : Uw70.Desk) (dx lc lw : Addr) (cas was : List Addr), vs = [.ref p, .ref a] ∧ DeskAt C H p d dx lc lw cas was ∧ SqL K H a (vN l) ∧ l.length < 1000 ∧
  After C H p dx (foot p lc lw cas was) (Uw70.step d (.show_ l)).1 (Uw70.step d (.show_ l)).2 Q
theorem scShow : FnScope ["self", "numbers", "ways"] ["self", "numbers"] (defScope sShow) := ⟨rfl, rfl, rfl, by decide +kernel, rfl, by decide +kernel, by decide +kernel⟩
theorem isRow_len {d : Uw70.Desk} {l : List Nat} (h : Uw70.isRow d l = true) : l.length = d.cubes.length := by
  unfold Uw70.isRow at h
  rw [Bool.and_eq_true, beq_iff_eq] at h
  exact h.1
theorem ok_show {f : Addr} {fd : FuncData} (F : Fun K "show" "Desk.show" sShow f fd) (T : Txt K mg C) : FnOk P w K mg base CX0 3 f fd ["self", "numbers"] (spShow K C) := by
  obtain ⟨g1, fd1, m1, F1, b1⟩ := T.asRead
  have G1 : FnOk P w K mg base CX0 2 g1 fd1 ["self", "digits"] (spAsRead K C) := ok_asRead F1 T
  obtain ⟨g2, fd2, m2, F2, b2⟩ := T.isRow
  have G2 : FnOk P w K mg base CX0 2 g2 fd2 ["self", "numbers"] (spIsRow K C) := ok_isRow F2 T
  obtain ⟨g3, fd3, m3, F3, b3⟩ := T.ways
  have G3 : FnOk P w K mg base CX0 2 g3 fd3 ["row", "cubes"] (spWays K) := ok_ways F3 T
  obtain ⟨t1, mg1⟩ := T.notTold
  refine F.ok scShow (fun vs H Q E h => ?_) (fun cdv A outer s H vs Q E hr h => ?_)
  · obtain ⟨p, a, l, d, dx, lc, lw, cas, was, rfl, _⟩ := h
    rfl
  · obtain ⟨p, a, l, d, dx, lc, lw, cas, was, rfl, D, hS, hl, k⟩ := h
    refine ⟨_, pss_cons (ps_if (pt_not (pt_val (pe_meth (pv 0) T.cl m2 G2 hr b2 .nil pass0 (pa_cons (pv 1) pa_nil)))) (pss_one (ps_ret (pe_lst (pa_cons (pe_glob (v := .int (-1)) (by rfl) mg1 ⟨_, rfl⟩) pa_nil)))) pss_nil)
      (pss_cons (ps_set (i := 2) scShow.nd rfl (Or.inl rfl) (pe_call G3 hr (by rfl) m3 F3.kp b3 .nil pass0 (pa_cons (pe_meth (pv 0) T.cl m1 G1 hr b1 .nil pass0 (pa_cons (pv 1) pa_nil)) (pa_cons (pe_fld (pv 0) rfl) pa_nil))))
      (pss_cons (ps_if (pt_cmpR op_eq (pe_callB call_len_seq (by rfl) T.len PySem.boot_len (pa_cons (pv 2) pa_nil)) pe_int (nomark _)) (pss_one (ps_ret (pe_lst (pa_cons pe_int pa_nil)))) pss_nil)
      (pss_one (ps_ret (pe_op op_cat (pe_lst (pa_cons (pe_callB call_len_seq (by rfl) T.len PySem.boot_len (pa_cons (pv 2) pa_nil)) pa_nil)) (pe_ix ix_list (pv 2) pe_int (fun _ _ => rfl))))))), ?_⟩
    have one : (1 : Nat) ≤ sizeLine := by decide
    simp only [Uw70.step] at k
    refine ⟨_, rfl, p, dx, _, rfl, D.obj, rfl, _, rfl, p, a, l, d, dx, lc, lw, cas, was, rfl, D, hS, hl, fun H1 s1 => ⟨_, rfl, ?_⟩⟩
    cases hrow : Uw70.isRow d l with
    | false =>
      rw [hrow, if_pos rfl] at k
      exact iteT ⟨one, fun r hr => k.still D s1 hr rfl⟩
    | true =>
      rw [hrow, if_neg (by decide)] at k
      have hll := isRow_len hrow
      have h4 := D.ok.c4
      refine iteF ⟨_, rfl, p, dx, _, rfl, s1 _ _ D.obj, rfl, _, rfl, p, a, l, d, dx, lc, lw, cas, was, rfl, D.same s1, s1.seq hS, hl, fun H2 q s2 hq e2 => ?_⟩
      have s12 := s1.trans s2
      refine ⟨_, rfl, p, C, dx, _, _, rfl, s12 _ _ D.obj, T.cl, T.nCubes, rfl, q, lc, cas, _, d.cubes, rfl, SqL.of e2, s12 _ _ D.cub, D.rcu.same s12, h4, (by rw [List.length_map]; omega), fun H3 q3 s3 hq3 ⟨as, e3, r3⟩ => ?_⟩
      have s13 := s12.trans s3
      have hwl := r3.len
      have hfl := DM.fold_len h4 (l.map (Uw70.reads d.turned))
      have hfm := DM.fold_mem d.cubes (l.map (Uw70.reads d.turned))
      have hw : DM.fold d.cubes (l.map (Uw70.reads d.turned)) = Uw70.ways d.cubes (l.map (Uw70.reads d.turned)) := DM.longer_ways _ _
      rw [hw] at hfl hfm
      refine ⟨_, rfl, q3, _, rfl, .inl (SqL.of e3), rfl, _, rfl, ?_⟩
      rw [List.length_map, hwl]
      generalize Uw70.ways d.cubes (l.map (Uw70.reads d.turned)) = ws at k hwl r3 hfm
      cases ws with
      | nil =>
        exact iteT ⟨one, fun r hr => k.still D s13 hr rfl⟩
      | cons w0 ws =>
        obtain ⟨a0, ha0, hw0⟩ := r3.get' (i := 0) rfl
        rw [decide_eq_false (by intro z; have := V.int.inj z; rw [List.length_cons] at this; omega)]
        refine iteF ⟨_, rfl, q3, _, rfl, .inl (SqL.of e3), one, fun q4 hq4 => ?_⟩
        have s4 := Same.new (o := .lst [V.int (((as.map V.ref).length : Nat) : Int)]) hq4
        refine ⟨_, rfl, q3, _, _, _, rfl, rfl, SqL.of (s4 _ _ e3), atI_nat (j := 0) (ref_at ha0), q4, a0, _, _, rfl, rfl, upd_same, s4 _ _ hw0, ?_, fun r hr => ?_⟩
        · rw [vN_len]
          show 1 + w0.length ≤ sizeLine
          rw [hfm w0 (List.mem_cons_self ..), List.length_map]
          have : sizeLine = 2 ^ 24 := rfl
          omega
        · refine k.still D (s13.trans s4) hr ?_
          rw [List.length_map, hwl]
          show V.int _ :: vN w0 = V.int _ :: (Uw70.ints w0).map V.int
          rw [vN_ints]
          rfl
end
end DC

set_option Elab.async false
set_option linter.all false
set_option maxRecDepth 100000
set_option maxHeartbeats 2000000
namespace DC
open PySem PySem.Spec PyProof.Rows L2 L3
section
variable {P : Program} {w : World} {K : PySem.W.Frag} {mg : Str → Option Value} {base : Heap} {C : Addr}
/-- mark -/
theorem reads_le9 (b : Bool) (c : Nat) : decide (Uw70.reads b c ≤ 9) = !decide (9 < c) := by
  unfold Uw70.reads
  by_cases h : b = true ∧ c = 9
  · rw [if_pos h, h.2]
    rfl
  · rw [if_neg h]
    by_cases h9 : 9 < c
    · rw [decide_eq_true h9, decide_eq_false (by omega)]
      rfl
    · rw [decide_eq_false h9, decide_eq_true (by omega)]
      rfl
theorem all_any (b : Bool) (l : List Nat) : (l.map (Uw70.reads b)).all (fun c => decide (c ≤ 9)) = !l.any fun c => decide (9 < c) := by
  induction l with
  | nil => rfl
  | cons c l ih =>
    rw [List.map_cons, List.all_cons, List.any_cons, ih, reads_le9, Bool.not_or]
theorem Ok_mark {d : Uw70.Desk} (o : DM.Ok d) {i : Nat} {x : List Nat} (h1 : x.length ≤ d.faces) (h2 : ∀ c ∈ x, c ≤ 9) (h3 : x.eraseDups.length = x.length) : DM.Ok { d with cubes := d.cubes.set i x } := by
  refine ⟨?_, ?_, o.f1, o.f6, o.w40, fun r hr => ?_, o.w9, fun q hq => ?_, fun q hq => ?_, fun q hq => ?_⟩
  · show 1 ≤ (d.cubes.set i x).length
    rw [List.length_set]; exact o.c1
  · show (d.cubes.set i x).length ≤ 4
    rw [List.length_set]; exact o.c4
  · show r.length = (d.cubes.set i x).length
    rw [List.length_set]; exact o.wl r hr
  · rcases List.mem_or_eq_of_mem_set hq with h | h
    · exact o.q6 q h
    · rw [h]; exact h1
  · rcases List.mem_or_eq_of_mem_set hq with h | h
    · exact o.q9 q h
    · rw [h]; exact h2
  · rcases List.mem_or_eq_of_mem_set hq with h | h
    · exact o.qd q h
    · rw [h]; exact h3
theorem map_set {α β : Type} (f : α → β) : ∀ (l : List α) (i : Nat) (x : α), (l.set i x).map f = (l.map f).set i (f x)
  | [], _, _ => rfl
  | _ :: _, 0, _ => rfl
  | a :: l, i + 1, x => by
    show f a :: (l.set i x).map f = f a :: (l.map f).set i (f x)
    rw [map_set f l i x]
theorem DeskAt.mark {C : Addr} {H : Hp} {p : Addr} {d : Uw70.Desk} {dx lc lw : Addr} {cas was : List Addr} (D : DeskAt C H p d dx lc lw cas was) {q : Addr} {x : List Nat} {i : Nat} (hq : H q = some (.lst (vN x))) (hql : q ≠ lc) (hqw : q ≠ lw) (ok : DM.Ok { d with cubes := d.cubes.set i x }) :
    DeskAt C (upd H lc (.lst ((cas.map V.ref).set i (V.ref q)))) p { d with cubes := d.cubes.set i x } dx lc lw (cas.set i q) was := by
  have hp : p ≠ lc := ne_of D.obj D.cub (by intro z; cases z)
  have hn := D.rcu.notMem D.cub
  have hnw : lc ∉ was := fun z => by
    obtain ⟨l, _, e⟩ := D.rwa.mem z
    rw [D.cub] at e
    have e := HO.lst.inj (Option.some.inj e)
    have h1 := D.ok.c1
    rw [← D.rcu.len] at h1
    cases cas with
    | nil => exact absurd h1 (by decide)
    | cons a cas =>
      cases l with
      | nil => cases e
      | cons n l => exact V.noConfusion (List.cons.inj e).1
  have keep : ∀ a, a ≠ lc → ∀ o, H a = some o → upd H lc (.lst ((cas.map V.ref).set i (V.ref q))) a = some o := fun a ha o e => by rw [upd_ne ha]; exact e
  refine ⟨keep _ hp _ D.obj, by rw [upd_same, map_set], ?_, keep _ (Ne.symm D.ne) _ D.wan, D.rwa.mono (fun a ha o e => keep a (fun z => hnw (by rw [← z]; exact ha)) o e), ?_, D.ne, ok⟩
  · exact RowsAt.set (by rw [upd_ne hql]; exact hq) i (D.rcu.mono fun a ha o e => keep a (fun z => hn (by rw [← z]; exact ha)) o e)
  · intro z
    rcases List.mem_or_eq_of_mem_set z with h | h
    · exact D.sep h
    · exact hqw h.symm
def spMark (K : PySem.W.Frag) (C : Addr) : Sp := fun vs H Q _ => ∃ (p a : Addr) (i : Nat) (l : List Nat) (d : Uw70.Desk) (dx lc lw : Addr) (cas was : List Addr), vs = [.ref p, .int (i : Int), .ref a] ∧ DeskAt C H p d dx lc lw cas was ∧ SqL K H a (vN l) ∧ l.length < 1000 ∧
  After C H p dx (foot p lc lw cas was) (Uw70.step d (.mark i l)).1 (Uw70.step d (.mark i l)).2 Q
theorem scMark : FnScope ["self", "cube", "numbers", "digits"] ["self", "cube", "numbers"] (defScope sMark) := ⟨rfl, rfl, rfl, by decide +kernel, rfl, by decide +kernel, by decide +kernel⟩
theorem ok_mark {f : Addr} {fd : FuncData} (F : Fun K "mark" "Desk.mark" sMark f fd) (T : Txt K mg C) : FnOk P w K mg base CX0 5 f fd ["self", "cube", "numbers"] (spMark K C) := by
  obtain ⟨g1, fd1, m1, F1, b1⟩ := T.asRead
  have G1 : FnOk P w K mg base CX0 2 g1 fd1 ["self", "digits"] (spAsRead K C) := ok_asRead F1 T
  obtain ⟨g2, fd2, m2, F2, b2⟩ := T.allDigits
  have G2 : FnOk P w K mg base CX0 1 g2 fd2 ["numbers"] (spAllDigits K) := ok_allDigits F2 T
  obtain ⟨g3, fd3, m3, F3, b3⟩ := T.shownRows
  have G3 : FnOk P w K mg base CX0 4 g3 fd3 ["rows", "cubes"] (spShownRows K) := ok_shownRows F3 T
  obtain ⟨t1, mg1⟩ := T.notTold
  obtain ⟨t2, mg2⟩ := T.noCube
  refine F.ok scMark (fun vs H Q E h => ?_) (fun cdv A outer s H vs Q E hr h => ?_)
  · obtain ⟨p, a, i, l, d, dx, lc, lw, cas, was, rfl, _⟩ := h
    rfl
  · obtain ⟨p, a, i, l, d, dx, lc, lw, cas, was, rfl, D, hS, hl, k⟩ := h
    refine ⟨_, pss_cons (ps_if (pt_cmpR op_ge (pv 1) (pe_callB call_len_seq (by rfl) T.len PySem.boot_len (pa_cons (pe_fld (pv 0) rfl) pa_nil)) (nomark _)) (pss_one (ps_ret (pe_lst (pa_cons (pe_glob (v := .int (-2)) (by rfl) mg2 ⟨_, rfl⟩) pa_nil)))) pss_nil)
      (pss_cons (ps_set (i := 3) scMark.nd rfl (Or.inl rfl) (pe_meth (pv 0) T.cl m1 G1 (hr.mono (by decide)) b1 .nil pass0 (pa_cons (pv 2) pa_nil)))
      (pss_cons (ps_if (PW.pt (pw_or (pt_cmpR op_gt (pe_callB call_len_seq (by rfl) T.len PySem.boot_len (pa_cons (pv 3) pa_nil)) (pe_fld (pv 0) rfl) (nomark _)) (pw_or (pt_not (pt_val (pe_call G2 (hr.mono (by decide)) (by rfl) m2 F2.kp b2 .nil pass0 (pa_cons (pv 3) pa_nil))))
          (pw_or1 (pt_cmpR op_lt (pe_callB call_len_setO (by rfl) T.len PySem.boot_len (pa_cons (pe_callTy (call_set_row rfl) (by rfl) T.set (by decide +kernel) (pa_cons (pv 3) pa_nil)) pa_nil)) (pe_callB call_len_seq (by rfl) T.len PySem.boot_len (pa_cons (pv 3) pa_nil)) (nomark _))))))
        (pss_one (ps_ret (pe_lst (pa_cons (pe_glob (v := .int (-1)) (by rfl) mg1 ⟨_, rfl⟩) pa_nil)))) pss_nil)
      (pss_cons (ps_asg (pv 3) (pg_sub (pe_fld (pv 0) rfl) (pv 1) set_list))
      (pss_one (ps_ret (pe_lst (pa_cons (pe_callB call_len_seq (by rfl) T.len PySem.boot_len (pa_cons (pe_call G3 hr (by rfl) m3 F3.kp b3 .nil pass0 (pa_cons (pe_fld (pv 0) rfl) (pa_cons (pe_fld (pv 0) rfl) pa_nil))) pa_nil)) pa_nil))))))), ?_⟩
    have one : (1 : Nat) ≤ sizeLine := by decide
    simp only [Uw70.step] at k
    refine ⟨_, rfl, _, rfl, p, C, dx, _, _, rfl, D.obj, T.cl, T.nCubes, rfl, lc, _, rfl, .inl (SqL.of D.cub), _, _, rfl, rfl, _, rfl, ?_⟩
    rw [List.length_map, D.rcu.len]
    by_cases h0 : d.cubes.length ≤ i
    · rw [if_pos h0] at k
      rw [decide_eq_true (by omega)]
      exact iteT ⟨one, fun r hr => k.still D (Same.refl H) hr rfl⟩
    rw [if_neg h0] at k
    rw [decide_eq_false (by omega)]
    refine iteF ⟨_, rfl, p, dx, _, rfl, D.obj, rfl, _, rfl, p, a, l, d, dx, lc, lw, cas, was, rfl, D, hS, hl, fun H1 q s1 hq e1 => ?_⟩
    have no : (d.faces < l.length ∨ l.any (fun c => decide (9 < c)) = true ∨ (l.map (Uw70.reads d.turned)).eraseDups.length ≠ (l.map (Uw70.reads d.turned)).length) → After C H p dx (foot p lc lw cas was) d [-1] Q := fun h => by
      rw [if_pos h] at k
      exact k
    have lm : (l.map (Uw70.reads d.turned)).length = l.length := List.length_map _
    refine ⟨_, rfl, q, _, rfl, .inl (SqL.of e1), _, rfl, p, C, dx, _, _, rfl, s1 _ _ D.obj, T.cl, T.nFaces, rfl, _, _, rfl, rfl, _, rfl, ?_⟩
    rw [vN_len, lm]
    by_cases h1 : d.faces < l.length
    · rw [decide_eq_true (by omega)]
      exact iteT (iteT ⟨one, fun r hr => (no (.inl h1)).still D s1 hr rfl⟩)
    rw [decide_eq_false (by omega)]
    refine iteF ⟨_, rfl, q, _, rfl, SqL.of e1, by rw [lm]; have : sizeLine = 2 ^ 24 := rfl; omega, fun H2 s2 => ⟨_, rfl, ?_⟩⟩
    have s12 := s1.trans s2
    rw [all_any]
    cases h2 : l.any (fun c => decide (9 < c)) with
    | true => exact iteT (iteT ⟨one, fun r hr => (no (.inr (.inl h2))).still D s12 hr rfl⟩)
    | false =>
      refine iteF ⟨_, rfl, q, (l.map (Uw70.reads d.turned)).map (fun n : Nat => (n : Int)), rfl, SqL.of (by rw [← vN_ints]; exact s2 _ _ e1), by rw [List.length_map, lm]; show l.length + 1 < 4096; omega, fun S ls hls => ⟨ls, S, _, rfl, upd_same, ?_⟩⟩
      rw [DM.dedup_len]
      have s3 := Same.new (o := .set S (l.map (Uw70.reads d.turned)).eraseDups.length) hls
      have s13 := s12.trans s3
      have e1' := s3 _ _ (s2 _ _ e1)
      refine ⟨_, rfl, q, _, rfl, .inl (SqL.of e1'), _, _, rfl, rfl, _, rfl, ?_⟩
      rw [vN_len]
      have hdl := DM.dups_le (l.map (Uw70.reads d.turned))
      by_cases h3 : (l.map (Uw70.reads d.turned)).eraseDups.length ≠ (l.map (Uw70.reads d.turned)).length
      · rw [decide_eq_true (by omega)]
        exact iteT ⟨one, fun r hr => (no (.inr (.inr h3))).still D s13 hr rfl⟩
      rw [decide_eq_false (by omega)]
      rw [if_neg (by rintro (h | h | h); exact h1 h; rw [h2] at h; cases h; exact h3 h)] at k
      have h3' : (l.map (Uw70.reads d.turned)).eraseDups.length = (l.map (Uw70.reads d.turned)).length := Classical.not_not.mp h3
      have hix : ixN (cas.map V.ref).length (i : Int) = some i := by
        unfold ixN
        rw [List.length_map, D.rcu.len, if_pos (by omega), if_pos (by omega)]
        rfl
      refine iteF ⟨_, rfl, _, rfl, p, C, dx, _, _, rfl, s13 _ _ D.obj, T.cl, T.nCubes, rfl, _, rfl, lc, _, _, i, rfl, rfl, s13 _ _ D.cub, hix, ?_⟩
      have hql : q ≠ lc := fun z => by rw [z, D.cub] at hq; cases hq
      have hqw : q ≠ lw := fun z => by rw [z, D.wan] at hq; cases hq
      have okm : DM.Ok { d with cubes := d.cubes.set i (l.map (Uw70.reads d.turned)) } := Ok_mark D.ok (by rw [lm]; omega) (fun c hc => by
        have := all_any d.turned l
        rw [h2] at this
        exact of_decide_eq_true (List.all_eq_true.mp this c hc)) h3'
      have D4 := (D.same s13).mark (i := i) e1' hql hqw okm
      refine ⟨_, rfl, p, C, dx, _, _, rfl, D4.obj, T.cl, T.nWanted, rfl, _, rfl, p, C, dx, _, _, rfl, D4.obj, T.cl, T.nCubes, rfl, lw, lc, was, _, _, _, rfl, D4.wan, D4.rwa, D4.cub, D4.rcu, D4.ok.c4, D4.ok.w40, fun r hr => by rw [D4.ok.wl r hr]; exact D4.ok.c4, fun H5 q5 s5 hq5 ⟨as5, e5, r5⟩ => ⟨q5, _, rfl, .inl (SqL.of e5), one, fun r hr => ?_⟩⟩
      have hlc : lc ∈ foot p lc lw cas was := by simp [foot]
      have s6 := Same.new (o := .lst [V.int (((as5.map V.ref).length : Nat) : Int)]) hr
      refine k _ lc lw (cas.set i q) was r ((D4.same s5).same s6) ((((Kps.same s13).trans (Kps.upd hlc)).trans (Kps.same s5)).trans (Kps.same s6)) (fun b hb => ?_) (s13.free (upd_none (s5.free hr))) ?_
      · have hb : b ∈ p :: lc :: lw :: (cas.set i q ++ was) := hb
        rcases List.mem_cons.mp hb with rfl | hb
        · exact .inl (by simp [foot])
        rcases List.mem_cons.mp hb with rfl | hb
        · exact .inl (by simp [foot])
        rcases List.mem_cons.mp hb with rfl | hb
        · exact .inl (by simp [foot])
        rcases List.mem_append.mp hb with hb | hb
        · rcases List.mem_or_eq_of_mem_set hb with h | h
          · exact .inl (by simp [foot, h])
          · exact .inr (by rw [h]; exact hq)
        · exact .inl (by simp [foot, hb])
      · rw [upd_same, List.length_map, r5.len]
        rfl
end
end DC

set_option Elab.async false
set_option linter.all false
set_option maxRecDepth 100000
set_option maxHeartbeats 2000000
namespace DC
open PySem PySem.Spec PyProof.Rows L2 L3
section
variable {P : Program} {w : World} {K : PySem.W.Frag} {mg : Str → Option Value} {base : Heap} {C : Addr}
/-- __init__ -/
theorem Ok_init : DM.Ok Uw70.init := by
  refine ⟨by decide, by decide, by decide, by decide, by decide, ?_, ?_, ?_, ?_, ?_⟩
  · intro r hr; cases hr
  · intro r hr; cases hr
  · intro q hq
    have : q = [] := by simpa [Uw70.init] using hq
    rw [this]; exact Nat.zero_le _
  · intro q hq c hc
    have : q = [] := by simpa [Uw70.init] using hq
    rw [this] at hc; cases hc
  · intro q hq
    have : q = [] := by simpa [Uw70.init] using hq
    rw [this]; rfl
def spInit (C : Addr) : Sp := fun vs H Q _ => ∃ (p dx : Addr), vs = [.ref p] ∧ H p = some (.ins C dx []) ∧ ∀ H' lc lw cas, DeskAt C H' p Uw70.init dx lc lw cas [] → (∀ b o, H b = some o → b ≠ p → H' b = some o) → (∀ b ∈ lc :: lw :: cas, H b = none) → Q .non H'
theorem scInit : FnScope ["self"] ["self"] (defScope sInit) := ⟨rfl, rfl, rfl, by decide +kernel, rfl, by decide +kernel, by decide +kernel⟩
theorem ok_init {f : Addr} {fd : FuncData} (F : Fun K "__init__" "Desk.__init__" sInit f fd) (T : Txt K mg C) : FnOk P w K mg base CX0 1 f fd ["self"] (spInit C) := by
  refine F.ok scInit (fun vs H Q E h => ?_) (fun cdv A outer s H vs Q E hr h => ?_)
  · obtain ⟨p, dx, rfl, _⟩ := h
    rfl
  · obtain ⟨p, dx, rfl, hp, k⟩ := h
    refine ⟨_, pss_cons (ps_fld (pv 0) (pe_lst (pa_cons (pe_lst pa_nil) (pa_cons (pe_lst pa_nil) pa_nil))) rfl) (pss_cons (ps_fld (pv 0) pe_int rfl) (pss_cons (ps_fld (pv 0) pe_int rfl) (pss_one (ps_fld (pv 0) (pe_lst pa_nil) rfl)))), ?_⟩
    refine ⟨Nat.zero_le _, fun a1 h1 => ⟨Nat.zero_le _, fun a2 h2 => ⟨(by show 2 ≤ sizeLine; decide), fun lc hlc => ?_⟩⟩⟩
    have s1 := Same.new (o := .lst []) h1
    have s2 := Same.new (o := .lst []) h2
    have s3 := Same.new (o := .lst [V.ref a1, V.ref a2]) hlc
    have s13 := (s1.trans s2).trans s3
    have fr : ∀ b, (upd (upd H a1 (.lst [])) a2 (.lst [])) b = none → H b = none := fun b hb => upd_none (upd_none hb)
    have hpl : p ≠ lc := ne_of_none hp (fr lc hlc)
    have hp1 : p ≠ a1 := ne_of_none hp h1
    have hp2 : p ≠ a2 := ne_of_none hp (upd_none h2)
    refine ⟨_, rfl, p, C, dx, _, rfl, s13 _ _ hp, T.cl, T.nCubes, (by show 0 < 1000; decide), ?_⟩
    refine ⟨_, rfl, p, C, dx, _, rfl, upd_same, T.cl, T.nFaces, (by show 1 < 1000; decide), ?_⟩
    refine ⟨_, rfl, p, C, dx, _, rfl, upd_same, T.cl, T.nTurned, (by show 2 < 1000; decide), ?_⟩
    refine ⟨Nat.zero_le _, fun lw hlw => ?_⟩
    have hlw' := upd_none (upd_none (upd_none hlw))
    have hpw : p ≠ lw := fun z => by rw [← z, upd_same] at hlw; cases hlw
    refine ⟨_, rfl, p, C, dx, _, rfl, (by rw [upd_ne hpw]; exact upd_same), T.cl, T.nWanted, (by show 3 < 1000; decide), ?_⟩
    have m : p ∈ [p] := List.mem_singleton.mpr rfl
    have k1 : ∀ o6, Kps [p] (upd (upd (upd H a1 (.lst [])) a2 (.lst [])) lc (.lst [V.ref a1, V.ref a2])) (upd (upd (upd (upd (upd (upd (upd (upd H a1 (.lst [])) a2 (.lst [])) lc (.lst [V.ref a1, V.ref a2])) p (.ins C dx (putF "cubes" (.ref lc) []))) p (.ins C dx (putF "faces" (.int 6) (putF "cubes" (.ref lc) []))))
        p (.ins C dx (putF "turned" (.int 0) (putF "faces" (.int 6) (putF "cubes" (.ref lc) []))))) lw (.lst [])) p o6) := fun o6 =>
      ((((Kps.upd m).trans (Kps.upd m)).trans (Kps.upd m)).trans (Kps.same (Same.new hlw))).trans (Kps.upd m)
    have np : ∀ b, b ≠ p → b ∉ [p] := fun b hb z => hb (List.mem_singleton.mp z)
    have hca : lc ≠ lw := fun z => by rw [← z, upd_same] at hlw'; cases hlw'
    have h1w : lw ≠ a1 := fun z => by rw [z, s3 _ _ (s2 _ _ upd_same)] at hlw'; cases hlw'
    have h2w : lw ≠ a2 := fun z => by rw [z, s3 _ _ upd_same] at hlw'; cases hlw'
    refine k _ lc lw [a1, a2] ⟨upd_same, k1 _ _ _ upd_same (np _ hpl.symm), ⟨k1 _ _ _ (s3 _ _ (s2 _ _ upd_same)) (np _ hp1.symm), k1 _ _ _ (s3 _ _ upd_same) (np _ hp2.symm), trivial⟩, (by rw [upd_ne hpw.symm, upd_same]; rfl), trivial, ?_, hca, Ok_init⟩ (fun b o e hb => k1 _ _ _ (s13 _ _ e) (np b hb)) ?_
    · intro z
      rcases List.mem_cons.mp z with z | z
      · exact h1w z
      · exact h2w (List.mem_singleton.mp z)
    · intro b hb
      rcases List.mem_cons.mp hb with rfl | hb
      · exact fr _ hlc
      rcases List.mem_cons.mp hb with rfl | hb
      · exact fr _ (upd_none hlw')
      rcases List.mem_cons.mp hb with rfl | hb
      · exact h1
      · rw [List.mem_singleton.mp hb]
        exact upd_none h2
/-- answer -/
def spAnswer (K : PySem.W.Frag) (C : Addr) : Sp := fun vs H Q _ => ∃ (p an ar : Addr) (c : Nat) (l1 l2 : List Nat) (call : Uw70.Call) (d : Uw70.Desk) (dx lc lw : Addr) (cas was : List Addr), vs = [.ref p, .int (c : Int), .ref an, .ref ar] ∧ DeskAt C H p d dx lc lw cas was ∧
  H an = some (.lst (vN l1)) ∧ H ar = some (.lst (vN l2)) ∧ l2.length < 1000 ∧ (∀ x ∈ l1, x < 2 ^ 32) ∧ DM.callBy c l1 l2 = some call ∧ After C H p dx (foot p lc lw cas was) (Uw70.step d call).1 (Uw70.step d call).2 Q
theorem DeskAt.other {H : Hp} {p : Addr} {d : Uw70.Desk} {dx lc lw : Addr} {cas was : List Addr} (D : DeskAt C H p d dx lc lw cas was) {l : Addr} {o : HO} (hl : l ∉ foot p lc lw cas was) : DeskAt C (upd H l o) p d dx lc lw cas was := by
  have h : l ≠ p ∧ l ≠ lc ∧ l ≠ lw ∧ l ∉ cas ∧ l ∉ was := by
    simp only [foot, List.mem_cons, List.mem_append, not_or] at hl
    exact ⟨hl.1, hl.2.1, hl.2.2.1, hl.2.2.2.1, hl.2.2.2.2⟩
  refine ⟨by rw [upd_ne h.1.symm]; exact D.obj, by rw [upd_ne h.2.1.symm]; exact D.cub, D.rcu.mono (fun a ha o e => ?_), by rw [upd_ne h.2.2.1.symm]; exact D.wan, D.rwa.mono (fun a ha o e => ?_), D.sep, D.ne, D.ok⟩
  · rw [upd_ne (fun z : a = l => h.2.2.2.1 (by rw [← z]; exact ha))]; exact e
  · rw [upd_ne (fun z : a = l => h.2.2.2.2 (by rw [← z]; exact ha))]; exact e
/-- answers -/
structure TxtA (K : PySem.W.Frag) (mg : Str → Option Value) (C : Addr) : Prop extends Txt K mg C where
  wn : ∃ a, mg "WHOLE_NUMBERS" = some (.ref a) ∧ ∀ H, SqT K H a (vN DM.wn)
  hr : ∃ a, mg "HAS_ROW" = some (.ref a) ∧ ∀ H, SqT K H a (DM.hr.map V.bl)
def spAnswers (K : PySem.W.Frag) : Sp := fun vs H Q _ => ∃ (a : Addr) (ns : List Nat), vs = [.ref a] ∧ SqL K H a (vN ns) ∧ ns.length ≤ 1000 ∧ (∀ x ∈ ns, x < 2 ^ 32) ∧ PyUw70.answers_asked (DM.iN ns) = true ∧
  ∀ (H' : Hp) (q : Addr), H' q = some (.lst ((PyUw70.answers (DM.iN ns)).map V.int)) → Q (.ref q) H'
theorem scAnswers : FnScope ["calls", "desk", "told", "place", "call", "behind", "numbers", "row", "start", "given"] ["calls"] (defScope sAnswers) := ⟨rfl, rfl, rfl, by decide +kernel, rfl, by decide +kernel, by decide +kernel⟩
theorem hr_at {c : Nat} {b : Bool} (h : DM.hr[c]? = some b) : (DM.hr.map V.bl)[c]? = some (V.bl b) := by
  rw [List.getElem?_map, h]
  rfl
def meas (n : Nat) : L2.St → Hp → Nat := fun σ _ => match σ[3]? with
  | some (some (V.int z)) => n - z.toNat
  | _ => 0
theorem ok_answers {f fI fA : Addr} {fd fdI fdA : FuncData} (F : Fun K "answers" "answers" sAnswers f fd) (T : TxtA K mg C) (M : Mk K C fI) (FI : Fun K "__init__" "Desk.__init__" sInit fI fdI) (bI : Binds K fdI ["self"] [])
    (mA : mg "answer" = some (.ref fA)) (FA : Fun K "answer" "answer" sAnswer fA fdA) (bA : Binds K fdA ["desk", "call", "numbers", "row"] []) (GA : FnOk P w K mg base CX0 9 fA fdA ["desk", "call", "numbers", "row"] (spAnswer K C)) :
    FnOk P w K mg base CX0 10 f fd ["calls"] (spAnswers K) := by
  have GI : FnOk P w K mg base CX0 1 fI fdI ["self"] (spInit C) := ok_init FI T.toTxt
  obtain ⟨aw, mw, hw⟩ := T.wn
  obtain ⟨ah, mh, hh⟩ := T.hr
  refine F.ok scAnswers (fun vs H Q E h => ?_) (fun cdv A outer s H vs Q E hr h => ?_)
  · obtain ⟨a, ns, rfl, _⟩ := h
    rfl
  · obtain ⟨a, ns, rfl, hS, hlen, hb, hask, k⟩ := h
    refine ⟨_, pss_cons (ps_set (i := 1) scAnswers.nd rfl (Or.inl rfl) (pe_make0 M GI (hr.mono (by decide)) (by rfl) T.desk bI .nil pass0))
      (pss_cons (ps_set (i := 2) scAnswers.nd rfl (Or.inl rfl) (pe_lst pa_nil))
      (pss_cons (ps_set (i := 3) scAnswers.nd rfl (Or.inl rfl) pe_int)
      (pss_cons (ps_while PassesOwn.never (pt_cmpR op_lt (pv 3) (pe_callB call_len_seq (by rfl) T.len PySem.boot_len (pa_cons (pv 0) pa_nil)) (nomark _))
        (pss_cons (ps_set (i := 4) scAnswers.nd rfl (Or.inl rfl) (pe_ix ix_list (pv 0) (pv 3) (fun _ _ => rfl)))
        (pss_cons (ps_set (i := 5) scAnswers.nd rfl (Or.inl rfl) (pe_op op_add (pe_op op_add (pv 3) pe_int) (pe_ix ix_tup (pe_glob (v := .ref aw) (by rfl) mw rfl) (pv 4) (fun _ _ => rfl))))
        (pss_cons (ps_set (i := 6) scAnswers.nd rfl (Or.inl rfl) (pe_slice sl_list (pv 0) (po_some (pe_op op_add (pv 3) pe_int)) (po_some (pv 5))))
        (pss_cons (ps_set (i := 7) scAnswers.nd rfl (Or.inl rfl) (pe_lst pa_nil))
        (pss_cons (ps_if (pt_val (pe_ix ix_tup (pe_glob (v := .ref ah) (by rfl) mh rfl) (pv 4) (fun _ _ => rfl)))
          (pss_cons (ps_set (i := 8) scAnswers.nd rfl (Or.inl rfl) (pe_op op_add (pv 5) pe_int))
          (pss_cons (ps_set (i := 5) scAnswers.nd rfl (Or.inl rfl) (pe_op op_add (pv 8) (pe_ix ix_list (pv 0) (pv 5) (fun _ _ => rfl))))
          (pss_one (ps_set (i := 7) scAnswers.nd rfl (Or.inl rfl) (pe_slice sl_list (pv 0) (po_some (pv 8)) (po_some (pv 5))))))) pss_nil)
        (pss_cons (ps_set (i := 9) scAnswers.nd rfl (Or.inl rfl) (pe_call GA hr (by rfl) mA FA.kp bA .nil pass0 (pa_cons (pv 1) (pa_cons (pv 4) (pa_cons (pv 6) (pa_cons (pv 7) pa_nil))))))
        (pss_cons (ps_expr (pe_bm PySem.F.plainAttrs_list PySem.F.slot_list_append PySem.F.type_list_append mt_append (pv 2) (pa_cons (pe_callB call_len_seq (by rfl) T.len PySem.boot_len (pa_cons (pv 9) pa_nil)) pa_nil)))
        (pss_cons (ps_expr (pe_bm PySem.F.plainAttrs_list PySem.F.slot_list_extend PySem.F.type_list_extend mt_extend (pv 2) (pa_cons (pv 9) pa_nil)))
        (pss_one (ps_set (i := 3) scAnswers.nd rfl (Or.inl rfl) (pv 5))))))))))))
      (pss_one (ps_ret (pv 2)))))), ?_⟩
    refine fun p dx hp hdx hne => ⟨p, dx, rfl, upd_same, fun H1 lc0 lw0 cas0 D0 k1 f1 => ⟨rfl, Nat.zero_le _, fun l hl => ?_⟩⟩
    have s1 : Same H H1 := fun b o e => k1 b o (by rw [upd_ne (ne_of_none e hp), upd_ne (ne_of_none e hdx)]; exact e) (ne_of_none e hp)
    have fH : ∀ b, (upd (upd H dx (.own p)) p (.ins C dx [])) b = none → H b = none := fun b hb => upd_none (upd_none hb)
    have s2 := Same.new (o := .lst []) hl
    refine while_by (fun σ H' => ∃ (pos : Nat) (d : Uw70.Desk) (lc lw : Addr) (cas was : List Addr) (T : List Int) (v4 v5 v6 v7 v8 v9 : Option V), σ = [some (.ref a), some (.ref p), some (.ref l), some (.int (pos : Int)), v4, v5, v6, v7, v8, v9] ∧ Same H H' ∧
      DeskAt C H' p d dx lc lw cas was ∧ H' l = some (.lst (T.map V.int)) ∧ l ∉ foot p lc lw cas was ∧ (∀ b ∈ foot p lc lw cas was, H b = none) ∧ DM.Mid ns pos d T) (meas ns.length) ?_ ?_ ?_
    · refine ⟨0, Uw70.init, lc0, lw0, cas0, [], [], none, none, none, none, none, none, rfl, s1.trans s2, D0.same s2, upd_same, ?_, ?_, DM.Mid.start hask⟩
      · intro z
        simp only [foot, List.append_nil, List.mem_cons] at z
        rcases z with z | z | z | z
        · rw [z, D0.obj] at hl; cases hl
        · rw [z, D0.cub] at hl; cases hl
        · rw [z, D0.wan] at hl; cases hl
        · obtain ⟨r, _, e⟩ := D0.rcu.mem z
          rw [e] at hl; cases hl
      · intro b hb
        simp only [foot, List.append_nil, List.mem_cons] at hb
        rcases hb with z | z | z | z
        · rw [z]; exact hp
        · rw [z]; exact fH _ (f1 _ (by simp))
        · rw [z]; exact fH _ (f1 _ (by simp))
        · exact fH _ (f1 _ (by simp [z]))
    · rintro σ H' ⟨pos, d, lc, lw, cas, was, told, v4, v5, v6, v7, v8, v9, rfl, s', D, hl', hlf, hff, Md⟩
      refine ⟨_, rfl, _, rfl, a, _, rfl, .inl (s'.seq hS), _, _, rfl, rfl, _, rfl, ?_⟩
      rw [vN_len]
      by_cases hpos : pos < ns.length
      · rw [decide_eq_true (by omega)]
        obtain ⟨call, len, hv, hl1, hl2, Md'⟩ := Md.turn hb hpos
        obtain ⟨c, r, n, b, hrest, hwn, hhr, hn, hF, hT⟩ := DM.view_parts hv
        have hc : ns[pos]? = some c := by
          have : (ns.drop pos)[0]? = some c := by rw [hrest]; rfl
          rw [List.getElem?_drop] at this
          exact this
        have hr1 : ns.drop (pos + 1) = r := by
          rw [← List.drop_drop, hrest]
          rfl
        have hrl : pos + 1 + r.length = ns.length := by
          rw [← hr1, List.length_drop]
          omega
        refine iteT ⟨_, rfl, _, rfl, a, _, _, _, rfl, rfl, s'.seq hS, atI_vN hc, ?_⟩
        refine ⟨_, rfl, _, _, rfl, rfl, _, rfl, aw, _, _, _, rfl, rfl, hw H', atI_vN hwn, _, _, rfl, rfl, ?_⟩
        have e1 : (pos : Int) + 1 = ((pos + 1 : Nat) : Int) := by omega
        have e2 : ((pos + 1 : Nat) : Int) + (n : Int) = ((pos + 1 + n : Nat) : Int) := by omega
        refine ⟨_, rfl, _, rfl, _, _, rfl, rfl, _, rfl, _, rfl, _, rfl, a, _, rfl, s'.seq hS, fun an han => ?_⟩
        rw [e1, e2, cut_vN ns (by omega) (by omega), hr1, show pos + 1 + n - (pos + 1) = n by omega]
        have s3 := Same.new (o := .lst (vN (r.take n))) han
        refine ⟨Nat.zero_le _, fun ar har => ?_⟩
        have s4 := Same.new (o := .lst []) har
        have s34 := s3.trans s4
        dsimp only [gName]
        rw [e2]
        refine seq_cont (fun σ H2 => ∃ (beh : Nat) (ar : Addr) (l2 : List Nat) (v8 : Option V), σ = [some (.ref a), some (.ref p), some (.ref l), some (.int (pos : Int)), some (.int (c : Int)), some (.int (beh : Int)), some (.ref an), some (.ref ar), v8, v9] ∧ Same H' H2 ∧ H2 an = some (.lst (vN (r.take n))) ∧
          H2 ar = some (.lst (vN l2)) ∧ l2.length < 1000 ∧ beh = pos + len ∧ DM.callBy c (r.take n) l2 = some call) (fun N cont => ?_) ?_
        · refine ⟨_, rfl, ah, _, _, _, rfl, rfl, hh _, atI_nat (hr_at hhr), _, rfl, ?_⟩
          cases b with
          | false =>
            obtain ⟨hlen1, hcb⟩ := hF rfl
            exact iteF (cont _ _ ⟨pos + 1 + n, ar, [], _, rfl, s34, s4 _ _ upd_same, upd_same, by decide, by omega, hcb⟩)
          | true =>
            obtain ⟨m, hm, hlen1, hml, hcb⟩ := hT rfl
            have hm' : ns[pos + 1 + n]? = some m := by
              rw [← List.getElem?_drop, hr1]
              exact hm
            have e3 : ((pos + 1 + n : Nat) : Int) + 1 = ((pos + 1 + n + 1 : Nat) : Int) := by omega
            have e4 : ((pos + 1 + n + 1 : Nat) : Int) + (m : Int) = ((pos + 1 + n + 1 + m : Nat) : Int) := by omega
            refine iteT ⟨_, rfl, _, _, rfl, rfl, ?_⟩
            refine ⟨_, rfl, _, rfl, _, rfl, a, _, _, _, rfl, rfl, (s'.trans s34).seq hS, atI_vN hm', _, _, rfl, rfl, ?_⟩
            refine ⟨_, rfl, _, rfl, _, rfl, _, rfl, _, rfl, a, _, rfl, (s'.trans s34).seq hS, fun ar2 har2 => ?_⟩
            dsimp only [gName]
            rw [e3, e4, cut_vN ns (by omega) (by omega), show pos + 1 + n + 1 + m - (pos + 1 + n + 1) = m by omega]
            have hd2 : ns.drop (pos + 1 + n + 1) = r.drop (n + 1) := by
              rw [← hr1, List.drop_drop]
              congr 1
            rw [hd2]
            have s5 := Same.new (o := .lst (vN ((r.drop (n + 1)).take m))) har2
            refine cont _ _ ⟨pos + 1 + n + 1 + m, ar2, _, _, rfl, s34.trans s5, s5 _ _ (s4 _ _ upd_same), upd_same, ?_, by omega, hcb⟩
            rw [List.length_take, List.length_drop]
            omega
        · rintro σ H2 ⟨beh, ar, l2, v8, rfl, s5, ean, ear, hl2l, rfl, hcb⟩
          have D2 := D.same s5
          refine ⟨_, rfl, _, rfl, _, rfl, _, rfl, p, an, ar, c, _, l2, call, d, dx, lc, lw, cas, was, rfl, D2, ean, ear, hl2l, fun x hx => hb x ?_, hcb, ?_⟩
          · have hx1 := List.mem_of_mem_take hx
            rw [← hr1] at hx1
            exact List.mem_of_mem_drop hx1
          · intro H3 lc' lw' cas' was' g D3 kk ff hg eg
            have hlt : H2 l = some (.lst (told.map V.int)) := s5 _ _ hl'
            have hl3 : H3 l = some (.lst (told.map V.int)) := kk _ _ hlt hlf
            have hgl : g ≠ l := fun z => by rw [z, hlt] at hg; cases hg
            have hlf' : l ∉ foot p lc' lw' cas' was' := fun z => by
              rcases ff l z with h | h
              · exact hlf h
              · rw [hlt] at h; cases h
            have hsz := Md'.len
            have hsz2 := DM.asked_short hask
            rw [List.length_append, List.length_cons] at hsz
            have hsl : sizeLine = 16777216 := rfl
            refine ⟨_, rfl, .inl ⟨rfl, _, SqL.of hl3⟩, _, rfl, g, _, rfl, .inl (SqL.of eg), l, _, _, rfl, rfl, hl3, ?_, ?_⟩
            · rw [List.length_map]; omega
            have eg4 : upd H3 l (.lst (told.map V.int ++ [V.int ((((Uw70.step d call).2.map V.int).length : Nat) : Int)])) g = some (.lst ((Uw70.step d call).2.map V.int)) := by rw [upd_ne hgl]; exact eg
            refine ⟨_, rfl, .inl ⟨rfl, _, SqL.of upd_same⟩, _, rfl, l, g, _, _, rfl, rfl, upd_same, eg4, ?_, ?_⟩
            · rw [List.length_append, List.length_map, List.length_map]
              show told.length + 1 + _ ≤ _
              omega
            refine ⟨_, rfl, ?_, ?_⟩
            · refine ⟨pos + len, _, lc', lw', cas', was', _, _, _, _, _, _, _, rfl, ?_, (D3.other hlf').other hlf', ?_, hlf', fun b hb => ?_, Md'⟩
              · have hlH : H l = none := s1.free hl
                refine Same.put hlH (Same.put hlH fun b o e => ?_)
                exact kk b o (s5 _ _ (s' _ _ e)) fun z => by rw [hff b z] at e; cases e
              · rw [upd_same, List.map_append, List.map_cons, List.length_map, List.append_assoc]
                rfl
              · rcases ff b hb with h | h
                · exact hff b h
                · exact s'.free (s5.free h)
            · show ns.length - ((pos + len : Nat) : Int).toNat < ns.length - ((pos : Nat) : Int).toNat
              rw [Int.toNat_natCast, Int.toNat_natCast]
              omega
      · rw [decide_eq_false (by omega)]
        refine iteF ⟨_, rfl, ?_⟩
        refine k H' l ?_
        rw [Md.done (by omega)]
        exact hl'
    · intro σ H Q Q' f h
      obtain ⟨x, e, y, e', p', ys, e1, e2, i, j, e3, e4, kk, e5, q⟩ := h
      exact ⟨x, e, y, e', p', ys, e1, e2, i, j, e3, e4, kk, e5, f _ _ q⟩
end
end DC

set_option Elab.async false
set_option linter.all false
set_option maxRecDepth 100000
namespace DM
open Uw70
/-! whether a row is shown, by truth values alone -/
def showsB (m : Nat → Nat → Bool) : List Nat → List Nat → Bool
  | _, [] => true
  | free, c :: r => free.any fun i => m i c && showsB m (free.filter fun j => j != i) r
def has (cubes : List (List Nat)) (i c : Nat) : Bool := (cubes.getD i []).contains c
theorem flat_empty {α β : Type} (p : α → Bool) (f : α → List β) : ∀ l : List α, (!((l.filter p).flatMap f).isEmpty) = l.any fun i => p i && !(f i).isEmpty
  | [] => rfl
  | x :: l => by
    have ih := flat_empty p f l
    rw [List.filter_cons, List.any_cons]
    cases h : p x with
    | true =>
      rw [if_pos rfl, List.flatMap_cons, ← ih]
      cases f x <;> simp
    | false =>
      rw [if_neg (by decide), ih]
      simp
theorem shows_B (cubes : List (List Nat)) : ∀ (r free : List Nat), (!(shows cubes free r).isEmpty) = showsB (has cubes) free r
  | [], _ => rfl
  | c :: r, free => by
    show (!((free.filter fun i => (cubes.getD i []).contains c).flatMap fun i => (shows cubes (free.filter fun j => j != i) r).map fun w => i :: w).isEmpty) = _
    rw [flat_empty]
    show _ = free.any fun i => has cubes i c && showsB (has cubes) (free.filter fun j => j != i) r
    congr 1
    funext i
    rw [← shows_B cubes r]
    unfold has
    cases shows cubes (free.filter fun j => j != i) r <;> rfl
theorem isShown_B (cubes : List (List Nat)) (r : List Nat) : isShown cubes r = showsB (has cubes) (List.range cubes.length) r := shows_B cubes r _
theorem showsB_mono {a b : Nat → Nat → Bool} (h : ∀ i c, a i c = true → b i c = true) : ∀ (r free : List Nat), showsB a free r = true → showsB b free r = true
  | [], _, _ => rfl
  | c :: r, free, k => by
    have k : (free.any fun i => a i c && showsB a (free.filter fun j => j != i) r) = true := k
    show (free.any fun i => b i c && showsB b (free.filter fun j => j != i) r) = true
    rw [List.any_eq_true] at k ⊢
    obtain ⟨i, hi, k⟩ := k
    rw [Bool.and_eq_true] at k
    exact ⟨i, hi, by rw [Bool.and_eq_true]; exact ⟨h i c k.1, showsB_mono h r _ k.2⟩⟩
theorem less_len (cubes : List (List Nat)) (i c : Nat) : (less cubes i c).length = cubes.length := by
  unfold less
  rw [List.length_set]
theorem less_has {cubes : List (List Nat)} {i c : Nat} (j x : Nat) (h : has (less cubes i c) j x = true) : has cubes j x = true := by
  unfold has less at h
  unfold has
  rw [List.getD_eq_getElem?_getD, List.getElem?_set] at h
  by_cases e : i = j
  · subst e
    rw [if_pos rfl] at h
    by_cases l : i < cubes.length
    · rw [if_pos l] at h
      have h : ((cubes.getD i []).filter fun y => y != c).contains x = true := h
      rw [List.contains_iff_mem] at h ⊢
      exact (List.mem_filter.mp h).1
    · rw [if_neg l] at h
      cases h
  · rw [if_neg e, ← List.getD_eq_getElem?_getD] at h
    exact h
theorem less_shown {cubes : List (List Nat)} {i c : Nat} {r : List Nat} (h : isShown (less cubes i c) r = true) : isShown cubes r = true := by
  rw [isShown_B, less_len] at h
  rw [isShown_B]
  exact showsB_mono less_has r _ h
/-- the program's test of an idle digit is the specification's -/
theorem idle_test (cubes : List (List Nat)) (w : List Row) (i c : Nat) : (((w.filter (isShown cubes)).filter (isShown (less cubes i c))) == w.filter (isShown cubes)) = (shownOf (less cubes i c) w == shownOf cubes w) := by
  unfold shownOf
  have e : w.filter (isShown (less cubes i c)) = (w.filter (isShown cubes)).filter (isShown (less cubes i c)) := by
    rw [List.filter_filter]
    apply List.filter_congr
    intro r _
    cases h : isShown (less cubes i c) r with
    | true => rw [less_shown h]; rfl
    | false => rfl
  rw [e]
  rw [Bool.eq_iff_iff, beq_iff_eq, beq_iff_eq, List.filter_eq_self, List.length_filter_eq_length_iff]
/-! rising -/
theorem put_perm (c : Nat) : ∀ l : List Nat, (put c l).Perm (c :: l)
  | [] => .refl _
  | x :: l => by
    show (if c ≤ x then c :: x :: l else x :: put c l).Perm _
    by_cases h : c ≤ x
    · rw [if_pos h]
    · rw [if_neg h]
      exact ((put_perm c l).cons x).trans (.swap ..)
theorem rising_perm : ∀ l : List Nat, (rising l).Perm l
  | [] => .refl _
  | x :: l => (put_perm x (rising l)).trans ((rising_perm l).cons x)
theorem put_sorted (c : Nat) : ∀ {l : List Nat}, l.Pairwise (· ≤ ·) → (put c l).Pairwise (· ≤ ·)
  | [], _ => by
    show [c].Pairwise (· ≤ ·)
    simp
  | x :: l, h => by
    show (if c ≤ x then c :: x :: l else x :: put c l).Pairwise (· ≤ ·)
    rw [List.pairwise_cons] at h
    by_cases k : c ≤ x
    · rw [if_pos k, List.pairwise_cons]
      refine ⟨fun y hy => ?_, List.pairwise_cons.mpr h⟩
      rcases List.mem_cons.mp hy with rfl | hy
      · exact k
      · exact Nat.le_trans k (h.1 y hy)
    · rw [if_neg k, List.pairwise_cons]
      refine ⟨fun y hy => ?_, put_sorted c h.2⟩
      rcases List.mem_cons.mp ((put_perm c l).mem_iff.mp hy) with rfl | hy
      · omega
      · exact h.1 y hy
theorem rising_sorted : ∀ l : List Nat, (rising l).Pairwise (· ≤ ·)
  | [] => .nil
  | x :: l => put_sorted x (rising_sorted l)
theorem sorted_iN {l : List Nat} {ns : List Int} (h1 : ns.Perm (iN l)) (h2 : ns.Pairwise (· ≤ ·)) : ns = iN (rising l) := by
  refine List.Perm.eq_of_pairwise (le := fun a b : Int => a ≤ b) (fun a b _ _ h k => by omega) h2 ?_ (h1.trans ((rising_perm l).symm.map _))
  rw [List.pairwise_map]
  exact (rising_sorted l).imp fun h => by omega
/-! idle, as the program goes -/
def idleIn (cubes : List (List Nat)) (w : List Row) (i : Nat) (ds : List Nat) : List (Nat × Nat) := (ds.filter fun c => shownOf (less cubes i c) w == shownOf cubes w).map fun c => (i, c)
def idleUpTo (cubes : List (List Nat)) (w : List Row) (n : Nat) : List (Nat × Nat) := (List.range n).flatMap fun i => idleIn cubes w i (rising (cubes.getD i []))
theorem idleUpTo_succ (cubes : List (List Nat)) (w : List Row) (n : Nat) : idleUpTo cubes w (n + 1) = idleUpTo cubes w n ++ idleIn cubes w n (rising (cubes.getD n [])) := by
  unfold idleUpTo
  rw [List.range_succ, List.flatMap_append, List.flatMap_cons, List.flatMap_nil, List.append_nil]
theorem idleIn_snoc (cubes : List (List Nat)) (w : List Row) (i : Nat) (ds : List Nat) (c : Nat) : idleIn cubes w i (ds ++ [c]) = idleIn cubes w i ds ++ (if (shownOf (less cubes i c) w == shownOf cubes w) = true then [(i, c)] else []) := by
  unfold idleIn
  rw [List.filter_append, List.map_append, List.filter_cons]
  cases shownOf (less cubes i c) w == shownOf cubes w <;> rfl
def pairN (l : List (Nat × Nat)) : List Nat := l.flatMap fun x => [x.1, x.2]
theorem pairN_app (a b : List (Nat × Nat)) : pairN (a ++ b) = pairN a ++ pairN b := List.flatMap_append
theorem pairN_ints (l : List (Nat × Nat)) : iN (pairN l) = l.flatMap fun x => Uw70.ints [x.1, x.2] := by
  unfold pairN iN
  rw [List.map_flatMap]
  rfl
theorem pairN_len (l : List (Nat × Nat)) : (pairN l).length = 2 * l.length := by
  induction l with
  | nil => rfl
  | cons x l ih =>
    show (x.1 :: x.2 :: pairN l).length = _
    rw [List.length_cons, List.length_cons, ih, List.length_cons]
    omega
theorem rising_len (l : List Nat) : (rising l).length = l.length := (rising_perm l).length_eq
theorem idleIn_len (cubes : List (List Nat)) (w : List Row) (i : Nat) (ds : List Nat) : (idleIn cubes w i ds).length ≤ ds.length := by
  unfold idleIn
  rw [List.length_map]
  exact List.length_filter_le _ _
theorem idleUpTo_len {cubes : List (List Nat)} {w : List Row} (h : ∀ q ∈ cubes, q.length ≤ 6) (n : Nat) : (idleUpTo cubes w n).length ≤ 6 * n := by
  induction n with
  | zero => exact Nat.le_refl _
  | succ n ih =>
    rw [idleUpTo_succ, List.length_append]
    have h1 := idleIn_len cubes w n (rising (cubes.getD n []))
    rw [rising_len] at h1
    have h2 : (cubes.getD n []).length ≤ 6 := by
      rw [List.getD_eq_getElem?_getD]
      cases e : cubes[n]? with
      | none => exact Nat.zero_le _
      | some q => exact h q (List.mem_of_getElem? e)
    omega
/-! need -/
theorem up_needs (l : List Row) (c : Nat) : L4.up 0 (l.map fun r => ((iN r).count (c : Int) : Int)) = (needOf l c : Nat) := by
  have cnt : ∀ r : Row, (iN r).count (c : Int) = countIn c r := fun r => by
    unfold countIn iN
    rw [← List.count_eq_length_filter]
    induction r with
    | nil => rfl
    | cons x r ih =>
      rw [List.map_cons, List.count_cons, List.count_cons, ih]
      congr 1
      by_cases h : x = c
      · subst h; simp
      · rw [if_neg (by simp; omega), if_neg (by simpa using h)]
  unfold needOf L4.up
  have gen : ∀ (l : List Row) (a : Nat), (l.map fun r => ((iN r).count (c : Int) : Int)).foldl (fun a x => if a < x then x else a) (a : Int) = ((l.map (countIn c)).foldl max a : Nat) := by
    intro l
    induction l with
    | nil => intro a; rfl
    | cons r l ih =>
      intro a
      rw [List.map_cons, List.foldl_cons, List.map_cons, List.foldl_cons, cnt r]
      by_cases h : (a : Int) < (countIn c r : Nat)
      · rw [if_pos h, ih, Nat.max_eq_right (by omega)]
      · rw [if_neg h, ih, Nat.max_eq_left (by omega)]
  exact gen l 0
theorem need_pos (l : List Row) (c : Nat) : decide ((0 : Int) < (needOf l c : Nat)) = l.any fun r => r.contains c := by
  have gen : ∀ (l : List Row) (a : Nat), (0 < (l.map (countIn c)).foldl max a) ↔ (0 < a ∨ (l.any fun r => r.contains c) = true) := by
    intro l
    induction l with
    | nil => intro a; simp
    | cons r l ih =>
      intro a
      rw [List.map_cons, List.foldl_cons, ih, List.any_cons, Bool.or_eq_true]
      have : 0 < countIn c r ↔ r.contains c = true := by
        unfold countIn
        rw [← List.count_eq_length_filter, List.count_pos_iff, List.contains_iff_mem]
      rw [← this, show (0 < max a (countIn c r)) ↔ (0 < a ∨ 0 < countIn c r) by omega, or_assoc]
  have := gen l 0
  unfold needOf
  rw [Bool.eq_iff_iff, decide_eq_true_iff]
  constructor
  · intro h
    rcases this.mp (by omega) with h | h
    · omega
    · exact h
  · intro h
    have := this.mpr (.inr h)
    omega
end DM

set_option Elab.async false
set_option linter.all false
set_option maxRecDepth 100000
set_option maxHeartbeats 2000000
namespace DC
open PySem PySem.Spec PyProof.Rows L2 L3
section
variable {P : Program} {w : World} {K : PySem.W.Frag} {mg : Str → Option Value} {base : Heap} {C : Addr}
/-- a call without anything handed in -/
def spCall (C : Addr) (c : Uw70.Call) : Sp := fun vs H Q _ => ∃ (p : Addr) (d : Uw70.Desk) (dx lc lw : Addr) (cas was : List Addr), vs = [.ref p] ∧ DeskAt C H p d dx lc lw cas was ∧ After C H p dx (foot p lc lw cas was) (Uw70.step d c).1 (Uw70.step d c).2 Q
theorem scMissing : FnScope ["self", "rows", "row"] ["self"] (defScope sMissing) := ⟨rfl, rfl, rfl, by decide +kernel, rfl, by decide +kernel, by decide +kernel⟩
theorem ok_missing {f : Addr} {fd : FuncData} (F : Fun K "missing" "Desk.missing" sMissing f fd) (T : Txt K mg C) : FnOk P w K mg base CX0 4 f fd ["self"] (spCall C .missing) := by
  obtain ⟨f1, fd1, m1, F1, b1⟩ := T.isShown
  have G1 : FnOk P w K mg base CX0 3 f1 fd1 ["row", "cubes"] (spIsShown K) := ok_isShown F1 T
  refine F.ok scMissing (fun vs H Q E h => ?_) (fun cdv A outer s H vs Q E hr h => ?_)
  · obtain ⟨p, d, dx, lc, lw, cas, was, rfl, _⟩ := h
    rfl
  · obtain ⟨p, d, dx, lc, lw, cas, was, rfl, D, k⟩ := h
    refine ⟨_, pss_cons (ps_setLc (i := 1) (own := [("row", 2)]) (tt := tNot (tB (tCall (spIsShown K) [] E0 (tCons (tVar 2) (tCons (tFld K (tVar 0) "cubes") tNil))))) rfl scMissing.nd rfl rfl (sw_true rfl rfl rfl rfl) (pi_list (pe_fld (pv 0) rfl)) (blkOk_by (N := ["self", "rows", "row"]) (sc := defScope sMissing) (by decide +kernel)) (fun _ _ _ _ _ => pg_name (i := 2) scMissing.nd rfl (Or.inl rfl))
        (fun _ _ _ _ _ => pts_one (pt_not (pt_val (pe_call G1 hr (by rfl) m1 F1.kp b1 .nil pass0 (pa_cons (pv 2) (pa_cons (pe_fld (pv 0) rfl) pa_nil)))))) (fun _ _ _ _ _ => pv 2))
      (pss_cons (ps_if (pt_cmpR op_eq (pe_callB call_len_seq (by rfl) T.len PySem.boot_len (pa_cons (pv 1) pa_nil)) pe_int (nomark _)) (pss_one (ps_ret (pe_lst (pa_cons pe_int pa_nil)))) pss_nil)
      (pss_one (ps_ret (pe_op op_cat (pe_lst (pa_cons (pe_callB call_len_seq (by rfl) T.len PySem.boot_len (pa_cons (pv 1) pa_nil)) pa_nil)) (pe_ix ix_list (pv 1) pe_int (fun _ _ => rfl)))))), ?_⟩
    have one : (1 : Nat) ≤ sizeLine := by decide
    simp only [Uw70.step] at k
    refine ⟨_, rfl, p, C, dx, _, _, rfl, D.obj, T.cl, T.nWanted, rfl, lw, rfl, ⟨_, SqL.of D.wan⟩, fun q hq => lc_list (xs := was.map V.ref) (Pv := fun i H' => Same H H' ∧ LL H' q ((d.wanted.take i).filter fun r => !Uw70.isShown d.cubes r)) ⟨Same.new hq, [], upd_same, trivial⟩
      (fun i H' _ ⟨s', _⟩ => SqL.of (s' _ _ D.wan)) (fun i x H1 hx ⟨s1, qas, e1, r1⟩ => ?_) (fun H1 ⟨s1, hL⟩ => ?_)⟩
    · obtain ⟨b, hb, rfl⟩ := ref_get hx
      obtain ⟨l, hl, hbH⟩ := D.rwa.get hb
      have hl4 : l.length ≤ 4 := by rw [D.ok.wl l (List.mem_of_getElem? hl)]; exact D.ok.c4
      refine ⟨rfl, _, rfl, _, rfl, p, C, dx, _, _, rfl, s1 _ _ D.obj, T.cl, T.nCubes, rfl, b, lc, cas, l, d.cubes, rfl, SqL.of (s1 _ _ hbH), s1 _ _ D.cub, D.rcu.same s1, D.ok.c4, hl4, fun H2 s2 => ⟨_, rfl, ?_⟩⟩
      cases hsh : Uw70.isShown d.cubes l with
      | false =>
        refine iteT ⟨_, rfl, _, s2 _ _ e1, ?_, Same.put hq (s1.trans s2), qas ++ [b], by rw [upd_same, List.map_append]; rfl, ?_⟩
        · rw [List.length_map, r1.len]
          refine Nat.lt_of_le_of_lt (Nat.le_trans (List.length_filter_le _ _) ?_) (show 40 < sizeLine by decide)
          have := D.ok.w40
          rw [List.length_take]
          omega
        · rw [take_snoc hl, List.filter_append, List.filter_cons, if_pos (by rw [hsh]; rfl)]
          exact LL.push (s2 _ _ e1) (r1.same s2) (s2 _ _ (s1 _ _ hbH)) (ne_of_none hbH hq)
      | true =>
        refine iteF ⟨s1.trans s2, qas, s2 _ _ e1, ?_⟩
        rw [take_snoc hl, List.filter_append, List.filter_cons, if_neg (by rw [hsh]; decide), List.filter_nil, List.append_nil]
        exact r1.same s2
    · rw [List.length_map, D.rwa.len, List.take_length] at hL
      obtain ⟨as, e1, r1⟩ := hL
      have hwl := r1.len
      have hmem : ∀ r ∈ (d.wanted.filter fun r => !Uw70.isShown d.cubes r), r.length = d.cubes.length := fun r hr => D.ok.wl r (List.mem_filter.mp hr).1
      refine ⟨_, rfl, q, _, rfl, .inl (SqL.of e1), rfl, _, rfl, ?_⟩
      rw [List.length_map, hwl]
      generalize (d.wanted.filter fun r => !Uw70.isShown d.cubes r) = ws at k hwl r1 hmem
      cases ws with
      | nil => exact iteT ⟨one, fun r hr => k.still D s1 hr rfl⟩
      | cons w0 ws =>
        obtain ⟨a0, ha0, hw0⟩ := r1.get' (i := 0) rfl
        rw [decide_eq_false (by intro z; have := V.int.inj z; rw [List.length_cons] at this; omega)]
        refine iteF ⟨_, rfl, q, _, rfl, .inl (SqL.of e1), one, fun q4 hq4 => ?_⟩
        have s4 := Same.new (o := .lst [V.int (((as.map V.ref).length : Nat) : Int)]) hq4
        refine ⟨_, rfl, q, _, _, _, rfl, rfl, SqL.of (s4 _ _ e1), atI_nat (j := 0) (ref_at ha0), q4, a0, _, _, rfl, rfl, upd_same, s4 _ _ hw0, ?_, fun r hr => ?_⟩
        · rw [vN_len]
          show 1 + w0.length ≤ sizeLine
          rw [hmem w0 (List.mem_cons_self ..)]
          have := D.ok.c4
          have : sizeLine = 2 ^ 24 := rfl
          omega
        · refine k.still D (s1.trans s4) hr ?_
          rw [List.length_map, hwl]
          show V.int _ :: vN w0 = V.int _ :: (Uw70.ints w0).map V.int
          rw [vN_ints]
          rfl
/-- without -/
def spWithout (K : PySem.W.Frag) : Sp := fun vs H Q _ => ∃ (ac : Addr) (cas : List Addr) (cubes : List (List Nat)) (i c : Nat), vs = [.ref ac, .int (i : Int), .int (c : Int)] ∧ H ac = some (.lst (cas.map V.ref)) ∧ RowsAt H cas cubes ∧ cubes.length ≤ 4 ∧ i < cubes.length ∧ (∀ q ∈ cubes, q.length ≤ 6) ∧
  ∀ H' q, Same H H' → H q = none → LL H' q (Uw70.less cubes i c) → Q (.ref q) H'
theorem scWithout : FnScope ["cubes", "cube", "digit", "fewer", "other"] ["cubes", "cube", "digit"] (defScope sWithout) := ⟨rfl, rfl, rfl, by decide +kernel, rfl, by decide +kernel, by decide +kernel⟩
theorem ok_without {f : Addr} {fd : FuncData} (F : Fun K "without" "without" sWithout f fd) (T : Txt K mg C) : FnOk P w K mg base CX0 1 f fd ["cubes", "cube", "digit"] (spWithout K) := by
  refine F.ok scWithout (fun vs H Q E h => ?_) (fun cdv A outer s H vs Q E hr h => ?_)
  · obtain ⟨ac, cas, cubes, i, c, rfl, _⟩ := h
    rfl
  · obtain ⟨ac, cas, cubes, i, c, rfl, hac, rc, hc4, hi, h6, k⟩ := h
    refine ⟨_, pss_cons (ps_set (i := 3) scWithout.nd rfl (Or.inl rfl) (pe_callTy call_list_of (by rfl) T.list (by decide +kernel) (pa_cons (pv 0) pa_nil)))
      (pss_cons (ps_asg (pe_lc (own := [("other", 4)]) rfl scWithout.nd (pi_list (pe_ix ix_list (pv 0) (pv 1) (fun _ _ => rfl))) (blkOk_by (N := ["cubes", "cube", "digit", "fewer", "other"]) (sc := defScope sWithout) (by decide +kernel)) (fun _ _ _ _ _ => pg_name (i := 4) scWithout.nd rfl (Or.inl rfl))
          (fun _ _ _ _ _ => pts_one (pt_cmpR op_ne (pv 4) (pv 2) (nomark _))) (fun _ _ _ _ _ => pv 4)) (pg_sub (pv 3) (pv 1) set_list))
      (pss_one (ps_ret (pv 3)))), ?_⟩
    obtain ⟨cv, hcv⟩ : ∃ cv, cubes[i]? = some cv := ⟨_, List.getElem?_eq_getElem hi⟩
    obtain ⟨cb, hcb, hcH⟩ := rc.get' hcv
    have hcl := h6 cv (List.mem_of_getElem? hcv)
    refine ⟨_, rfl, ac, _, rfl, .inl (SqL.of hac), fun fw hfw => ?_⟩
    have s1 := Same.new (o := .lst (cas.map V.ref)) hfw
    refine ⟨_, rfl, _, rfl, ac, _, _, _, rfl, rfl, SqL.of (s1 _ _ hac), atI_nat (ref_at hcb), cb, rfl, ⟨_, SqL.of (s1 _ _ hcH)⟩, fun q hq => lc_list_by (xs := vN cv) (fun j => vN ((cv.take j).filter fun x => x != c)) hq (SqL.of (s1 _ _ hcH)) rfl (fun j hj => ?_) (fun j x H1 hx s2 hd => ?_) (fun H1 s2 hd => ?_) (mt := ?_) (me := ?_)⟩
    · rw [vN_len]
      have h2 := List.length_filter_le (fun x => x != c) (cv.take j)
      rw [List.length_take] at h2
      have : sizeLine = 2 ^ 24 := rfl
      omega
    · obtain ⟨n, hn, rfl⟩ := vN_get hx
      refine ⟨rfl, _, rfl, _, rfl, rfl, _, rfl, ?_⟩
      rw [take_snoc hn, List.filter_append, List.filter_cons]
      by_cases e : n = c
      · subst e
        rw [decide_eq_true rfl, if_neg (by simp)]
        refine ⟨Same.refl _, ?_⟩
        simp
      · rw [decide_eq_false (fun z => e (by have := V.int.inj z; omega)), if_pos (by simpa using e)]
        exact iteT ⟨_, rfl, Same.refl _, by rw [vN_app]; rfl⟩
    · rw [vN_len, List.take_length] at hd
      have hix : ixN (cas.map V.ref).length (i : Int) = some i := by
        unfold ixN
        rw [List.length_map, rc.len, if_pos (by omega), if_pos (by omega)]
        rfl
      refine ⟨_, rfl, _, rfl, fw, _, _, i, rfl, rfl, s2 _ _ upd_same, hix, ?_⟩
      have hqf : q ≠ fw := fun z => by rw [z, upd_same] at hq; cases hq
      have hnp : fw ∉ cas := fun m => by
        obtain ⟨l, _, e⟩ := rc.mem m
        rw [hfw] at e
        cases e
      refine ⟨_, rfl, k _ fw (Same.put hfw (s1.trans s2)) hfw ⟨cas.set i q, by rw [upd_same, map_set], ?_⟩⟩
      unfold Uw70.less
      rw [getD_of hcv]
      refine RowsAt.set (by rw [upd_ne hqf]; exact hd) i ((rc.same (s1.trans s2)).mono fun a ha o e => ?_)
      rw [upd_ne (fun z : a = fw => hnp (by rw [← z]; exact ha))]
      exact e
    · intro σ H Q Q' f h
      obtain ⟨x, e, y, e', e1, b, e2, q⟩ := h
      exact ⟨x, e, y, e', e1, b, e2, f _ _ q⟩
    · intro σ H Q Q' f h
      obtain ⟨x, e, q⟩ := h
      exact ⟨x, e, f _ _ q⟩
end
end DC

set_option Elab.async false
set_option linter.all false
set_option maxRecDepth 100000
set_option maxHeartbeats 2000000
namespace DC
open PySem PySem.Spec PyProof.Rows L2 L3
section
variable {P : Program} {w : World} {K : PySem.W.Frag} {mg : Str → Option Value} {base : Heap} {C : Addr}
/-! rows of rows, as data -/
theorem dp_rows {H : Hp} : ∀ {as : List Addr} {ls : List (List Nat)}, RowsAt H as ls → DpAll K H (as.map V.ref) (ls.map dN)
  | [], [], _ => .nil
  | a :: as, l :: ls, h => .cons (dp_row (SqL.of h.1)) (dp_rows h.2)
  | [], _ :: _, h => h.elim
  | _ :: _, [], h => h.elim
theorem eqv_rows : ∀ (l m : List (List Nat)), PyData.eqvAll (l.map dN) (m.map dN) = (l == m)
  | [], [] => rfl
  | [], _ :: _ => rfl
  | _ :: _, [] => rfl
  | a :: l, b :: m => by
    show (PyData.eqv (dN a) (dN b) && PyData.eqvAll _ _) = ((a == b) && (l == m))
    rw [eqv_rows l m, eqv_dN]
theorem canLay_rows : ∀ (l : List (List Nat)), PyData.canLayAll0 (l.map dN) = true
  | [] => rfl
  | a :: l => by
    show (PyData.canLay0 (dN a) && PyData.canLayAll0 _) = true
    rw [canLay_rows l, Bool.and_true]
    exact canLay_all a
theorem depth_rows : ∀ (l : List (List Nat)), PyData.depthAll (l.map dN) ≤ 2
  | [] => by decide
  | a :: l => by
    show max ((dN a).depth) (PyData.depthAll _) ≤ 2
    exact Nat.max_le.mpr ⟨Nat.succ_le_succ (depth_all a), depth_rows l⟩
theorem shaped_rows (l : List (List Nat)) : SeqAt.shaped (.list (l.map dN)) = true := by
  unfold SeqAt.shaped
  rw [show PyData.canLay0 (.list (l.map dN)) = true from canLay_rows l, decide_eq_true]
  · rfl
  · have : (PyData.list (l.map dN)).depth ≤ 3 := Nat.succ_le_succ (depth_rows l)
    omega
theorem eq_rows {H : Hp} {p q : Addr} {as bs : List Addr} {ls ms : List (List Nat)} {Q : VK} (hp : H p = some (.lst (as.map V.ref))) (ra : RowsAt H as ls) (hq : H q = some (.lst (bs.map V.ref))) (rb : RowsAt H bs ms) (h : Q (.bl (ls == ms)) H) : rEqD K (.ref p) (.ref q) H Q :=
  ⟨.list (ls.map dN), .list (ms.map dN), .lst (SqL.of hp) (dp_rows ra), .lst (SqL.of hq) (dp_rows rb), shaped_rows ls, shaped_rows ms, by
    show Q (.bl (PyData.eqvAll (ls.map dN) (ms.map dN))) H
    rw [eqv_rows]
    exact h⟩
/-- idle -/
theorem scIdle : FnScope ["self", "shown", "count", "pairs", "cube", "digit"] ["self"] (defScope sIdle) := ⟨rfl, rfl, rfl, by decide +kernel, rfl, by decide +kernel, by decide +kernel⟩
theorem ok_idle {f : Addr} {fd : FuncData} (F : Fun K "idle" "Desk.idle" sIdle f fd) (T : Txt K mg C) : FnOk P w K mg base CX0 5 f fd ["self"] (spCall C .idle) := by
  obtain ⟨f1, fd1, m1, F1, b1⟩ := T.shownRows
  have G1 : FnOk P w K mg base CX0 4 f1 fd1 ["rows", "cubes"] (spShownRows K) := ok_shownRows F1 T
  obtain ⟨f2, fd2, m2, F2, b2⟩ := T.without
  have G2 : FnOk P w K mg base CX0 1 f2 fd2 ["cubes", "cube", "digit"] (spWithout K) := ok_without F2 T
  refine F.ok scIdle (fun vs H Q E h => ?_) (fun cdv A outer s H vs Q E hr h => ?_)
  · obtain ⟨p, d, dx, lc, lw, cas, was, rfl, _⟩ := h
    rfl
  · obtain ⟨p, d, dx, lc, lw, cas, was, rfl, D, k⟩ := h
    refine ⟨_, pss_cons (ps_set (i := 1) scIdle.nd rfl (Or.inl rfl) (pe_call G1 hr (by rfl) m1 F1.kp b1 .nil pass0 (pa_cons (pe_fld (pv 0) rfl) (pa_cons (pe_fld (pv 0) rfl) pa_nil))))
      (pss_cons (ps_set (i := 2) scIdle.nd rfl (Or.inl rfl) pe_int)
      (pss_cons (ps_set (i := 3) scIdle.nd rfl (Or.inl rfl) (pe_lst pa_nil))
      (pss_cons (ps_for PassesOwn.never rfl (pi_range1 (by rfl) T.range (pa_cons (pe_callB call_len_seq (by rfl) T.len PySem.boot_len (pa_cons (pe_fld (pv 0) rfl) pa_nil)) pa_nil)) (pg_name (i := 4) scIdle.nd rfl (Or.inl rfl))
        (pss_one (ps_for PassesOwn.never rfl (pi_list (pe_callB cr_sorted (by rfl) T.sorted (by decide +kernel) (pa_cons (pe_ix ix_list (pe_fld (pv 0) rfl) (pv 4) (fun _ _ => rfl)) pa_nil))) (pg_name (i := 5) scIdle.nd rfl (Or.inl rfl))
          (pss_one (ps_if (pt_cmpR (op_eqD hr.units) (pe_call G1 hr (by rfl) m1 F1.kp b1 .nil pass0 (pa_cons (pv 1) (pa_cons (pe_call G2 (hr.mono (by decide)) (by rfl) m2 F2.kp b2 .nil pass0 (pa_cons (pe_fld (pv 0) rfl) (pa_cons (pv 4) (pa_cons (pv 5) pa_nil)))) pa_nil))) (pv 1) (nomark _))
            (pss_cons (ps_set (i := 2) scIdle.nd rfl (Or.inl rfl) (pe_op op_add (pv 2) pe_int))
            (pss_one (ps_expr (pe_bm PySem.F.plainAttrs_list PySem.F.slot_list_extend PySem.F.type_list_extend mt_extend (pv 3) (pa_cons (pe_lst (pa_cons (pv 4) (pa_cons (pv 5) pa_nil))) pa_nil)))))
            pss_nil)))))
      (pss_one (ps_ret (pe_op op_cat (pe_lst (pa_cons (pv 2) pa_nil)) (pv 3))))))), ?_⟩
    have c4 := D.ok.c4
    have wl4 : ∀ r ∈ d.wanted, r.length ≤ 4 := fun r hr => by rw [D.ok.wl r hr]; exact c4
    have q6 : ∀ q ∈ d.cubes, q.length ≤ 6 := fun q hq => Nat.le_trans (D.ok.q6 q hq) D.ok.f6
    have sl : sizeLine = 16777216 := rfl
    simp only [Uw70.step] at k
    refine ⟨_, rfl, p, C, dx, _, _, rfl, D.obj, T.cl, T.nWanted, rfl, _, rfl, p, C, dx, _, _, rfl, D.obj, T.cl, T.nCubes, rfl, lw, lc, was, cas, d.wanted, d.cubes, rfl, D.wan, D.rwa, D.cub, D.rcu, c4, D.ok.w40, wl4, fun Hs sh s1 hsh ⟨shas, esh, rsh⟩ => ?_⟩
    have w40 : (d.wanted.filter (Uw70.isShown d.cubes)).length ≤ 40 := Nat.le_trans (List.length_filter_le _ _) D.ok.w40
    refine ⟨Nat.zero_le _, fun pr hpr => ?_⟩
    have hN : ((((cas.map V.ref).length : Nat) : Int)).toNat = d.cubes.length := by rw [Int.toNat_natCast, List.length_map, D.rcu.len]
    have s2 := Same.new (o := .lst []) hpr
    have s12 := s1.trans s2
    refine ⟨_, rfl, p, C, dx, _, _, rfl, s12 _ _ D.obj, T.cl, T.nCubes, rfl, lc, _, rfl, .inl (SqL.of (s12 _ _ D.cub)), _, rfl, ?_, ?_, for_range (fun i σ H' => ∃ v4 v5 : Option V, σ = [some (.ref p), some (.ref sh), some (.int ((DM.idleUpTo d.cubes d.wanted i).length : Nat)), some (.ref pr), v4, v5] ∧ Same Hs H' ∧ H' pr = some (.lst (vN (DM.pairN (DM.idleUpTo d.cubes d.wanted i)))))
      ⟨none, none, rfl, s2, upd_same⟩ ?_ ?_⟩
    · omega
    · rw [List.length_map, D.rcu.len]; omega
    · rintro i σ H1 hi ⟨v4, v5, rfl, s3, e3⟩
      rw [hN] at hi
      rw [Int.zero_add]
      obtain ⟨cv, hcv⟩ : ∃ cv, d.cubes[i]? = some cv := ⟨_, List.getElem?_eq_getElem hi⟩
      obtain ⟨cb, hcb, hcH⟩ := D.rcu.get' hcv
      have hcl := q6 cv (List.mem_of_getElem? hcv)
      have s13 := s1.trans s3
      refine ⟨_, rfl, p, C, dx, _, _, rfl, s13 _ _ D.obj, T.cl, T.nCubes, rfl, _, rfl, lc, _, _, _, rfl, rfl, SqL.of (s13 _ _ D.cub), atI_nat (ref_at hcb), cb, DM.iN cv, rfl, SqL.of (by rw [← vN_ints]; exact s13 _ _ hcH), by rw [List.length_map]; omega, fun ns ql hp1 hp2 hql => ?_⟩
      rw [DM.sorted_iN hp1 hp2, ← vN_ints]
      have s4 := Same.new (o := .lst (vN (Uw70.rising cv))) hql
      have s34 := s3.trans s4
      have hprl : pr ≠ ql := fun z => by rw [← z, e3] at hql; cases hql
      refine ⟨ql, rfl, ⟨_, SqL.of upd_same⟩, for_list (K := K) (a := ql) (xs := vN (Uw70.rising cv)) (fun j σ H' => ∃ v5 : Option V, σ = [some (.ref p), some (.ref sh), some (.int ((DM.idleUpTo d.cubes d.wanted i ++ DM.idleIn d.cubes d.wanted i ((Uw70.rising cv).take j)).length : Nat)), some (.ref pr), some (.int (i : Int)), v5] ∧ Same Hs H' ∧
          H' ql = some (.lst (vN (Uw70.rising cv))) ∧ H' pr = some (.lst (vN (DM.pairN (DM.idleUpTo d.cubes d.wanted i ++ DM.idleIn d.cubes d.wanted i ((Uw70.rising cv).take j))))))
        ⟨v5, by rw [List.take_zero]; show _ = [_, _, some (V.int (((_ ++ []).length : Nat) : Int)), _, _, _]; rw [List.append_nil]; rfl, s34, upd_same, by rw [List.take_zero, upd_ne hprl, e3]; show _ = some (HO.lst (vN (DM.pairN (_ ++ [])))); rw [List.append_nil]⟩ (fun j σ H' _ ⟨_, _, _, e, _⟩ => SqL.of e) ?_ ?_⟩
      · rintro j x σ H2 hj ⟨v5, rfl, s5, e5, e6⟩
        obtain ⟨c, hc, rfl⟩ := vN_get hj
        have s15 := s1.trans s5
        rw [take_snoc hc, DM.idleIn_snoc]
        refine ⟨_, rfl, _, rfl, p, C, dx, _, _, rfl, s15 _ _ D.obj, T.cl, T.nCubes, rfl, _, rfl, _, rfl, lc, cas, d.cubes, i, c, rfl, s15 _ _ D.cub, D.rcu.same s15, c4, hi, q6, fun H3 q3 s6 hq3 ⟨as3, e3', r3⟩ => ?_⟩
        have s56 := s5.trans s6
        refine ⟨sh, q3, shas, as3, _, _, rfl, s56 _ _ esh, rsh.same s56, e3', r3, by rw [DM.less_len]; exact c4, w40, fun r hr => wl4 r (List.mem_filter.mp hr).1, fun H4 q4 s7 hq4 ⟨as4, e4, r4⟩ => ?_⟩
        have s57 := s56.trans s7
        have hpr4 : H4 pr = some (.lst (vN (DM.pairN (DM.idleUpTo d.cubes d.wanted i ++ DM.idleIn d.cubes d.wanted i ((Uw70.rising cv).take j))))) := s7 _ _ (s6 _ _ e6)
        have hql4 : H4 ql = some (.lst (vN (Uw70.rising cv))) := s7 _ _ (s6 _ _ e5)
        refine ⟨_, rfl, eq_rows e4 r4 (s57 _ _ esh) (rsh.same s57) ⟨_, rfl, ?_⟩⟩
        rw [DM.idle_test]
        cases ht : (Uw70.shownOf (Uw70.less d.cubes i c) d.wanted == Uw70.shownOf d.cubes d.wanted) with
        | false =>
          rw [if_neg (by decide), if_neg (by decide), List.append_nil]
          exact ⟨_, rfl, s57, hql4, hpr4⟩
        | true =>
          rw [if_pos rfl, if_pos rfl, ← List.append_assoc]
          have ln : (DM.idleUpTo d.cubes d.wanted i ++ DM.idleIn d.cubes d.wanted i ((Uw70.rising cv).take j)).length ≤ 60 := by
            have h1 := DM.idleUpTo_len (w := d.wanted) q6 i
            have h2 := DM.idleIn_len d.cubes d.wanted i ((Uw70.rising cv).take j)
            rw [List.length_take, DM.rising_len] at h2
            rw [List.length_append]
            omega
          generalize DM.idleUpTo d.cubes d.wanted i ++ DM.idleIn d.cubes d.wanted i ((Uw70.rising cv).take j) = L at hpr4 ln
          have l2 := DM.pairN_len L
          refine ⟨_, rfl, _, _, rfl, rfl, ?_⟩
          refine ⟨_, rfl, .inl ⟨rfl, _, SqL.of hpr4⟩, _, rfl, _, rfl, (by show 2 ≤ sizeLine; decide), fun q5 hq5 => ?_⟩
          have s8 := Same.new (o := .lst [V.int (i : Int), V.int (c : Int)]) hq5
          have hqp : ql ≠ pr := Ne.symm hprl
          refine ⟨pr, q5, _, _, rfl, rfl, s8 _ _ hpr4, upd_same, ?_, ?_⟩
          · rw [vN_len, l2]
            show 2 * L.length + 2 ≤ _
            omega
          · refine ⟨some (.int (c : Int)), ?_, Same.put hpr (s57.trans s8), by rw [upd_ne hqp]; exact s8 _ _ hql4, ?_⟩
            · rw [List.length_append]
              rfl
            · rw [upd_same, DM.pairN_app, vN_app]
              rfl
      · rintro σ H2 ⟨v5, rfl, s5, e5, e6⟩
        rw [vN_len, List.take_length] at e6
        rw [vN_len, List.take_length]
        refine ⟨some (.int (i : Int)), v5, ?_, s5, ?_⟩
        · rw [DM.idleUpTo_succ, getD_of hcv]
        · rw [DM.idleUpTo_succ, getD_of hcv]
          exact e6
    · rintro σ H1 ⟨v4, v5, rfl, s3, e3⟩
      rw [hN] at e3 ⊢
      have ln := DM.idleUpTo_len (w := d.wanted) q6 d.cubes.length
      have l2 := DM.pairN_len (DM.idleUpTo d.cubes d.wanted d.cubes.length)
      refine ⟨_, rfl, (by show 1 ≤ sizeLine; decide), fun q1 hq1 => ?_⟩
      have s4 := Same.new (o := .lst [V.int ((DM.idleUpTo d.cubes d.wanted d.cubes.length).length : Nat)]) hq1
      refine ⟨_, rfl, q1, pr, _, _, rfl, rfl, upd_same, s4 _ _ e3, ?_, fun r hr => ?_⟩
      · rw [vN_len, l2]
        show 1 + _ ≤ _
        omega
      · refine k.still D ((s1.trans s3).trans s4) hr ?_
        rw [vN_ints]
        show V.int _ :: (DM.iN (DM.pairN (DM.idleUpTo d.cubes d.wanted d.cubes.length))).map V.int = V.int _ :: _
        rw [DM.pairN_ints]
        rfl
end
end DC

set_option Elab.async false
set_option linter.all false
set_option maxRecDepth 100000
set_option maxHeartbeats 2000000
namespace DC
open PySem PySem.Spec PyProof.Rows L2 L3 L4
section
variable {P : Program} {w : World} {K : PySem.W.Frag} {mg : Str → Option Value} {base : Heap} {C : Addr}
/-- most_in_a_row -/
def spMostIn (K : PySem.W.Frag) : Sp := fun vs H Q _ => ∃ (ar : Addr) (ras : List Addr) (rows : List (List Nat)) (c : Nat), vs = [.int (c : Int), .ref ar] ∧ H ar = some (.lst (ras.map V.ref)) ∧ RowsAt H ras rows ∧ rows.length ≤ 40 ∧
  ∀ H', Same H H' → Q (.int (Uw70.needOf rows c : Nat)) H'
theorem scMostIn : FnScope ["digit", "rows", "row"] ["digit", "rows"] (defScope sMostIn) := ⟨rfl, rfl, rfl, by decide +kernel, rfl, by decide +kernel, by decide +kernel⟩
theorem ok_mostIn {f : Addr} {fd : FuncData} (F : Fun K "most_in_a_row" "most_in_a_row" sMostIn f fd) (T : Txt K mg C) : FnOk P w K mg base CX0 1 f fd ["digit", "rows"] (spMostIn K) := by
  refine F.ok scMostIn (fun vs H Q E h => ?_) (fun cdv A outer s H vs Q E hr h => ?_)
  · obtain ⟨ar, ras, rows, c, rfl, _⟩ := h
    rfl
  · obtain ⟨ar, ras, rows, c, rfl, har, rr, h40, k⟩ := h
    refine ⟨_, pss_one (ps_ret (pe_maxD rfl (by rfl) T.max (pa_cons (pe_lc (own := [("row", 2)]) (te := tBM K "list" (fun x xs H Q => ∃ (a : Addr) (ns : List Int) (k : Int), x = .ref a ∧ xs = [.int k] ∧ SqL K H a (ns.map V.int) ∧ Q (.int ((ns.count k : Nat) : Int)) H) (tVar 2) (tCons (tVar 0) tNil)) rfl scMostIn.nd (pi_list (pv 1)) (blkOk_by (N := ["digit", "rows", "row"]) (sc := defScope sMostIn) (by decide +kernel)) (fun _ _ _ _ _ => pg_name (i := 2) scMostIn.nd rfl (Or.inl rfl))
        (fun _ _ _ _ _ => pts_nil) (fun _ _ _ _ _ => pe_bm PySem.F.plainAttrs_list PySem.F.slot_list_count PySem.F.type_list_count mt_countL (pv 2) (pa_cons (pv 0) pa_nil))) pa_nil) (pk_cons pe_int pk_nil))), ?_⟩
    refine ⟨_, rfl, ar, rfl, ⟨_, SqL.of har⟩, fun q hq => lc_list_by (xs := ras.map V.ref) (fun i => ((rows.take i).map fun r => ((DM.iN r).count (c : Int) : Int)).map V.int) hq (SqL.of har) rfl (fun i hi => ?_) (fun i x H1 hx s1 hd => ?_) (fun H1 s1 hd => ?_) (me := ?_)⟩
    · rw [List.length_map, List.length_map, List.length_take]
      have : sizeLine = 2 ^ 24 := rfl
      omega
    · obtain ⟨b, hb, rfl⟩ := ref_get hx
      obtain ⟨l, hl, hbH⟩ := rr.get hb
      have e : SqL K H1 b ((DM.iN l).map V.int) := SqL.of (by rw [← vN_ints]; exact s1 _ _ hbH)
      refine ⟨rfl, yes_if ⟨_, rfl, .inl ⟨rfl, _, e⟩, _, rfl, b, DM.iN l, (c : Int), rfl, rfl, e, Same.refl _, ?_⟩⟩
      rw [take_snoc hl, List.map_append, List.map_append]
      rfl
    · rw [List.length_map, rr.len, List.take_length] at hd
      refine ⟨q, (rows.map fun r => ((DM.iN r).count (c : Int) : Int)), 0, rfl, rfl, SqL.of hd, fun x hx => ?_, ?_⟩
      · obtain ⟨r, _, rfl⟩ := List.mem_map.mp hx
        omega
      · rw [DM.up_needs]
        exact k H1 s1
    · intro σ H Q Q' f h
      obtain ⟨x, e, ty, y, e', a, ns, kk, e1, e2, e3, q⟩ := h
      exact ⟨x, e, ty, y, e', a, ns, kk, e1, e2, e3, f _ _ q⟩
/-- digits_in -/
def spDigitsIn (K : PySem.W.Frag) : Sp := fun vs H Q _ => ∃ (ar : Addr) (ras : List Addr) (rows : List (List Nat)), vs = [.ref ar] ∧ H ar = some (.lst (ras.map V.ref)) ∧ RowsAt H ras rows ∧ rows.length ≤ 40 ∧
  ∀ H' q, Same H H' → H q = none → H' q = some (.lst (vN (Uw70.signs rows))) → Q (.ref q) H'
theorem scDigitsIn : FnScope ["rows", "digit"] ["rows"] (defScope sDigitsIn) := ⟨rfl, rfl, rfl, by decide +kernel, rfl, by decide +kernel, by decide +kernel⟩
theorem ok_digitsIn {f : Addr} {fd : FuncData} (F : Fun K "digits_in" "digits_in" sDigitsIn f fd) (T : Txt K mg C) : FnOk P w K mg base CX0 2 f fd ["rows"] (spDigitsIn K) := by
  obtain ⟨f1, fd1, m1, F1, b1⟩ := T.mostIn
  have G1 : FnOk P w K mg base CX0 1 f1 fd1 ["digit", "rows"] (spMostIn K) := ok_mostIn F1 T
  refine F.ok scDigitsIn (fun vs H Q E h => ?_) (fun cdv A outer s H vs Q E hr h => ?_)
  · obtain ⟨ar, ras, rows, rfl, _⟩ := h
    rfl
  · obtain ⟨ar, ras, rows, rfl, har, rr, h40, k⟩ := h
    refine ⟨_, pss_one (ps_ret (pe_lc (own := [("digit", 1)]) (tt := tTest (tOp (rI0 fun i j => .bl (decide (j < i))) (tCall (spMostIn K) [] E0 (tCons (tVar 1) (tCons (tVar 0) tNil))) (tC (.int 0)))) rfl scDigitsIn.nd (pi_range1 (by rfl) T.range (pa_cons pe_int pa_nil)) (blkOk_by (N := ["rows", "digit"]) (sc := defScope sDigitsIn) (by decide +kernel)) (fun _ _ _ _ _ => pg_name (i := 1) scDigitsIn.nd rfl (Or.inl rfl))
      (fun _ _ _ _ _ => pts_one (pt_cmpR op_gt (pe_call G1 hr (by rfl) m1 F1.kp b1 .nil pass0 (pa_cons (pv 1) (pa_cons (pv 0) pa_nil))) pe_int (nomark _))) (fun _ _ _ _ _ => pv 1))), ?_⟩
    refine ⟨_, rfl, by decide, by decide, fun q hq => lc_range (Pv := fun i H' => Same H H' ∧ H' q = some (.lst (vN ((List.range i).filter fun c => rows.any fun r => r.contains c)))) ⟨Same.new hq, upd_same⟩ (fun i H1 hi ⟨s1, e1⟩ => ?_) (fun H1 ⟨s1, e1⟩ => ?_)⟩
    · rw [Int.zero_add]
      refine ⟨rfl, _, rfl, _, rfl, ar, ras, rows, i, rfl, s1 _ _ har, rr.same s1, h40, fun H2 s2 => ⟨_, _, rfl, rfl, _, rfl, ?_⟩⟩
      rw [DM.need_pos, List.range_succ, List.filter_append, List.filter_cons]
      cases ht : rows.any fun r => r.contains i with
      | true =>
        refine iteT ⟨_, rfl, _, s2 _ _ e1, ?_, Same.put hq (s1.trans s2), ?_⟩
        · rw [vN_len]
          refine Nat.lt_of_le_of_lt (Nat.le_trans (List.length_filter_le _ _) ?_) (show 10 < sizeLine by decide)
          rw [List.length_range]
          exact Nat.le_of_lt hi
        · rw [upd_same, if_pos rfl, vN_app]
          rfl
      | false =>
        refine iteF ⟨s1.trans s2, ?_⟩
        rw [if_neg (by decide), List.filter_nil, List.append_nil]
        exact s2 _ _ e1
    · exact k H1 q s1 hq e1
/-- need -/
theorem scNeed : FnScope ["self", "most", "digit"] ["self"] (defScope sNeed) := ⟨rfl, rfl, rfl, by decide +kernel, rfl, by decide +kernel, by decide +kernel⟩
theorem sum_iN : ∀ l : List Nat, ((DM.iN l).sum : Int) = ((l.foldl (fun a b => a + b) 0 : Nat) : Int) := by
  have gen : ∀ (l : List Nat) (a : Nat), ((l.foldl (fun a b => a + b) a : Nat) : Int) = (a : Int) + (DM.iN l).sum := by
    intro l
    induction l with
    | nil => intro a; simp [DM.iN]
    | cons x l ih =>
      intro a
      rw [List.foldl_cons, ih]
      show _ = (a : Int) + ((x : Int) :: DM.iN l).sum
      rw [List.sum_cons]
      omega
  intro l
  rw [gen l 0]
  omega
theorem ok_need {f : Addr} {fd : FuncData} (F : Fun K "need" "Desk.need" sNeed f fd) (T : Txt K mg C) : FnOk P w K mg base CX0 2 f fd ["self"] (spCall C .need) := by
  obtain ⟨f1, fd1, m1, F1, b1⟩ := T.mostIn
  have G1 : FnOk P w K mg base CX0 1 f1 fd1 ["digit", "rows"] (spMostIn K) := ok_mostIn F1 T
  refine F.ok scNeed (fun vs H Q E h => ?_) (fun cdv A outer s H vs Q E hr h => ?_)
  · obtain ⟨p, d, dx, lc, lw, cas, was, rfl, _⟩ := h
    rfl
  · obtain ⟨p, d, dx, lc, lw, cas, was, rfl, D, k⟩ := h
    refine ⟨_, pss_cons (ps_setLc (i := 1) (own := [("digit", 2)]) (te := tCall (spMostIn K) [] E0 (tCons (tVar 2) (tCons (tFld K (tVar 0) "wanted") tNil))) rfl scNeed.nd rfl rfl (sw_true rfl rfl rfl rfl) (pi_range1 (by rfl) T.range (pa_cons pe_int pa_nil)) (blkOk_by (N := ["self", "most", "digit"]) (sc := defScope sNeed) (by decide +kernel)) (fun _ _ _ _ _ => pg_name (i := 2) scNeed.nd rfl (Or.inl rfl))
        (fun _ _ _ _ _ => pts_nil) (fun _ _ _ _ _ => pe_call G1 hr (by rfl) m1 F1.kp b1 .nil pass0 (pa_cons (pv 2) (pa_cons (pe_fld (pv 0) rfl) pa_nil))))
      (pss_one (ps_ret (pe_op op_cat (pe_lst (pa_cons (pe_callB (cr_sum rfl) (by rfl) T.sum (by decide +kernel) (pa_cons (pv 1) pa_nil)) pa_nil)) (pv 1)))), ?_⟩
    simp only [Uw70.step] at k
    refine ⟨_, rfl, by decide, by decide, fun q hq => lc_range (Pv := fun i H' => Same H H' ∧ H' q = some (.lst (vN ((List.range i).map (Uw70.needOf d.wanted))))) ⟨Same.new hq, upd_same⟩ (fun i H1 hi ⟨s1, e1⟩ => ?_) (fun H1 ⟨s1, e1⟩ => ?_)⟩
    · rw [Int.zero_add]
      refine ⟨rfl, yes_if ⟨_, rfl, _, rfl, p, C, dx, _, _, rfl, s1 _ _ D.obj, T.cl, T.nWanted, rfl, lw, was, d.wanted, i, rfl, s1 _ _ D.wan, D.rwa.same s1, D.ok.w40, fun H2 s2 => ⟨_, s2 _ _ e1, ?_, Same.put hq (s1.trans s2), ?_⟩⟩⟩
      · rw [vN_len, List.length_map, List.length_range]
        exact Nat.lt_of_lt_of_le hi (by decide)
      · rw [upd_same, List.range_succ, List.map_append, vN_app]
        rfl
    · have e1 : H1 q = some (.lst (vN ((List.range 10).map (Uw70.needOf d.wanted)))) := e1
      generalize hl : (List.range 10).map (Uw70.needOf d.wanted) = l at k e1
      have hlen : l.length = 10 := by rw [← hl]; rfl
      refine ⟨_, rfl, q, DM.iN l, rfl, SqL.of (by rw [← vN_ints]; exact e1), (by show 1 ≤ sizeLine; decide), fun q1 hq1 => ?_⟩
      have s4 := Same.new (o := .lst [V.int (DM.iN l).sum]) hq1
      refine ⟨_, rfl, q1, q, _, _, rfl, rfl, upd_same, s4 _ _ e1, ?_, fun r hr => ?_⟩
      · rw [vN_len, hlen]
        show 1 + 10 ≤ sizeLine
        decide
      · refine k.still D (s1.trans s4) hr ?_
        rw [vN_ints, sum_iN]
        rfl
end
end DC

set_option Elab.async false
set_option linter.all false
set_option maxRecDepth 100000
namespace DM
open Uw70
def itr {α : Type} (f : α → α) : Nat → α → α
  | 0, a => a
  | k + 1, a => itr f k (f a)
theorem itr_succ {α : Type} (f : α → α) : ∀ (k : Nat) (a : α), itr f (k + 1) a = f (itr f k a)
  | 0, _ => rfl
  | k + 1, a => itr_succ f k (f a)
theorem flat_congr {α β : Type} {f g : α → List β} : ∀ {l : List α}, (∀ x ∈ l, f x = g x) → l.flatMap f = l.flatMap g
  | [], _ => rfl
  | x :: l, h => by
    rw [List.flatMap_cons, List.flatMap_cons, h x (List.mem_cons_self ..), flat_congr fun y hy => h y (List.mem_cons_of_mem _ hy)]
theorem choices_zero (l : List Nat) : choices 0 l = [[]] := by cases l <;> rfl
/-! choices -/
def after (s : List Nat) (d : Nat) : Bool := match s.getLast? with
  | none => true
  | some x => decide (x < d)
def chIn (s ds : List Nat) : List (List Nat) := (ds.filter (after s)).map fun d => s ++ [d]
def longerCh (ds : List Nat) (cs : List (List Nat)) : List (List Nat) := cs.flatMap fun s => chIn s ds
theorem longerCh_snoc (ds : List Nat) (cs : List (List Nat)) (s : List Nat) : longerCh ds (cs ++ [s]) = longerCh ds cs ++ chIn s ds := by
  unfold longerCh
  rw [List.flatMap_append, List.flatMap_cons, List.flatMap_nil, List.append_nil]
theorem chIn_snoc (s ds : List Nat) (d : Nat) : chIn s (ds ++ [d]) = chIn s ds ++ (if after s d = true then [s ++ [d]] else []) := by
  unfold chIn
  rw [List.filter_append, List.map_append, List.filter_cons]
  cases after s d <;> rfl
theorem after_snoc (s : List Nat) (d x : Nat) : after (s ++ [d]) x = decide (d < x) := by
  unfold after
  rw [List.getLast?_append, List.getLast?_singleton]
  rfl
theorem filter_gt {x : Nat} {r : List Nat} (h : ∀ y ∈ r, x < y) : (x :: r).filter (fun y => decide (x < y)) = r := by
  rw [List.filter_cons, if_neg (by simp)]
  exact List.filter_eq_self.mpr fun y hy => decide_eq_true (h y hy)
theorem choices_flat (k : Nat) : ∀ {l : List Nat}, l.Pairwise (· < ·) → (l.flatMap fun d => (choices k (l.filter fun y => decide (d < y))).map fun t => d :: t) = choices (k + 1) l
  | [], _ => rfl
  | x :: r, h => by
    rw [List.pairwise_cons] at h
    rw [List.flatMap_cons, filter_gt h.1]
    show _ = ((choices k r).map fun s => x :: s) ++ choices (k + 1) r
    rw [← choices_flat k h.2]
    congr 1
    apply flat_congr
    intro d hd
    have := h.1 d hd
    rw [List.filter_cons, if_neg (by simp; omega)]
theorem ch_all {ds : List Nat} (hds : ds.Pairwise (· < ·)) : ∀ (k : Nat) (cs : List (List Nat)), itr (longerCh ds) k cs = cs.flatMap fun s => (choices k (ds.filter (after s))).map fun t => s ++ t
  | 0, cs => by
    show cs = cs.flatMap fun s => (choices 0 (ds.filter (after s))).map fun t => s ++ t
    simp only [choices_zero]
    show cs = cs.flatMap fun s => [s ++ []]
    induction cs with
    | nil => rfl
    | cons s cs ih => rw [List.flatMap_cons, ← ih, List.append_nil]; rfl
  | k + 1, cs => by
    show itr (longerCh ds) k (longerCh ds cs) = _
    rw [ch_all hds k]
    unfold longerCh
    rw [List.flatMap_assoc]
    congr 1
    funext s
    unfold chIn
    rw [List.flatMap_map, ← choices_flat k (hds.filter _), List.map_flatMap]
    apply flat_congr
    intro d hd
    have hd := (List.mem_filter.mp hd).2
    rw [List.map_map]
    have e : ds.filter (after (s ++ [d])) = (ds.filter (after s)).filter fun y => decide (d < y) := by
      rw [List.filter_filter]
      apply List.filter_congr
      intro y _
      rw [after_snoc]
      by_cases h : d < y
      · rw [decide_eq_true h, Bool.true_and]
        unfold after at hd ⊢
        cases hl : s.getLast? with
        | none => rfl
        | some x =>
          rw [hl] at hd
          have hd := of_decide_eq_true hd
          exact (decide_eq_true (by omega)).symm
      · rw [decide_eq_false h, Bool.false_and]
    rw [e]
    congr 1
    funext t
    show (s ++ [d]) ++ t = s ++ (d :: t)
    rw [List.append_assoc]
    rfl
theorem signs_sorted (l : List Row) : (signs l).Pairwise (· < ·) := by
  unfold signs
  exact List.Pairwise.filter _ List.pairwise_lt_range
theorem ch_is (ds : List Nat) (hds : ds.Pairwise (· < ·)) (k : Nat) : itr (longerCh ds) k [[]] = choices k ds := by
  rw [ch_all hds, List.flatMap_cons, List.flatMap_nil, List.append_nil]
  have e : ds.filter (after []) = ds := List.filter_eq_self.mpr fun _ _ => rfl
  rw [e]
  show (choices k ds).map (fun t => t) = _
  exact List.map_id' _
/-! how many -/
def bn : Nat → Nat → Nat
  | 0, _ => 1
  | _ + 1, 0 => 0
  | k + 1, m + 1 => bn k m + bn (k + 1) m
theorem choices_len : ∀ (k : Nat) (l : List Nat), (choices k l).length = bn k l.length
  | 0, l => by
    rw [choices_zero]
    cases l <;> rfl
  | k + 1, [] => rfl
  | k + 1, x :: r => by
    show (((choices k r).map fun s => x :: s) ++ choices (k + 1) r).length = bn k r.length + bn (k + 1) r.length
    rw [List.length_append, List.length_map, choices_len k r, choices_len (k + 1) r]
theorem choose_bn : ∀ m, m < 11 → ∀ k, k < 7 → choose m k = bn k m := by decide +kernel
theorem bn_le : ∀ m, m < 11 → ∀ k, k < 7 → bn k m ≤ 252 := by decide +kernel
theorem bn_pos : ∀ m, m < 11 → ∀ k, k < 7 → k ≤ m → 1 ≤ bn k m := by decide +kernel
def count (c n : Nat) : Nat := (List.range n).foldl (fun a i => a * (c + i) / (i + 1)) 1
theorem count_succ (c n : Nat) : count c (n + 1) = count c n * (c + n) / (n + 1) := by
  unfold count
  rw [List.range_succ, List.foldl_append]
  rfl
theorem count_how : ∀ n, n < 5 → ∀ c, c < 253 → count c n = howMany n c := by decide +kernel
theorem count_le : ∀ n, n < 5 → ∀ c, c < 253 → count c n ≤ 200000000 := by decide +kernel
theorem pow_le : ∀ n, n < 5 → ∀ c, c < 253 → howMany n c ≤ 32000 → c ^ n < 2 ^ 23 := by decide +kernel
theorem signs_len (l : List Row) : (signs l).length ≤ 10 := by
  unfold signs
  exact Nat.le_trans (List.length_filter_le _ _) (by decide)
theorem cubesOf_len (f : Nat) (h : f ≤ 6) (l : List Row) : (cubesOf f l).length = choose (signs l).length (min f (signs l).length) := by
  unfold cubesOf
  have := signs_len l
  rw [choices_len, choose_bn _ (by omega) _ (by omega)]
theorem cubesOf_le (f : Nat) (h : f ≤ 6) (l : List Row) : (cubesOf f l).length ≤ 252 := by
  unfold cubesOf
  have := signs_len l
  rw [choices_len]
  exact bn_le _ (by omega) _ (by omega)
theorem tooMany_count (n f : Nat) (l : List Row) (hn : n ≤ 4) (hf : f ≤ 6) : tooMany n f l = decide (32000 < count (cubesOf f l).length n) := by
  unfold tooMany MANY
  have := cubesOf_le f hf l
  rw [← cubesOf_len f hf, count_how n (by omega) _ (by omega)]
theorem choices_mem : ∀ (k : Nat) (l s : List Nat), s ∈ choices k l → s.length = k
  | 0, l, s, h => by
    rw [choices_zero] at h
    rw [List.mem_singleton.mp h]
    rfl
  | k + 1, [], s, h => by cases h
  | k + 1, x :: r, s, h => by
    have h : s ∈ ((choices k r).map fun s => x :: s) ++ choices (k + 1) r := h
    rcases List.mem_append.mp h with h | h
    · obtain ⟨t, ht, rfl⟩ := List.mem_map.mp h
      rw [List.length_cons, choices_mem k r t ht]
    · exact choices_mem (k + 1) r s h
theorem cubesOf_mem (f : Nat) (h : f ≤ 6) (l : List Row) {s : List Nat} (hs : s ∈ cubesOf f l) : s.length ≤ 6 := by
  rw [choices_mem _ _ _ hs]
  omega
end DM

set_option Elab.async false
set_option linter.all false
set_option maxRecDepth 100000
set_option maxHeartbeats 2000000
namespace DC
open PySem PySem.Spec PyProof.Rows L2 L3 L4
theorem dec_lt (a b : Nat) : decide ((a : Int) < (b : Int)) = decide (a < b) := decide_eq_decide.mpr (by omega)
theorem after_nil (d : Nat) : DM.after [] d = true := rfl
theorem snoc_or (s : List Nat) : s = [] ∨ ∃ t x, s = t ++ [x] := by
  cases h : s.getLast? with
  | none => exact .inl (List.getLast?_eq_none_iff.mp h)
  | some x =>
    obtain ⟨t, e⟩ := List.getLast?_eq_some_iff.mp h
    exact .inr ⟨t, x, e⟩
section
variable {P : Program} {w : World} {K : PySem.W.Frag} {mg : Str → Option Value} {base : Heap} {C : Addr}
/-- longer_choices -/
def spLongerCh (K : PySem.W.Frag) : Sp := fun vs H Q _ => ∃ (ac ad : Addr) (cas : List Addr) (cs : List (List Nat)) (ds : List Nat), vs = [.ref ac, .ref ad] ∧ H ac = some (.lst (cas.map V.ref)) ∧ RowsAt H cas cs ∧ H ad = some (.lst (vN ds)) ∧
  (∀ s ∈ cs, s.length ≤ 10) ∧ cs.length ≤ 252 ∧ ds.length ≤ 10 ∧ ∀ H' q, Same H H' → H q = none → LL H' q (DM.longerCh ds cs) → Q (.ref q) H'
theorem scLongerCh : FnScope ["choices", "digits", "longer", "choice", "digit"] ["choices", "digits"] (defScope sLongerCh) := ⟨rfl, rfl, rfl, by decide +kernel, rfl, by decide +kernel, by decide +kernel⟩
theorem chIn_len (s ds : List Nat) : (DM.chIn s ds).length ≤ ds.length := by
  unfold DM.chIn
  rw [List.length_map]
  exact List.length_filter_le _ _
theorem longerCh_len (ds : List Nat) (cs : List (List Nat)) : (DM.longerCh ds cs).length ≤ cs.length * ds.length := by
  induction cs with
  | nil => exact Nat.zero_le _
  | cons s cs ih =>
    have e : DM.longerCh ds (s :: cs) = DM.chIn s ds ++ DM.longerCh ds cs := rfl
    have := chIn_len s ds
    rw [e, List.length_append, List.length_cons, Nat.add_mul, Nat.one_mul]
    omega
theorem ok_longerCh {f : Addr} {fd : FuncData} (F : Fun K "longer_choices" "longer_choices" sLongerCh f fd) (T : Txt K mg C) : FnOk P w K mg base CX0 1 f fd ["choices", "digits"] (spLongerCh K) := by
  refine F.ok scLongerCh (fun vs H Q E h => ?_) (fun cdv A outer s H vs Q E hr h => ?_)
  · obtain ⟨ac, ad, cas, cs, ds, rfl, _⟩ := h
    rfl
  · obtain ⟨ac, ad, cas, cs, ds, rfl, hac, rc, had, h10, h252, hd10, k⟩ := h
    refine ⟨_, pss_cons (ps_set (i := 2) scLongerCh.nd rfl (Or.inl rfl) (pe_lst pa_nil))
      (pss_cons (ps_for PassesOwn.never rfl (pi_list (pv 0)) (pg_name (i := 3) scLongerCh.nd rfl (Or.inl rfl))
        (pss_one (ps_for PassesOwn.never rfl (pi_list (pv 1)) (pg_name (i := 4) scLongerCh.nd rfl (Or.inl rfl))
          (pss_one (ps_if (PW.pt (pw_or (pt_cmpR op_eq (pe_callB call_len_seq (by rfl) T.len PySem.boot_len (pa_cons (pv 3) pa_nil)) pe_int (nomark _)) (pw_or1 (pt_cmpR op_gt (pv 4) (pe_ix ix_list (pv 3) (pe_un un_neg pe_int) (fun _ _ => rfl)) (nomark _)))))
            (pss_one (ps_expr (pe_bm PySem.F.plainAttrs_list PySem.F.slot_list_append PySem.F.type_list_append mt_append (pv 2) (pa_cons (pe_op op_cat (pv 3) (pe_lst (pa_cons (pv 4) pa_nil))) pa_nil))))
            pss_nil)))))
      (pss_one (ps_ret (pv 2)))), ?_⟩
    refine ⟨Nat.zero_le _, fun p hp => ?_⟩
    have sl : sizeLine = 16777216 := rfl
    refine ⟨_, rfl, ac, rfl, ⟨_, SqL.of (by rw [upd_ne (ne_of_none hac hp)]; exact hac)⟩, for_list (K := K) (a := ac) (xs := cas.map V.ref) (fun i σ H' => ∃ v4 v5 : Option V, σ = [some (.ref ac), some (.ref ad), some (.ref p), v4, v5] ∧ Same H H' ∧ LL H' p (DM.longerCh ds (cs.take i)))
      ⟨none, none, rfl, Same.new hp, [], upd_same, trivial⟩ (fun i σ H' _ ⟨_, _, _, s5, _⟩ => SqL.of (s5 _ _ hac)) ?_ ?_⟩
    · rintro i x σ H1 hi ⟨v4, v5, rfl, s5, hp5⟩
      obtain ⟨b, hb, rfl⟩ := ref_get hi
      obtain ⟨sv, hsi, hsH⟩ := rc.get hb
      have hsl := h10 sv (List.mem_of_getElem? hsi)
      have hi' : i < cs.length := (List.getElem?_eq_some_iff.mp hsi).1
      refine ⟨_, rfl, ad, rfl, ⟨_, SqL.of (s5 _ _ had)⟩, for_list (K := K) (a := ad) (xs := vN ds) (fun j σ H' => ∃ v5 : Option V, σ = [some (.ref ac), some (.ref ad), some (.ref p), some (.ref b), v5] ∧ Same H H' ∧ LL H' p (DM.longerCh ds (cs.take i) ++ DM.chIn sv (ds.take j)))
        ⟨v5, rfl, s5, by show LL _ _ (_ ++ []); rw [List.append_nil]; exact hp5⟩ (fun j σ H' _ ⟨_, _, s6, _⟩ => SqL.of (s6 _ _ had)) ?_ ?_⟩
      · rintro j x σ H2 hj ⟨v5, rfl, s6, as6, e6, r6⟩
        obtain ⟨dg, hdg, rfl⟩ := vN_get hj
        rw [take_snoc hdg, DM.chIn_snoc]
        refine ⟨_, rfl, b, _, rfl, .inl (SqL.of (s6 _ _ hsH)), rfl, _, rfl, ?_⟩
        rw [vN_len]
        have en : (DM.longerCh ds (cs.take i) ++ DM.chIn sv (ds.take j)).length < sizeLine := by
          have h1 := longerCh_len ds (cs.take i)
          have h2 := chIn_len sv (ds.take j)
          rw [List.length_take] at h1 h2
          have h3 : min i cs.length * ds.length ≤ 252 * 10 := Nat.mul_le_mul (by omega) hd10
          rw [List.length_append]
          omega
        have fin : ∀ q1, H2 q1 = none → ∀ q2, upd H2 q1 (.lst [V.int (dg : Int)]) q2 = none →
            Same H (upd (upd (upd H2 q1 (.lst [V.int (dg : Int)])) q2 (.lst (vN sv ++ [V.int (dg : Int)]))) p (.lst (as6.map V.ref ++ [V.ref q2]))) ∧ LL (upd (upd (upd H2 q1 (.lst [V.int (dg : Int)])) q2 (.lst (vN sv ++ [V.int (dg : Int)]))) p (.lst (as6.map V.ref ++ [V.ref q2]))) p (DM.longerCh ds (cs.take i) ++ (DM.chIn sv (ds.take j) ++ [sv ++ [dg]])) := by
          intro q1 hq1 q2 hq2
          have s7 := Same.new (o := .lst [V.int (dg : Int)]) hq1
          have s8 := Same.new (o := .lst (vN sv ++ [V.int (dg : Int)])) hq2
          have hnp : q2 ≠ p := fun z => by rw [z, s7 _ _ e6] at hq2; cases hq2
          refine ⟨Same.put hp ((s6.trans s7).trans s8), as6 ++ [q2], by rw [upd_same, List.map_append]; rfl, ?_⟩
          rw [← List.append_assoc]
          exact LL.push (l := sv ++ [dg]) (s8 _ _ (s7 _ _ e6)) ((r6.same s7).same s8) (by rw [upd_same, vN_app]; rfl) hnp
        have szs : (vN sv).length + 1 ≤ sizeLine := by
          rw [vN_len]
          omega
        have szl : (as6.map V.ref).length < sizeLine := by rw [List.length_map, r6.len]; exact en
        rcases snoc_or sv with rfl | ⟨t, x, rfl⟩
        · refine iteT (iteT ⟨_, rfl, .inl ⟨rfl, _, SqL.of e6⟩, _, rfl, _, rfl, (by show 1 ≤ sizeLine; decide), fun q1 hq1 => ⟨b, q1, _, _, rfl, rfl, Same.new hq1 _ _ (s6 _ _ hsH), upd_same, szs, fun q2 hq2 => ⟨p, _, _, rfl, rfl, Same.new hq2 _ _ (Same.new hq1 _ _ e6), szl, ?_⟩⟩⟩)
          obtain ⟨z1, z2⟩ := fin q1 hq1 q2 hq2
          rw [after_nil, if_pos rfl]
          exact ⟨_, rfl, z1, z2⟩
        · rw [decide_eq_false (by intro z; have := V.int.inj z; rw [List.length_append, List.length_singleton] at this; omega)]
          refine iteF ⟨_, rfl, _, rfl, _, rfl, b, _, _, _, rfl, rfl, SqL.of (s6 _ _ hsH), (by rw [vN_app]; exact atI_last _ _), _, _, rfl, rfl, _, rfl, ?_⟩
          rw [DM.after_snoc, dec_lt]
          cases hx : decide (x < dg) with
          | true =>
            refine iteT ⟨_, rfl, .inl ⟨rfl, _, SqL.of e6⟩, _, rfl, _, rfl, (by show 1 ≤ sizeLine; decide), fun q1 hq1 => ⟨b, q1, _, _, rfl, rfl, Same.new hq1 _ _ (s6 _ _ hsH), upd_same, szs, fun q2 hq2 => ⟨p, _, _, rfl, rfl, Same.new hq2 _ _ (Same.new hq1 _ _ e6), szl, ?_⟩⟩⟩
            obtain ⟨z1, z2⟩ := fin q1 hq1 q2 hq2
            refine ⟨_, rfl, z1, ?_⟩
            rw [if_pos rfl]
            exact z2
          | false =>
            refine iteF ⟨_, rfl, s6, as6, e6, ?_⟩
            rw [if_neg (by decide), List.append_nil]
            exact r6
      · rintro σ H2 ⟨v5, rfl, s6, hp6⟩
        rw [vN_len, List.take_length] at hp6
        refine ⟨_, _, rfl, s6, ?_⟩
        rw [take_snoc hsi, DM.longerCh_snoc]
        exact hp6
    · rintro σ H' ⟨v4, v5, rfl, s5, hp5⟩
      rw [List.length_map, rc.len, List.take_length] at hp5
      exact ⟨_, rfl, k H' p s5 hp hp5⟩
/-- choices_for -/
def spChoicesFor (K : PySem.W.Frag) : Sp := fun vs H Q _ => ∃ (ar : Addr) (ras : List Addr) (rows : List (List Nat)) (f : Nat), vs = [.ref ar, .int (f : Int)] ∧ H ar = some (.lst (ras.map V.ref)) ∧ RowsAt H ras rows ∧ rows.length ≤ 40 ∧ f ≤ 6 ∧
  ∀ H' q, Same H H' → H q = none → LL H' q (Uw70.cubesOf f rows) → Q (.ref q) H'
theorem scChoicesFor : FnScope ["rows", "faces", "digits", "choices", "face"] ["rows", "faces"] (defScope sChoicesFor) := ⟨rfl, rfl, rfl, by decide +kernel, rfl, by decide +kernel, by decide +kernel⟩
theorem ok_choicesFor {f : Addr} {fd : FuncData} (F : Fun K "choices_for" "choices_for" sChoicesFor f fd) (T : Txt K mg C) : FnOk P w K mg base CX0 3 f fd ["rows", "faces"] (spChoicesFor K) := by
  obtain ⟨f1, fd1, m1, F1, b1⟩ := T.digitsIn
  have G1 : FnOk P w K mg base CX0 2 f1 fd1 ["rows"] (spDigitsIn K) := ok_digitsIn F1 T
  obtain ⟨f2, fd2, m2, F2, b2⟩ := T.longerCh
  have G2 : FnOk P w K mg base CX0 1 f2 fd2 ["choices", "digits"] (spLongerCh K) := ok_longerCh F2 T
  refine F.ok scChoicesFor (fun vs H Q E h => ?_) (fun cdv A outer s H vs Q E hr h => ?_)
  · obtain ⟨ar, ras, rows, f, rfl, _⟩ := h
    rfl
  · obtain ⟨ar, ras, rows, f, rfl, har, rr, h40, hf6, k⟩ := h
    refine ⟨_, pss_cons (ps_set (i := 2) scChoicesFor.nd rfl (Or.inl rfl) (pe_call G1 hr (by rfl) m1 F1.kp b1 .nil pass0 (pa_cons (pv 0) pa_nil)))
      (pss_cons (ps_set (i := 3) scChoicesFor.nd rfl (Or.inl rfl) (pe_lst (pa_cons (pe_lst pa_nil) pa_nil)))
      (pss_cons (ps_for PassesOwn.never rfl (pi_range1 (by rfl) T.range (pa_cons (pe_callB (call_min2 rfl) (by rfl) T.min (by decide +kernel) (pa_cons (pv 1) (pa_cons (pe_callB call_len_seq (by rfl) T.len PySem.boot_len (pa_cons (pv 2) pa_nil)) pa_nil))) pa_nil)) (pg_name (i := 4) scChoicesFor.nd rfl (Or.inl rfl))
        (pss_one (ps_set (i := 3) scChoicesFor.nd rfl (Or.inl rfl) (pe_call G2 (hr.mono (by decide)) (by rfl) m2 F2.kp b2 .nil pass0 (pa_cons (pv 3) (pa_cons (pv 2) pa_nil))))))
      (pss_one (ps_ret (pv 3))))), ?_⟩
    have sg := DM.signs_len rows
    have srt := DM.signs_sorted rows
    have chl : ∀ i, i ≤ 6 → (Uw70.choices i (Uw70.signs rows)).length ≤ 252 := fun i hi => by rw [DM.choices_len]; exact DM.bn_le _ (by omega) _ (by omega)
    refine ⟨_, rfl, ar, ras, rows, rfl, har, rr, h40, fun H1 ad s1 had e1 => ?_⟩
    unfold Uw70.cubesOf at k
    generalize Uw70.signs rows = ds at k e1 sg srt chl
    refine ⟨Nat.zero_le _, fun q0 hq0 => ⟨(by show 1 ≤ sizeLine; decide), fun pc hpc => ?_⟩⟩
    have s2 := Same.new (o := .lst []) hq0
    have s3 := Same.new (o := .lst [V.ref q0]) hpc
    have s13 := (s1.trans s2).trans s3
    have hN : (if (((vN ds).length : Nat) : Int) < (f : Int) then (((vN ds).length : Nat) : Int) else (f : Int)).toNat = min f ds.length := by
      rw [vN_len]
      by_cases h : (ds.length : Int) < (f : Int)
      · rw [if_pos h]; omega
      · rw [if_neg h]; omega
    refine ⟨_, rfl, _, rfl, ad, _, rfl, .inl (SqL.of (s3 _ _ (s2 _ _ e1))), _, _, rfl, _, rfl, ?_, ?_, for_range (fun i σ H' => ∃ (v4 : Option V) (pc : Addr), σ = [some (.ref ar), some (.int (f : Int)), some (.ref ad), some (.ref pc), v4] ∧ Same H H' ∧ H' ad = some (.lst (vN ds)) ∧ H pc = none ∧ LL H' pc (Uw70.choices i ds))
      ⟨none, pc, rfl, s13, s3 _ _ (s2 _ _ e1), s1.free (s2.free hpc), by rw [DM.choices_zero]; exact ⟨[q0], upd_same, s3 _ _ upd_same, trivial⟩⟩ ?_ ?_⟩
    · rw [vN_len]; split <;> omega
    · rw [vN_len]; split <;> omega
    · rintro i σ H2 hi ⟨v4, pc, rfl, s4, e4, hpcn, pas, e5, r5⟩
      rw [hN] at hi
      refine ⟨_, rfl, _, rfl, pc, ad, pas, _, ds, rfl, e5, r5, e4, fun s hs => ?_, chl i (by omega), sg, fun H3 q3 s6 hq3 hL => ?_⟩
      · rw [DM.choices_mem _ _ _ hs]; omega
      · refine ⟨_, q3, rfl, s4.trans s6, s6 _ _ e4, s4.free hq3, ?_⟩
        rw [← DM.ch_is ds srt, DM.itr_succ, DM.ch_is ds srt]
        exact hL
    · rintro σ H2 ⟨v4, pc, rfl, s4, e4, hpcn, hL⟩
      rw [hN] at hL
      exact ⟨_, rfl, k H2 pc s4 hpcn hL⟩
/-- count_markings -/
def spCountM (K : PySem.W.Frag) : Sp := fun vs H Q _ => ∃ (ac : Addr) (ys : List V) (n : Nat), vs = [.ref ac, .int (n : Int)] ∧ H ac = some (.lst ys) ∧ ys.length ≤ 252 ∧ n ≤ 4 ∧ Q (.int (DM.count ys.length n : Nat)) H
theorem scCountM : FnScope ["choices", "cubes", "count", "cube"] ["choices", "cubes"] (defScope sCountM) := ⟨rfl, rfl, rfl, by decide +kernel, rfl, by decide +kernel, by decide +kernel⟩
theorem ok_countM {f : Addr} {fd : FuncData} (F : Fun K "count_markings" "count_markings" sCountM f fd) (T : Txt K mg C) : FnOk P w K mg base CX0 1 f fd ["choices", "cubes"] (spCountM K) := by
  refine F.ok scCountM (fun vs H Q E h => ?_) (fun cdv A outer s H vs Q E hr h => ?_)
  · obtain ⟨ac, ys, n, rfl, _⟩ := h
    rfl
  · obtain ⟨ac, ys, n, rfl, hac, h252, hn, k⟩ := h
    refine ⟨_, pss_cons (ps_set (i := 2) scCountM.nd rfl (Or.inl rfl) pe_int)
      (pss_cons (ps_for PassesOwn.never rfl (pi_range1 (by rfl) T.range (pa_cons (pv 1) pa_nil)) (pg_name (i := 3) scCountM.nd rfl (Or.inl rfl))
        (pss_one (ps_set (i := 2) scCountM.nd rfl (Or.inl rfl) (pe_op op_fdiv (pe_op op_mul (pv 2) (pe_op op_add (pe_callB call_len_seq (by rfl) T.len PySem.boot_len (pa_cons (pv 0) pa_nil)) (pv 3))) (pe_op op_add (pv 3) pe_int)))))
      (pss_one (ps_ret (pv 2)))), ?_⟩
    refine ⟨_, rfl, _, rfl, ?_, ?_, for_range (fun i σ H' => ∃ v3 : Option V, σ = [some (.ref ac), some (.int (n : Int)), some (.int (DM.count ys.length i : Nat)), v3] ∧ H' = H) ⟨none, rfl, rfl⟩ ?_ ?_⟩
    · omega
    · omega
    · rintro i σ H' hi ⟨v3, rfl, rfl⟩
      rw [Int.zero_add]
      rw [Int.toNat_natCast] at hi
      have hc := DM.count_le i (by omega) ys.length (by omega)
      refine ⟨_, rfl, _, rfl, ac, _, rfl, .inl (SqL.of hac), _, rfl, _, _, rfl, rfl, _, _, rfl, rfl, .inl ⟨by omega, by omega⟩, _, rfl, _, _, rfl, rfl, _, _, rfl, rfl, ⟨by omega, by omega⟩, ?_⟩
      refine ⟨some (.int (i : Int)), ?_, rfl⟩
      rw [DM.count_succ, Int.natCast_ediv, Int.natCast_mul, Int.natCast_add, Int.natCast_add]
      rfl
    · rintro σ H' ⟨v3, rfl, rfl⟩
      rw [Int.toNat_natCast]
      exact ⟨_, rfl, k⟩
end
end DC

set_option Elab.async false
set_option linter.all false
set_option maxRecDepth 100000
namespace DM
open Uw70 L2
/-! ### dicts of whole numbers -/
abbrev DN := List (Nat × Nat)
def getN (m : DN) (k : Nat) : Option Nat := (m.find? fun kv => decide (kv.1 = k)).map (·.2)
def putN (m : DN) (k v : Nat) : DN := if (m.any fun kv => decide (kv.1 = k)) = true then m.map (fun kv => if kv.1 = k then (kv.1, v) else kv) else m ++ [(k, v)]
def kN (kv : Nat × Nat) : Key × V := (Sum.inl (kv.1 : Int), V.int (kv.2 : Int))
def kvN (m : DN) : List (Key × V) := m.map kN
theorem kN_key (kv : Nat × Nat) (k : Nat) : ((kN kv).1 = (Sum.inl (k : Int) : Key)) ↔ kv.1 = k := by
  unfold kN
  constructor
  · intro h
    have := Sum.inl.inj h
    omega
  · intro h
    rw [h]
theorem kN_dec (kv : Nat × Nat) (k : Nat) : decide ((kN kv).1 = (Sum.inl (k : Int) : Key)) = decide (kv.1 = k) := decide_eq_decide.mpr (kN_key kv k)
theorem valV_kvN (m : DN) (k : Nat) : valV (kvN m) (Sum.inl (k : Int)) = (getN m k).map fun v : Nat => V.int (v : Int) := by
  unfold valV kvN getN
  rw [List.find?_map]
  have e : ((fun kv : Key × V => decide (kv.1 = (Sum.inl (k : Int) : Key))) ∘ kN) = fun kv => decide (kv.1 = k) := by
    funext kv
    exact kN_dec kv k
  rw [e, Option.map_map, Option.map_map]
  rfl
theorem putK_kvN (m : DN) (k v : Nat) : putK (kvN m) (Sum.inl (k : Int)) (V.int (v : Int)) = kvN (putN m k v) := by
  unfold putK putN kvN
  have e : ((m.map kN).any fun kv => decide (kv.1 = (Sum.inl (k : Int) : Key))) = m.any fun kv => decide (kv.1 = k) := by
    rw [List.any_map]
    congr 1
    funext kv
    exact kN_dec kv k
  rw [e]
  by_cases h : (m.any fun kv => decide (kv.1 = k)) = true
  · rw [if_pos h, if_pos h, List.map_map, List.map_map]
    congr 1
    funext kv
    show (if (kN kv).1 = (Sum.inl (k : Int) : Key) then ((kN kv).1, V.int (v : Int)) else kN kv) = kN (if kv.1 = k then (kv.1, v) else kv)
    by_cases q : kv.1 = k
    · rw [if_pos ((kN_key kv k).mpr q), if_pos q]
      rfl
    · rw [if_neg (fun z => q ((kN_key kv k).mp z)), if_neg q]
  · rw [if_neg h, if_neg h, List.map_append]
    rfl
theorem putN_len (m : DN) (k v : Nat) : (putN m k v).length ≤ m.length + 1 := by
  unfold putN
  by_cases h : (m.any fun kv => decide (kv.1 = k)) = true
  · rw [if_pos h, List.length_map]; omega
  · rw [if_neg h, List.length_append]; exact Nat.le_refl _
/-! one cube more -/
def cell (F : DN) (ws : List Nat) (pl : Nat) (m : DN) (p : Nat) : DN := if pl &&& 2 ^ p = 0 then putN m (pl ||| 2 ^ p) ((getN m (pl ||| 2 ^ p)).getD 0 ||| ((getN F pl).getD 0 &&& ws.getD p 0)) else m
def cells (F : DN) (ws : List Nat) (pl : Nat) (m : DN) (j : Nat) : DN := (List.range j).foldl (cell F ws pl) m
def grow (F : DN) (ws : List Nat) (G : DN) : DN := G.foldl (fun m kv => cells F ws kv.1 m ws.length) []
def more (F : DN) (ws : List Nat) : DN := grow F ws F
theorem cells_succ (F : DN) (ws : List Nat) (pl : Nat) (m : DN) (j : Nat) : cells F ws pl m (j + 1) = cell F ws pl (cells F ws pl m j) j := by
  unfold cells
  rw [List.range_succ, List.foldl_append]
  rfl
theorem grow_snoc (F : DN) (ws : List Nat) (G : DN) (kv : Nat × Nat) : grow F ws (G ++ [kv]) = cells F ws kv.1 (grow F ws G) ws.length := by
  unfold grow
  rw [List.foldl_append]
  rfl
theorem cell_len (F : DN) (ws : List Nat) (pl : Nat) (m : DN) (p : Nat) : (cell F ws pl m p).length ≤ m.length + 1 := by
  unfold cell
  by_cases h : pl &&& 2 ^ p = 0
  · rw [if_pos h]; exact putN_len _ _ _
  · rw [if_neg h]; omega
theorem cells_len (F : DN) (ws : List Nat) (pl : Nat) (m : DN) (j : Nat) : (cells F ws pl m j).length ≤ m.length + j := by
  induction j with
  | zero => exact Nat.le_refl _
  | succ j ih =>
    rw [cells_succ]
    have := cell_len F ws pl (cells F ws pl m j) j
    omega
theorem grow_len (F : DN) (ws : List Nat) (G : DN) : (grow F ws G).length ≤ G.length * ws.length := by
  induction G using snoc_ind with
  | h0 => exact Nat.zero_le _
  | hs G kv ih =>
    rw [grow_snoc, List.length_append, List.length_singleton, Nat.add_mul, Nat.one_mul]
    have := cells_len F ws kv.1 (grow F ws G) ws.length
    omega
theorem more_len (F : DN) (ws : List Nat) : (more F ws).length ≤ F.length * ws.length := grow_len F ws F
theorem getN_key {m : DN} {i : Nat} {kv : Nat × Nat} (h : m[i]? = some kv) : ∃ v, getN m kv.1 = some v := by
  unfold getN
  cases e : m.find? fun x => decide (x.1 = kv.1) with
  | none =>
    have := List.find?_eq_none.mp e kv (List.mem_of_getElem? h)
    simp at this
  | some x => exact ⟨x.2, rfl⟩
/-! the rows that a choice has at a place, as bits -/
def rowsTo (ch : List Nat) (p : Nat) (rows : List Row) : Nat → Nat
  | 0 => 0
  | i + 1 => if ch.contains ((rows.getD i []).getD p 0) = true then rowsTo ch p rows i ||| 2 ^ i else rowsTo ch p rows i
def rowsWith (ch : List Nat) (p : Nat) (rows : List Row) : Nat := rowsTo ch p rows rows.length
def byPlace (rows : List Row) (n : Nat) (ch : List Nat) : List Nat := (List.range n).map fun p => rowsWith ch p rows
end DM

set_option Elab.async false
set_option linter.all false
set_option maxRecDepth 100000
set_option maxHeartbeats 2000000
namespace L5
open PySem PySem.Spec PyProof.Rows L2 L3
/-- over the keys of a locked dict -/
theorem for_keys {d : Addr} {o : Obj} {kvs : List (Key × V)} {g : TG} {tb : TS} {D : Ends} {σ : L2.St} {H : Hp} (Pv : Nat → L2.St → Hp → Prop) (h0 : Pv 0 σ H) (hl : ∀ i σ H, Pv i σ H → H d = some (.frz o (.dK kvs)))
    (hs : ∀ i k v σ H, kvs[i]? = some (k, v) → Pv i σ H → g (kV k) σ H fun σ2 H2 => tb { D with nx := Pv (i + 1), ct := Pv (i + 1), bk := D.nx } σ2 H2) (hd : ∀ σ H, Pv kvs.length σ H → D.nx σ H) :
    ∃ W : Nat → Nat → L2.St → Hp → Prop, (∃ m, W 0 m σ H) ∧ ∀ i m σ H, W i m σ H →
      ((Itk d o kvs).stop i H ∧ D.nx σ H) ∨ ((Itk d o kvs).go i H ∧ ∃ N : L2.St → Hp → Prop, (∀ σ' H', N σ' H' → ∃ m', m' < m ∧ W (i + 1) m' σ' H') ∧ ∀ x H', (Itk d o kvs).yld i H x H' → g x σ H' fun σ2 H2 => tb { D with nx := N, ct := N, bk := D.nx } σ2 H2) := by
  refine ⟨fun i m σ H => m = kvs.length - i ∧ i ≤ kvs.length ∧ Pv i σ H, ⟨kvs.length, by simp, Nat.zero_le _, h0⟩, ?_⟩
  rintro i m σ H ⟨rfl, hi, p⟩
  have q := hl i σ H p
  by_cases hlt : i < kvs.length
  · refine .inr ⟨⟨q, hlt⟩, Pv (i + 1), fun σ' H' p' => ⟨kvs.length - (i + 1), by omega, rfl, hlt, p'⟩, fun x H' y => ?_⟩
    obtain ⟨e, k, v, hk, rfl⟩ := y
    subst e
    exact hs i k v σ _ hk p
  · have e : i = kvs.length := by omega
    subst e
    exact .inl ⟨⟨q, Nat.le_refl _⟩, hd σ H p⟩
theorem or_nat (a b : Nat) : Builtin.bitOr (a : Int) (b : Int) = ((a ||| b : Nat) : Int) := Bits.bitOr_pp (Int.natCast_nonneg _) (Int.natCast_nonneg _)
theorem and_nat (a b : Nat) : Builtin.bitAnd (a : Int) (b : Int) = ((a &&& b : Nat) : Int) := bitAnd_pp (Int.natCast_nonneg _) (Int.natCast_nonneg _)
theorem shl_nat (p : Nat) : (1 : Int) * 2 ^ ((p : Int)).toNat = ((2 ^ p : Nat) : Int) := by
  rw [Int.toNat_natCast, Int.one_mul, Int.natCast_pow]
  rfl
theorem dec_and0 (a b : Nat) [Decidable (V.int (Builtin.bitAnd (a : Int) (b : Int)) = V.int 0)] : decide (V.int (Builtin.bitAnd (a : Int) (b : Int)) = V.int 0) = decide (a &&& b = 0) := decide_eq_decide.mpr ⟨fun h => by
    have := V.int.inj h
    rw [and_nat] at this
    omega, fun h => by rw [and_nat, h]; rfl⟩
end L5
namespace DC
open PySem PySem.Spec PyProof.Rows L2 L3 L4 L5
section
variable {P : Program} {w : World} {K : PySem.W.Frag} {mg : Str → Option Value} {base : Heap} {C : Addr}
/-- rows_with -/
def spRowsWith (K : PySem.W.Frag) : Sp := fun vs H Q _ => ∃ (ac ar : Addr) (ras : List Addr) (ch : List Nat) (p : Nat) (rows : List (List Nat)), vs = [.ref ac, .int (p : Int), .ref ar] ∧ H ac = some (.lst (vN ch)) ∧ H ar = some (.lst (ras.map V.ref)) ∧ RowsAt H ras rows ∧
  (∀ r ∈ rows, p < r.length) ∧ rows.length ≤ 40 ∧ Q (.int (DM.rowsWith ch p rows : Nat)) H
theorem scRowsWith : FnScope ["choice", "place", "rows", "found", "number"] ["choice", "place", "rows"] (defScope sRowsWith) := ⟨rfl, rfl, rfl, by decide +kernel, rfl, by decide +kernel, by decide +kernel⟩
theorem ok_rowsWith {f : Addr} {fd : FuncData} (F : Fun K "rows_with" "rows_with" sRowsWith f fd) (T : Txt K mg C) : FnOk P w K mg base CX0 1 f fd ["choice", "place", "rows"] (spRowsWith K) := by
  refine F.ok scRowsWith (fun vs H Q E h => ?_) (fun cdv A outer s H vs Q E hr h => ?_)
  · obtain ⟨ac, ar, ras, ch, p, rows, rfl, _⟩ := h
    rfl
  · obtain ⟨ac, ar, ras, ch, p, rows, rfl, hac, har, rr, hp, h40, k⟩ := h
    refine ⟨_, pss_cons (ps_set (i := 3) scRowsWith.nd rfl (Or.inl rfl) pe_int)
      (pss_cons (ps_for PassesOwn.never rfl (pi_range1 (by rfl) T.range (pa_cons (pe_callB call_len_seq (by rfl) T.len PySem.boot_len (pa_cons (pv 2) pa_nil)) pa_nil)) (pg_name (i := 4) scRowsWith.nd rfl (Or.inl rfl))
        (pss_one (ps_if (pt_cmpR op_in_seq (pe_ix ix_list (pe_ix ix_list (pv 2) (pv 4) (fun _ _ => rfl)) (pv 1) (fun _ _ => rfl)) (pv 0) rfl)
          (pss_one (ps_set (i := 3) scRowsWith.nd rfl (Or.inl rfl) (pe_op op_or (pv 3) (pe_op op_shl pe_int (pv 4))))) pss_nil)))
      (pss_one (ps_ret (pv 3)))), ?_⟩
    have hN : ((((ras.map V.ref).length : Nat) : Int)).toNat = rows.length := by rw [Int.toNat_natCast, List.length_map, rr.len]
    refine ⟨_, rfl, ar, _, rfl, .inl (SqL.of har), _, rfl, ?_, ?_, for_range (fun i σ H' => ∃ v4 : Option V, σ = [some (.ref ac), some (.int (p : Int)), some (.ref ar), some (.int (DM.rowsTo ch p rows i : Nat)), v4] ∧ H' = H) ⟨none, rfl, rfl⟩ ?_ ?_⟩
    · omega
    · rw [List.length_map, rr.len]; omega
    · rintro i σ H' hi ⟨v4, rfl, rfl⟩
      rw [hN] at hi
      rw [Int.zero_add]
      obtain ⟨rv, hrv⟩ : ∃ rv, rows[i]? = some rv := ⟨_, List.getElem?_eq_getElem hi⟩
      obtain ⟨rb, hrb, hrH⟩ := rr.get' hrv
      have hpl := hp rv (List.mem_of_getElem? hrv)
      obtain ⟨c, hc⟩ : ∃ c, rv[p]? = some c := ⟨_, List.getElem?_eq_getElem hpl⟩
      refine ⟨_, rfl, _, rfl, ar, _, _, _, rfl, rfl, SqL.of har, atI_nat (ref_at hrb), _, rfl, rb, _, _, _, rfl, rfl, SqL.of hrH, atI_vN hc, _, rfl, ac, vN ch, rfl, .inl (SqL.of hac), rfl, vN_flat _, _, rfl, ?_⟩
      rw [if_neg (by decide), inV_vN]
      have e1 : DM.rowsTo ch p rows (i + 1) = if ch.contains c = true then DM.rowsTo ch p rows i ||| 2 ^ i else DM.rowsTo ch p rows i := by
        show (if ch.contains ((rows.getD i []).getD p 0) = true then _ else _) = _
        rw [getD_of hrv, getD_of hc]
      cases hin : ch.contains c with
      | true =>
        refine iteT ⟨_, rfl, _, rfl, _, _, rfl, rfl, ⟨by omega, by omega, by decide⟩, _, _, rfl, rfl, some (.int (i : Int)), ?_, rfl⟩
        rw [e1, hin, if_pos rfl, ← or_nat, ← shl_nat]
        rfl
      | false =>
        refine iteF ⟨some (.int (i : Int)), ?_, rfl⟩
        rw [e1, hin, if_neg (by decide)]
        rfl
    · rintro σ H' ⟨v4, rfl, rfl⟩
      rw [hN]
      exact ⟨_, rfl, k⟩
/-- rows_by_place -/
def spRowsBy (K : PySem.W.Frag) : Sp := fun vs H Q _ => ∃ (ac ar : Addr) (ras : List Addr) (ch : List Nat) (n : Nat) (rows : List (List Nat)), vs = [.ref ac, .ref ar] ∧ H ac = some (.lst (vN ch)) ∧ H ar = some (.lst (ras.map V.ref)) ∧ RowsAt H ras rows ∧
  (∀ r ∈ rows, r.length = n) ∧ rows.length ≤ 40 ∧ 0 < rows.length ∧ n ≤ 4 ∧ ∀ H' q, Same H H' → H q = none → H' q = some (.lst (vN (DM.byPlace rows n ch))) → Q (.ref q) H'
theorem scRowsBy : FnScope ["choice", "rows", "place"] ["choice", "rows"] (defScope sRowsBy) := ⟨rfl, rfl, rfl, by decide +kernel, rfl, by decide +kernel, by decide +kernel⟩
theorem ok_rowsBy {f : Addr} {fd : FuncData} (F : Fun K "rows_by_place" "rows_by_place" sRowsBy f fd) (T : Txt K mg C) : FnOk P w K mg base CX0 2 f fd ["choice", "rows"] (spRowsBy K) := by
  obtain ⟨f1, fd1, m1, F1, b1⟩ := T.rowsWith
  have G1 : FnOk P w K mg base CX0 1 f1 fd1 ["choice", "place", "rows"] (spRowsWith K) := ok_rowsWith F1 T
  refine F.ok scRowsBy (fun vs H Q E h => ?_) (fun cdv A outer s H vs Q E hr h => ?_)
  · obtain ⟨ac, ar, ras, ch, n, rows, rfl, _⟩ := h
    rfl
  · obtain ⟨ac, ar, ras, ch, n, rows, rfl, hac, har, rr, hn, h40, h0, hn4, k⟩ := h
    refine ⟨_, pss_one (ps_ret (pe_lc (own := [("place", 2)]) (te := tCall (spRowsWith K) [] E0 (tCons (tVar 0) (tCons (tVar 2) (tCons (tVar 1) tNil)))) rfl scRowsBy.nd (pi_range1 (by rfl) T.range (pa_cons (pe_callB call_len_seq (by rfl) T.len PySem.boot_len (pa_cons (pe_ix ix_list (pv 1) pe_int (fun _ _ => rfl)) pa_nil)) pa_nil)) (blkOk_by (N := ["choice", "rows", "place"]) (sc := defScope sRowsBy) (by decide +kernel)) (fun _ _ _ _ _ => pg_name (i := 2) scRowsBy.nd rfl (Or.inl rfl))
      (fun _ _ _ _ _ => pts_nil) (fun _ _ _ _ _ => pe_call G1 hr (by rfl) m1 F1.kp b1 .nil pass0 (pa_cons (pv 0) (pa_cons (pv 2) (pa_cons (pv 1) pa_nil)))))), ?_⟩
    obtain ⟨r0, hr0⟩ : ∃ r0, rows[0]? = some r0 := ⟨_, List.getElem?_eq_getElem h0⟩
    obtain ⟨rb, hrb, hrH⟩ := rr.get' hr0
    have hl0 := hn r0 (List.mem_of_getElem? hr0)
    have hN : ((((vN r0).length : Nat) : Int)).toNat = n := by rw [Int.toNat_natCast, vN_len, hl0]
    refine ⟨_, rfl, ar, _, _, _, rfl, rfl, SqL.of har, atI_nat (j := 0) (ref_at hrb), rb, _, rfl, .inl (SqL.of hrH), _, rfl, ?_, ?_, fun q hq => lc_range (Pv := fun i H' => Same H H' ∧ H' q = some (.lst (vN ((List.range i).map fun p => DM.rowsWith ch p rows)))) ⟨Same.new hq, upd_same⟩ (fun i H1 hi ⟨s1, e1⟩ => ?_) (fun H1 ⟨s1, e1⟩ => ?_)⟩
    · omega
    · rw [vN_len, hl0]; omega
    · rw [hN] at hi
      rw [Int.zero_add]
      refine ⟨rfl, yes_if ⟨_, rfl, _, rfl, _, rfl, ac, ar, ras, ch, i, rows, rfl, s1 _ _ hac, s1 _ _ har, rr.same s1, fun r hr => by rw [hn r hr]; exact hi, h40, _, e1, ?_, Same.put hq s1, ?_⟩⟩
      · rw [vN_len, List.length_map, List.length_range]
        exact Nat.lt_of_lt_of_le hi (Nat.le_trans hn4 (by decide))
      · rw [upd_same, List.range_succ, List.map_append, vN_app]
        rfl
    · rw [hN] at e1
      exact k H1 q s1 hq e1
/-- with_one_cube_more -/
def spOneMore (K : PySem.W.Frag) : Sp := fun vs H Q _ => ∃ (af ab : Addr) (Fd : DM.DN) (ws : List Nat), vs = [.ref af, .ref ab] ∧ H af = some (.dK (DM.kvN Fd)) ∧ H ab = some (.lst (vN ws)) ∧ Fd.length ≤ 1024 ∧ ws.length ≤ 4 ∧
  ∀ H' q, Same H H' → H q = none → H' q = some (.dK (DM.kvN (DM.more Fd ws))) → Q (.ref q) H'
theorem scOneMore : FnScope ["filled", "by_place", "more", "places", "place", "bit", "grown"] ["filled", "by_place"] (defScope sOneMore) := ⟨rfl, rfl, rfl, by decide +kernel, rfl, by decide +kernel, by decide +kernel⟩
theorem ok_oneMore {f : Addr} {fd : FuncData} (F : Fun K "with_one_cube_more" "with_one_cube_more" sOneMore f fd) (T : Txt K mg C) : FnOk P w K mg base CX0 1 f fd ["filled", "by_place"] (spOneMore K) := by
  refine F.ok scOneMore (fun vs H Q E h => ?_) (fun cdv A outer s H vs Q E hr h => ?_)
  · obtain ⟨af, ab, Fd, ws, rfl, _⟩ := h
    rfl
  · obtain ⟨af, ab, Fd, ws, rfl, haf, hab, hF, hw4, k⟩ := h
    have hu := hu_of hr
    refine ⟨_, pss_cons (ps_set (i := 2) scOneMore.nd rfl (Or.inl rfl) pe_dnewK)
      (pss_cons (ps_lock (ps_for PassesOwn.never rfl (pi_keys (pv 0)) (pg_name (i := 3) scOneMore.nd rfl (Or.inl rfl))
        (pss_one (ps_for PassesOwn.never rfl (pi_range1 (by rfl) T.range (pa_cons (pe_callB call_len_seq (by rfl) T.len PySem.boot_len (pa_cons (pv 1) pa_nil)) pa_nil)) (pg_name (i := 4) scOneMore.nd rfl (Or.inl rfl))
          (pss_cons (ps_set (i := 5) scOneMore.nd rfl (Or.inl rfl) (pe_op op_shl pe_int (pv 4)))
          (pss_one (ps_if (pt_cmpR op_eq (pe_op op_and (pv 3) (pv 5)) pe_int (nomark _))
            (pss_cons (ps_set (i := 6) scOneMore.nd rfl (Or.inl rfl) (pe_op op_or (pv 3) (pv 5)))
            (pss_one (ps_dput hu (pv 2) (pv 6) (pe_op op_or (pe_dget2 hu (pv 2) (pv 6) pe_int ⟨rfl, rfl, rfl, rfl⟩) (pe_op op_and (pe_dget hu (pv 0) (pv 3) (fun _ _ => rfl)) (pe_ix ix_list (pv 1) (pv 4) (fun _ _ => rfl)))) rfl)))
            pss_nil)))))))
      (pss_one (ps_ret (pv 2)))), ?_⟩
    intro q hq
    have hqf : q ≠ af := fun z => by rw [z, haf] at hq; cases hq
    have haf' : upd H q (.dK []) af = some (.dK (DM.kvN Fd)) := by rw [upd_ne hqf.symm]; exact haf
    have hN : ((((vN ws).length : Nat) : Int)).toNat = ws.length := by rw [Int.toNat_natCast, vN_len]
    have kl : (DM.kvN Fd).length = Fd.length := List.length_map _
    have sl : sizeLine = 16777216 := rfl
    have one : ∀ (b : Addr) (o : HO) (od : Obj) (H' : Hp), (∀ b o, b ≠ af → H b = some o → H' b = some o) → H' af = some (.frz od (.dK (DM.kvN Fd))) → b = ab → H' b = some (.lst (vN ws)) := fun b o od H' h1 h2 hb => by
      rw [hb]
      exact h1 ab _ (fun z => by rw [z, haf] at hab; cases hab) hab
    refine ⟨af, .dK (DM.kvN Fd), haf', trivial, fun od => ?_⟩
    refine ⟨_, rfl, af, od, rfl, .inl ⟨DM.kvN Fd, upd_same, for_keys (fun i σ H' => ∃ v3 v4 v5 v6 : Option V, σ = [some (.ref af), some (.ref ab), some (.ref q), v3, v4, v5, v6] ∧ (∀ b o, b ≠ af → H b = some o → H' b = some o) ∧ H' af = some (.frz od (.dK (DM.kvN Fd))) ∧ H' q = some (.dK (DM.kvN (DM.grow Fd ws (Fd.take i)))))
      ⟨none, none, none, none, rfl, fun b o hb e => ?_, upd_same, ?_⟩ (fun i σ H' ⟨_, _, _, _, _, _, e, _⟩ => e) ?_ ?_⟩⟩
    · rw [upd_ne hb, upd_ne (ne_of_none e hq)]
      exact e
    · rw [upd_ne hqf, upd_same]
      rfl
    · rintro i kk vv σ H1 hi ⟨v3, v4, v5, v6, rfl, s1, e1, e2⟩
      obtain ⟨kv, hkv, hke⟩ : ∃ kv, Fd[i]? = some kv ∧ DM.kN kv = (kk, vv) := by
        unfold DM.kvN at hi
        rw [List.getElem?_map] at hi
        exact Option.map_eq_some_iff.mp hi
      have hk1 : kk = Sum.inl (kv.1 : Int) := by rw [show kk = (DM.kN kv).1 by rw [hke]]; rfl
      subst hk1
      obtain ⟨fv, hfv⟩ := DM.getN_key hkv
      have hi' : i < Fd.length := (List.getElem?_eq_some_iff.mp hkv).1
      refine ⟨_, rfl, ab, _, rfl, .inl (SqL.of (one ab (.lst []) od _ s1 e1 rfl)), _, rfl, ?_, ?_, for_range (fun j σ H' => ∃ v4 v5 v6 : Option V, σ = [some (.ref af), some (.ref ab), some (.ref q), some (.int (kv.1 : Int)), v4, v5, v6] ∧ (∀ b o, b ≠ af → H b = some o → H' b = some o) ∧ H' af = some (.frz od (.dK (DM.kvN Fd))) ∧ H' q = some (.dK (DM.kvN (DM.cells Fd ws kv.1 (DM.grow Fd ws (Fd.take i)) j))))
        ⟨v4, v5, v6, rfl, s1, e1, e2⟩ ?_ ?_⟩
      · omega
      · rw [vN_len]; omega
      · rintro j σ H2 hj ⟨v4, v5, v6, rfl, s2, e3, e4⟩
        rw [hN] at hj
        rw [Int.zero_add]
        have ln : (DM.cells Fd ws kv.1 (DM.grow Fd ws (Fd.take i)) j).length < sizeLine := by
          have h1 := DM.cells_len Fd ws kv.1 (DM.grow Fd ws (Fd.take i)) j
          have h2 := DM.grow_len Fd ws (Fd.take i)
          rw [List.length_take] at h2
          have h3 : min i Fd.length * ws.length ≤ 1024 * 4 := Nat.mul_le_mul (by omega) hw4
          omega
        rw [DM.cells_succ]
        generalize DM.cells Fd ws kv.1 (DM.grow Fd ws (Fd.take i)) j = m at e4 ln
        unfold DM.cell
        rw [hfv]
        obtain ⟨wv, hwv⟩ : ∃ wv, ws[j]? = some wv := ⟨_, List.getElem?_eq_getElem hj⟩
        refine ⟨_, rfl, _, _, rfl, rfl, ⟨by omega, by omega, by decide⟩, ?_⟩
        refine ⟨_, rfl, _, rfl, _, _, rfl, rfl, rfl, _, rfl, ?_⟩
        dsimp only [gName]
        rw [shl_nat, dec_and0]
        by_cases hz : kv.1 &&& 2 ^ j = 0
        · rw [decide_eq_true hz, if_pos hz]
          refine iteT ⟨_, rfl, _, rfl, _, _, rfl, rfl, ?_⟩
          dsimp only [gName]
          rw [or_nat]
          refine ⟨_, rfl, q, rfl, .inl ⟨_, .inl e4⟩, _, rfl, _, DGet.k (k := Sum.inl ((kv.1 ||| 2 ^ j : Nat) : Int)) e4, ?_⟩
          refine ⟨_, rfl, _, rfl, af, V.int (fv : Int), rfl, .inl ⟨DM.kvN Fd, Sum.inl (kv.1 : Int), .inr ⟨od, e3⟩, rfl, by rw [DM.valV_kvN, hfv]; rfl⟩, ?_⟩
          refine ⟨_, rfl, _, rfl, ab, _, _, _, rfl, rfl, SqL.of (one ab (.lst []) od _ s2 e3 rfl), atI_vN hwv, _, _, rfl, rfl, ?_⟩
          refine ⟨(((DM.getN m (kv.1 ||| 2 ^ j)).getD 0 : Nat) : Int), _, (by rw [DM.valV_kvN]; cases DM.getN m (kv.1 ||| 2 ^ j) <;> rfl), rfl, ?_⟩
          dsimp only
          rw [and_nat, or_nat]
          refine ⟨_, rfl, _, rfl, q, _, rfl, DPut.k (k := Sum.inl ((kv.1 ||| 2 ^ j : Nat) : Int)) e4 (by unfold DM.kvN; rw [List.length_map]; exact ln), ?_⟩
          rw [DM.putK_kvN, getD_of hwv]
          refine ⟨_, _, _, rfl, fun b o hb e => ?_, ?_, upd_same⟩
          · rw [upd_ne (ne_of_none e hq)]
            exact s2 b o hb e
          · rw [upd_ne hqf.symm]
            exact e3
        · rw [decide_eq_false hz, if_neg hz]
          exact iteF ⟨_, _, _, rfl, s2, e3, e4⟩
      · rintro σ H2 ⟨v4, v5, v6, rfl, s2, e3, e4⟩
        rw [hN] at e4
        refine ⟨_, _, _, _, rfl, s2, e3, ?_⟩
        rw [take_snoc hkv, DM.grow_snoc]
        exact e4
    · rintro σ H1 ⟨v3, v4, v5, v6, rfl, s1, e1, e2⟩
      rw [kl, List.take_length] at e2
      refine ⟨e1, _, rfl, k _ q (fun b o e => ?_) hq ?_⟩
      · by_cases hb : b = af
        · subst hb
          rw [upd_same, ← haf, e]
        · rw [upd_ne hb]
          exact s1 b o hb e
      · rw [upd_ne hqf]
        exact e2
end
end DC

set_option Elab.async false
set_option linter.all false
set_option maxRecDepth 100000
namespace DM
open Uw70 L2
/-! begun markings: the digits, the last choice's number, the rows by the places that are filled -/
abbrev Bg := List Nat × Nat × DN
def ext1 (ch ws : List (List Nat)) (b : Bg) (n : Nat) : Bg := (b.1 ++ ch.getD n [], n, more b.2.2 (ws.getD n []))
def extTo (ch ws : List (List Nat)) (b : Bg) (j : Nat) : List Bg := (List.range j).map fun i => ext1 ch ws b (b.2.1 + i)
def longerM (ch ws : List (List Nat)) (bs : List Bg) : List Bg := bs.flatMap fun b => extTo ch ws b (ch.length - b.2.1)
theorem extTo_succ (ch ws : List (List Nat)) (b : Bg) (j : Nat) : extTo ch ws b (j + 1) = extTo ch ws b j ++ [ext1 ch ws b (b.2.1 + j)] := by
  unfold extTo
  rw [List.range_succ, List.map_append]
  rfl
theorem longerM_snoc (ch ws : List (List Nat)) (bs : List Bg) (b : Bg) : longerM ch ws (bs ++ [b]) = longerM ch ws bs ++ extTo ch ws b (ch.length - b.2.1) := by
  unfold longerM
  rw [List.flatMap_append, List.flatMap_cons, List.flatMap_nil, List.append_nil]
theorem extTo_len (ch ws : List (List Nat)) (b : Bg) (j : Nat) : (extTo ch ws b j).length = j := by
  unfold extTo
  rw [List.length_map, List.length_range]
theorem longerM_len (ch ws : List (List Nat)) (bs : List Bg) : (longerM ch ws bs).length ≤ bs.length * ch.length := by
  induction bs with
  | nil => exact Nat.zero_le _
  | cons b bs ih =>
    have e : longerM ch ws (b :: bs) = extTo ch ws b (ch.length - b.2.1) ++ longerM ch ws bs := rfl
    rw [e, List.length_append, extTo_len, List.length_cons, Nat.add_mul, Nat.one_mul]
    omega
end DM

set_option Elab.async false
set_option linter.all false
set_option maxRecDepth 100000
set_option maxHeartbeats 2000000
namespace DC
open PySem PySem.Spec PyProof.Rows L2 L3 L4 L5
/-! begun markings on the heap -/
def OneAt (H : Hp) (a : Addr) (b : DM.Bg) : Prop := ∃ am ad, H a = some (.tup [.ref am, .int (b.2.1 : Int), .ref ad]) ∧ H am = some (.lst (vN b.1)) ∧ H ad = some (.dK (DM.kvN b.2.2))
def BgAt (H : Hp) : List Addr → List DM.Bg → Prop
  | [], [] => True
  | a :: as, b :: bs => OneAt H a b ∧ BgAt H as bs
  | [], _ :: _ => False
  | _ :: _, [] => False
theorem OneAt.same {H H' : Hp} {a : Addr} {b : DM.Bg} (h : OneAt H a b) (s : Same H H') : OneAt H' a b := by
  obtain ⟨am, ad, e1, e2, e3⟩ := h
  exact ⟨am, ad, s _ _ e1, s _ _ e2, s _ _ e3⟩
theorem BgAt.len {H : Hp} : ∀ {as : List Addr} {bs : List DM.Bg}, BgAt H as bs → as.length = bs.length
  | [], [], _ => rfl
  | _ :: _, _ :: _, h => by rw [List.length_cons, List.length_cons, BgAt.len h.2]
  | [], _ :: _, h => h.elim
  | _ :: _, [], h => h.elim
theorem BgAt.same {H H' : Hp} : ∀ {as : List Addr} {bs : List DM.Bg}, BgAt H as bs → Same H H' → BgAt H' as bs
  | [], [], _, _ => trivial
  | _ :: _, _ :: _, h, s => ⟨h.1.same s, BgAt.same h.2 s⟩
  | [], _ :: _, h, _ => h.elim
  | _ :: _, [], h, _ => h.elim
theorem BgAt.get {H : Hp} : ∀ {as : List Addr} {bs : List DM.Bg} {i : Nat} {a : Addr}, BgAt H as bs → as[i]? = some a → ∃ b, bs[i]? = some b ∧ OneAt H a b
  | [], _, _, _, _, e => by simp at e
  | _ :: _, [], _, _, h, _ => h.elim
  | a :: as, l :: ls, 0, b, h, e => by
    have e : a = b := Option.some.inj e
    subst e
    exact ⟨l, rfl, h.1⟩
  | a :: as, l :: ls, i + 1, b, h, e => BgAt.get (as := as) (bs := ls) (i := i) h.2 e
theorem BgAt.app {H : Hp} : ∀ {as cs : List Addr} {bs ds : List DM.Bg}, BgAt H as bs → BgAt H cs ds → BgAt H (as ++ cs) (bs ++ ds)
  | [], _, [], _, _, h => h
  | _ :: _, _, _ :: _, _, h, k => ⟨h.1, BgAt.app h.2 k⟩
  | [], _, _ :: _, _, h, _ => h.elim
  | _ :: _, _, [], _, h, _ => h.elim
/-- the list that grows is none of its own parts -/
theorem OneAt.put {H : Hp} {p a x : Addr} {ps : List Addr} {b : DM.Bg} {o : HO} (h : OneAt H a b) (e : H p = some (.lst ((x :: ps).map V.ref))) : OneAt (upd H p o) a b := by
  obtain ⟨am, ad, e1, e2, e3⟩ := h
  have n1 : a ≠ p := ne_of e1 e (by intro z; cases z)
  have n2 : am ≠ p := fun z => by
    rw [z, e] at e2
    have := HO.lst.inj (Option.some.inj e2)
    cases hb : b.1 with
    | nil => rw [hb] at this; cases this
    | cons y l => rw [hb] at this; exact V.noConfusion (List.cons.inj this).1
  have n3 : ad ≠ p := ne_of e3 e (by intro z; cases z)
  exact ⟨am, ad, by rw [upd_ne n1]; exact e1, by rw [upd_ne n2]; exact e2, by rw [upd_ne n3]; exact e3⟩
theorem BgAt.put {H : Hp} {p x : Addr} {ps : List Addr} {o : HO} (e : H p = some (.lst ((x :: ps).map V.ref))) : ∀ {as : List Addr} {bs : List DM.Bg}, BgAt H as bs → BgAt (upd H p o) as bs
  | [], [], _ => trivial
  | _ :: _, _ :: _, h => ⟨h.1.put e, BgAt.put e h.2⟩
  | [], _ :: _, h => h.elim
  | _ :: _, [], h => h.elim
theorem BgAt.push {H : Hp} {p t am ad : Addr} {as : List Addr} {bs : List DM.Bg} {b : DM.Bg} (e : H p = some (.lst (as.map V.ref))) (r : BgAt H as bs) (e1 : H t = some (.tup [.ref am, .int (b.2.1 : Int), .ref ad])) (e2 : H am = some (.lst (vN b.1))) (e3 : H ad = some (.dK (DM.kvN b.2.2))) (n2 : am ≠ p) :
    BgAt (upd H p (.lst (as.map V.ref ++ [V.ref t]))) (as ++ [t]) (bs ++ [b]) := by
  have n1 : t ≠ p := ne_of e1 e (by intro z; cases z)
  have n3 : ad ≠ p := ne_of e3 e (by intro z; cases z)
  refine BgAt.app ?_ ⟨⟨am, ad, by rw [upd_ne n1]; exact e1, by rw [upd_ne n2]; exact e2, by rw [upd_ne n3]; exact e3⟩, trivial⟩
  cases as with
  | nil =>
    cases bs with
    | nil => trivial
    | cons _ _ => exact r.elim
  | cons x ps => exact r.put e
section
variable {P : Program} {w : World} {K : PySem.W.Frag} {mg : Str → Option Value} {base : Heap} {C : Addr}
/-- longer_markings -/
def spLongerM (K : PySem.W.Frag) : Sp := fun vs H Q _ => ∃ (ab ac aw : Addr) (bas cas was : List Addr) (bs : List DM.Bg) (ch ws : List (List Nat)), vs = [.ref ab, .ref ac, .ref aw] ∧ H ab = some (.lst (bas.map V.ref)) ∧ BgAt H bas bs ∧ H ac = some (.lst (cas.map V.ref)) ∧ RowsAt H cas ch ∧
  H aw = some (.lst (was.map V.ref)) ∧ RowsAt H was ws ∧ ws.length = ch.length ∧ (∀ x ∈ ws, x.length ≤ 4) ∧ (∀ x ∈ ch, x.length ≤ 6) ∧ ch.length ≤ 252 ∧ (∀ b ∈ bs, b.1.length ≤ 100 ∧ b.2.1 ≤ 252 ∧ b.2.2.length ≤ 1024) ∧ (DM.longerM ch ws bs).length < sizeLine ∧
  ∀ H' q as, Same H H' → H q = none → H' q = some (.lst (as.map V.ref)) → BgAt H' as (DM.longerM ch ws bs) → Q (.ref q) H'
theorem scLongerM : FnScope ["begun", "choices", "by_places", "longer", "marking", "lowest", "filled", "number", "more"] ["begun", "choices", "by_places"] (defScope sLongerM) := ⟨rfl, rfl, rfl, by decide +kernel, rfl, by decide +kernel, by decide +kernel⟩
theorem longerM_le (ch ws : List (List Nat)) {bs : List DM.Bg} {i j : Nat} {b : DM.Bg} (h : bs[i]? = some b) (hj : j ≤ ch.length - b.2.1) : (DM.longerM ch ws (bs.take i)).length + (DM.extTo ch ws b j).length ≤ (DM.longerM ch ws bs).length := by
  have e : DM.longerM ch ws bs = DM.longerM ch ws (bs.take (i + 1)) ++ DM.longerM ch ws (bs.drop (i + 1)) := by
    unfold DM.longerM
    rw [← List.flatMap_append, List.take_append_drop]
  rw [e, take_snoc h, DM.longerM_snoc, List.length_append, List.length_append, DM.extTo_len, DM.extTo_len]
  omega
theorem ok_longerM {f : Addr} {fd : FuncData} (F : Fun K "longer_markings" "longer_markings" sLongerM f fd) (T : Txt K mg C) : FnOk P w K mg base CX0 2 f fd ["begun", "choices", "by_places"] (spLongerM K) := by
  obtain ⟨f1, fd1, m1, F1, b1⟩ := T.oneMore
  have G1 : FnOk P w K mg base CX0 1 f1 fd1 ["filled", "by_place"] (spOneMore K) := ok_oneMore F1 T
  refine F.ok scLongerM (fun vs H Q E h => ?_) (fun cdv A outer s H vs Q E hr h => ?_)
  · obtain ⟨ab, ac, aw, bas, cas, was, bs, ch, ws, rfl, _⟩ := h
    rfl
  · obtain ⟨ab, ac, aw, bas, cas, was, bs, ch, ws, rfl, hab, rb, hac, rc, haw, rw', hwl, hw4, hc6, hc252, hbs, hlen, k⟩ := h
    refine ⟨_, pss_cons (ps_set (i := 3) scLongerM.nd rfl (Or.inl rfl) (pe_lst pa_nil))
      (pss_cons (ps_for PassesOwn.never rfl (pi_list (pv 0)) (pg_tup rfl (pgs_cons (pg_name (i := 4) scLongerM.nd rfl (Or.inl rfl)) (pgs_cons (pg_name (i := 5) scLongerM.nd rfl (Or.inl rfl)) (pgs_cons (pg_name (i := 6) scLongerM.nd rfl (Or.inl rfl)) pgs_nil))))
        (pss_one (ps_for PassesOwn.never rfl (pi_range2 (by rfl) T.range (pa_cons (pv 5) (pa_cons (pe_callB call_len_seq (by rfl) T.len PySem.boot_len (pa_cons (pv 1) pa_nil)) pa_nil))) (pg_name (i := 7) scLongerM.nd rfl (Or.inl rfl))
          (pss_cons (ps_set (i := 8) scLongerM.nd rfl (Or.inl rfl) (pe_call G1 hr (by rfl) m1 F1.kp b1 .nil pass0 (pa_cons (pv 6) (pa_cons (pe_ix ix_list (pv 2) (pv 7) (fun _ _ => rfl)) pa_nil))))
          (pss_one (ps_expr (pe_bm PySem.F.plainAttrs_list PySem.F.slot_list_append PySem.F.type_list_append mt_append (pv 3) (pa_cons (pe_tup (pa_cons (pe_op op_cat (pv 4) (pe_ix ix_list (pv 1) (pv 7) (fun _ _ => rfl))) (pa_cons (pv 7) (pa_cons (pv 8) pa_nil)))) pa_nil))))))))
      (pss_one (ps_ret (pv 3)))), ?_⟩
    refine ⟨Nat.zero_le _, fun p hp => ?_⟩
    have sl : sizeLine = 16777216 := rfl
    refine ⟨_, rfl, ab, rfl, ⟨_, SqL.of (by rw [upd_ne (ne_of_none hab hp)]; exact hab)⟩, for_list (K := K) (a := ab) (xs := bas.map V.ref) (fun i σ H' => ∃ v4 v5 v6 v7 v8 : Option V, σ = [some (.ref ab), some (.ref ac), some (.ref aw), some (.ref p), v4, v5, v6, v7, v8] ∧ Same H H' ∧ ∃ as, H' p = some (.lst (as.map V.ref)) ∧ BgAt H' as (DM.longerM ch ws (bs.take i)))
      ⟨none, none, none, none, none, rfl, Same.new hp, [], upd_same, trivial⟩ (fun i σ H' _ ⟨_, _, _, _, _, _, s5, _⟩ => SqL.of (s5 _ _ hab)) ?_ ?_⟩
    · rintro i x σ H1 hi ⟨v4, v5, v6, v7, v8, rfl, s1, as1, e1, r1⟩
      obtain ⟨ba, hba, rfl⟩ := ref_get hi
      obtain ⟨b, hb, am, ad, ht, hm, hd⟩ := rb.get hba
      obtain ⟨hb1, hb2, hb3⟩ := hbs b (List.mem_of_getElem? hb)
      have hN : (((cas.map V.ref).length : Nat) : Int) = (ch.length : Int) := by rw [List.length_map, rc.len]
      refine ⟨ba, _, rfl, SqT.of (s1 _ _ ht), rfl, _, _, rfl, _, _, rfl, _, _, rfl, rfl, ?_⟩
      refine ⟨_, rfl, _, rfl, ac, _, rfl, .inl (SqL.of (s1 _ _ hac)), _, _, rfl, by rw [hN]; omega, for_range (fun j σ H' => ∃ v7 v8 : Option V, σ = [some (.ref ab), some (.ref ac), some (.ref aw), some (.ref p), some (.ref am), some (.int (b.2.1 : Int)), some (.ref ad), v7, v8] ∧ Same H H' ∧ ∃ as, H' p = some (.lst (as.map V.ref)) ∧ BgAt H' as (DM.longerM ch ws (bs.take i) ++ DM.extTo ch ws b j))
        ⟨v7, v8, rfl, s1, as1, e1, by show BgAt _ _ (_ ++ []); rw [List.append_nil]; exact r1⟩ ?_ ?_⟩
      · rintro j σ H2 hj ⟨v7, v8, rfl, s2, as2, e2, r2⟩
        rw [hN] at hj
        have hj' : b.2.1 + j < ch.length := by omega
        rw [show (b.2.1 : Int) + (j : Int) = ((b.2.1 + j : Nat) : Int) by omega]
        obtain ⟨wv, hwv⟩ : ∃ wv, ws[b.2.1 + j]? = some wv := ⟨_, List.getElem?_eq_getElem (by omega)⟩
        obtain ⟨wb, hwb, hwH⟩ := rw'.get' hwv
        obtain ⟨cv, hcv⟩ : ∃ cv, ch[b.2.1 + j]? = some cv := ⟨_, List.getElem?_eq_getElem hj'⟩
        obtain ⟨cb, hcb, hcH⟩ := rc.get' hcv
        refine ⟨_, rfl, _, rfl, _, rfl, aw, _, _, _, rfl, rfl, SqL.of (s2 _ _ haw), atI_nat (ref_at hwb), ad, wb, b.2.2, wv, rfl, s2 _ _ hd, s2 _ _ hwH, hb3, hw4 wv (List.mem_of_getElem? hwv), fun H3 qm s3 hqm em => ?_⟩
        have s23 := s2.trans s3
        refine ⟨_, rfl, .inl ⟨rfl, _, SqL.of (s3 _ _ e2)⟩, _, rfl, _, rfl, _, rfl, ac, _, _, _, rfl, rfl, SqL.of (s23 _ _ hac), atI_nat (ref_at hcb), am, cb, _, _, rfl, rfl, s23 _ _ hm, s23 _ _ hcH, ?_, fun ql hql => ?_⟩
        · have := hc6 cv (List.mem_of_getElem? hcv)
          rw [vN_len, vN_len]
          omega
        have s4 := Same.new (o := .lst (vN b.1 ++ vN cv)) hql
        refine ⟨_, rfl, _, rfl, (by show 3 ≤ sizeLine; decide), fun qt hqt => ?_⟩
        have s5 := Same.new (o := .tup [.ref ql, .int ((b.2.1 + j : Nat) : Int), .ref qm]) hqt
        have s35 := (s3.trans s4).trans s5
        refine ⟨p, _, _, rfl, rfl, s35 _ _ e2, ?_, ?_⟩
        · rw [List.length_map, r2.len, List.length_append]
          exact Nat.lt_of_le_of_lt (longerM_le ch ws hb (by omega)) hlen
        · have hlp : ql ≠ p := fun z => by rw [z, s3 _ _ e2] at hql; cases hql
          refine ⟨_, _, rfl, Same.put hp (s2.trans s35), as2 ++ [qt], by rw [upd_same, List.map_append]; rfl, ?_⟩
          rw [DM.extTo_succ, ← List.append_assoc]
          refine BgAt.push (b := DM.ext1 ch ws b (b.2.1 + j)) (s35 _ _ e2) (r2.same s35) (am := ql) (ad := qm) upd_same ?_ ?_ hlp
          · rw [s5 _ _ upd_same]
            show _ = some (HO.lst (vN (b.1 ++ ch.getD (b.2.1 + j) [])))
            rw [getD_of hcv, vN_app]
          · rw [s5 _ _ (s4 _ _ em)]
            show _ = some (HO.dK (DM.kvN (DM.more b.2.2 (ws.getD (b.2.1 + j) []))))
            rw [getD_of hwv]
      · rintro σ H2 ⟨v7, v8, rfl, s2, as2, e2, r2⟩
        rw [hN, show ((ch.length : Int) - (b.2.1 : Int)).toNat = ch.length - b.2.1 by omega] at r2
        refine ⟨_, _, _, _, _, rfl, s2, as2, e2, ?_⟩
        rw [take_snoc hb, DM.longerM_snoc]
        exact r2
    · rintro σ H' ⟨v4, v5, v6, v7, v8, rfl, s1, as1, e1, r1⟩
      rw [List.length_map, rb.len, List.take_length] at r1
      exact ⟨_, rfl, k H' p as1 s1 hp e1 r1⟩
end
end DC

set_option Elab.async false
set_option linter.all false
set_option maxRecDepth 100000
set_option maxHeartbeats 4000000
namespace DM
open Uw70 L2
/-! the rows' bits -/
theorem rowsTo_bit (ch : List Nat) (p : Nat) (rows : List Row) (j : Nat) : ∀ i, (rowsTo ch p rows i).testBit j = (decide (j < i) && ch.contains ((rows.getD j []).getD p 0))
  | 0 => by
    show (0 : Nat).testBit j = _
    rw [Nat.zero_testBit, decide_eq_false (by omega), Bool.false_and]
  | i + 1 => by
    have ih := rowsTo_bit ch p rows j i
    show (if ch.contains ((rows.getD i []).getD p 0) = true then rowsTo ch p rows i ||| 2 ^ i else rowsTo ch p rows i).testBit j = _
    by_cases e : i = j
    · subst e
      rw [decide_eq_true (Nat.lt_succ_self i), Bool.true_and]
      cases h : ch.contains ((rows.getD i []).getD p 0) with
      | true => rw [if_pos rfl, Nat.testBit_or, Nat.testBit_two_pow, decide_eq_true rfl, Bool.or_true]
      | false => rw [if_neg (by decide), ih, decide_eq_false (by omega), Bool.false_and]
    · have e2 : decide (j < i + 1) = decide (j < i) := decide_eq_decide.mpr (by omega)
      rw [e2, ← ih]
      by_cases h : ch.contains ((rows.getD i []).getD p 0) = true
      · rw [if_pos h, Nat.testBit_or, Nat.testBit_two_pow, decide_eq_false e, Bool.or_false]
      · rw [if_neg h]
theorem rowsWith_bit (ch : List Nat) (p : Nat) (rows : List Row) (j : Nat) : (rowsWith ch p rows).testBit j = (decide (j < rows.length) && ch.contains ((rows.getD j []).getD p 0)) := rowsTo_bit ch p rows j _
def foldD (rows : List Row) (n : Nat) (m : List (List Nat)) : DN := m.foldl (fun D c => more D (byPlace rows n c)) [(0, 2 ^ rows.length - 1)]
theorem good_of {rows : List Row} {m : List (List Nat)} {v : Nat} (h : ∀ j, v.testBit j = (decide (j < rows.length) && isShown m (rows.getD j []))) : decide (v = 2 ^ rows.length - 1) = isGood rows m := by
  unfold isGood
  rw [Bool.eq_iff_iff, decide_eq_true_iff, List.all_eq_true]
  constructor
  · intro e r hr
    obtain ⟨j, hj, rfl⟩ := List.getElem_of_mem hr
    have := h j
    rw [e, Nat.testBit_two_pow_sub_one, decide_eq_true hj, Bool.true_and, List.getD_eq_getElem?_getD, List.getElem?_eq_getElem hj] at this
    exact this.symm
  · intro hs
    apply Nat.eq_of_testBit_eq
    intro j
    rw [h j, Nat.testBit_two_pow_sub_one]
    by_cases hj : j < rows.length
    · rw [decide_eq_true hj, Bool.true_and, List.getD_eq_getElem?_getD, List.getElem?_eq_getElem hj]
      exact hs _ (List.getElem_mem hj)
    · rw [decide_eq_false hj, Bool.false_and]

theorem fin1 (A x00 : Nat) : getN (more ([(0, A)]) [x00]) 1 = some ((0 ||| (A &&& x00))) := by kernel_rfl
theorem bool1 : ∀ (x00 : Bool), ((false || (true && x00))) = ((x00 && true) || false) := by decide +kernel
theorem shown1 (c0 : List Nat) (r0 : Nat) : isShown [c0] [r0] = ((c0.contains r0 && true) || false) := by
  rw [isShown_B]
  kernel_rfl
theorem good1 (rows : List Row) (hr : ∀ r ∈ rows, r.length = 1) (c0 : List Nat) : ∃ v, getN (foldD rows 1 [c0]) (2 ^ 1 - 1) = some v ∧ decide (v = 2 ^ rows.length - 1) = isGood rows [c0] := by
  refine ⟨_, fin1 (2 ^ rows.length - 1) (rowsWith c0 0 rows), good_of fun j => ?_⟩
  simp only [Nat.testBit_or, Nat.testBit_and, Nat.zero_testBit, rowsWith_bit, Nat.testBit_two_pow_sub_one]
  by_cases hj : j < rows.length
  · have hl := hr _ (List.getElem_mem hj)
    have er : rows.getD j [] = rows[j] := by rw [List.getD_eq_getElem?_getD, List.getElem?_eq_getElem hj]; rfl
    rw [← er] at hl
    simp only [decide_eq_true hj, Bool.true_and]
    generalize rows.getD j [] = r at hl ⊢
    match r, hl with
    | [r0], _ =>
      rw [shown1]
      exact bool1 (c0.contains r0)
  · simp only [decide_eq_false hj, Bool.false_and, Bool.and_false, Bool.or_false]
theorem fin2 (A x00 x01 x10 x11 : Nat) : getN (more (more ([(0, A)]) [x00, x01]) [x10, x11]) 3 = some (((0 ||| ((0 ||| (A &&& x00)) &&& x11)) ||| ((0 ||| (A &&& x01)) &&& x10))) := by kernel_rfl
theorem bool2 : ∀ (x00 x01 x10 x11 : Bool), (((false || ((false || (true && x00)) && x11)) || ((false || (true && x01)) && x10))) = ((x00 && ((x11 && true) || false)) || ((x10 && ((x01 && true) || false)) || false)) := by decide +kernel
theorem shown2 (c0 c1 : List Nat) (r0 r1 : Nat) : isShown [c0, c1] [r0, r1] = ((c0.contains r0 && ((c1.contains r1 && true) || false)) || ((c1.contains r0 && ((c0.contains r1 && true) || false)) || false)) := by
  rw [isShown_B]
  kernel_rfl
theorem good2 (rows : List Row) (hr : ∀ r ∈ rows, r.length = 2) (c0 c1 : List Nat) : ∃ v, getN (foldD rows 2 [c0, c1]) (2 ^ 2 - 1) = some v ∧ decide (v = 2 ^ rows.length - 1) = isGood rows [c0, c1] := by
  refine ⟨_, fin2 (2 ^ rows.length - 1) (rowsWith c0 0 rows) (rowsWith c0 1 rows) (rowsWith c1 0 rows) (rowsWith c1 1 rows), good_of fun j => ?_⟩
  simp only [Nat.testBit_or, Nat.testBit_and, Nat.zero_testBit, rowsWith_bit, Nat.testBit_two_pow_sub_one]
  by_cases hj : j < rows.length
  · have hl := hr _ (List.getElem_mem hj)
    have er : rows.getD j [] = rows[j] := by rw [List.getD_eq_getElem?_getD, List.getElem?_eq_getElem hj]; rfl
    rw [← er] at hl
    simp only [decide_eq_true hj, Bool.true_and]
    generalize rows.getD j [] = r at hl ⊢
    match r, hl with
    | [r0, r1], _ =>
      rw [shown2]
      exact bool2 (c0.contains r0) (c0.contains r1) (c1.contains r0) (c1.contains r1)
  · simp only [decide_eq_false hj, Bool.false_and, Bool.and_false, Bool.or_false]
theorem fin3 (A x00 x01 x02 x10 x11 x12 x20 x21 x22 : Nat) : getN (more (more (more ([(0, A)]) [x00, x01, x02]) [x10, x11, x12]) [x20, x21, x22]) 7 = some ((((0 ||| (((0 ||| ((0 ||| (A &&& x00)) &&& x11)) ||| ((0 ||| (A &&& x01)) &&& x10)) &&& x22)) ||| (((0 ||| ((0 ||| (A &&& x00)) &&& x12)) ||| ((0 ||| (A &&& x02)) &&& x10)) &&& x21)) ||| (((0 ||| ((0 ||| (A &&& x01)) &&& x12)) ||| ((0 ||| (A &&& x02)) &&& x11)) &&& x20))) := by kernel_rfl
theorem bool3 : ∀ (x00 x01 x02 x10 x11 x12 x20 x21 x22 : Bool), ((((false || (((false || ((false || (true && x00)) && x11)) || ((false || (true && x01)) && x10)) && x22)) || (((false || ((false || (true && x00)) && x12)) || ((false || (true && x02)) && x10)) && x21)) || (((false || ((false || (true && x01)) && x12)) || ((false || (true && x02)) && x11)) && x20))) = ((x00 && ((x11 && ((x22 && true) || false)) || ((x21 && ((x12 && true) || false)) || false))) || ((x10 && ((x01 && ((x22 && true) || false)) || ((x21 && ((x02 && true) || false)) || false))) || ((x20 && ((x01 && ((x12 && true) || false)) || ((x11 && ((x02 && true) || false)) || false))) || false))) := by decide +kernel
theorem shown3 (c0 c1 c2 : List Nat) (r0 r1 r2 : Nat) : isShown [c0, c1, c2] [r0, r1, r2] = ((c0.contains r0 && ((c1.contains r1 && ((c2.contains r2 && true) || false)) || ((c2.contains r1 && ((c1.contains r2 && true) || false)) || false))) || ((c1.contains r0 && ((c0.contains r1 && ((c2.contains r2 && true) || false)) || ((c2.contains r1 && ((c0.contains r2 && true) || false)) || false))) || ((c2.contains r0 && ((c0.contains r1 && ((c1.contains r2 && true) || false)) || ((c1.contains r1 && ((c0.contains r2 && true) || false)) || false))) || false))) := by
  rw [isShown_B]
  kernel_rfl
theorem good3 (rows : List Row) (hr : ∀ r ∈ rows, r.length = 3) (c0 c1 c2 : List Nat) : ∃ v, getN (foldD rows 3 [c0, c1, c2]) (2 ^ 3 - 1) = some v ∧ decide (v = 2 ^ rows.length - 1) = isGood rows [c0, c1, c2] := by
  refine ⟨_, fin3 (2 ^ rows.length - 1) (rowsWith c0 0 rows) (rowsWith c0 1 rows) (rowsWith c0 2 rows) (rowsWith c1 0 rows) (rowsWith c1 1 rows) (rowsWith c1 2 rows) (rowsWith c2 0 rows) (rowsWith c2 1 rows) (rowsWith c2 2 rows), good_of fun j => ?_⟩
  simp only [Nat.testBit_or, Nat.testBit_and, Nat.zero_testBit, rowsWith_bit, Nat.testBit_two_pow_sub_one]
  by_cases hj : j < rows.length
  · have hl := hr _ (List.getElem_mem hj)
    have er : rows.getD j [] = rows[j] := by rw [List.getD_eq_getElem?_getD, List.getElem?_eq_getElem hj]; rfl
    rw [← er] at hl
    simp only [decide_eq_true hj, Bool.true_and]
    generalize rows.getD j [] = r at hl ⊢
    match r, hl with
    | [r0, r1, r2], _ =>
      rw [shown3]
      exact bool3 (c0.contains r0) (c0.contains r1) (c0.contains r2) (c1.contains r0) (c1.contains r1) (c1.contains r2) (c2.contains r0) (c2.contains r1) (c2.contains r2)
  · simp only [decide_eq_false hj, Bool.false_and, Bool.and_false, Bool.or_false]
theorem fin4 (A x00 x01 x02 x03 x10 x11 x12 x13 x20 x21 x22 x23 x30 x31 x32 x33 : Nat) : getN (more (more (more (more ([(0, A)]) [x00, x01, x02, x03]) [x10, x11, x12, x13]) [x20, x21, x22, x23]) [x30, x31, x32, x33]) 15 = some (((((0 ||| ((((0 ||| (((0 ||| ((0 ||| (A &&& x00)) &&& x11)) ||| ((0 ||| (A &&& x01)) &&& x10)) &&& x22)) ||| (((0 ||| ((0 ||| (A &&& x00)) &&& x12)) ||| ((0 ||| (A &&& x02)) &&& x10)) &&& x21)) ||| (((0 ||| ((0 ||| (A &&& x01)) &&& x12)) ||| ((0 ||| (A &&& x02)) &&& x11)) &&& x20)) &&& x33)) ||| ((((0 ||| (((0 ||| ((0 ||| (A &&& x00)) &&& x11)) ||| ((0 ||| (A &&& x01)) &&& x10)) &&& x23)) ||| (((0 ||| ((0 ||| (A &&& x00)) &&& x13)) ||| ((0 ||| (A &&& x03)) &&& x10)) &&& x21)) ||| (((0 ||| ((0 ||| (A &&& x01)) &&& x13)) ||| ((0 ||| (A &&& x03)) &&& x11)) &&& x20)) &&& x32)) ||| ((((0 ||| (((0 ||| ((0 ||| (A &&& x00)) &&& x12)) ||| ((0 ||| (A &&& x02)) &&& x10)) &&& x23)) ||| (((0 ||| ((0 ||| (A &&& x00)) &&& x13)) ||| ((0 ||| (A &&& x03)) &&& x10)) &&& x22)) ||| (((0 ||| ((0 ||| (A &&& x02)) &&& x13)) ||| ((0 ||| (A &&& x03)) &&& x12)) &&& x20)) &&& x31)) ||| ((((0 ||| (((0 ||| ((0 ||| (A &&& x01)) &&& x12)) ||| ((0 ||| (A &&& x02)) &&& x11)) &&& x23)) ||| (((0 ||| ((0 ||| (A &&& x01)) &&& x13)) ||| ((0 ||| (A &&& x03)) &&& x11)) &&& x22)) ||| (((0 ||| ((0 ||| (A &&& x02)) &&& x13)) ||| ((0 ||| (A &&& x03)) &&& x12)) &&& x21)) &&& x30))) := by kernel_rfl
theorem bool4 : ∀ (x00 x01 x02 x03 x10 x11 x12 x13 x20 x21 x22 x23 x30 x31 x32 x33 : Bool), (((((false || ((((false || (((false || ((false || (true && x00)) && x11)) || ((false || (true && x01)) && x10)) && x22)) || (((false || ((false || (true && x00)) && x12)) || ((false || (true && x02)) && x10)) && x21)) || (((false || ((false || (true && x01)) && x12)) || ((false || (true && x02)) && x11)) && x20)) && x33)) || ((((false || (((false || ((false || (true && x00)) && x11)) || ((false || (true && x01)) && x10)) && x23)) || (((false || ((false || (true && x00)) && x13)) || ((false || (true && x03)) && x10)) && x21)) || (((false || ((false || (true && x01)) && x13)) || ((false || (true && x03)) && x11)) && x20)) && x32)) || ((((false || (((false || ((false || (true && x00)) && x12)) || ((false || (true && x02)) && x10)) && x23)) || (((false || ((false || (true && x00)) && x13)) || ((false || (true && x03)) && x10)) && x22)) || (((false || ((false || (true && x02)) && x13)) || ((false || (true && x03)) && x12)) && x20)) && x31)) || ((((false || (((false || ((false || (true && x01)) && x12)) || ((false || (true && x02)) && x11)) && x23)) || (((false || ((false || (true && x01)) && x13)) || ((false || (true && x03)) && x11)) && x22)) || (((false || ((false || (true && x02)) && x13)) || ((false || (true && x03)) && x12)) && x21)) && x30))) = ((x00 && ((x11 && ((x22 && ((x33 && true) || false)) || ((x32 && ((x23 && true) || false)) || false))) || ((x21 && ((x12 && ((x33 && true) || false)) || ((x32 && ((x13 && true) || false)) || false))) || ((x31 && ((x12 && ((x23 && true) || false)) || ((x22 && ((x13 && true) || false)) || false))) || false)))) || ((x10 && ((x01 && ((x22 && ((x33 && true) || false)) || ((x32 && ((x23 && true) || false)) || false))) || ((x21 && ((x02 && ((x33 && true) || false)) || ((x32 && ((x03 && true) || false)) || false))) || ((x31 && ((x02 && ((x23 && true) || false)) || ((x22 && ((x03 && true) || false)) || false))) || false)))) || ((x20 && ((x01 && ((x12 && ((x33 && true) || false)) || ((x32 && ((x13 && true) || false)) || false))) || ((x11 && ((x02 && ((x33 && true) || false)) || ((x32 && ((x03 && true) || false)) || false))) || ((x31 && ((x02 && ((x13 && true) || false)) || ((x12 && ((x03 && true) || false)) || false))) || false)))) || ((x30 && ((x01 && ((x12 && ((x23 && true) || false)) || ((x22 && ((x13 && true) || false)) || false))) || ((x11 && ((x02 && ((x23 && true) || false)) || ((x22 && ((x03 && true) || false)) || false))) || ((x21 && ((x02 && ((x13 && true) || false)) || ((x12 && ((x03 && true) || false)) || false))) || false)))) || false)))) := by decide +kernel
theorem shown4 (c0 c1 c2 c3 : List Nat) (r0 r1 r2 r3 : Nat) : isShown [c0, c1, c2, c3] [r0, r1, r2, r3] = ((c0.contains r0 && ((c1.contains r1 && ((c2.contains r2 && ((c3.contains r3 && true) || false)) || ((c3.contains r2 && ((c2.contains r3 && true) || false)) || false))) || ((c2.contains r1 && ((c1.contains r2 && ((c3.contains r3 && true) || false)) || ((c3.contains r2 && ((c1.contains r3 && true) || false)) || false))) || ((c3.contains r1 && ((c1.contains r2 && ((c2.contains r3 && true) || false)) || ((c2.contains r2 && ((c1.contains r3 && true) || false)) || false))) || false)))) || ((c1.contains r0 && ((c0.contains r1 && ((c2.contains r2 && ((c3.contains r3 && true) || false)) || ((c3.contains r2 && ((c2.contains r3 && true) || false)) || false))) || ((c2.contains r1 && ((c0.contains r2 && ((c3.contains r3 && true) || false)) || ((c3.contains r2 && ((c0.contains r3 && true) || false)) || false))) || ((c3.contains r1 && ((c0.contains r2 && ((c2.contains r3 && true) || false)) || ((c2.contains r2 && ((c0.contains r3 && true) || false)) || false))) || false)))) || ((c2.contains r0 && ((c0.contains r1 && ((c1.contains r2 && ((c3.contains r3 && true) || false)) || ((c3.contains r2 && ((c1.contains r3 && true) || false)) || false))) || ((c1.contains r1 && ((c0.contains r2 && ((c3.contains r3 && true) || false)) || ((c3.contains r2 && ((c0.contains r3 && true) || false)) || false))) || ((c3.contains r1 && ((c0.contains r2 && ((c1.contains r3 && true) || false)) || ((c1.contains r2 && ((c0.contains r3 && true) || false)) || false))) || false)))) || ((c3.contains r0 && ((c0.contains r1 && ((c1.contains r2 && ((c2.contains r3 && true) || false)) || ((c2.contains r2 && ((c1.contains r3 && true) || false)) || false))) || ((c1.contains r1 && ((c0.contains r2 && ((c2.contains r3 && true) || false)) || ((c2.contains r2 && ((c0.contains r3 && true) || false)) || false))) || ((c2.contains r1 && ((c0.contains r2 && ((c1.contains r3 && true) || false)) || ((c1.contains r2 && ((c0.contains r3 && true) || false)) || false))) || false)))) || false)))) := by
  rw [isShown_B]
  kernel_rfl
theorem good4 (rows : List Row) (hr : ∀ r ∈ rows, r.length = 4) (c0 c1 c2 c3 : List Nat) : ∃ v, getN (foldD rows 4 [c0, c1, c2, c3]) (2 ^ 4 - 1) = some v ∧ decide (v = 2 ^ rows.length - 1) = isGood rows [c0, c1, c2, c3] := by
  refine ⟨_, fin4 (2 ^ rows.length - 1) (rowsWith c0 0 rows) (rowsWith c0 1 rows) (rowsWith c0 2 rows) (rowsWith c0 3 rows) (rowsWith c1 0 rows) (rowsWith c1 1 rows) (rowsWith c1 2 rows) (rowsWith c1 3 rows) (rowsWith c2 0 rows) (rowsWith c2 1 rows) (rowsWith c2 2 rows) (rowsWith c2 3 rows) (rowsWith c3 0 rows) (rowsWith c3 1 rows) (rowsWith c3 2 rows) (rowsWith c3 3 rows), good_of fun j => ?_⟩
  simp only [Nat.testBit_or, Nat.testBit_and, Nat.zero_testBit, rowsWith_bit, Nat.testBit_two_pow_sub_one]
  by_cases hj : j < rows.length
  · have hl := hr _ (List.getElem_mem hj)
    have er : rows.getD j [] = rows[j] := by rw [List.getD_eq_getElem?_getD, List.getElem?_eq_getElem hj]; rfl
    rw [← er] at hl
    simp only [decide_eq_true hj, Bool.true_and]
    generalize rows.getD j [] = r at hl ⊢
    match r, hl with
    | [r0, r1, r2, r3], _ =>
      rw [shown4]
      exact bool4 (c0.contains r0) (c0.contains r1) (c0.contains r2) (c0.contains r3) (c1.contains r0) (c1.contains r1) (c1.contains r2) (c1.contains r3) (c2.contains r0) (c2.contains r1) (c2.contains r2) (c2.contains r3) (c3.contains r0) (c3.contains r1) (c3.contains r2) (c3.contains r3)
  · simp only [decide_eq_false hj, Bool.false_and, Bool.and_false, Bool.or_false]
theorem good_n (rows : List Row) {n : Nat} (h1 : 1 ≤ n) (h4 : n ≤ 4) (hr : ∀ r ∈ rows, r.length = n) (m : List (List Nat)) (hm : m.length = n) : ∃ v, getN (foldD rows n m) (2 ^ n - 1) = some v ∧ decide (v = 2 ^ rows.length - 1) = isGood rows m := by
  have hn : n = 1 ∨ n = 2 ∨ n = 3 ∨ n = 4 := by omega
  rcases hn with rfl | rfl | rfl | rfl
  · match m, hm with
    | [c0], _ => exact good1 rows hr c0
  · match m, hm with
    | [c0, c1], _ => exact good2 rows hr c0 c1
  · match m, hm with
    | [c0, c1, c2], _ => exact good3 rows hr c0 c1 c2
  · match m, hm with
    | [c0, c1, c2, c3], _ => exact good4 rows hr c0 c1 c2 c3
end DM

set_option Elab.async false
set_option linter.all false
set_option maxRecDepth 100000
namespace DM
open Uw70 L2
theorem markings_zero (l : List (List Nat)) : markings 0 l = [[]] := by rw [markings]
theorem markings_nil (k : Nat) : markings (k + 1) [] = [] := by rw [markings]
theorem markings_cons (k : Nat) (x : List Nat) (r : List (List Nat)) : markings (k + 1) (x :: r) = ((markings k (x :: r)).map fun m => x :: m) ++ markings (k + 1) r := by rw [markings]
theorem markings_flat (k : Nat) : ∀ l : List (List Nat), markings (k + 1) l = (List.range l.length).flatMap fun i => (markings k (l.drop i)).map fun m => l.getD i [] :: m
  | [] => by rw [markings_nil]; rfl
  | x :: r => by
    rw [markings_cons, List.length_cons, List.range_succ_eq_map, List.flatMap_cons, List.flatMap_map, markings_flat k r]
    rfl
theorem markings_mem : ∀ (k : Nat) (l m : List (List Nat)), m ∈ markings k l → m.length = k
  | 0, l, m, h => by
    rw [markings_zero] at h
    rw [List.mem_singleton.mp h]
    rfl
  | k + 1, l, m, h => by
    rw [markings_flat] at h
    obtain ⟨i, _, h⟩ := List.mem_flatMap.mp h
    obtain ⟨t, ht, rfl⟩ := List.mem_map.mp h
    rw [List.length_cons, markings_mem k _ t ht]
theorem longerM_app (ch ws : List (List Nat)) (a b : List Bg) : longerM ch ws (a ++ b) = longerM ch ws a ++ longerM ch ws b := List.flatMap_append
theorem longerM_one (ch ws : List (List Nat)) (b : Bg) : longerM ch ws [b] = extTo ch ws b (ch.length - b.2.1) := by
  unfold longerM
  rw [List.flatMap_cons, List.flatMap_nil, List.append_nil]
theorem itr_flat (ch ws : List (List Nat)) : ∀ (k : Nat) (bs : List Bg), itr (longerM ch ws) k bs = bs.flatMap fun b => itr (longerM ch ws) k [b]
  | 0, bs => by
    show bs = bs.flatMap fun b => [b]
    induction bs with
    | nil => rfl
    | cons b bs ih => rw [List.flatMap_cons, ← ih]; rfl
  | k + 1, bs => by
    show itr (longerM ch ws) k (longerM ch ws bs) = bs.flatMap fun b => itr (longerM ch ws) k (longerM ch ws [b])
    rw [itr_flat ch ws k (longerM ch ws bs)]
    show (bs.flatMap fun b => extTo ch ws b (ch.length - b.2.1)).flatMap _ = _
    rw [List.flatMap_assoc]
    apply flat_congr
    intro b _
    rw [itr_flat ch ws k (longerM ch ws [b]), longerM_one]
def proj (b : Bg) : List Nat × DN := (b.1, b.2.2)
theorem fwd (ch : List (List Nat)) (f : List Nat → List Nat) : ∀ (k : Nat) (b : Bg), (itr (longerM ch (ch.map f)) k [b]).map proj = (markings k (ch.drop b.2.1)).map fun m => (b.1 ++ m.flatten, m.foldl (fun D c => more D (f c)) b.2.2)
  | 0, b => by
    rw [markings_zero]
    show [proj b] = [(b.1 ++ [], b.2.2)]
    rw [List.append_nil]
    rfl
  | k + 1, b => by
    show (itr (longerM ch (ch.map f)) k (longerM ch (ch.map f) [b])).map proj = _
    rw [longerM_one, itr_flat, List.map_flatMap, markings_flat, List.map_flatMap, List.length_drop]
    unfold extTo
    rw [List.flatMap_map]
    apply flat_congr
    intro i hi
    have hi := List.mem_range.mp hi
    rw [fwd ch f k, List.map_map, List.drop_drop]
    have hlt : b.2.1 + i < ch.length := by omega
    have e1 : (ch.drop b.2.1).getD i [] = ch.getD (b.2.1 + i) [] := by
      rw [List.getD_eq_getElem?_getD, List.getD_eq_getElem?_getD, List.getElem?_drop]
    have e2 : (ch.map f).getD (b.2.1 + i) [] = f (ch.getD (b.2.1 + i) []) := by
      rw [List.getD_eq_getElem?_getD, List.getD_eq_getElem?_getD, List.getElem?_map, List.getElem?_eq_getElem hlt]
      rfl
    show ((markings k (ch.drop (b.2.1 + i))).map fun m => ((b.1 ++ ch.getD (b.2.1 + i) []) ++ m.flatten, m.foldl (fun D c => more D (f c)) (more b.2.2 ((ch.map f).getD (b.2.1 + i) [])))) = _
    rw [e2]
    congr 1
    funext m
    show _ = (b.1 ++ ((ch.drop b.2.1).getD i [] :: m).flatten, ((ch.drop b.2.1).getD i [] :: m).foldl (fun D c => more D (f c)) b.2.2)
    rw [e1, List.flatten_cons, List.append_assoc, List.foldl_cons]
def start0 (R : Nat) : Bg := ([], 0, [(0, 2 ^ R - 1)])
def begunTo (rows : List Row) (ch : List (List Nat)) (n k : Nat) : List Bg := itr (longerM ch (ch.map (byPlace rows n))) k [start0 rows.length]
theorem begunTo_succ (rows : List Row) (ch : List (List Nat)) (n k : Nat) : begunTo rows ch n (k + 1) = longerM ch (ch.map (byPlace rows n)) (begunTo rows ch n k) := itr_succ _ _ _
theorem begun_marks (rows : List Row) (ch : List (List Nat)) (n k : Nat) : (begunTo rows ch n k).map proj = (markings k ch).map fun m => (m.flatten, foldD rows n m) := by
  unfold begunTo
  rw [fwd ch (byPlace rows n) k (start0 rows.length)]
  rfl
def goodB (rows : List Row) (ch : List (List Nat)) (n : Nat) : List (List Nat) := ((begunTo rows ch n n).filter fun b => decide (getN b.2.2 (2 ^ n - 1) = some (2 ^ rows.length - 1))).map (·.1)
theorem filter_map' {α β : Type} (f : α → β) (p : β → Bool) : ∀ l : List α, (l.map f).filter p = (l.filter fun x => p (f x)).map f
  | [] => rfl
  | x :: l => by
    rw [List.map_cons, List.filter_cons, List.filter_cons, filter_map' f p l]
    cases p (f x) <;> rfl
theorem goodB_is (rows : List Row) (ch : List (List Nat)) {n : Nat} (h1 : 1 ≤ n) (h4 : n ≤ 4) (hr : ∀ r ∈ rows, r.length = n) : goodB rows ch n = ((markings n ch).filter (isGood rows)).map List.flatten := by
  have e : goodB rows ch n = (((begunTo rows ch n n).map proj).filter fun x => decide (getN x.2 (2 ^ n - 1) = some (2 ^ rows.length - 1))).map (·.1) := by
    unfold goodB
    rw [filter_map', List.map_map]
    rfl
  rw [e, begun_marks, filter_map', List.map_map]
  have e2 : ((markings n ch).filter fun m => decide (getN (foldD rows n m) (2 ^ n - 1) = some (2 ^ rows.length - 1))) = (markings n ch).filter (isGood rows) := by
    apply List.filter_congr
    intro m hm
    obtain ⟨v, hv, hd⟩ := good_n rows h1 h4 hr m (markings_mem n ch m hm)
    rw [hv, ← hd]
    exact decide_eq_decide.mpr ⟨fun h => Option.some.inj h, fun h => by rw [h]⟩
  rw [e2]
  rfl
theorem begun_key (rows : List Row) (ch : List (List Nat)) {n : Nat} (h1 : 1 ≤ n) (h4 : n ≤ 4) (hr : ∀ r ∈ rows, r.length = n) {b : Bg} (hb : b ∈ begunTo rows ch n n) : ∃ v, getN b.2.2 (2 ^ n - 1) = some v := by
  have h : proj b ∈ (begunTo rows ch n n).map proj := List.mem_map_of_mem hb
  rw [begun_marks] at h
  obtain ⟨m, hm, e⟩ := List.mem_map.mp h
  obtain ⟨v, hv, _⟩ := good_n rows h1 h4 hr m (markings_mem n ch m hm)
  exact ⟨v, by rw [show b.2.2 = foldD rows n m from ((Prod.mk.inj e).2).symm]; exact hv⟩
theorem byPlace_len (rows : List Row) (n : Nat) (c : List Nat) : (byPlace rows n c).length = n := by
  unfold byPlace
  rw [List.length_map, List.length_range]
theorem begun_len (rows : List Row) (ch : List (List Nat)) (n : Nat) : ∀ k, (begunTo rows ch n k).length ≤ ch.length ^ k
  | 0 => Nat.le_refl 1
  | k + 1 => by
    rw [begunTo_succ, Nat.pow_succ]
    exact Nat.le_trans (longerM_len _ _ _) (Nat.mul_le_mul_right _ (begun_len rows ch n k))
theorem begun_lens (rows : List Row) (ch : List (List Nat)) {n : Nat} (h4 : n ≤ 4) (h6 : ∀ c ∈ ch, c.length ≤ 6) : ∀ k, ∀ b ∈ begunTo rows ch n k, b.1.length ≤ 6 * k ∧ b.2.1 ≤ ch.length ∧ b.2.2.length ≤ 4 ^ k
  | 0, b, hb => by
    have hb : b ∈ [start0 rows.length] := hb
    rw [List.mem_singleton.mp hb]
    exact ⟨Nat.le_refl _, Nat.zero_le _, Nat.le_refl 1⟩
  | k + 1, b, hb => by
    rw [begunTo_succ] at hb
    obtain ⟨a, ha, hb⟩ := List.mem_flatMap.mp hb
    obtain ⟨i, hi, rfl⟩ := List.mem_map.mp hb
    obtain ⟨l1, l2, l3⟩ := begun_lens rows ch h4 h6 k a ha
    have hi := List.mem_range.mp hi
    have hlt : a.2.1 + i < ch.length := by omega
    refine ⟨?_, Nat.le_of_lt hlt, ?_⟩
    · show (a.1 ++ ch.getD (a.2.1 + i) []).length ≤ _
      rw [List.length_append, List.getD_eq_getElem?_getD, List.getElem?_eq_getElem hlt]
      have := h6 _ (List.getElem_mem hlt)
      show a.1.length + ch[a.2.1 + i].length ≤ _
      omega
    · show (more a.2.2 ((ch.map (byPlace rows n)).getD (a.2.1 + i) [])).length ≤ _
      refine Nat.le_trans (more_len _ _) ?_
      rw [Nat.pow_succ]
      refine Nat.mul_le_mul l3 ?_
      rw [List.getD_eq_getElem?_getD, List.getElem?_map, List.getElem?_eq_getElem hlt]
      show (byPlace rows n _).length ≤ 4
      rw [byPlace_len]
      exact h4
theorem begun_size (rows : List Row) (ch : List (List Nat)) {n k : Nat} (hk : k ≤ n) (hp : ch.length ^ n < 2 ^ 23) : (begunTo rows ch n k).length < 2 ^ 23 := by
  refine Nat.lt_of_le_of_lt (begun_len rows ch n k) ?_
  by_cases h : ch.length = 0
  · rw [h]
    cases k with
    | zero => decide
    | succ k => rw [Nat.pow_succ, Nat.mul_zero]; decide
  · exact Nat.lt_of_le_of_lt (Nat.pow_le_pow_right (by omega) hk) hp
end DM

set_option Elab.async false
set_option linter.all false
set_option maxRecDepth 100000
set_option maxHeartbeats 1000000
namespace DC
open PySem PySem.Spec PyProof.Rows L2 L3 L4 L5
section
variable {P : Program} {w : World} {K : PySem.W.Frag} {mg : Str → Option Value} {base : Heap} {C : Addr}
theorem star_dict (ks : List (Option Expr)) (vs : List Expr) (pos : Pos) (rest : List Expr) (env : Env) : starEach (.Dict ks vs pos :: rest) env = (false, eval (.Dict ks vs pos) env) :: starEach rest env := rfl
theorem star_lst (es : List Expr) (pos : Pos) (rest : List Expr) (env : Env) : starEach (.List es pos :: rest) env = (false, eval (.List es pos) env) :: starEach rest env := rfl
theorem star_tup (es : List Expr) (k : Nat) (pos : Pos) (rest : List Expr) (env : Env) : starEach (.Tuple es k pos :: rest) env = (false, eval (.Tuple es k pos) env) :: starEach rest env := rfl
theorem star_const (c : Const) (k : Nat) (pos : Pos) (rest : List Expr) (env : Env) : starEach (.Constant c k pos :: rest) env = (false, eval (.Constant c k pos) env) :: starEach rest env := rfl
/-! the same promises behind a def that the elaborator does not look into (a display of constants would be run by it) -/
@[irreducible] def PEW (X : Cx) (e : Expr) (t : TE) : Prop := PE X e t
@[irreducible] def PAW (X : Cx) (es : List Expr) (t : TA) : Prop := PA X es t
@[irreducible] def PSW (X : Cx) (s : Stmt) (t : TS) : Prop := PS X s t
@[irreducible] def PSsW (X : Cx) (b : List Stmt) (t : TS) : Prop := PSs X b t
theorem PSW.of {X : Cx} {s : Stmt} {t : TS} (h : PS X s t) : PSW X s t := by unfold PSW; exact h
theorem PSsW.of {X : Cx} {b : List Stmt} {t : TS} (h : PSs X b t) : PSsW X b t := by unfold PSsW; exact h
theorem pssW_cons {X : Cx} {s : Stmt} {b : List Stmt} {t u : TS} (h : PSW X s t) (r : PSsW X b u) : PSsW X (s :: b) (tSeq t u) := by
  unfold PSW at h
  unfold PSsW at r ⊢
  exact pss_cons h r
theorem paW_d {X : Cx} {p3 p4 : Pos} {k2 : Nat} {x : Expr} {te : TE} (h : PE X x te) : PAW X [.Dict [some (.Constant (.int 0) k2 p3)] [x] p4] (tCons (tDisp [(tC (.int 0), te)]) tNil) := by
  unfold PAW
  exact pa_cons (pe_disp (pps_cons pe_int h pps_nil) rfl rfl (by simp) (by simp)) pa_nil (star_dict _ _ _ _ _)
theorem paW_c {X : Cx} {p : Pos} {k : Nat} {es : List Expr} {t : TA} (h : PAW X es t) : PAW X (.Constant (.int 0) k p :: es) (tCons (tC (.int 0)) t) := by
  unfold PAW at h ⊢
  exact pa_cons pe_int h (star_const _ _ _ _ _)
theorem paW_l {X : Cx} {p : Pos} {es : List Expr} {t : TA} (h : PAW X es t) : PAW X (.List [] p :: es) (tCons (tLst tNil) t) := by
  unfold PAW at h ⊢
  exact pa_cons (pe_lst pa_nil) h (star_lst _ _ _ _)
theorem paW_t {X : Cx} {p : Pos} {k : Nat} {es : List Expr} {t : TA} (h : PAW X es t) : PAW X [.Tuple es k p] (tCons (tTup t) tNil) := by
  unfold PAW at h ⊢
  exact pa_cons (pe_tup h) pa_nil (star_tup _ _ _ _ _)
theorem peW_lst {X : Cx} {p : Pos} {es : List Expr} {t : TA} (h : PAW X es t) : PEW X (.List es p) (tLst t) := by
  unfold PAW at h
  unfold PEW
  exact pe_lst h
/-- the first begun marking's list -/
theorem peW_first {X : Cx} {p1 p2 p3 p4 p5 p6 : Pos} {k1 k2 k3 : Nat} {x : Expr} {te : TE} (h : PE X x te) : PEW X (.List [.Tuple [.List [] p1, .Constant (.int 0) k1 p2, .Dict [some (.Constant (.int 0) k2 p3)] [x] p4] k3 p5] p6)
    (tLst (tCons (tTup (tCons (tLst tNil) (tCons (tC (.int 0)) (tCons (tDisp [(tC (.int 0), te)]) tNil)))) tNil)) :=
  peW_lst (paW_t (paW_l (paW_c (paW_d h))))
theorem psW_set {X : Cx} {i : Nat} {x : Str} {e : Expr} {te : TE} {pos pos' : Pos} (hN : X.N.Nodup) (hi : X.N[i]? = some x) (hx : Loc X.env.scope x) (he : PEW X e te) (hs : swapsWith e (some (.Name x pos')) pos.line X.env = pure false) (hf : X.fn x = true ∨ X.env.scope.names.lookup x = some .local) :
    PSW X (.Assign [.Name x pos'] e pos) (tAsg te (gName i)) := by
  unfold PEW at he
  unfold PSW
  exact ps_set hN hi hx he hs hf
theorem okW {P : Program} {w : World} {K : PySem.W.Frag} {mg : Str → Option Value} {base : Heap} {x qual : Str} {st : Stmt} {f : Addr} {fd : FuncData} {N ps : List Str} {k : Nat} {sp : Sp} (F : Fun K x qual st f fd) (S : FnScope N ps (defScope st)) (len : ∀ vs H Q E, sp vs H Q E → vs.length = ps.length)
    (hbody : ∀ (cdv : Value) (A : Around) (outer : List Env) (s : Shared) (H : Hp) (vs : List V) (Q : VK) (E : XK), Room k (A.deeper (envOfC qual (defScope st) s.heap.objs.size f cdv)) → sp vs H Q E →
      ∃ t, PSsW (cxOf CX0 P w K mg base N qual (defScope st) f cdv A outer s H E).nox (defBody st) t ∧ t { nx := fun _ H' => Q .non H', rt := Q } (start N vs) H) : FnOk P w K mg base CX0 (k + 1) f fd ps sp :=
  F.ok S len fun cdv A outer s H vs Q E hr h => by
    obtain ⟨t, h1, h2⟩ := hbody cdv A outer s H vs Q E hr h
    unfold PSsW at h1
    exact ⟨t, h1, h2⟩
/-- good_markings -/
def spGoodM (K : PySem.W.Frag) : Sp := fun vs H Q _ => ∃ (ar ac : Addr) (ras cas : List Addr) (rows ch : List (List Nat)) (n : Nat), vs = [.ref ar, .ref ac, .int (n : Int)] ∧ H ar = some (.lst (ras.map V.ref)) ∧ RowsAt H ras rows ∧ H ac = some (.lst (cas.map V.ref)) ∧ RowsAt H cas ch ∧
  (∀ r ∈ rows, r.length = n) ∧ rows.length ≤ 40 ∧ 0 < rows.length ∧ 1 ≤ n ∧ n ≤ 4 ∧ ch.length ≤ 252 ∧ (∀ c ∈ ch, c.length ≤ 6) ∧ ch.length ^ n < 2 ^ 23 ∧ ∀ H' q, Same H H' → H q = none → LL H' q (DM.goodB rows ch n) → Q (.ref q) H'
theorem scGoodM : FnScope ["rows", "choices", "cubes", "by_places", "all_rows", "all_places", "begun", "cube", "choice", "marking", "last", "filled"] ["rows", "choices", "cubes"] (defScope sGoodM) := ⟨rfl, rfl, rfl, by decide +kernel, rfl, by decide +kernel, by decide +kernel⟩
theorem ones_nat (n : Nat) : ((2 ^ n : Nat) : Int) - 1 = ((2 ^ n - 1 : Nat) : Int) := by
  have := Nat.two_pow_pos n
  omega
theorem ok_goodM {f : Addr} {fd : FuncData} (F : Fun K "good_markings" "good_markings" sGoodM f fd) (T : Txt K mg C) : FnOk P w K mg base CX0 3 f fd ["rows", "choices", "cubes"] (spGoodM K) := by
  obtain ⟨f1, fd1, m1, F1, b1⟩ := T.rowsBy
  have G1 : FnOk P w K mg base CX0 2 f1 fd1 ["choice", "rows"] (spRowsBy K) := ok_rowsBy F1 T
  obtain ⟨f2, fd2, m2, F2, b2⟩ := T.longerM
  have G2 : FnOk P w K mg base CX0 2 f2 fd2 ["begun", "choices", "by_places"] (spLongerM K) := ok_longerM F2 T
  refine okW F scGoodM (fun vs H Q E h => ?_) (fun cdv A outer s H vs Q E hr h => ?_)
  · obtain ⟨ar, ac, ras, cas, rows, ch, n, rfl, _⟩ := h
    rfl
  · obtain ⟨ar, ac, ras, cas, rows, ch, n, rfl, har, rr, hac, rc, hrl, h40, h0, hn1, hn4, hc252, hc6, hpow, k⟩ := h
    have hu := hu_of hr
    have N : List Str := ["rows", "choices", "cubes", "by_places", "all_rows", "all_places", "begun", "cube", "choice", "marking", "last", "filled"]
    refine ⟨_, pssW_cons (PSW.of (ps_setLc (i := 3) (own := [("choice", 8)]) (te := tCall (spRowsBy K) [] E0 (tCons (tVar 8) (tCons (tVar 0) tNil))) rfl scGoodM.nd rfl rfl (sw_true rfl rfl rfl rfl) (pi_list (pv 1)) (blkOk_by (N := ["rows", "choices", "cubes", "by_places", "all_rows", "all_places", "begun", "cube", "choice", "marking", "last", "filled"]) (sc := defScope sGoodM) (by decide +kernel)) (fun _ _ _ _ _ => pg_name (i := 8) scGoodM.nd rfl (Or.inl rfl))
        (fun _ _ _ _ _ => pts_nil) (fun _ _ _ _ _ => pe_call G1 hr (by rfl) m1 F1.kp b1 .nil pass0 (pa_cons (pv 8) (pa_cons (pv 0) pa_nil)))))
      (pssW_cons (PSW.of (ps_set (i := 4) scGoodM.nd rfl (Or.inr rfl) (pe_op op_sub (pe_op op_shl pe_int (pe_callB call_len_seq (by rfl) T.len PySem.boot_len (pa_cons (pv 0) pa_nil))) pe_int)))
      (pssW_cons (PSW.of (ps_set (i := 5) scGoodM.nd rfl (Or.inr rfl) (pe_op op_sub (pe_op op_shl pe_int (pv 2)) pe_int)))
      (pssW_cons (psW_set (i := 6) scGoodM.nd rfl (Or.inl rfl) (peW_first (pv 4)) rfl (.inl rfl))
      (pssW_cons (PSW.of (ps_for PassesOwn.never rfl (pi_range1 (by rfl) T.range (pa_cons (pv 2) pa_nil)) (pg_name (i := 7) scGoodM.nd rfl (Or.inl rfl))
        (pss_one (ps_set (i := 6) scGoodM.nd rfl (Or.inl rfl) (pe_call G2 hr (by rfl) m2 F2.kp b2 .nil pass0 (pa_cons (pv 6) (pa_cons (pv 1) (pa_cons (pv 3) pa_nil))))))))
      (PSsW.of (pss_one (ps_ret (pe_lc (own := [("marking", 9), ("last", 10), ("filled", 11)]) (g := gTup K 3 (gCons (gName 9) (gCons (gName 10) (gCons (gName 11) gNil)))) rfl scGoodM.nd (pi_list (pv 6)) (blkOk_by (N := ["rows", "choices", "cubes", "by_places", "all_rows", "all_places", "begun", "cube", "choice", "marking", "last", "filled"]) (sc := defScope sGoodM) (by decide +kernel))
        (fun _ _ _ _ _ => pg_tup rfl (pgs_cons (pg_name (i := 9) scGoodM.nd rfl (Or.inl rfl)) (pgs_cons (pg_name (i := 10) scGoodM.nd rfl (Or.inl rfl)) (pgs_cons (pg_name (i := 11) scGoodM.nd rfl (Or.inl rfl)) pgs_nil))))
        (fun _ _ _ _ _ => pts_one (pt_cmpR op_eq (pe_dget hu (pv 11) (pv 5) (fun _ _ => rfl)) (pv 4) (nomark _))) (fun _ _ _ _ _ => pv 9))))))))), ?_⟩
    have sl : sizeLine = 16777216 := rfl
    refine ⟨_, rfl, ac, rfl, ⟨_, SqL.of hac⟩, fun aw haw => lc_list (xs := cas.map V.ref) (Pv := fun i H' => Same H H' ∧ LL H' aw ((ch.take i).map (DM.byPlace rows n))) ⟨Same.new haw, [], upd_same, trivial⟩
      (fun i H' _ ⟨s', _⟩ => SqL.of (s' _ _ hac)) (fun i x H1 hx ⟨s1, was1, e1, r1⟩ => ?_) (fun H1 ⟨s1, hL⟩ => ?_)⟩
    · obtain ⟨b, hb, rfl⟩ := ref_get hx
      obtain ⟨c, hc, hbH⟩ := rc.get hb
      refine ⟨rfl, yes_if ⟨_, rfl, _, rfl, b, ar, ras, c, n, rows, rfl, s1 _ _ hbH, s1 _ _ har, rr.same s1, hrl, h40, h0, hn4, fun H2 q2 s2 hq2 e2 => ⟨_, s2 _ _ e1, ?_, Same.put haw (s1.trans s2), was1 ++ [q2], by rw [upd_same, List.map_append]; rfl, ?_⟩⟩⟩
      · rw [List.length_map, r1.len, List.length_map, List.length_take]
        omega
      · rw [take_snoc hc, List.map_append]
        exact LL.push (s2 _ _ e1) (r1.same s2) e2 (fun z => by rw [z, e1] at hq2; cases hq2)
    rw [List.length_map, rc.len, List.take_length] at hL
    obtain ⟨was, ew, rw1⟩ := hL
    have hN : (((ras.map V.ref).length : Nat) : Int) = ((rows.length : Nat) : Int) := by rw [List.length_map, rr.len]
    refine ⟨_, rfl, ar, _, rfl, .inl (SqL.of (s1 _ _ har)), _, _, rfl, rfl, ⟨by omega, by omega, by decide⟩, _, _, rfl, rfl, ?_⟩
    refine ⟨_, rfl, _, _, rfl, rfl, ⟨by omega, by omega, by decide⟩, _, _, rfl, rfl, ?_⟩
    dsimp only [gName]
    rw [hN, shl_nat, shl_nat, ones_nat, ones_nat]
    refine ⟨Nat.zero_le _, fun q0 hq0 => fun pd hpd => ⟨_, rfl, upd_same, [(Sum.inl 0, V.int ((2 ^ rows.length - 1 : Nat) : Int))], rfl, by simp, (by show 3 ≤ sizeLine; decide), fun qt hqt => ⟨(by show 1 ≤ sizeLine; decide), fun pb hpb => ?_⟩⟩⟩
    have s2 := Same.new (o := .lst []) hq0
    have s3 := Same.new (o := .dK []) hpd
    have s23 : Same H1 (upd (upd (upd H1 q0 (.lst [])) pd (.dK [])) pd (.dK (mergeK [] [(Sum.inl 0, V.int ((2 ^ rows.length - 1 : Nat) : Int))]))) := Same.put (s2.free hpd) (s2.trans s3)
    have s5 := Same.new (o := .tup [V.ref q0, V.int 0, V.ref pd]) hqt
    have s6 := Same.new (o := .lst [V.ref qt]) hpb
    have hq0d : q0 ≠ pd := fun z => by rw [← z, upd_same] at hpd; cases hpd
    have o1 : OneAt (upd (upd (upd (upd (upd H1 q0 (.lst [])) pd (.dK [])) pd (.dK (mergeK [] [(Sum.inl 0, V.int ((2 ^ rows.length - 1 : Nat) : Int))]))) qt (.tup [V.ref q0, V.int 0, V.ref pd])) pb (.lst [V.ref qt])) qt (DM.start0 rows.length) :=
      ⟨q0, pd, s6 _ _ upd_same, s6 _ _ (s5 _ _ (by rw [upd_ne hq0d, upd_ne hq0d, upd_same]; rfl)), s6 _ _ (s5 _ _ (by rw [upd_same]; rfl))⟩
    refine ⟨_, rfl, _, rfl, ?_, ?_, for_range (fun i σ H' => ∃ (v7 : Option V) (pb : Addr) (as : List Addr), σ = [some (.ref ar), some (.ref ac), some (.int (n : Int)), some (.ref aw), some (.int ((2 ^ rows.length - 1 : Nat) : Int)), some (.int ((2 ^ n - 1 : Nat) : Int)), some (.ref pb), v7, none, none, none, none] ∧ Same H1 H' ∧ H' pb = some (.lst (as.map V.ref)) ∧ BgAt H' as (DM.begunTo rows ch n i))
      ⟨none, pb, [qt], rfl, (s23.trans s5).trans s6, upd_same, o1, trivial⟩ ?_ ?_⟩
    · omega
    · omega
    · rintro i σ H2 hi ⟨v7, pb, as, rfl, s7, e7, r7⟩
      rw [Int.toNat_natCast] at hi
      have s17 := s1.trans s7
      have bl := DM.begun_lens rows ch hn4 hc6 i
      refine ⟨_, rfl, _, rfl, _, rfl, pb, ac, aw, as, cas, was, _, ch, _, rfl, e7, r7, s17 _ _ hac, rc.same s17, s7 _ _ ew, rw1.same s7, List.length_map _, fun x hx => ?_, hc6, hc252, fun b hb => ?_, ?_, fun H3 q3 as3 s8 hq3 e8 r8 => ?_⟩
      · obtain ⟨c, _, rfl⟩ := List.mem_map.mp hx
        rw [DM.byPlace_len]
        exact hn4
      · obtain ⟨l1, l2, l3⟩ := bl b hb
        have h3 : 4 ^ i ≤ 4 ^ 4 := Nat.pow_le_pow_right (by decide) (by omega)
        exact ⟨by omega, by omega, Nat.le_trans l3 (Nat.le_trans h3 (by decide))⟩
      · rw [← DM.begunTo_succ]
        exact Nat.lt_trans (DM.begun_size rows ch (by omega) hpow) (by decide)
      · refine ⟨_, q3, as3, rfl, s7.trans s8, e8, ?_⟩
        rw [DM.begunTo_succ]
        exact r8
    · rintro σ H2 ⟨v7, pb, as, rfl, s7, e7, r7⟩
      rw [Int.toNat_natCast] at r7
      have s17 := s1.trans s7
      have bz := DM.begun_size rows ch (k := n) (Nat.le_refl n) hpow
      have bk := fun b hb => DM.begun_key rows ch hn1 hn4 hrl (b := b) hb
      unfold DM.goodB at k
      generalize DM.begunTo rows ch n n = bs at r7 k bz bk
      refine ⟨_, rfl, pb, rfl, ⟨_, SqL.of e7⟩, fun q hq => lc_list (xs := as.map V.ref) (Pv := fun i H' => Same H2 H' ∧ LL H' q (((bs.take i).filter fun b => decide (DM.getN b.2.2 (2 ^ n - 1) = some (2 ^ rows.length - 1))).map (·.1))) ⟨Same.new hq, [], upd_same, trivial⟩
        (fun i H' _ ⟨s', _⟩ => SqL.of (s' _ _ e7)) (fun i x H3 hx ⟨s8, qas, e8, r8⟩ => ?_) (fun H3 ⟨s8, hL⟩ => ?_)⟩
      · obtain ⟨t, ht, rfl⟩ := ref_get hx
        obtain ⟨b, hb, am, ad, e9, e10, e11⟩ := r7.get ht
        obtain ⟨v, hv⟩ := bk b (List.mem_of_getElem? hb)
        refine ⟨t, _, rfl, SqT.of (s8 _ _ e9), rfl, _, _, rfl, _, _, rfl, _, _, rfl, rfl, rfl, ?_⟩
        refine ⟨_, rfl, _, rfl, ad, V.int (v : Int), rfl, .inl ⟨_, Sum.inl ((2 ^ n - 1 : Nat) : Int), .inl (s8 _ _ e11), rfl, by rw [DM.valV_kvN, hv]; rfl⟩, _, rfl, rfl, _, rfl, ?_⟩
        rw [take_snoc hb, List.filter_append, List.map_append, List.filter_cons, hv]
        by_cases hz : v = 2 ^ rows.length - 1
        · rw [decide_eq_true (by rw [hz]), decide_eq_true (by rw [hz])]
          refine iteT ⟨_, rfl, _, e8, ?_, Same.put hq s8, qas ++ [am], by rw [upd_same, List.map_append]; rfl, ?_⟩
          · rw [List.length_map, r8.len, List.length_map]
            refine Nat.lt_of_le_of_lt (List.length_filter_le _ _) ?_
            rw [List.length_take]
            omega
          · rw [if_pos rfl]
            exact LL.push e8 r8 (s8 _ _ e10) (ne_of_none e10 hq)
        · rw [decide_eq_false (p := (some v = some (2 ^ rows.length - 1))) (fun z => hz (Option.some.inj z)), decide_eq_false (p := (V.int (v : Int) = V.int ((2 ^ rows.length - 1 : Nat) : Int))) (fun z => hz (by have := V.int.inj z; omega))]
          refine iteF ⟨s8, qas, e8, ?_⟩
          rw [if_neg (by decide)]
          show RowsAt H3 qas (_ ++ [])
          rw [List.append_nil]
          exact r8
      · rw [List.length_map, r7.len, List.take_length] at hL
        exact k H3 q (s17.trans s8) (s17.free hq) hL
end
end DC

set_option Elab.async false
set_option linter.all false
set_option maxRecDepth 100000
set_option maxHeartbeats 1000000
namespace DM
open Uw70
theorem goodB_len6 (rows : List Row) (ch : List (List Nat)) {n : Nat} (h4 : n ≤ 4) (h6 : ∀ c ∈ ch, c.length ≤ 6) {x : List Nat} (hx : x ∈ goodB rows ch n) : x.length ≤ 24 := by
  unfold goodB at hx
  obtain ⟨b, hb, rfl⟩ := List.mem_map.mp hx
  have := (begun_lens rows ch h4 h6 n b (List.mem_filter.mp hb).1).1
  omega
theorem many_le {n f : Nat} {l : List Row} (hn : n ≤ 4) (hf : f ≤ 6) (h : tooMany n f l = false) : (cubesOf f l).length ^ n < 2 ^ 23 := by
  rw [tooMany_count n f l hn hf] at h
  have h := of_decide_eq_false h
  have := cubesOf_le f hf l
  rw [count_how n (by omega) _ (by omega)] at h
  exact pow_le n (by omega) _ (by omega) (by omega)
end DM
namespace DC
open PySem PySem.Spec PyProof.Rows L2 L3 L4 L5
theorem dec_gt (a : Nat) : decide ((32000 : Int) < (a : Int)) = decide (32000 < a) := decide_eq_decide.mpr (by omega)
section
variable {P : Program} {w : World} {K : PySem.W.Frag} {mg : Str → Option Value} {base : Heap} {C : Addr}
theorem scWaysM : FnScope ["self", "choices", "good"] ["self"] (defScope sWaysM) := ⟨rfl, rfl, rfl, by decide +kernel, rfl, by decide +kernel, by decide +kernel⟩
theorem ok_waysM {f : Addr} {fd : FuncData} (F : Fun K "ways" "Desk.ways" sWaysM f fd) (T : Txt K mg C) : FnOk P w K mg base CX0 4 f fd ["self"] (spCall C .ways) := by
  obtain ⟨f1, fd1, m1, F1, b1⟩ := T.choicesFor
  have G1 : FnOk P w K mg base CX0 3 f1 fd1 ["rows", "faces"] (spChoicesFor K) := ok_choicesFor F1 T
  obtain ⟨f2, fd2, m2, F2, b2⟩ := T.countM
  have G2 : FnOk P w K mg base CX0 1 f2 fd2 ["choices", "cubes"] (spCountM K) := ok_countM F2 T
  obtain ⟨f3, fd3, m3, F3, b3⟩ := T.goodM
  have G3 : FnOk P w K mg base CX0 3 f3 fd3 ["rows", "choices", "cubes"] (spGoodM K) := ok_goodM F3 T
  obtain ⟨t1, mg1⟩ := T.nothing
  obtain ⟨t2, mg2⟩ := T.tooMany
  obtain ⟨t3, mg3⟩ := T.mostMarkings
  refine F.ok scWaysM (fun vs H Q E h => ?_) (fun cdv A outer s H vs Q E hr h => ?_)
  · obtain ⟨p, d, dx, lc, lw, cas, was, rfl, _⟩ := h
    rfl
  · obtain ⟨p, d, dx, lc, lw, cas, was, rfl, D, k⟩ := h
    refine ⟨_, pss_cons (ps_if (pt_cmpR op_eq (pe_callB call_len_seq (by rfl) T.len PySem.boot_len (pa_cons (pe_fld (pv 0) rfl) pa_nil)) pe_int (nomark _)) (pss_one (ps_ret (pe_lst (pa_cons (pe_glob (v := .int (-3)) (by rfl) mg1 ⟨_, rfl⟩) pa_nil)))) pss_nil)
      (pss_cons (ps_set (i := 1) scWaysM.nd rfl (Or.inl rfl) (pe_call G1 hr (by rfl) m1 F1.kp b1 .nil pass0 (pa_cons (pe_fld (pv 0) rfl) (pa_cons (pe_fld (pv 0) rfl) pa_nil))))
      (pss_cons (ps_if (pt_cmpR op_gt (pe_call G2 (hr.mono (by decide)) (by rfl) m2 F2.kp b2 .nil pass0 (pa_cons (pv 1) (pa_cons (pe_callB call_len_seq (by rfl) T.len PySem.boot_len (pa_cons (pe_fld (pv 0) rfl) pa_nil)) pa_nil))) (pe_glob (v := .int 32000) (by rfl) mg3 ⟨_, rfl⟩) (nomark _)) (pss_one (ps_ret (pe_lst (pa_cons (pe_glob (v := .int (-7)) (by rfl) mg2 ⟨_, rfl⟩) pa_nil)))) pss_nil)
      (pss_cons (ps_set (i := 2) scWaysM.nd rfl (Or.inl rfl) (pe_call G3 hr (by rfl) m3 F3.kp b3 .nil pass0 (pa_cons (pe_fld (pv 0) rfl) (pa_cons (pv 1) (pa_cons (pe_callB call_len_seq (by rfl) T.len PySem.boot_len (pa_cons (pe_fld (pv 0) rfl) pa_nil)) pa_nil)))))
      (pss_cons (ps_if (pt_cmpR op_eq (pe_callB call_len_seq (by rfl) T.len PySem.boot_len (pa_cons (pv 2) pa_nil)) pe_int (nomark _)) (pss_one (ps_ret (pe_lst (pa_cons pe_int pa_nil)))) pss_nil)
      (pss_one (ps_ret (pe_op op_cat (pe_lst (pa_cons (pe_callB call_len_seq (by rfl) T.len PySem.boot_len (pa_cons (pv 2) pa_nil)) pa_nil)) (pe_ix ix_list (pv 2) pe_int (fun _ _ => rfl))))))))), ?_⟩
    have one : (1 : Nat) ≤ sizeLine := by decide
    have sl : sizeLine = 16777216 := rfl
    have c4 := D.ok.c4
    have f6 := D.ok.f6
    have hcl : (((cas.map V.ref).length : Nat) : Int) = ((d.cubes.length : Nat) : Int) := by rw [List.length_map, D.rcu.len]
    simp only [Uw70.step, Uw70.onWanted] at k
    refine ⟨_, rfl, p, C, dx, _, _, rfl, D.obj, T.cl, T.nWanted, rfl, lw, _, rfl, .inl (SqL.of D.wan), rfl, _, rfl, ?_⟩
    rw [List.length_map, D.rwa.len]
    by_cases hw : d.wanted.length = 0
    · rw [decide_eq_true (by rw [hw]; rfl)]
      rw [if_pos (by rw [List.length_eq_zero_iff.mp hw]; rfl)] at k
      exact iteT ⟨one, fun r hr => k.still D (Same.refl H) hr rfl⟩
    rw [decide_eq_false (fun z => hw (by have := V.int.inj z; omega))]
    rw [if_neg (fun z => hw (by rw [List.isEmpty_iff.mp z]; rfl))] at k
    refine iteF ⟨_, rfl, p, C, dx, _, _, rfl, D.obj, T.cl, T.nWanted, rfl, _, rfl, p, C, dx, _, _, rfl, D.obj, T.cl, T.nFaces, rfl, lw, was, d.wanted, d.faces, rfl, D.wan, D.rwa, D.ok.w40, f6, fun H1 q1 s1 hq1 ⟨chs, e1, r1⟩ => ?_⟩
    have c252 := DM.cubesOf_le d.faces f6 d.wanted
    refine ⟨_, rfl, _, rfl, p, C, dx, _, _, rfl, s1 _ _ D.obj, T.cl, T.nCubes, rfl, lc, _, rfl, .inl (SqL.of (s1 _ _ D.cub)), q1, _, d.cubes.length, by rw [hcl]; rfl, e1, by rw [List.length_map, r1.len]; exact c252, c4, _, _, rfl, rfl, _, rfl, ?_⟩
    rw [List.length_map, r1.len, dec_gt, ← DM.tooMany_count _ _ _ c4 f6]
    cases htm : Uw70.tooMany d.cubes.length d.faces d.wanted with
    | true =>
      rw [htm, if_pos rfl] at k
      exact iteT ⟨one, fun r hr => k.still D s1 hr rfl⟩
    | false =>
      rw [htm, if_neg (by decide)] at k
      refine iteF ⟨_, rfl, p, C, dx, _, _, rfl, s1 _ _ D.obj, T.cl, T.nWanted, rfl, _, rfl, _, rfl, p, C, dx, _, _, rfl, s1 _ _ D.obj, T.cl, T.nCubes, rfl, lc, _, rfl, .inl (SqL.of (s1 _ _ D.cub)), lw, q1, was, chs, d.wanted, _, d.cubes.length, by rw [hcl]; rfl, s1 _ _ D.wan, D.rwa.same s1, e1, r1, D.ok.wl, D.ok.w40, by omega, D.ok.c1, c4, c252,
        fun c hc => DM.cubesOf_mem d.faces f6 d.wanted hc, DM.many_le c4 f6 htm, fun H2 q2 s2 hq2 ⟨gs, e2, r2⟩ => ?_⟩
      have s12 := s1.trans s2
      have hl24 := fun x (hx : x ∈ DM.goodB d.wanted (Uw70.cubesOf d.faces d.wanted) d.cubes.length) => DM.goodB_len6 d.wanted _ c4 (fun c hc => DM.cubesOf_mem d.faces f6 d.wanted hc) hx
      rw [DM.goodB_is d.wanted _ D.ok.c1 c4 D.ok.wl] at r2 hl24
      unfold Uw70.good at k
      generalize (Uw70.markings d.cubes.length (Uw70.cubesOf d.faces d.wanted)).filter (Uw70.isGood d.wanted) = L at k r2 hl24
      have hgl := r2.len
      rw [List.length_map] at hgl
      refine ⟨_, rfl, q2, _, rfl, .inl (SqL.of e2), rfl, _, rfl, ?_⟩
      rw [List.length_map, hgl]
      cases L with
      | nil => exact iteT ⟨one, fun r hr => k.still D s12 hr rfl⟩
      | cons m0 L =>
        obtain ⟨a0, ha0, hw0⟩ := r2.get' (i := 0) (l := m0.flatten) rfl
        have h24 := hl24 m0.flatten (List.mem_map_of_mem (List.mem_cons_self ..))
        rw [decide_eq_false (by intro z; have := V.int.inj z; rw [List.length_cons] at this; omega)]
        refine iteF ⟨_, rfl, q2, _, rfl, .inl (SqL.of e2), one, fun q4 hq4 => ?_⟩
        have s4 := Same.new (o := .lst [V.int (((gs.map V.ref).length : Nat) : Int)]) hq4
        refine ⟨_, rfl, q2, _, _, _, rfl, rfl, SqL.of (s4 _ _ e2), atI_nat (j := 0) (ref_at ha0), q4, a0, _, _, rfl, rfl, upd_same, s4 _ _ hw0, ?_, fun r hr => ?_⟩
        · rw [vN_len]
          show 1 + m0.flatten.length ≤ sizeLine
          omega
        · refine k.still D (s12.trans s4) hr ?_
          rw [List.length_map, hgl]
          show V.int _ :: vN m0.flatten = V.int _ :: (Uw70.ints m0.flatten).map V.int
          rw [vN_ints]
          rfl
end
end DC

set_option Elab.async false
set_option linter.all false
set_option maxRecDepth 100000
set_option maxHeartbeats 1000000
namespace DC
open PySem PySem.Spec PyProof.Rows L2 L3 L4 L5
def fewAns (x : Option (Nat × List (List Nat))) : List Int := match x with
  | none => [-7]
  | some x => if x.1 = 0 then [-6] else (x.1 : Int) :: Uw70.ints x.2.flatten
theorem few_step (n : Nat) (l : List Uw70.Row) (k f : Nat) : Uw70.fewestFrom n l (k + 1) f = if Uw70.tooMany n f l = true then none else match (Uw70.good n f l).head? with
    | some m => some (f, m)
    | none => Uw70.fewestFrom n l k (f + 1) := by
  unfold Uw70.good
  rw [List.head?_filter]
  rfl
section
variable {P : Program} {w : World} {K : PySem.W.Frag} {mg : Str → Option Value} {base : Heap} {C : Addr}
theorem scFewest : FnScope ["self", "faces", "choices", "good"] ["self"] (defScope sFewest) := ⟨rfl, rfl, rfl, by decide +kernel, rfl, by decide +kernel, by decide +kernel⟩
theorem ok_fewest {f : Addr} {fd : FuncData} (F : Fun K "fewest" "Desk.fewest" sFewest f fd) (T : Txt K mg C) : FnOk P w K mg base CX0 4 f fd ["self"] (spCall C .fewest) := by
  obtain ⟨f1, fd1, m1, F1, b1⟩ := T.choicesFor
  have G1 : FnOk P w K mg base CX0 3 f1 fd1 ["rows", "faces"] (spChoicesFor K) := ok_choicesFor F1 T
  obtain ⟨f2, fd2, m2, F2, b2⟩ := T.countM
  have G2 : FnOk P w K mg base CX0 1 f2 fd2 ["choices", "cubes"] (spCountM K) := ok_countM F2 T
  obtain ⟨f3, fd3, m3, F3, b3⟩ := T.goodM
  have G3 : FnOk P w K mg base CX0 3 f3 fd3 ["rows", "choices", "cubes"] (spGoodM K) := ok_goodM F3 T
  obtain ⟨t1, mg1⟩ := T.nothing
  obtain ⟨t2, mg2⟩ := T.tooMany
  obtain ⟨t3, mg3⟩ := T.mostMarkings
  obtain ⟨t4, mg4⟩ := T.mostFaces
  obtain ⟨t5, mg5⟩ := T.noGood
  refine F.ok scFewest (fun vs H Q E h => ?_) (fun cdv A outer s H vs Q E hr h => ?_)
  · obtain ⟨p, d, dx, lc, lw, cas, was, rfl, _⟩ := h
    rfl
  · obtain ⟨p, d, dx, lc, lw, cas, was, rfl, D, k⟩ := h
    refine ⟨_, pss_cons (ps_if (pt_cmpR op_eq (pe_callB call_len_seq (by rfl) T.len PySem.boot_len (pa_cons (pe_fld (pv 0) rfl) pa_nil)) pe_int (nomark _)) (pss_one (ps_ret (pe_lst (pa_cons (pe_glob (v := .int (-3)) (by rfl) mg1 ⟨_, rfl⟩) pa_nil)))) pss_nil)
      (pss_cons (ps_for PassesOwn.never rfl (pi_range2 (by rfl) T.range (pa_cons pe_int (pa_cons (pe_op op_add (pe_glob (v := .int 6) (by rfl) mg4 ⟨_, rfl⟩) pe_int) pa_nil))) (pg_name (i := 1) scFewest.nd rfl (Or.inl rfl))
        (pss_cons (ps_set (i := 2) scFewest.nd rfl (Or.inl rfl) (pe_call G1 hr (by rfl) m1 F1.kp b1 .nil pass0 (pa_cons (pe_fld (pv 0) rfl) (pa_cons (pv 1) pa_nil))))
        (pss_cons (ps_if (pt_cmpR op_gt (pe_call G2 (hr.mono (by decide)) (by rfl) m2 F2.kp b2 .nil pass0 (pa_cons (pv 2) (pa_cons (pe_callB call_len_seq (by rfl) T.len PySem.boot_len (pa_cons (pe_fld (pv 0) rfl) pa_nil)) pa_nil))) (pe_glob (v := .int 32000) (by rfl) mg3 ⟨_, rfl⟩) (nomark _)) (pss_one (ps_ret (pe_lst (pa_cons (pe_glob (v := .int (-7)) (by rfl) mg2 ⟨_, rfl⟩) pa_nil)))) pss_nil)
        (pss_cons (ps_set (i := 3) scFewest.nd rfl (Or.inl rfl) (pe_call G3 hr (by rfl) m3 F3.kp b3 .nil pass0 (pa_cons (pe_fld (pv 0) rfl) (pa_cons (pv 2) (pa_cons (pe_callB call_len_seq (by rfl) T.len PySem.boot_len (pa_cons (pe_fld (pv 0) rfl) pa_nil)) pa_nil)))))
        (pss_one (ps_if (pt_cmpR op_gt (pe_callB call_len_seq (by rfl) T.len PySem.boot_len (pa_cons (pv 3) pa_nil)) pe_int (nomark _))
          (pss_one (ps_ret (pe_op op_cat (pe_lst (pa_cons (pv 1) pa_nil)) (pe_ix ix_list (pv 3) pe_int (fun _ _ => rfl))))) pss_nil))))))
      (pss_one (ps_ret (pe_lst (pa_cons (pe_glob (v := .int (-6)) (by rfl) mg5 ⟨_, rfl⟩) pa_nil))))), ?_⟩
    have one : (1 : Nat) ≤ sizeLine := by decide
    have sl : sizeLine = 16777216 := rfl
    have c4 := D.ok.c4
    have hcl : (((cas.map V.ref).length : Nat) : Int) = ((d.cubes.length : Nat) : Int) := by rw [List.length_map, D.rcu.len]
    have k : After C H p dx (foot p lc lw cas was) d (if d.wanted.isEmpty = true then [-3] else fewAns (Uw70.fewest d.cubes.length d.wanted)) Q := k
    refine ⟨_, rfl, p, C, dx, _, _, rfl, D.obj, T.cl, T.nWanted, rfl, lw, _, rfl, .inl (SqL.of D.wan), rfl, _, rfl, ?_⟩
    rw [List.length_map, D.rwa.len]
    by_cases hw : d.wanted.length = 0
    · rw [decide_eq_true (by rw [hw]; rfl)]
      rw [if_pos (by rw [List.length_eq_zero_iff.mp hw]; rfl)] at k
      exact iteT ⟨one, fun r hr => k.still D (Same.refl H) hr rfl⟩
    rw [decide_eq_false (fun z => hw (by have := V.int.inj z; omega))]
    rw [if_neg (fun z => hw (by rw [List.isEmpty_iff.mp z]; rfl))] at k
    refine iteF ⟨_, _, rfl, rfl, _, _, rfl, by decide, for_range (fun i σ H' => ∃ v1 v2 v3 : Option V, σ = [some (.ref p), v1, v2, v3] ∧ Same H H' ∧ Uw70.fewest d.cubes.length d.wanted = Uw70.fewestFrom d.cubes.length d.wanted (6 - i) (1 + i)) ⟨none, none, none, rfl, Same.refl H, rfl⟩ ?_ ?_⟩
    · rintro i σ H0 hi ⟨v1, v2, v3, rfl, s0, hfew⟩
      have hi : i < 6 := hi
      rw [show (1 : Int) + (i : Int) = ((1 + i : Nat) : Int) by omega]
      rw [show 6 - i = (5 - i) + 1 by omega, few_step] at hfew
      have f6 : 1 + i ≤ 6 := by omega
      refine ⟨_, rfl, p, C, dx, _, _, rfl, s0 _ _ D.obj, T.cl, T.nWanted, rfl, _, rfl, lw, was, d.wanted, 1 + i, rfl, s0 _ _ D.wan, D.rwa.same s0, D.ok.w40, f6, fun H1 q1 s1' hq1 ⟨chs, e1, r1⟩ => ?_⟩
      have s1 := s0.trans s1'
      have c252 := DM.cubesOf_le (1 + i) f6 d.wanted
      refine ⟨_, rfl, _, rfl, p, C, dx, _, _, rfl, s1 _ _ D.obj, T.cl, T.nCubes, rfl, lc, _, rfl, .inl (SqL.of (s1 _ _ D.cub)), q1, _, d.cubes.length, by rw [hcl]; rfl, e1, by rw [List.length_map, r1.len]; exact c252, c4, _, _, rfl, rfl, _, rfl, ?_⟩
      rw [List.length_map, r1.len, dec_gt, ← DM.tooMany_count _ _ _ c4 f6]
      cases htm : Uw70.tooMany d.cubes.length (1 + i) d.wanted with
      | true =>
        rw [htm, if_pos rfl] at hfew
        rw [hfew] at k
        exact iteT ⟨one, fun r hr => k.still D s1 hr rfl⟩
      | false =>
        rw [htm, if_neg (by decide)] at hfew
        refine iteF ⟨_, rfl, p, C, dx, _, _, rfl, s1 _ _ D.obj, T.cl, T.nWanted, rfl, _, rfl, _, rfl, p, C, dx, _, _, rfl, s1 _ _ D.obj, T.cl, T.nCubes, rfl, lc, _, rfl, .inl (SqL.of (s1 _ _ D.cub)), lw, q1, was, chs, d.wanted, _, d.cubes.length, by rw [hcl]; rfl, s1 _ _ D.wan, D.rwa.same s1, e1, r1, D.ok.wl, D.ok.w40, by omega, D.ok.c1, c4, c252,
          fun c hc => DM.cubesOf_mem (1 + i) f6 d.wanted hc, DM.many_le c4 f6 htm, fun H2 q2 s2 hq2 ⟨gs, e2, r2⟩ => ?_⟩
        have s12 := s1.trans s2
        have hl24 := fun x (hx : x ∈ DM.goodB d.wanted (Uw70.cubesOf (1 + i) d.wanted) d.cubes.length) => DM.goodB_len6 d.wanted _ c4 (fun c hc => DM.cubesOf_mem (1 + i) f6 d.wanted hc) hx
        rw [DM.goodB_is d.wanted _ D.ok.c1 c4 D.ok.wl] at r2 hl24
        unfold Uw70.good at hfew
        generalize (Uw70.markings d.cubes.length (Uw70.cubesOf (1 + i) d.wanted)).filter (Uw70.isGood d.wanted) = L at hfew r2 hl24
        have hgl := r2.len
        rw [List.length_map] at hgl
        refine ⟨_, rfl, q2, _, rfl, .inl (SqL.of e2), _, _, rfl, rfl, _, rfl, ?_⟩
        rw [List.length_map, hgl]
        cases L with
        | nil =>
          refine iteF ⟨_, _, _, rfl, s12, ?_⟩
          rw [show 6 - (i + 1) = 5 - i by omega, show 1 + (i + 1) = 1 + i + 1 by omega]
          exact hfew
        | cons m0 L =>
          have hfew : Uw70.fewest d.cubes.length d.wanted = some (1 + i, m0) := hfew
          rw [hfew] at k
          have k : After C H p dx (foot p lc lw cas was) d (if 1 + i = 0 then [-6] else ((1 + i : Nat) : Int) :: Uw70.ints m0.flatten) Q := k
          rw [if_neg (by omega)] at k
          obtain ⟨a0, ha0, hw0⟩ := r2.get' (i := 0) (l := m0.flatten) rfl
          have h24 := hl24 m0.flatten (List.mem_map_of_mem (List.mem_cons_self ..))
          rw [decide_eq_true (by rw [List.length_cons]; omega)]
          refine iteT ⟨_, rfl, one, fun q4 hq4 => ?_⟩
          have s4 := Same.new (o := .lst [V.int ((1 + i : Nat) : Int)]) hq4
          refine ⟨_, rfl, q2, _, _, _, rfl, rfl, SqL.of (s4 _ _ e2), atI_nat (j := 0) (ref_at ha0), q4, a0, _, _, rfl, rfl, upd_same, s4 _ _ hw0, ?_, fun r hr => ?_⟩
          · rw [vN_len]
            show 1 + m0.flatten.length ≤ sizeLine
            omega
          · refine k.still D (s12.trans s4) hr ?_
            show V.int _ :: vN m0.flatten = V.int _ :: (Uw70.ints m0.flatten).map V.int
            rw [vN_ints]
            rfl
    · rintro σ H1 ⟨v1, v2, v3, rfl, s1, hfew⟩
      have hfew : Uw70.fewest d.cubes.length d.wanted = some (0, []) := hfew
      rw [hfew] at k
      exact ⟨one, fun r hr => k.still D s1 hr rfl⟩
end
end DC

set_option Elab.async false
set_option linter.all false
set_option maxRecDepth 100000
set_option maxHeartbeats 2000000
namespace DC
open PySem PySem.Spec PyProof.Rows L2 L3 L4 L5
structure TxtB (K : PySem.W.Frag) (mg : Str → Option Value) (C : Addr) : Prop extends TxtA K mg C where
  n0 : ∃ t, mg "BEGINS" = some (.int 0 t)
  n1 : ∃ t, mg "WANT" = some (.int 1 t)
  n2 : ∃ t, mg "WANTS" = some (.int 2 t)
  n3 : ∃ t, mg "MARK" = some (.int 3 t)
  n4 : ∃ t, mg "SHOW" = some (.int 4 t)
  n5 : ∃ t, mg "MISSING" = some (.int 5 t)
  n6 : ∃ t, mg "IDLE" = some (.int 6 t)
  n7 : ∃ t, mg "NEED" = some (.int 7 t)
  n8 : ∃ t, mg "WAYS" = some (.int 8 t)
  mBegins : Mth K C "begins" "Desk.begins" sBegins ["self", "cubes", "faces", "turned"]
  mWant : Mth K C "want" "Desk.want" sWant ["self", "numbers"]
  mWants : Mth K C "wants" "Desk.wants" sWants ["self", "first", "last"]
  mMark : Mth K C "mark" "Desk.mark" sMark ["self", "cube", "numbers"]
  mShow : Mth K C "show" "Desk.show" sShow ["self", "numbers"]
  mMissing : Mth K C "missing" "Desk.missing" sMissing ["self"]
  mIdle : Mth K C "idle" "Desk.idle" sIdle ["self"]
  mNeed : Mth K C "need" "Desk.need" sNeed ["self"]
  mWays : Mth K C "ways" "Desk.ways" sWaysM ["self"]
  mFewest : Mth K C "fewest" "Desk.fewest" sFewest ["self"]
section
variable {P : Program} {w : World} {K : PySem.W.Frag} {mg : Str → Option Value} {base : Heap} {C : Addr}
theorem scAnswer : FnScope ["desk", "call", "numbers", "row"] ["desk", "call", "numbers", "row"] (defScope sAnswer) := ⟨rfl, rfl, rfl, by decide +kernel, rfl, by decide +kernel, by decide +kernel⟩
theorem ok_answer {f : Addr} {fd : FuncData} (F : Fun K "answer" "answer" sAnswer f fd) (T : TxtB K mg C) : FnOk P w K mg base CX0 9 f fd ["desk", "call", "numbers", "row"] (spAnswer K C) := by
  have T0 := T.toTxtA.toTxt
  obtain ⟨t0, g0⟩ := T.n0
  obtain ⟨t1, g1⟩ := T.n1
  obtain ⟨t2, g2⟩ := T.n2
  obtain ⟨t3, g3⟩ := T.n3
  obtain ⟨t4, g4⟩ := T.n4
  obtain ⟨t5, g5⟩ := T.n5
  obtain ⟨t6, g6⟩ := T.n6
  obtain ⟨t7, g7⟩ := T.n7
  obtain ⟨t8, g8⟩ := T.n8
  obtain ⟨f0, d0, m0, F0, b0⟩ := T.mBegins
  have G0 : FnOk P w K mg base CX0 1 f0 d0 ["self", "cubes", "faces", "turned"] (spBegins C) := ok_begins F0 T0
  obtain ⟨f1, d1, m1, F1, b1⟩ := T.mWant
  have G1 : FnOk P w K mg base CX0 3 f1 d1 ["self", "numbers"] (spWant K C) := ok_want F1 T0
  obtain ⟨f2, d2, m2, F2, b2⟩ := T.mWants
  have G2 : FnOk P w K mg base CX0 4 f2 d2 ["self", "first", "last"] (spWants C) := ok_wants F2 T0
  obtain ⟨f3, d3, m3, F3, b3⟩ := T.mMark
  have G3 : FnOk P w K mg base CX0 5 f3 d3 ["self", "cube", "numbers"] (spMark K C) := ok_mark F3 T0
  obtain ⟨f4, d4, m4, F4, b4⟩ := T.mShow
  have G4 : FnOk P w K mg base CX0 3 f4 d4 ["self", "numbers"] (spShow K C) := ok_show F4 T0
  obtain ⟨f5, d5, m5, F5, b5⟩ := T.mMissing
  have G5 : FnOk P w K mg base CX0 4 f5 d5 ["self"] (spCall C .missing) := ok_missing F5 T0
  obtain ⟨f6, d6, m6, F6, b6⟩ := T.mIdle
  have G6 : FnOk P w K mg base CX0 5 f6 d6 ["self"] (spCall C .idle) := ok_idle F6 T0
  obtain ⟨f7, d7, m7, F7, b7⟩ := T.mNeed
  have G7 : FnOk P w K mg base CX0 2 f7 d7 ["self"] (spCall C .need) := ok_need F7 T0
  obtain ⟨f8, d8, m8, F8, b8⟩ := T.mWays
  have G8 : FnOk P w K mg base CX0 4 f8 d8 ["self"] (spCall C .ways) := ok_waysM F8 T0
  obtain ⟨f9, d9, m9, F9, b9⟩ := T.mFewest
  have G9 : FnOk P w K mg base CX0 4 f9 d9 ["self"] (spCall C .fewest) := ok_fewest F9 T0
  refine F.ok scAnswer (fun vs H Q E h => ?_) (fun cdv A outer s H vs Q E hr h => ?_)
  · obtain ⟨p, an, ar, c, l1, l2, call, d, dx, lc, lw, cas, was, rfl, _⟩ := h
    rfl
  · obtain ⟨p, an, ar, c, l1, l2, call, d, dx, lc, lw, cas, was, rfl, D, han, har, hl2, hb, hcb, k⟩ := h
    refine ⟨_, pss_cons (ps_if (pt_cmpR op_eq (pv 1) (pe_glob (v := .int 0) (by rfl) g0 ⟨_, rfl⟩) (nomark _)) (pss_one (ps_ret (pe_meth (pv 0) T.cl m0 G0 (hr.mono (by decide)) b0 .nil pass0 (pa_cons (pe_ix ix_list (pv 2) pe_int (fun _ _ => rfl)) (pa_cons (pe_ix ix_list (pv 2) pe_int (fun _ _ => rfl)) (pa_cons (pe_ix ix_list (pv 2) pe_int (fun _ _ => rfl)) pa_nil)))))) pss_nil)
      (pss_cons (ps_if (pt_cmpR op_eq (pv 1) (pe_glob (v := .int 1) (by rfl) g1 ⟨_, rfl⟩) (nomark _)) (pss_one (ps_ret (pe_meth (pv 0) T.cl m1 G1 (hr.mono (by decide)) b1 .nil pass0 (pa_cons (pv 3) pa_nil)))) pss_nil)
      (pss_cons (ps_if (pt_cmpR op_eq (pv 1) (pe_glob (v := .int 2) (by rfl) g2 ⟨_, rfl⟩) (nomark _)) (pss_one (ps_ret (pe_meth (pv 0) T.cl m2 G2 (hr.mono (by decide)) b2 .nil pass0 (pa_cons (pe_ix ix_list (pv 2) pe_int (fun _ _ => rfl)) (pa_cons (pe_ix ix_list (pv 2) pe_int (fun _ _ => rfl)) pa_nil))))) pss_nil)
      (pss_cons (ps_if (pt_cmpR op_eq (pv 1) (pe_glob (v := .int 3) (by rfl) g3 ⟨_, rfl⟩) (nomark _)) (pss_one (ps_ret (pe_meth (pv 0) T.cl m3 G3 (hr.mono (by decide)) b3 .nil pass0 (pa_cons (pe_ix ix_list (pv 2) pe_int (fun _ _ => rfl)) (pa_cons (pv 3) pa_nil))))) pss_nil)
      (pss_cons (ps_if (pt_cmpR op_eq (pv 1) (pe_glob (v := .int 4) (by rfl) g4 ⟨_, rfl⟩) (nomark _)) (pss_one (ps_ret (pe_meth (pv 0) T.cl m4 G4 (hr.mono (by decide)) b4 .nil pass0 (pa_cons (pv 3) pa_nil)))) pss_nil)
      (pss_cons (ps_if (pt_cmpR op_eq (pv 1) (pe_glob (v := .int 5) (by rfl) g5 ⟨_, rfl⟩) (nomark _)) (pss_one (ps_ret (pe_meth0 (pv 0) T.cl m5 G5 (hr.mono (by decide)) b5 .nil pass0))) pss_nil)
      (pss_cons (ps_if (pt_cmpR op_eq (pv 1) (pe_glob (v := .int 6) (by rfl) g6 ⟨_, rfl⟩) (nomark _)) (pss_one (ps_ret (pe_meth0 (pv 0) T.cl m6 G6 (hr.mono (by decide)) b6 .nil pass0))) pss_nil)
      (pss_cons (ps_if (pt_cmpR op_eq (pv 1) (pe_glob (v := .int 7) (by rfl) g7 ⟨_, rfl⟩) (nomark _)) (pss_one (ps_ret (pe_meth0 (pv 0) T.cl m7 G7 (hr.mono (by decide)) b7 .nil pass0))) pss_nil)
      (pss_cons (ps_if (pt_cmpR op_eq (pv 1) (pe_glob (v := .int 8) (by rfl) g8 ⟨_, rfl⟩) (nomark _)) (pss_one (ps_ret (pe_meth0 (pv 0) T.cl m8 G8 (hr.mono (by decide)) b8 .nil pass0))) pss_nil)
      (pss_one (ps_ret (pe_meth0 (pv 0) T.cl m9 G9 (hr.mono (by decide)) b9 .nil pass0))))))))))), ?_⟩
    have hn : ∀ {i x : Nat}, l1[i]? = some x → atI (vN l1) (i : Int) = some (V.int (x : Int)) := fun h => atI_vN h
    unfold DM.callBy at hcb
    split at hcb
    · rename_i n f t
      cases hcb
      refine ⟨_, rfl, rfl, _, rfl, iteT ⟨_, rfl, p, dx, _, rfl, D.obj, rfl, _, rfl, an, _, _, _, rfl, rfl, SqL.of han, hn (i := 0) rfl, _, rfl, an, _, _, _, rfl, rfl, SqL.of han, hn (i := 1) rfl, _, rfl, an, _, _, _, rfl, rfl, SqL.of han, hn (i := 2) rfl, p, n, f, t, d, dx, lc, lw, cas, was, rfl, D, k⟩⟩
    · cases hcb
      refine ⟨_, rfl, rfl, _, rfl, iteF ?_⟩
      refine ⟨_, rfl, rfl, _, rfl, iteT ⟨_, rfl, p, dx, _, rfl, D.obj, rfl, _, rfl, p, ar, l2, d, dx, lc, lw, cas, was, rfl, D, SqL.of har, hl2, k⟩⟩
    · rename_i a b
      cases hcb
      refine ⟨_, rfl, rfl, _, rfl, iteF ?_⟩
      refine ⟨_, rfl, rfl, _, rfl, iteF ?_⟩
      refine ⟨_, rfl, rfl, _, rfl, iteT ⟨_, rfl, p, dx, _, rfl, D.obj, rfl, _, rfl, an, _, _, _, rfl, rfl, SqL.of han, hn (i := 0) rfl, _, rfl, an, _, _, _, rfl, rfl, SqL.of han, hn (i := 1) rfl, p, a, b, d, dx, lc, lw, cas, was, rfl, D, hb b (by simp), k⟩⟩
    · rename_i i
      cases hcb
      refine ⟨_, rfl, rfl, _, rfl, iteF ?_⟩
      refine ⟨_, rfl, rfl, _, rfl, iteF ?_⟩
      refine ⟨_, rfl, rfl, _, rfl, iteF ?_⟩
      refine ⟨_, rfl, rfl, _, rfl, iteT ⟨_, rfl, p, dx, _, rfl, D.obj, rfl, _, rfl, an, _, _, _, rfl, rfl, SqL.of han, hn (i := 0) rfl, _, rfl, p, ar, i, l2, d, dx, lc, lw, cas, was, rfl, D, SqL.of har, hl2, k⟩⟩
    · cases hcb
      refine ⟨_, rfl, rfl, _, rfl, iteF ?_⟩
      refine ⟨_, rfl, rfl, _, rfl, iteF ?_⟩
      refine ⟨_, rfl, rfl, _, rfl, iteF ?_⟩
      refine ⟨_, rfl, rfl, _, rfl, iteF ?_⟩
      refine ⟨_, rfl, rfl, _, rfl, iteT ⟨_, rfl, p, dx, _, rfl, D.obj, rfl, _, rfl, p, ar, l2, d, dx, lc, lw, cas, was, rfl, D, SqL.of har, hl2, k⟩⟩
    · cases hcb
      iterate 5 refine ⟨_, rfl, rfl, _, rfl, iteF ?_⟩
      exact ⟨_, rfl, rfl, _, rfl, iteT ⟨_, rfl, p, dx, _, rfl, D.obj, rfl, p, d, dx, lc, lw, cas, was, rfl, D, k⟩⟩
    · cases hcb
      iterate 6 refine ⟨_, rfl, rfl, _, rfl, iteF ?_⟩
      exact ⟨_, rfl, rfl, _, rfl, iteT ⟨_, rfl, p, dx, _, rfl, D.obj, rfl, p, d, dx, lc, lw, cas, was, rfl, D, k⟩⟩
    · cases hcb
      iterate 7 refine ⟨_, rfl, rfl, _, rfl, iteF ?_⟩
      exact ⟨_, rfl, rfl, _, rfl, iteT ⟨_, rfl, p, dx, _, rfl, D.obj, rfl, p, d, dx, lc, lw, cas, was, rfl, D, k⟩⟩
    · cases hcb
      iterate 8 refine ⟨_, rfl, rfl, _, rfl, iteF ?_⟩
      exact ⟨_, rfl, rfl, _, rfl, iteT ⟨_, rfl, p, dx, _, rfl, D.obj, rfl, p, d, dx, lc, lw, cas, was, rfl, D, k⟩⟩
    · cases hcb
      iterate 9 refine ⟨_, rfl, rfl, _, rfl, iteF ?_⟩
      exact ⟨_, rfl, p, dx, _, rfl, D.obj, rfl, p, d, dx, lc, lw, cas, was, rfl, D, k⟩
    · cases hcb
end
end DC

set_option Elab.async false
set_option linter.all false
set_option maxRecDepth 100000
set_option maxHeartbeats 2000000
namespace DC
open PySem PySem.Spec PyProof.Rows L2 L3
section
variable {K : PySem.W.Frag} {h : Heap} {mg : Str → Option Value} {C f : Addr}
theorem def_mk {x : Str} {st : Stmt} {ps : List Str} {oc : Value} {od an : Option Addr} {osl : Array (Option Value)} {kV doc pm cdv ct : Value} (X : K.In h) (G : h.Ns mainGlobals mg) (a : PySem.W.nsIn K mainGlobals x = some (some (.ref f)))
    (l : K.lookup f = some ⟨oc, od, .func (PySem.W.fnOf x x (defArgs st) (defBody st) (defScope st) .none kV doc pm an cdv ct), osl⟩) (c : PySem.W.codeIn K cdv x = true) (k : PySem.W.keepIn K (.ref f) = true)
    (b : ∀ (kV doc pm : Value) (an : Option Addr) (cdv ct : Value) (us : List Value), us.length = ps.length → bindArgs (PySem.W.fnOf x x (defArgs st) (defBody st) (defScope st) .none kV doc pm an cdv ct) ⟨us, []⟩ = pure (ps.zip us)) : Def K mg x st ps :=
  ⟨f, _, PySem.W.mg_of X G a, fun_mk l c k, (fun_mk l c k).binds b⟩
theorem mth_mk {x qual : Str} {st : Stmt} {ps : List Str} {oc : Value} {od an : Option Addr} {osl : Array (Option Value)} {kV doc pm cdv ct : Value} (a : PySem.W.findIn K (.ref C) x = some (some (.ref f))) (i : PySem.W.isFn K (.ref f) = true)
    (l : K.lookup f = some ⟨oc, od, .func (PySem.W.fnOf x qual (defArgs st) (defBody st) (defScope st) .none kV doc pm an cdv ct), osl⟩) (c : PySem.W.codeIn K cdv qual = true) (k : PySem.W.keepIn K (.ref f) = true)
    (b : ∀ (kV doc pm : Value) (an : Option Addr) (cdv ct : Value) (us : List Value), us.length = ps.length → bindArgs (PySem.W.fnOf x qual (defArgs st) (defBody st) (defScope st) .none kV doc pm an cdv ct) ⟨us, []⟩ = pure (ps.zip us)) : Mth K C x qual st ps :=
  ⟨f, _, ⟨a, i, k⟩, fun_mk l c k, (fun_mk l c k).binds b⟩
theorem int_mk {x : Str} {i : Int} {t : Tok} (X : K.In h) (G : h.Ns mainGlobals mg) (a : PySem.W.nsIn K mainGlobals x = some (some (.int i t))) : ∃ t, mg x = some (.int i t) := ⟨t, PySem.W.mg_of X G a⟩
end
theorem tab_mk {K : PySem.W.Frag} {h : Heap} {mg : Str → Option Value} {f : Addr} {x : Str} {od : Option Addr} {its : Array Value} {n : Nat} {osl : Array (Option Value)} {xs : List V} (X : K.In h) (G : h.Ns mainGlobals mg) (a : PySem.W.nsIn K mainGlobals x = some (some (.ref f)))
    (l : K.lookup f = some ⟨.type "tuple", od, .seq its n, osl⟩) (z : its.size ≤ sizeLine) (v : Vals xs its.toList) : ∃ a, mg x = some (.ref a) ∧ ∀ H, SqT K H a xs :=
  ⟨f, PySem.W.mg_of X G a, fun H => .inr ⟨_, its, n, l, rfl, rfl, z, v⟩⟩
/-- the facts of the class -/
structure ClsF (K : PySem.W.Frag) (C : Addr) : Prop where
  cl : Cls K C
  nCubes : NoAttr K C "cubes"
  nFaces : NoAttr K C "faces"
  nTurned : NoAttr K C "turned"
  nWanted : NoAttr K C "wanted"
  makes : PySem.W.makesIn K C = true
  kc : PySem.W.keepIn K (.ref C) = true
  mInit : Mth K C "__init__" "Desk.__init__" sInit ["self"]
  isRow : Mth K C "is_row" "Desk.is_row" sIsRow ["self", "numbers"]
  asRead : Mth K C "as_read" "Desk.as_read" sAsRead ["self", "digits"]
  rowsBetween : Mth K C "rows_between" "Desk.rows_between" sRowsBetween ["self", "first", "last"]
  mBegins : Mth K C "begins" "Desk.begins" sBegins ["self", "cubes", "faces", "turned"]
  mWant : Mth K C "want" "Desk.want" sWant ["self", "numbers"]
  mWants : Mth K C "wants" "Desk.wants" sWants ["self", "first", "last"]
  mMark : Mth K C "mark" "Desk.mark" sMark ["self", "cube", "numbers"]
  mShow : Mth K C "show" "Desk.show" sShow ["self", "numbers"]
  mMissing : Mth K C "missing" "Desk.missing" sMissing ["self"]
  mIdle : Mth K C "idle" "Desk.idle" sIdle ["self"]
  mNeed : Mth K C "need" "Desk.need" sNeed ["self"]
  mWays : Mth K C "ways" "Desk.ways" sWaysM ["self"]
  mFewest : Mth K C "fewest" "Desk.fewest" sFewest ["self"]
structure ModF (K : PySem.W.Frag) (mg : Str → Option Value) : Prop where
  z_all : mg "all" = none
  z_len : mg "len" = none
  z_range : mg "range" = none
  z_str : mg "str" = none
  z_int : mg "int" = none
  z_set : mg "set" = none
  z_max : mg "max" = none
  z_min : mg "min" = none
  z_sum : mg "sum" = none
  z_sorted : mg "sorted" = none
  z_list : mg "list" = none
  nothing : ∃ t, mg "NOTHING_WANTED" = some (.int (-3) t)
  noGood : ∃ t, mg "NO_GOOD_MARKING" = some (.int (-6) t)
  tooMany : ∃ t, mg "TOO_MANY" = some (.int (-7) t)
  mostMarkings : ∃ t, mg "MOST_MARKINGS" = some (.int (32000) t)
  notTold : ∃ t, mg "NOT_AS_TOLD" = some (.int (-1) t)
  noCube : ∃ t, mg "NO_SUCH_CUBE" = some (.int (-2) t)
  already : ∃ t, mg "WANTED_ALREADY" = some (.int (-4) t)
  enough : ∃ t, mg "ENOUGH_WANTED" = some (.int (-5) t)
  mostCubes : ∃ t, mg "MOST_CUBES" = some (.int (4) t)
  mostFaces : ∃ t, mg "MOST_FACES" = some (.int (6) t)
  mostWanted : ∃ t, mg "MOST_WANTED" = some (.int (40) t)
  n0 : ∃ t, mg "BEGINS" = some (.int (0) t)
  n1 : ∃ t, mg "WANT" = some (.int (1) t)
  n2 : ∃ t, mg "WANTS" = some (.int (2) t)
  n3 : ∃ t, mg "MARK" = some (.int (3) t)
  n4 : ∃ t, mg "SHOW" = some (.int (4) t)
  n5 : ∃ t, mg "MISSING" = some (.int (5) t)
  n6 : ∃ t, mg "IDLE" = some (.int (6) t)
  n7 : ∃ t, mg "NEED" = some (.int (7) t)
  n8 : ∃ t, mg "WAYS" = some (.int (8) t)
  allDigits : Def K mg "all_digits" sAllDigits ["numbers"]
  readDigit : Def K mg "read_digit" sReadDigit ["digit", "turned"]
  digitsOf : Def K mg "digits_of" sDigitsOf ["number", "places"]
  longer : Def K mg "longer_ways" sLonger ["ways", "digit", "cubes"]
  ways : Def K mg "ways_to_show" sWays ["row", "cubes"]
  isShown : Def K mg "is_shown" sIsShown ["row", "cubes"]
  shownRows : Def K mg "shown_rows" sShownRows ["rows", "cubes"]
  without : Def K mg "without" sWithout ["cubes", "cube", "digit"]
  mostIn : Def K mg "most_in_a_row" sMostIn ["digit", "rows"]
  digitsIn : Def K mg "digits_in" sDigitsIn ["rows"]
  longerCh : Def K mg "longer_choices" sLongerCh ["choices", "digits"]
  choicesFor : Def K mg "choices_for" sChoicesFor ["rows", "faces"]
  countM : Def K mg "count_markings" sCountM ["choices", "cubes"]
  rowsWith : Def K mg "rows_with" sRowsWith ["choice", "place", "rows"]
  rowsBy : Def K mg "rows_by_place" sRowsBy ["choice", "rows"]
  oneMore : Def K mg "with_one_cube_more" sOneMore ["filled", "by_place"]
  longerM : Def K mg "longer_markings" sLongerM ["begun", "choices", "by_places"]
  goodM : Def K mg "good_markings" sGoodM ["rows", "choices", "cubes"]
  dAnswer : Def K mg "answer" sAnswer ["desk", "call", "numbers", "row"]
  dAnswers : Def K mg "answers" sAnswers ["calls"]
  wn : ∃ a, mg "WHOLE_NUMBERS" = some (.ref a) ∧ ∀ H, SqT K H a (vN DM.wn)
  hr : ∃ a, mg "HAS_ROW" = some (.ref a) ∧ ∀ H, SqT K H a (DM.hr.map V.bl)
theorem txtB_of {K : PySem.W.Frag} {mg : Str → Option Value} {C : Addr} (M : ModF K mg) (Q : ClsF K C) (hC : mg "Desk" = some (.ref C)) : TxtB K mg C :=
  { toTxtA := { toTxt := { all := M.z_all, len := M.z_len, range := M.z_range, str := M.z_str, int := M.z_int, set := M.z_set, max := M.z_max, min := M.z_min, sum := M.z_sum, sorted := M.z_sorted, list := M.z_list, nothing := M.nothing, noGood := M.noGood, tooMany := M.tooMany, mostMarkings := M.mostMarkings, notTold := M.notTold, noCube := M.noCube, already := M.already, enough := M.enough, mostCubes := M.mostCubes, mostFaces := M.mostFaces, mostWanted := M.mostWanted, allDigits := M.allDigits, readDigit := M.readDigit, digitsOf := M.digitsOf, longer := M.longer, ways := M.ways, isShown := M.isShown, shownRows := M.shownRows, without := M.without, mostIn := M.mostIn, digitsIn := M.digitsIn, longerCh := M.longerCh, choicesFor := M.choicesFor, countM := M.countM, rowsWith := M.rowsWith, rowsBy := M.rowsBy, oneMore := M.oneMore, longerM := M.longerM, goodM := M.goodM, cl := Q.cl, desk := hC, nCubes := Q.nCubes, nFaces := Q.nFaces, nTurned := Q.nTurned, nWanted := Q.nWanted, isRow := Q.isRow, asRead := Q.asRead, rowsBetween := Q.rowsBetween }, wn := M.wn, hr := M.hr }, n0 := M.n0, n1 := M.n1, n2 := M.n2, n3 := M.n3, n4 := M.n4, n5 := M.n5, n6 := M.n6, n7 := M.n7, n8 := M.n8, mBegins := Q.mBegins, mWant := Q.mWant, mWants := Q.mWants, mMark := Q.mMark, mShow := Q.mShow, mMissing := Q.mMissing, mIdle := Q.mIdle, mNeed := Q.mNeed, mWays := Q.mWays, mFewest := Q.mFewest }
theorem all_mk {P : Program} {w : World} {K : PySem.W.Frag} {mg : Str → Option Value} {C fa : Addr} {h : Heap} (KX : K.In h) (M : ModF K mg) (Q : ClsF K C) (hC : mg "Desk" = some (.ref C)) (hmg : mg "answers" = some (.ref fa)) :
    ∃ fd, (∀ (s : Shared) (us : List Value), us.length = ([("calls" : Str)] : List Str).length → BindsTo s fd { pos := us } (([("calls" : Str)] : List Str).zip us)) ∧ ∀ (base : Heap), K.In base → base.Ns mainGlobals mg → FnOk P w K mg base CX0 10 fa fd ["calls"] (spAnswers K) := by
  have T := txtB_of M Q hC
  obtain ⟨fI, dI, mI, FI, bI⟩ := Q.mInit
  obtain ⟨fA, dA, mA, FA, bA⟩ := M.dAnswer
  obtain ⟨f, fd, mf, F, b⟩ := M.dAnswers
  rw [hmg] at mf
  cases mf
  refine ⟨fd, fun s us hl => ?_, fun base _ _ => ok_answers F T.toTxtA ⟨Q.makes, mI.at_, mI.fn, Q.kc⟩ FI bI mA FA bA (ok_answer FA T)⟩
  obtain ⟨oc, od, kV, doc, pm, an, cdv, ct, osl, rfl, lk, hcd⟩ := F.ex
  exact .of_eq (match us, hl with | [_], _ => rfl)
theorem nats_of (l : List Int) (h : l.all (PySem.W.Codec.inInt 0 4294967295) = true) : l = DM.iN (l.map Int.toNat) ∧ ∀ x ∈ l.map Int.toNat, x < 2 ^ 32 := by
  have hz : ∀ z ∈ l, 0 ≤ z ∧ z ≤ 4294967295 := fun z hz => by
    have := List.all_eq_true.mp h z hz
    unfold PySem.W.Codec.inInt at this
    rw [Bool.and_eq_true, decide_eq_true_eq, decide_eq_true_eq] at this
    exact this
  refine ⟨?_, fun x hx => ?_⟩
  · unfold DM.iN
    rw [List.map_map]
    have : l.map ((fun n : Nat => (n : Int)) ∘ Int.toNat) = l.map id := List.map_congr_left fun z m => by
      show ((z.toNat : Nat) : Int) = z
      have := hz z m
      omega
    rw [this, List.map_id]
  · obtain ⟨z, hm, rfl⟩ := List.mem_map.mp hx
    have := hz z hm
    omega
end DC
open PySem PySem.W PyProof.Rows
set_option maxRecDepth 100000 in
set_option maxHeartbeats 0 in
theorem PySem.Challenge.cw_datecubes_s01_answers_holds : PySem.Challenge.rw_datecubes_s01_answers.Holds := by
  w_on; k_headS; (case hw => exact ⟨[.list [.int 5]], by decide +kernel, by decide +kernel⟩)
  k_fillS
  refine L2.walk_specK (r := PySem.Challenge.rw_datecubes_s01_answers) (k := 10) (CX := L2.CX0) (ps := ["calls"]) (sp := DC.spAnswers) (by decide +kernel) rfl rfl ⟨rfl, by decide, by decide⟩ (fun w h Y => PySem.W.kIn_of Y) ?F ?S (fun _ _ _ _ z => z)
  case F =>
    intro w mg fa h Y KX G hmg
    have M : DC.ModF (L2.KOf KX) mg := by
      clear hmg Y
      dsimp only [L2.KOf]
      refine' { z_all := ?z_all, z_len := ?z_len, z_range := ?z_range, z_str := ?z_str, z_int := ?z_int, z_set := ?z_set, z_max := ?z_max, z_min := ?z_min, z_sum := ?z_sum, z_sorted := ?z_sorted, z_list := ?z_list, nothing := ?nothing, noGood := ?noGood, tooMany := ?tooMany, mostMarkings := ?mostMarkings, notTold := ?notTold, noCube := ?noCube, already := ?already, enough := ?enough, mostCubes := ?mostCubes, mostFaces := ?mostFaces, mostWanted := ?mostWanted, n0 := ?n0, n1 := ?n1, n2 := ?n2, n3 := ?n3, n4 := ?n4, n5 := ?n5, n6 := ?n6, n7 := ?n7, n8 := ?n8, allDigits := ?allDigits, readDigit := ?readDigit, digitsOf := ?digitsOf, longer := ?longer, ways := ?ways, isShown := ?isShown, shownRows := ?shownRows, without := ?without, mostIn := ?mostIn, digitsIn := ?digitsIn, longerCh := ?longerCh, choicesFor := ?choicesFor, countM := ?countM, rowsWith := ?rowsWith, rowsBy := ?rowsBy, oneMore := ?oneMore, longerM := ?longerM, goodM := ?goodM, dAnswer := ?dAnswer, dAnswers := ?dAnswers, wn := ?wn, hr := ?hr }
      case z_all => exact PySem.W.mg_none_of KX G (by k_is)
      case z_len => exact PySem.W.mg_none_of KX G (by k_is)
      case z_range => exact PySem.W.mg_none_of KX G (by k_is)
      case z_str => exact PySem.W.mg_none_of KX G (by k_is)
      case z_int => exact PySem.W.mg_none_of KX G (by k_is)
      case z_set => exact PySem.W.mg_none_of KX G (by k_is)
      case z_max => exact PySem.W.mg_none_of KX G (by k_is)
      case z_min => exact PySem.W.mg_none_of KX G (by k_is)
      case z_sum => exact PySem.W.mg_none_of KX G (by k_is)
      case z_sorted => exact PySem.W.mg_none_of KX G (by k_is)
      case z_list => exact PySem.W.mg_none_of KX G (by k_is)
      case nothing =>
        refine' DC.int_mk KX G ?a_nothing
        (case a_nothing => k_is)
      case noGood =>
        refine' DC.int_mk KX G ?a_noGood
        (case a_noGood => k_is)
      case tooMany =>
        refine' DC.int_mk KX G ?a_tooMany
        (case a_tooMany => k_is)
      case mostMarkings =>
        refine' DC.int_mk KX G ?a_mostMarkings
        (case a_mostMarkings => k_is)
      case notTold =>
        refine' DC.int_mk KX G ?a_notTold
        (case a_notTold => k_is)
      case noCube =>
        refine' DC.int_mk KX G ?a_noCube
        (case a_noCube => k_is)
      case already =>
        refine' DC.int_mk KX G ?a_already
        (case a_already => k_is)
      case enough =>
        refine' DC.int_mk KX G ?a_enough
        (case a_enough => k_is)
      case mostCubes =>
        refine' DC.int_mk KX G ?a_mostCubes
        (case a_mostCubes => k_is)
      case mostFaces =>
        refine' DC.int_mk KX G ?a_mostFaces
        (case a_mostFaces => k_is)
      case mostWanted =>
        refine' DC.int_mk KX G ?a_mostWanted
        (case a_mostWanted => k_is)
      case n0 =>
        refine' DC.int_mk KX G ?a_n0
        (case a_n0 => k_is)
      case n1 =>
        refine' DC.int_mk KX G ?a_n1
        (case a_n1 => k_is)
      case n2 =>
        refine' DC.int_mk KX G ?a_n2
        (case a_n2 => k_is)
      case n3 =>
        refine' DC.int_mk KX G ?a_n3
        (case a_n3 => k_is)
      case n4 =>
        refine' DC.int_mk KX G ?a_n4
        (case a_n4 => k_is)
      case n5 =>
        refine' DC.int_mk KX G ?a_n5
        (case a_n5 => k_is)
      case n6 =>
        refine' DC.int_mk KX G ?a_n6
        (case a_n6 => k_is)
      case n7 =>
        refine' DC.int_mk KX G ?a_n7
        (case a_n7 => k_is)
      case n8 =>
        refine' DC.int_mk KX G ?a_n8
        (case a_n8 => k_is)
      case allDigits =>
        refine' DC.def_mk KX G ?a_allDigits ?l_allDigits ?c_allDigits ?k_allDigits ?b_allDigits
        (case a_allDigits => k_is); (case l_allDigits => k_is); (case c_allDigits => k_is); (case k_allDigits => k_is)
        exact fun _ _ _ _ _ _ us hl => match us, hl with | [_], _ => rfl
      case readDigit =>
        refine' DC.def_mk KX G ?a_readDigit ?l_readDigit ?c_readDigit ?k_readDigit ?b_readDigit
        (case a_readDigit => k_is); (case l_readDigit => k_is); (case c_readDigit => k_is); (case k_readDigit => k_is)
        exact fun _ _ _ _ _ _ us hl => match us, hl with | [_, _], _ => rfl
      case digitsOf =>
        refine' DC.def_mk KX G ?a_digitsOf ?l_digitsOf ?c_digitsOf ?k_digitsOf ?b_digitsOf
        (case a_digitsOf => k_is); (case l_digitsOf => k_is); (case c_digitsOf => k_is); (case k_digitsOf => k_is)
        exact fun _ _ _ _ _ _ us hl => match us, hl with | [_, _], _ => rfl
      case longer =>
        refine' DC.def_mk KX G ?a_longer ?l_longer ?c_longer ?k_longer ?b_longer
        (case a_longer => k_is); (case l_longer => k_is); (case c_longer => k_is); (case k_longer => k_is)
        exact fun _ _ _ _ _ _ us hl => match us, hl with | [_, _, _], _ => rfl
      case ways =>
        refine' DC.def_mk KX G ?a_ways ?l_ways ?c_ways ?k_ways ?b_ways
        (case a_ways => k_is); (case l_ways => k_is); (case c_ways => k_is); (case k_ways => k_is)
        exact fun _ _ _ _ _ _ us hl => match us, hl with | [_, _], _ => rfl
      case isShown =>
        refine' DC.def_mk KX G ?a_isShown ?l_isShown ?c_isShown ?k_isShown ?b_isShown
        (case a_isShown => k_is); (case l_isShown => k_is); (case c_isShown => k_is); (case k_isShown => k_is)
        exact fun _ _ _ _ _ _ us hl => match us, hl with | [_, _], _ => rfl
      case shownRows =>
        refine' DC.def_mk KX G ?a_shownRows ?l_shownRows ?c_shownRows ?k_shownRows ?b_shownRows
        (case a_shownRows => k_is); (case l_shownRows => k_is); (case c_shownRows => k_is); (case k_shownRows => k_is)
        exact fun _ _ _ _ _ _ us hl => match us, hl with | [_, _], _ => rfl
      case without =>
        refine' DC.def_mk KX G ?a_without ?l_without ?c_without ?k_without ?b_without
        (case a_without => k_is); (case l_without => k_is); (case c_without => k_is); (case k_without => k_is)
        exact fun _ _ _ _ _ _ us hl => match us, hl with | [_, _, _], _ => rfl
      case mostIn =>
        refine' DC.def_mk KX G ?a_mostIn ?l_mostIn ?c_mostIn ?k_mostIn ?b_mostIn
        (case a_mostIn => k_is); (case l_mostIn => k_is); (case c_mostIn => k_is); (case k_mostIn => k_is)
        exact fun _ _ _ _ _ _ us hl => match us, hl with | [_, _], _ => rfl
      case digitsIn =>
        refine' DC.def_mk KX G ?a_digitsIn ?l_digitsIn ?c_digitsIn ?k_digitsIn ?b_digitsIn
        (case a_digitsIn => k_is); (case l_digitsIn => k_is); (case c_digitsIn => k_is); (case k_digitsIn => k_is)
        exact fun _ _ _ _ _ _ us hl => match us, hl with | [_], _ => rfl
      case longerCh =>
        refine' DC.def_mk KX G ?a_longerCh ?l_longerCh ?c_longerCh ?k_longerCh ?b_longerCh
        (case a_longerCh => k_is); (case l_longerCh => k_is); (case c_longerCh => k_is); (case k_longerCh => k_is)
        exact fun _ _ _ _ _ _ us hl => match us, hl with | [_, _], _ => rfl
      case choicesFor =>
        refine' DC.def_mk KX G ?a_choicesFor ?l_choicesFor ?c_choicesFor ?k_choicesFor ?b_choicesFor
        (case a_choicesFor => k_is); (case l_choicesFor => k_is); (case c_choicesFor => k_is); (case k_choicesFor => k_is)
        exact fun _ _ _ _ _ _ us hl => match us, hl with | [_, _], _ => rfl
      case countM =>
        refine' DC.def_mk KX G ?a_countM ?l_countM ?c_countM ?k_countM ?b_countM
        (case a_countM => k_is); (case l_countM => k_is); (case c_countM => k_is); (case k_countM => k_is)
        exact fun _ _ _ _ _ _ us hl => match us, hl with | [_, _], _ => rfl
      case rowsWith =>
        refine' DC.def_mk KX G ?a_rowsWith ?l_rowsWith ?c_rowsWith ?k_rowsWith ?b_rowsWith
        (case a_rowsWith => k_is); (case l_rowsWith => k_is); (case c_rowsWith => k_is); (case k_rowsWith => k_is)
        exact fun _ _ _ _ _ _ us hl => match us, hl with | [_, _, _], _ => rfl
      case rowsBy =>
        refine' DC.def_mk KX G ?a_rowsBy ?l_rowsBy ?c_rowsBy ?k_rowsBy ?b_rowsBy
        (case a_rowsBy => k_is); (case l_rowsBy => k_is); (case c_rowsBy => k_is); (case k_rowsBy => k_is)
        exact fun _ _ _ _ _ _ us hl => match us, hl with | [_, _], _ => rfl
      case oneMore =>
        refine' DC.def_mk KX G ?a_oneMore ?l_oneMore ?c_oneMore ?k_oneMore ?b_oneMore
        (case a_oneMore => k_is); (case l_oneMore => k_is); (case c_oneMore => k_is); (case k_oneMore => k_is)
        exact fun _ _ _ _ _ _ us hl => match us, hl with | [_, _], _ => rfl
      case longerM =>
        refine' DC.def_mk KX G ?a_longerM ?l_longerM ?c_longerM ?k_longerM ?b_longerM
        (case a_longerM => k_is); (case l_longerM => k_is); (case c_longerM => k_is); (case k_longerM => k_is)
        exact fun _ _ _ _ _ _ us hl => match us, hl with | [_, _, _], _ => rfl
      case goodM =>
        refine' DC.def_mk KX G ?a_goodM ?l_goodM ?c_goodM ?k_goodM ?b_goodM
        (case a_goodM => k_is); (case l_goodM => k_is); (case c_goodM => k_is); (case k_goodM => k_is)
        exact fun _ _ _ _ _ _ us hl => match us, hl with | [_, _, _], _ => rfl
      case dAnswer =>
        refine' DC.def_mk KX G ?a_dAnswer ?l_dAnswer ?c_dAnswer ?k_dAnswer ?b_dAnswer
        (case a_dAnswer => k_is); (case l_dAnswer => k_is); (case c_dAnswer => k_is); (case k_dAnswer => k_is)
        exact fun _ _ _ _ _ _ us hl => match us, hl with | [_, _, _, _], _ => rfl
      case dAnswers =>
        refine' DC.def_mk KX G ?a_dAnswers ?l_dAnswers ?c_dAnswers ?k_dAnswers ?b_dAnswers
        (case a_dAnswers => k_is); (case l_dAnswers => k_is); (case c_dAnswers => k_is); (case k_dAnswers => k_is)
        exact fun _ _ _ _ _ _ us hl => match us, hl with | [_], _ => rfl
      case wn =>
        refine' DC.tab_mk KX G ?a_wn ?l_wn ?z_wn ?v_wn
        (case a_wn => k_is); (case l_wn => k_is)
        (case z_wn => decide)
        (case v_wn => exact .cons ⟨_, rfl⟩ (.cons ⟨_, rfl⟩ (.cons ⟨_, rfl⟩ (.cons ⟨_, rfl⟩ (.cons ⟨_, rfl⟩ (.cons ⟨_, rfl⟩ (.cons ⟨_, rfl⟩ (.cons ⟨_, rfl⟩ (.cons ⟨_, rfl⟩ (.cons ⟨_, rfl⟩ (.nil)))))))))))
      case hr =>
        refine' DC.tab_mk KX G ?a_hr ?l_hr ?z_hr ?v_hr
        (case a_hr => k_is); (case l_hr => k_is)
        (case z_hr => decide)
        (case v_hr => exact .cons rfl (.cons rfl (.cons rfl (.cons rfl (.cons rfl (.cons rfl (.cons rfl (.cons rfl (.cons rfl (.cons rfl (.nil)))))))))))
    refine' DC.all_mk KX M ?Q (PySem.W.mg_of KX G ?aC) hmg
    (case aC => k_is)
    case Q =>
      clear hmg M Y
      try dsimp only [L2.KOf]
      refine' { cl := ⟨?pg, ?hd, ?po, ?sa⟩, nCubes := ?nCubes, nFaces := ?nFaces, nTurned := ?nTurned, nWanted := ?nWanted, makes := ?makes, kc := ?kc, mInit := ?mInit, isRow := ?isRow, asRead := ?asRead, rowsBetween := ?rowsBetween, mBegins := ?mBegins, mWant := ?mWant, mWants := ?mWants, mMark := ?mMark, mShow := ?mShow, mMissing := ?mMissing, mIdle := ?mIdle, mNeed := ?mNeed, mWays := ?mWays, mFewest := ?mFewest }
      (case pg => k_is); (case hd => k_is); (case po => k_is); (case sa => k_is)
      (case nCubes => (unfold L2.NoAttr; k_is)); (case nFaces => (unfold L2.NoAttr; k_is)); (case nTurned => (unfold L2.NoAttr; k_is)); (case nWanted => (unfold L2.NoAttr; k_is)); (case makes => k_is); (case kc => k_is)
      case mInit =>
        refine' DC.mth_mk ?a_mInit ?i_mInit ?l_mInit ?c_mInit ?k_mInit ?b_mInit
        (case a_mInit => k_is); (case i_mInit => k_is); (case l_mInit => k_is); (case c_mInit => k_is); (case k_mInit => k_is)
        exact fun _ _ _ _ _ _ us hl => match us, hl with | [_], _ => rfl
      case isRow =>
        refine' DC.mth_mk ?a_isRow ?i_isRow ?l_isRow ?c_isRow ?k_isRow ?b_isRow
        (case a_isRow => k_is); (case i_isRow => k_is); (case l_isRow => k_is); (case c_isRow => k_is); (case k_isRow => k_is)
        exact fun _ _ _ _ _ _ us hl => match us, hl with | [_, _], _ => rfl
      case asRead =>
        refine' DC.mth_mk ?a_asRead ?i_asRead ?l_asRead ?c_asRead ?k_asRead ?b_asRead
        (case a_asRead => k_is); (case i_asRead => k_is); (case l_asRead => k_is); (case c_asRead => k_is); (case k_asRead => k_is)
        exact fun _ _ _ _ _ _ us hl => match us, hl with | [_, _], _ => rfl
      case rowsBetween =>
        refine' DC.mth_mk ?a_rowsBetween ?i_rowsBetween ?l_rowsBetween ?c_rowsBetween ?k_rowsBetween ?b_rowsBetween
        (case a_rowsBetween => k_is); (case i_rowsBetween => k_is); (case l_rowsBetween => k_is); (case c_rowsBetween => k_is); (case k_rowsBetween => k_is)
        exact fun _ _ _ _ _ _ us hl => match us, hl with | [_, _, _], _ => rfl
      case mBegins =>
        refine' DC.mth_mk ?a_mBegins ?i_mBegins ?l_mBegins ?c_mBegins ?k_mBegins ?b_mBegins
        (case a_mBegins => k_is); (case i_mBegins => k_is); (case l_mBegins => k_is); (case c_mBegins => k_is); (case k_mBegins => k_is)
        exact fun _ _ _ _ _ _ us hl => match us, hl with | [_, _, _, _], _ => rfl
      case mWant =>
        refine' DC.mth_mk ?a_mWant ?i_mWant ?l_mWant ?c_mWant ?k_mWant ?b_mWant
        (case a_mWant => k_is); (case i_mWant => k_is); (case l_mWant => k_is); (case c_mWant => k_is); (case k_mWant => k_is)
        exact fun _ _ _ _ _ _ us hl => match us, hl with | [_, _], _ => rfl
      case mWants =>
        refine' DC.mth_mk ?a_mWants ?i_mWants ?l_mWants ?c_mWants ?k_mWants ?b_mWants
        (case a_mWants => k_is); (case i_mWants => k_is); (case l_mWants => k_is); (case c_mWants => k_is); (case k_mWants => k_is)
        exact fun _ _ _ _ _ _ us hl => match us, hl with | [_, _, _], _ => rfl
      case mMark =>
        refine' DC.mth_mk ?a_mMark ?i_mMark ?l_mMark ?c_mMark ?k_mMark ?b_mMark
        (case a_mMark => k_is); (case i_mMark => k_is); (case l_mMark => k_is); (case c_mMark => k_is); (case k_mMark => k_is)
        exact fun _ _ _ _ _ _ us hl => match us, hl with | [_, _, _], _ => rfl
      case mShow =>
        refine' DC.mth_mk ?a_mShow ?i_mShow ?l_mShow ?c_mShow ?k_mShow ?b_mShow
        (case a_mShow => k_is); (case i_mShow => k_is); (case l_mShow => k_is); (case c_mShow => k_is); (case k_mShow => k_is)
        exact fun _ _ _ _ _ _ us hl => match us, hl with | [_, _], _ => rfl
      case mMissing =>
        refine' DC.mth_mk ?a_mMissing ?i_mMissing ?l_mMissing ?c_mMissing ?k_mMissing ?b_mMissing
        (case a_mMissing => k_is); (case i_mMissing => k_is); (case l_mMissing => k_is); (case c_mMissing => k_is); (case k_mMissing => k_is)
        exact fun _ _ _ _ _ _ us hl => match us, hl with | [_], _ => rfl
      case mIdle =>
        refine' DC.mth_mk ?a_mIdle ?i_mIdle ?l_mIdle ?c_mIdle ?k_mIdle ?b_mIdle
        (case a_mIdle => k_is); (case i_mIdle => k_is); (case l_mIdle => k_is); (case c_mIdle => k_is); (case k_mIdle => k_is)
        exact fun _ _ _ _ _ _ us hl => match us, hl with | [_], _ => rfl
      case mNeed =>
        refine' DC.mth_mk ?a_mNeed ?i_mNeed ?l_mNeed ?c_mNeed ?k_mNeed ?b_mNeed
        (case a_mNeed => k_is); (case i_mNeed => k_is); (case l_mNeed => k_is); (case c_mNeed => k_is); (case k_mNeed => k_is)
        exact fun _ _ _ _ _ _ us hl => match us, hl with | [_], _ => rfl
      case mWays =>
        refine' DC.mth_mk ?a_mWays ?i_mWays ?l_mWays ?c_mWays ?k_mWays ?b_mWays
        (case a_mWays => k_is); (case i_mWays => k_is); (case l_mWays => k_is); (case c_mWays => k_is); (case k_mWays => k_is)
        exact fun _ _ _ _ _ _ us hl => match us, hl with | [_], _ => rfl
      case mFewest =>
        refine' DC.mth_mk ?a_mFewest ?i_mFewest ?l_mFewest ?c_mFewest ?k_mFewest ?b_mFewest
        (case a_mFewest => k_is); (case i_mFewest => k_is); (case l_mFewest => k_is); (case c_mFewest => k_is); (case k_mFewest => k_is)
        exact fun _ _ _ _ _ _ us hl => match us, hl with | [_], _ => rfl
  case S =>
    intro K H xs a hO hwi hask hx
    cases hx with
    | cons h1 h2 =>
      cases h2
      cases h1 with
      | lst hs ha =>
        have e := L2.ints_dw a.1 _ ha
        subst e
        have q : ((Codec.inLen 0 1000 a.1 && a.1.all (Codec.inInt 0 4294967295)) && true) = true := hwi
        rw [Bool.and_eq_true, Bool.and_eq_true] at q
        have hl : a.1.length ≤ 1000 := (Codec.inNat_iff.mp q.1.1).2
        obtain ⟨en, hb⟩ := DC.nats_of a.1 q.1.2
        have hask' : PyUw70.answers_asked a.1 = true := hask
        rw [en] at hs hask'
        refine ⟨_, a.1.map Int.toNat, rfl, ?_, by rw [List.length_map]; exact hl, hb, hask', fun H' p hp => ?_⟩
        · rw [L3.vN_ints]
          exact hs
        · rw [← en] at hp
          exact .lst (L2.SqL.of hp) (L2.dw_ints _)

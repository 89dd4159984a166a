import PyProof.Rows.All
import Wide.All
import OpenK.AllK
import Wide.FinOn
import PyProof.EqAt
import PyProof.EqKinds
import PyProof.TupleCall
import KE.BitLaws
import Open.SpecLaws
import KE.OsHead
import KE.OsGo
import KE.KSortTupG
import PySem.Challenge.RW_trainseatsdesk_s01_answers
section
-- CHANGE: your row's module here, as the last of these rows
set_option Elab.async false
set_option linter.all false
set_option maxRecDepth 100000
/-! THE HAND LAYER, for ints, bools, texts, own classes, lists, tuples, dicts, comprehensions, walks over dicts, enumerate, zip, reversed, texts, calls, loops. Paste it whole ahead of your own text; what your proof does not reach may be deleted. -/
namespace L2
open PySem PySem.Spec PyProof.Rows

/-- a key: an int or a str -/
abbrev Key := Sum Int Str
def keyIs : Key → Value → Bool
  | .inl k, v => Value.isInt k v
  | .inr x, v => Value.isStrOf x v
def keyH (w : World) : Key → Int
  | .inl k => hashInt k
  | .inr x => hashStr w x
theorem keyIs_shape : ∀ {k : Key} {v : Value}, keyIs k v = true → (∃ i t, k = Sum.inl i ∧ v = Value.int i t) ∨ (∃ x t, k = Sum.inr x ∧ v = Value.str x t)
  | .inl i, v, h => by
    obtain ⟨t, e⟩ := Value.isInt_shape (k := i) (v := v) h
    exact .inl ⟨i, t, rfl, e⟩
  | .inr x, v, h => by
    obtain ⟨t, e⟩ := Value.isStrOf_shape (x := x) (v := v) h
    exact .inr ⟨x, t, rfl, e⟩
theorem keyIs_int (i : Int) (t : Tok) : keyIs (.inl i) (.int i t) = true := by simp [keyIs, Value.isInt]
theorem keyIs_str (x : Str) (t : Tok) : keyIs (.inr x) (.str x t) = true := by simp [keyIs, Value.isStrOf]
theorem key_ll (a b : Int) : decide ((Sum.inl a : Key) = Sum.inl b) = (a == b) := by
  by_cases e : a = b
  · subst e; simp
  · have h : ¬ (Sum.inl a : Key) = Sum.inl b := fun q => e (Sum.inl.inj q)
    rw [decide_eq_false h]
    exact (beq_eq_false_iff_ne.mpr e).symm
theorem key_rr (a b : Str) : decide ((Sum.inr a : Key) = Sum.inr b) = decide (a = b) := by
  by_cases e : a = b
  · subst e; simp
  · have h : ¬ (Sum.inr a : Key) = Sum.inr b := fun q => e (Sum.inr.inj q)
    rw [decide_eq_false h, decide_eq_false e]
theorem key_lr (a : Int) (b : Str) : decide ((Sum.inl a : Key) = Sum.inr b) = false := decide_eq_false (fun q => nomatch q)
theorem key_rl (a : Str) (b : Int) : decide ((Sum.inr a : Key) = Sum.inl b) = false := decide_eq_false (fun q => nomatch q)

def mixKind (prog : Program) (w : World) : PySem.KeyKind prog w Key where
  is := keyIs
  hash := keyH w
  inj := fun v a b ha hb => by
    rcases keyIs_shape ha with ⟨i, t, rfl, rfl⟩ | ⟨x, t, rfl, rfl⟩
    · rcases keyIs_shape hb with ⟨j, u, rfl, e⟩ | ⟨y, u, rfl, e⟩
      · injection e with e1 _; rw [e1]
      · exact nomatch e
    · rcases keyIs_shape hb with ⟨j, u, rfl, e⟩ | ⟨y, u, rfl, e⟩
      · exact nomatch e
      · injection e with e1 _; rw [e1]
  byValue := fun k v h => by
    rcases keyIs_shape h with ⟨i, t, rfl, rfl⟩ | ⟨x, t, rfl, rfl⟩ <;> rfl
  pyHash := fun hv h => by
    rcases keyIs_shape hv with ⟨i, t, rfl, rfl⟩ | ⟨x, t, rfl, rfl⟩
    · exact wpAny_pyHash_int h
    · exact wpAny_pyHash_str h
  eqBool := fun hu hv h => by
    rcases keyIs_shape hu with ⟨i, t, rfl, rfl⟩ | ⟨x, t, rfl, rfl⟩
    · rcases keyIs_shape hv with ⟨j, u, rfl, rfl⟩ | ⟨y, u, rfl, rfl⟩
      · rw [key_ll] at h; exact wpAny_eqBool_int h
      · rw [key_lr] at h; exact SeqAt.EqAt.int_str i t y u _ _ _ _ h
    · rcases keyIs_shape hv with ⟨j, u, rfl, rfl⟩ | ⟨y, u, rfl, rfl⟩
      · rw [key_rl] at h; exact SeqAt.EqAt.str_int x t j u _ _ _ _ h
      · rw [key_rr] at h; exact wpAny_eqBool_str h
  «strs» := fun k x t v h => by
    rcases keyIs_shape h with ⟨i, u, rfl, e⟩ | ⟨y, u, rfl, e⟩
    · exact nomatch e
    · injection e with e1 _
      subst e1
      cases v <;> rfl

theorem mixKind_int (prog : Program) (w : World) (i : Int) (t : Tok) : (mixKind prog w).is (.inl i) (.int i t) = true := keyIs_int i t
theorem mixKind_str (prog : Program) (w : World) (x : Str) (t : Tok) : (mixKind prog w).is (.inr x) (.str x t) = true := keyIs_str x t
end L2

namespace L2
open PySem PySem.Spec PyProof.Rows

/-- a value, without the heap -/
inductive V where
  | non | bl (b : Bool) | int (i : Int) | str (x : Str) | byt (b : Array UInt8) | flt (b : UInt64) | ref (a : Addr) | ty (n : String)
  deriving DecidableEq

def RelV : V → Value → Prop
  | .non, u => u = Value.none
  | .bl b, u => u = Value.bool b
  | .int i, u => ∃ t, u = Value.int i t
  | .str x, u => ∃ t, u = Value.str x t
  | .byt b, u => ∃ t, u = Value.bytes b t
  | .flt b, u => ∃ t, u = Value.float b t
  | .ref a, u => u = Value.ref a
  | .ty n, u => u = Value.type n

abbrev Vals : List V → List Value → Prop := Paired RelV
theorem Vals.length {xs : List V} {us : List Value} (r : Vals xs us) : xs.length = us.length := Paired.length r
theorem Vals.get : ∀ {xs : List V} {us : List Value} {i : Nat} {x : V}, Vals xs us → xs[i]? = some x → ∃ u, us[i]? = some u ∧ RelV x u
  | _, _, _, _, .nil, e => by simp at e
  | _, _, 0, _, .cons r _, e => by simp at e; subst e; exact ⟨_, rfl, r⟩
  | _, _, i + 1, x, .cons _ t, e => by
    obtain ⟨u, h1, h2⟩ := Vals.get (i := i) (x := x) t (by simpa using e)
    exact ⟨u, by simpa using h1, h2⟩
theorem Vals.set {x : V} {u : Value} (r : RelV x u) : ∀ {xs : List V} {us : List Value} (i : Nat), Vals xs us → Vals (xs.set i x) (us.set i u)
  | _, _, _, .nil => .nil
  | _, _, 0, .cons _ t => .cons r t
  | _, _, i + 1, .cons q t => .cons q (Vals.set r i t)
theorem Vals.append : ∀ {xs ys : List V} {us ws : List Value}, Vals xs us → Vals ys ws → Vals (xs ++ ys) (us ++ ws)
  | _, _, _, _, .nil, s => s
  | _, _, _, _, .cons r t, s => .cons r (Vals.append t s)
theorem Vals.take : ∀ {xs : List V} {us : List Value} (n : Nat), Vals xs us → Vals (xs.take n) (us.take n)
  | _, _, 0, _ => .nil
  | _, _, _ + 1, .nil => .nil
  | _, _, n + 1, .cons r t => .cons r (Vals.take n t)
theorem Vals.drop : ∀ {xs : List V} {us : List Value} (n : Nat), Vals xs us → Vals (xs.drop n) (us.drop n)
  | _, _, 0, r => r
  | _, _, _ + 1, .nil => .nil
  | _, _, n + 1, .cons _ t => Vals.drop n t

def RelO : Option V → Option Value → Prop
  | some v, some u => RelV v u
  | none, none => True
  | _, _ => False
def KV {κ : Type} : List (κ × V) → List (κ × Value) → Prop := Paired fun (p : κ × V) (q : κ × Value) => p.1 = q.1 ∧ RelV p.2 q.2

/-- a key of a dict (00_mix): an int or a text -/
def kV : Key → V
  | .inl i => .int i
  | .inr x => .str x

/-- what stands at a tracked address -/
inductive HO where
  /-- a list -/
  | lst (xs : List V)
  /-- a tuple (never changes) -/
  | tup (xs : List V)
  /-- a dict whose keys are ints and texts; one whose keys are tuples of ints and texts (the empty one is both) -/
  | dK (kvs : List (Key × V)) | dT (kvs : List (List Key × V))
  /-- a set of ints: its members, its size -/
  | set (S : Int → Bool) (n : Nat)
  /-- an instance of the class at C, its dict at dx, its attributes -/
  | ins (C dx : Addr) (fs : List (Str × V))
  /-- the dict of the instance at x -/
  | own (x : Addr)
  /-- the dict of an exception -/
  | xd (fs : List (Str × V))
  /-- a bound method, f of x -/
  | met (f x : Addr)
  /-- a range object lo, lo + 1, .. below hi -/
  | rng (lo hi : Int)
  /-- a thing that is known to the object (the script; a dict while a loop walks it): read, never written while it is so -/
  | frz (o : Obj) (u : HO)
  /-- a code object's table -/
  | tbl (ps : Array Value)
  /-- any other thing, by what is true of its one object (a def of one's own: SetO a S n := HO.ext fun h => ..) -/
  | ext (φ : Heap → Prop)

abbrev Hp := Addr → Option HO
def upd (H : Hp) (a : Addr) (o : HO) : Hp := fun b => if b = a then some o else H b
theorem upd_same {H : Hp} {a : Addr} {o : HO} : upd H a o a = some o := by unfold upd; rw [if_pos rfl]
theorem upd_ne {H : Hp} {a b : Addr} {o : HO} (h : b ≠ a) : upd H a o b = H b := by unfold upd; rw [if_neg h]
/-- two objects of different content stand apart -/
theorem ne_of {H : Hp} {a b : Addr} {o u : HO} (h : H a = some o) (h' : H b = some u) (d : o ≠ u) : a ≠ b := by
  intro e; subst e; rw [h] at h'; exact d (Option.some.inj h')
theorem ne_of_none {H : Hp} {a b : Addr} {o : HO} (h : H a = some o) (h' : H b = none) : a ≠ b := by
  intro e; subst e; rw [h] at h'; cases h'

section
variable (P : Program) (w : World)
def ObjOk (H : Hp) (h : Heap) (a : Addr) : HO → Prop
  | .lst xs => xs.length ≤ sizeLine ∧ ∃ (its : List Value) (n : Nat), Vals xs its ∧ h.get? a = some { cls := .type "list", data := .seq its.toArray n }
  | .tup xs => xs.length ≤ sizeLine ∧ ∃ its : List Value, Vals xs its ∧ IsTup h a its.toArray
  | .dK kvs => kvs.length ≤ sizeLine ∧ (a == sysModules) = false ∧ ∃ vs, KV kvs vs ∧ h.DictOf (mixKind P w) a vs
  | .dT kvs => kvs.length ≤ sizeLine ∧ (a == sysModules) = false ∧ ∃ xs : List (List Key × Addr × Value),
      Paired (fun (p : List Key × V) (q : List Key × Addr × Value) => p.1 = q.1 ∧ H q.2.1 = some (.tup (p.1.map kV)) ∧ RelV p.2 q.2.2) kvs xs ∧
      ∃ o es ep, h.get? a = some o ∧ o.ExactDict ∧ o.data = .dict es ep ∧ es.toList = xs.map (entryOfKey (tupleKind (mixKind P w))) ∧ (xs.map (·.1)).Nodup
  | .set S n => h.SetOf (intKind P w) a S n
  | .ins C dx fs => H dx = some (.own a) ∧ fs.length ≤ 1000 ∧ dx ≠ a ∧ h.get? a = some (PySem.W.instObj C dx) ∧
      ∃ mA, h.Ns1 dx mA ∧ (∀ f, RelO (fs.lookup f) (mA f)) ∧ PySem.Within mA (fs.map (·.1))
  | .own _ => ∃ o, h.get? a = some o
  | .xd fs => ∃ mA, h.Ns1 a mA ∧ ∀ f, RelO (fs.lookup f) (mA f)
  | .rng lo hi => ∃ t u v, h.get? a = some { cls := .type "range", data := .fields #[.int lo t, .int hi u, .int 1 v] }
  | .frz o u => h.get? a = some o ∧ ObjOk H h a u
  | .tbl ps => h.get? a = some { cls := .none, data := .fields ps }
  | .met f x => h.get? a = some (PySem.W.methodObj (.ref f) (.ref x))
  | .ext φ => φ h ∧ (∃ o, h.get? a = some o) ∧ ∀ h1 h2 : Heap, φ h1 → (∀ o, h1.get? a = some o → h2.get? a = some o) → φ h2
/-- the abstract heap is held -/
def HOk (H : Hp) (h : Heap) : Prop := ∀ a o, H a = some o → ObjOk P w H h a o
end

section
variable {P : Program} {w : World} {H H' : Hp} {h h' : Heap} {a : Addr} {o : HO}
theorem ObjOk.lt (x : ObjOk P w H h a o) : a < h.objs.size := by
  cases o with
  | lst xs => obtain ⟨_, _, _, _, e⟩ := x; exact Heap.lt_size e
  | tup xs => obtain ⟨_, _, _, p⟩ := x; exact p.lt
  | dK kvs => obtain ⟨_, _, _, _, o, _, _, e, _⟩ := x; exact Heap.lt_size e
  | dT kvs => obtain ⟨_, _, _, _, o, _, _, e, _⟩ := x; exact Heap.lt_size e
  | set S n => obtain ⟨o, _, _, _, e, _⟩ := x; exact Heap.lt_size e
  | ins C dx fs => obtain ⟨_, _, _, e, _⟩ := x; exact Heap.lt_size e
  | own y => obtain ⟨_, e⟩ := x; exact Heap.lt_size e
  | xd fs => obtain ⟨_, ⟨_, _, _, e, _⟩, _⟩ := x; exact Heap.lt_size e
  | rng lo hi => obtain ⟨_, _, _, e⟩ := x; exact Heap.lt_size e
  | frz ob u => obtain ⟨e, _⟩ := x; exact Heap.lt_size e
  | tbl ps => exact Heap.lt_size (show h.get? a = some _ from x)
  | met f y => exact Heap.lt_size (show h.get? a = some _ from x)
  | ext φ => obtain ⟨_, ⟨_, e⟩, _⟩ := x; exact Heap.lt_size e
theorem Paired.mapP {α β : Type} {F G : α → β → Prop} : ∀ {l₁ : List α} {l₂ : List β}, Paired F l₁ l₂ → (∀ a b, F a b → G a b) → Paired G l₁ l₂
  | _, _, .nil, _ => .nil
  | _, _, .cons r t, f => .cons (f _ _ r) (Paired.mapP t f)
/-- what an object's description leans on: its own object, its own dict, the tuples -/
theorem ObjOk.stay (x : ObjOk P w H h a o) (k : ∀ b u, (b = a ∨ H b = some (.own a)) → h.get? b = some u → h'.get? b = some u)
    (ho : ∀ b, H b = some (.own a) → H' b = some (.own a)) (ht : ∀ b xs, H b = some (.tup xs) → H' b = some (.tup xs)) : ObjOk P w H' h' a o := by
  induction o with
  | lst xs => obtain ⟨z, its, n, r, e⟩ := x; exact ⟨z, its, n, r, k _ _ (.inl rfl) e⟩
  | tup xs => obtain ⟨z, its, r, ob, e, c⟩ := x; exact ⟨z, its, r, ob, k _ _ (.inl rfl) e, c⟩
  | dK kvs => obtain ⟨z, y, vs, r, ob, es, ep, e, c⟩ := x; exact ⟨z, y, vs, r, ob, es, ep, k _ _ (.inl rfl) e, c⟩
  | dT kvs =>
    obtain ⟨z, y, xs, r, ob, es, ep, e, c⟩ := x
    exact ⟨z, y, xs, Paired.mapP r fun p q z => ⟨z.1, ht _ _ z.2.1, z.2.2⟩, ob, es, ep, k _ _ (.inl rfl) e, c⟩
  | set S n => obtain ⟨ob, es, ep, t, e, c⟩ := x; exact ⟨ob, es, ep, t, k _ _ (.inl rfl) e, c⟩
  | ins C dx fs =>
    obtain ⟨d, z, ne, e, mA, ⟨od, es, ep, e2, c⟩, r⟩ := x
    exact ⟨ho _ d, z, ne, k _ _ (.inl rfl) e, mA, ⟨od, es, ep, k _ _ (.inr d) e2, c⟩, r⟩
  | own y => obtain ⟨ob, e⟩ := x; exact ⟨ob, k _ _ (.inl rfl) e⟩
  | xd fs => obtain ⟨mA, ⟨od, es, ep, e, c⟩, r⟩ := x; exact ⟨mA, ⟨od, es, ep, k _ _ (.inl rfl) e, c⟩, r⟩
  | rng lo hi => obtain ⟨t, u, v, e⟩ := x; exact ⟨t, u, v, k _ _ (.inl rfl) e⟩
  | frz ob u ih => obtain ⟨e, q⟩ := x; exact ⟨k _ _ (.inl rfl) e, ih q⟩
  | tbl ps =>
    have e : h.get? a = some { cls := .none, data := .fields ps } := x
    show h'.get? a = some { cls := .none, data := .fields ps }
    exact k a _ (.inl rfl) e
  | met f y =>
    have e : h.get? a = some (PySem.W.methodObj (.ref f) (.ref y)) := x
    show h'.get? a = some (PySem.W.methodObj (.ref f) (.ref y))
    exact k a _ (.inl rfl) e
  | ext φ => obtain ⟨p, ⟨o, e⟩, st⟩ := x; exact ⟨st _ _ p fun o q => k _ _ (.inl rfl) q, ⟨o, k _ _ (.inl rfl) e⟩, st⟩
theorem HOk.lt (x : HOk P w H h) (e : H a = some o) : a < h.objs.size := (x a o e).lt
theorem HOk.fresh (x : HOk P w H h) (e : h.objs.size ≤ a) : H a = none := by
  cases q : H a with
  | none => rfl
  | some u => exact absurd (Nat.lt_of_lt_of_le (x.lt q) e) (Nat.lt_irrefl _)
/-- every object of the heap is kept -/
theorem HOk.kept (x : HOk P w H h) (k : ∀ b u, h.get? b = some u → h'.get? b = some u) : HOk P w H h' := fun a o e =>
  (x a o e).stay (fun b u _ q => k b u q) (fun _ q => q) fun _ _ q => q
/-- a new object is laid and tracked -/
theorem HOk.laid (x : HOk P w H h) (k : ∀ b u, h.get? b = some u → h'.get? b = some u) (hp : h.objs.size ≤ a) (new : ObjOk P w (upd H a o) h' a o) : HOk P w (upd H a o) h' := fun b u e => by
  have hn := x.fresh hp
  by_cases hb : b = a
  · subst hb; rw [upd_same] at e; cases e; exact new
  · rw [upd_ne hb] at e
    exact (x b u e).stay (fun c v _ q => k c v q) (fun c q => by rw [upd_ne (ne_of_none q hn)]; exact q) fun c xs q => by rw [upd_ne (ne_of_none q hn)]; exact q
end

/-- what may be read as u: it is u, or a known u -/
def Rd (H : Hp) (a : Addr) (u : HO) : Prop := H a = some u ∨ ∃ o, H a = some (.frz o u)
theorem Rd.ok {P : Program} {w : World} {H : Hp} {h : Heap} {a : Addr} {u : HO} (r : Rd H a u) (x : HOk P w H h) : ObjOk P w H h a u := by
  rcases r with r | ⟨o, r⟩
  · exact x a u r
  · obtain ⟨_, q⟩ := x a _ r
    exact q
/-- what may be written -/
def Mut : Option HO → Prop
  | some (.lst _) => True
  | some (.dK _) => True
  | some (.dT _) => True
  | some (.set _ _) => True
  | some (.ins _ _ _) => True
  | some (.ext _) => True
  | _ => False
section
variable {P : Program} {w : World} {H : Hp} {h h' : Heap} {x e : Addr} {o' : HO}
/-- the object at e is changed: x itself, or the dict of the instance x -/
theorem HOk.write (ok : HOk P w H h) (mu : Mut (H x)) (he : e = x ∨ H e = some (.own x)) (k : ∀ b u, b ≠ e → h.get? b = some u → h'.get? b = some u) (heo : ∃ u, h'.get? e = some u)
    (new : ObjOk P w (upd H x o') h' x o') : HOk P w (upd H x o') h' := fun b u q => by
  have nown : ∀ c y, H c = some (.own y) → c ≠ x := fun c y r z => by subst z; rw [r] at mu; exact mu
  have ntup : ∀ c xs, H c = some (.tup xs) → c ≠ x := fun c xs r z => by subst z; rw [r] at mu; exact mu
  by_cases hb : b = x
  · subst hb; rw [upd_same] at q; cases q; exact new
  · rw [upd_ne hb] at q
    by_cases hbe : b = e
    · have q' : H b = some (.own x) := by
        rcases he with z | z
        · exact absurd (hbe.trans z) hb
        · rw [hbe]; exact z
      rw [q] at q'; cases q'
      obtain ⟨v, hv⟩ := heo
      exact ⟨v, by rw [hbe]; exact hv⟩
    · refine (ok b u q).stay (fun c v hc r => k c v ?_ r) (fun c r => by rw [upd_ne (nown c b r)]; exact r) fun c xs r => by rw [upd_ne (ntup c xs r)]; exact r
      rcases hc with rfl | hc
      · exact hbe
      · rintro rfl
        rcases he with z | z
        · exact nown c b hc z
        · rw [hc] at z; cases z; exact hb rfl
end

/-! ### kept unless tracked; of the frames at fs (the callers') the slots may change (an exception that passes writes there); of the records at ex (iterators) nothing is said -/
structure Un (fs ex : List Addr) (H H' : Hp) (h h' : Heap) : Prop where
  keep : ∀ b o, h.get? b = some o → H b = none → b ∉ fs → b ∉ ex → h'.get? b = some o
  slot : ∀ b o, h.get? b = some o → H b = none → b ∈ fs → b ∉ ex → ∃ sl, h'.get? b = some { o with slots := sl }
  free : ∀ b o, h.get? b = some o → H b = none → b ∉ ex → H' b = none
  there : ∀ b o, h.get? b = some o → b ∉ ex → ∃ o', h'.get? b = some o'
  tups : ∀ b xs, H b = some (.tup xs) → H' b = some (.tup xs)
  frzs : ∀ b o u, H b = some (.frz o u) → H' b = some (.frz o u)
  tbls : ∀ b ps, H b = some (.tbl ps) → ∃ more, H' b = some (.tbl (ps ++ more))
section
variable {fs fs' ex ex' : List Addr} {H H1 H2 : Hp} {h h1 h2 h' : Heap} {a x e : Addr} {o : HO}
theorem Un.any (u : Un fs ex H H1 h h1) {b : Addr} {ob : Obj} (q : h.get? b = some ob) (n : H b = none) (hx : b ∉ ex) : ∃ sl, h1.get? b = some { ob with slots := sl } := by
  by_cases hb : b ∈ fs
  · exact u.slot b ob q n hb hx
  · exact ⟨ob.slots, u.keep b ob q n hb hx⟩
theorem Un.kept (k : ∀ b u, h.get? b = some u → h'.get? b = some u) : Un fs ex H H h h' :=
  ⟨fun b ob q _ _ _ => k b ob q, fun b ob q _ _ _ => ⟨ob.slots, k b ob q⟩, fun _ _ _ n _ => n, fun b ob q _ => ⟨ob, k b ob q⟩, fun _ _ q => q, fun _ _ _ q => q, fun _ ps q => ⟨#[], by rw [q]; simp⟩⟩
theorem Un.refl : Un fs ex H H h h := Un.kept fun _ _ q => q
theorem Un.laid (k : ∀ b u, h.get? b = some u → h'.get? b = some u) (hp : h.objs.size ≤ a) (hn : H a = none) : Un fs ex H (upd H a o) h h' where
  keep := fun b u q _ _ _ => k b u q
  slot := fun b u q _ _ _ => ⟨u.slots, k b u q⟩
  free := fun b u q n _ => by rw [upd_ne (Nat.ne_of_lt (Nat.lt_of_lt_of_le (Heap.lt_size q) hp))]; exact n
  there := fun b u q _ => ⟨u, k b u q⟩
  tups := fun b xs q => by rw [upd_ne (ne_of_none q hn)]; exact q
  frzs := fun b u xs q => by rw [upd_ne (ne_of_none q hn)]; exact q
  tbls := fun b ps q => ⟨#[], by rw [upd_ne (ne_of_none q hn), q]; simp⟩
theorem Un.write (mu : Mut (H x)) (he : e = x ∨ H e = some (.own x)) (k : ∀ b u, b ≠ e → h.get? b = some u → h'.get? b = some u) (heo : ∃ u, h'.get? e = some u) : Un fs ex H (upd H x o) h h' := by
  have hx : ∀ b, H b = none → b ≠ x := fun b n z => by subst z; rw [n] at mu; exact mu
  have hb : ∀ b, H b = none → b ≠ e := fun b n z => by
    subst z
    rcases he with r | r
    · exact hx b n r
    · rw [n] at r; cases r
  have hm : ∀ b u, H b = some u → ¬ Mut (some u) → b ≠ x := fun b u q nm z => by subst z; rw [q] at mu; exact nm mu
  refine ⟨fun b u q n _ _ => k b u (hb b n) q, fun b u q n _ _ => ⟨u.slots, k b u (hb b n) q⟩, fun b u q n _ => by rw [upd_ne (hx b n)]; exact n, fun b u q _ => ?_,
    fun b xs q => by rw [upd_ne (hm b _ q fun z => z)]; exact q, fun b u xs q => by rw [upd_ne (hm b _ q fun z => z)]; exact q, fun b ps q => ⟨#[], by rw [upd_ne (hm b _ q fun z => z), q]; simp⟩⟩
  by_cases hbe : b = e
  · subst hbe; exact heo
  · exact ⟨u, k b u hbe q⟩
end

/-! ### the heap without what is tracked -/
def trk (h : Heap) (H : Hp) : List Addr := (List.range h.objs.size).filter fun a => (H a).isSome
def hidT (h : Heap) (H : Hp) : Heap := PySem.W.hideAll h (trk h H)
theorem hidT_size (h : Heap) (H : Hp) : (hidT h H).objs.size = h.objs.size := PySem.W.hideAll_size _ _
theorem hidT_get {h : Heap} {H : Hp} {b : Addr} {o : Obj} (e : h.get? b = some o) (n : H b = none) : (hidT h H).get? b = some o :=
  PySem.W.hideAll_get _ e fun hm => by
    have q : (H b).isSome = true := (List.mem_filter.mp hm).2
    rw [n] at q; simp at q
theorem of_hidT {h : Heap} {H : Hp} {b : Addr} {o : Obj} (e : (hidT h H).get? b = some o) : h.get? b = some o ∧ H b = none := by
  have e' : h.get? b = some o := PySem.W.of_hideAll (trk h H) e
  refine ⟨e', ?_⟩
  cases q : H b with
  | none => rfl
  | some x =>
    have hm : b ∈ trk h H := List.mem_filter.mpr ⟨List.mem_range.mpr (Heap.lt_size e'), by simp [q]⟩
    have z : (hidT h H).get? b = none := PySem.W.hideAll_none (trk h H) hm
    rw [z] at e; cases e

/-! ### OpenK's ledger, filled with every new object but one -/
end L2

namespace L2
open PySem PySem.Spec PyProof.Rows

/-- the module's facts, over the base: the heap at the law's entry without what is tracked there -/
structure Mod (K : PySem.W.Frag) (mg : Str → Option Value) (base : Heap) : Prop where
  kin : K.In base
  glob : base.Ns mainGlobals mg
  blt : ∃ mb, base.Ns builtinsNs mb ∧ ∀ x : Str, x ≠ "__name__" → mb x = bootBuiltins x
  nolimit : base.NoLimit

/-- the context: a def's body (or a comprehension's block) running. base: fixed through the whole law; s₀, H₀: the entry; outer: the frames whose slots others may change (a def's callers); stack: all frames that run;
   ex: iterators that were made ahead of the entry and are walked here (a comprehension's); fn: the names whose cells were made at the entry (a def: all; a comprehension's block: its own); calm: not within an except suite; pn: pins that every state bears; xe: what is wanted of an exception that leaves the code -/
structure Cx where
  prog : Program
  w : World
  K : PySem.W.Frag
  mg : Str → Option Value
  base : Heap
  A : Around
  N : List Str
  s_0 : Shared
  H_0 : Hp
  env : Env
  outer : List Env
  stack : List Env
  ex : List Addr
  fn : Str → Bool
  calm : Bool
  pn : List (Addr × Obj)
  xe : Value → Shared → Prop
/-- the callers' frames -/
def frs (l : List Env) : List Addr := l.filterMap (·.frame)
abbrev Cx.fs (X : Cx) : List Addr := frs X.outer

def Vis (sc : Scope) (x : Str) : Prop := sc.names.lookup x = some .local ∨ sc.names.lookup x = some .cell ∨ sc.names.lookup x = some .free
def Loc (sc : Scope) (x : Str) : Prop := sc.names.lookup x = some .local ∨ sc.names.lookup x = some .cell
def Look (env : Env) (h : Heap) (m : Str → Option Value) (x : Str) (u : Value) : Prop :=
  (env.kindOf x = some .local ∧ m x = some u) ∨ ((env.kindOf x = some .cell ∨ env.kindOf x = some .free) ∧ ∃ c, env.cells.lookup x = some c ∧ h.IsCell c (some u))

structure Cx.Ok (X : Cx) : Prop where
  mod : Mod X.K X.mg X.base
  kind : X.env.scope.kind = .function
  glob : X.env.globals = mainGlobals
  blt : X.env.builtins = builtinsNs
  above : X.s_0.heap.objs.size ≤ X.env.locals
  inj : ∀ x y c, X.env.cells.lookup x = some c → X.env.cells.lookup y = some c → x = y
  has : ∀ x, (X.env.kindOf x = some .cell ∨ X.env.kindOf x = some .free) → ∃ c, X.env.cells.lookup x = some c
  cab : ∀ x c, X.fn x = true → X.env.cells.lookup x = some c → X.s_0.heap.objs.size ≤ c
  hd : X.calm = true → X.A.handled = none
  frames : X.A.frames = some X.stack
  stk : X.stack = X.outer ∨ (X.stack = X.env :: X.outer ∧ X.env.frame = some X.env.locals)
  exf : ∀ b ∈ X.ex, b ≠ X.env.locals ∧ ∀ x c, X.env.cells.lookup x = some c → c ≠ b
  bs : ∀ b o, X.base.get? b = some o → X.s_0.heap.get? b = some o ∧ X.H_0 b = none
  bsz : X.base.objs.size ≤ X.s_0.heap.objs.size
  noex : ∀ b o, X.base.get? b = some o → b ∉ X.ex
  exfs : ∀ b ∈ X.ex, b ∉ X.fs
  funs : X.s_0.heap.FunFrames X.base X.outer
  frf : ∀ b ∈ X.fs, X.H_0 b = none

structure Inv (X : Cx) (pins : List (Addr × Obj)) (σ : List (Option V)) (H : Hp) (s : Shared) : Prop where
  ok : X.Ok
  os : s.os = X.s_0.os
  bare : AllBare s.gens
  base : Un X.fs X.ex X.H_0 H X.s_0.heap s.heap
  loc : ∃ m, s.heap.Ns X.env.locals m ∧ ∀ (i : Nat) (x : Str) (v : V), X.N[i]? = some x → σ[i]? = some (some v) → Vis X.env.scope x → ∃ u, RelV v u ∧ Look X.env s.heap m x u
  cell : ∀ x c, X.env.cells.lookup x = some c → ∃ v, s.heap.IsCell c v
  free : H X.env.locals = none
  freeC : ∀ x c, X.env.cells.lookup x = some c → H c = none
  pin : ∀ p ∈ X.pn ++ pins, s.heap.get? p.1 = some p.2 ∧ H p.1 = none ∧ p.1 ≠ X.env.locals ∧ p.1 ∉ X.fs ∧ ∀ v, p.2.data ≠ .cell v
  hok : HOk X.prog X.w H s.heap
  len : σ.length = X.N.length

section
variable {X : Cx} {pins : List (Addr × Obj)} {σ : List (Option V)} {H H' : Hp} {s : Shared} {h' : Heap}

theorem Cx.Ok.nofr (ok : X.Ok) {b : Addr} {o : Obj} (e : X.base.get? b = some o) : b ∉ X.fs := fun hb => by
  have := (ok.funs.mem hb).1
  rw [e] at this; cases this
theorem Inv.bs (I : Inv X pins σ H s) : ∀ b o, X.base.get? b = some o → s.heap.get? b = some o ∧ H b = none := fun b o e =>
  ⟨I.base.keep b o (I.ok.bs b o e).1 (I.ok.bs b o e).2 (I.ok.nofr e) (I.ok.noex b o e), I.base.free b o (I.ok.bs b o e).1 (I.ok.bs b o e).2 (I.ok.noex b o e)⟩
theorem Inv.bk (I : Inv X pins σ H s) : ∀ b o, X.base.get? b = some o → s.heap.get? b = some o := fun b o e => (I.bs b o e).1
theorem Inv.mod (I : Inv X pins σ H s) : Mod X.K X.mg X.base := I.ok.mod
theorem Inv.kIn (I : Inv X pins σ H s) : X.K.In s.heap := I.ok.mod.kin.keeps I.bk
theorem Inv.lt (I : Inv X pins σ H s) : X.env.locals < s.heap.objs.size := let ⟨_, hn, _⟩ := I.loc; hn.lt
theorem Inv.sz (I : Inv X pins σ H s) : X.s_0.heap.objs.size ≤ s.heap.objs.size := Nat.le_trans I.ok.above (Nat.le_of_lt I.lt)
theorem Inv.nofs (I : Inv X pins σ H s) {a : Addr} (h : s.heap.objs.size ≤ a) : a ∉ X.fs := fun hb => by
  obtain ⟨_, o, ho, _⟩ := I.ok.funs.mem hb
  exact absurd (Nat.lt_of_lt_of_le (Heap.lt_size ho) (Nat.le_trans I.sz h)) (Nat.lt_irrefl _)
theorem Inv.cne (I : Inv X pins σ H s) : ∀ x c, X.env.cells.lookup x = some c → c ≠ X.env.locals := fun x c e z => by
  obtain ⟨v, o, ho, hd⟩ := I.cell x c e
  obtain ⟨m, ⟨o', es, ep, ho', hd', _⟩, _⟩ := I.loc
  rw [z, ho'] at ho; cases ho; rw [hd'] at hd; cases hd
theorem Inv.funs (I : Inv X pins σ H s) : s.heap.FunFrames X.base X.outer := by
  have all : ∀ (l : List Env), (∀ b ∈ frs l, b ∈ X.fs) → X.s_0.heap.FunFrames X.base l → s.heap.FunFrames X.base l := by
    intro l
    induction l with
    | nil => intro _ _; trivial
    | cons env r ih =>
      intro hs hl
      obtain ⟨hk, ⟨L, o, hf, hn, ho, hd⟩, hr⟩ := hl
      have hL : L ∈ X.fs := hs L (by unfold frs; rw [List.filterMap_cons, hf]; exact List.mem_cons_self)
      obtain ⟨sl, e⟩ := I.base.slot L o ho (I.ok.frf L hL) hL fun z => I.ok.exfs L z hL
      exact ⟨hk, ⟨L, _, hf, hn, e, hd⟩, ih (fun b hb => hs b (by unfold frs; rw [List.filterMap_cons, hf]; exact List.mem_cons_of_mem _ hb)) hr⟩
  exact all X.outer (fun _ hb => hb) I.ok.funs

/-- the frames that run, for a call -/
theorem Inv.stack (I : Inv X pins σ H s) : s.heap.FunFrames X.base X.stack := by
  rcases I.ok.stk with e | ⟨e, hf⟩
  · rw [e]; exact I.funs
  · rw [e]
    obtain ⟨m, hn, _⟩ := I.loc
    refine .cons (by rw [I.ok.kind]; decide) hf hn ?_ I.funs
    exact Heap.get?_none_of_le (Nat.le_trans I.ok.bsz I.ok.above)
theorem Inv.stkSub (I : Inv X pins σ H s) : ∀ b ∈ frs X.stack, b ∈ X.env.locals :: X.fs := fun b hb => by
  rcases I.ok.stk with e | ⟨e, hf⟩
  · rw [e] at hb; exact List.mem_cons_of_mem _ hb
  · rw [e] at hb
    unfold frs at hb
    rw [List.filterMap_cons, hf] at hb
    exact hb
theorem Inv.stkFree (I : Inv X pins σ H s) : ∀ b ∈ frs X.stack, H b = none := fun b hb => by
  rcases List.mem_cons.mp (I.stkSub b hb) with e | hb
  · rw [e]; exact I.free
  · obtain ⟨_, o, ho, _⟩ := I.ok.funs.mem hb
    exact I.base.free b o ho (I.ok.frf b hb) fun z => I.ok.exfs b z hb

/-- THE STEP: the untracked objects but the frame and the records at ch are kept (the callers' frames up to slots), the frame's map is kept, the new abstract heap is held -/
theorem Inv.step {g' : Array GenState} {t' : Nat} {d' : Drawn} {ch : List Addr} (I : Inv X pins σ H s)
    (hch : ∀ b ∈ ch, (b ∈ X.ex ∨ X.s_0.heap.objs.size ≤ b) ∧ b ≠ X.env.locals ∧ (∀ x c, X.env.cells.lookup x = some c → c ≠ b) ∧ ∀ p ∈ X.pn ++ pins, p.1 ≠ b)
    (keep : ∀ b o, b ≠ X.env.locals → b ∉ X.fs → b ∉ ch → s.heap.get? b = some o → H b = none → h'.get? b = some o)
    (slot : ∀ b o, b ≠ X.env.locals → b ∈ X.fs → b ∉ ch → s.heap.get? b = some o → H b = none → ∃ sl, h'.get? b = some { o with slots := sl }) (free : ∀ b o, b ∉ ch → s.heap.get? b = some o → H b = none → H' b = none)
    (there : ∀ b o, b ∉ ch → s.heap.get? b = some o → ∃ o', h'.get? b = some o')
    (tups : ∀ b xs, H b = some (.tup xs) → H' b = some (.tup xs)) (frzs : ∀ b o u, H b = some (.frz o u) → H' b = some (.frz o u)) (tbls : ∀ b ps, H b = some (.tbl ps) → ∃ more, H' b = some (.tbl (ps ++ more)))
    (ns : ∀ m, s.heap.Ns X.env.locals m → h'.Ns X.env.locals m) (hok : HOk X.prog X.w H' h') (hg : AllBare g') :
    Inv X pins σ H' { s with heap := h', gens := g', drawn := d', toks := t' } := by
  have neL : ∀ b o, X.s_0.heap.get? b = some o → b ≠ X.env.locals := fun b o e => Nat.ne_of_lt (Nat.lt_of_lt_of_le (Heap.lt_size e) I.ok.above)
  have neC : ∀ b o, X.s_0.heap.get? b = some o → b ∉ X.ex → b ∉ ch := fun b o e hx hb => by
    rcases (hch b hb).1 with z | z
    · exact hx z
    · exact absurd (Nat.lt_of_lt_of_le (Heap.lt_size e) z) (Nat.lt_irrefl _)
  have cellK : ∀ x c, X.env.cells.lookup x = some c → ∀ v, s.heap.IsCell c v → h'.IsCell c v := fun x c e v ⟨o, ho, hd⟩ => by
    have nch : c ∉ ch := fun z => (hch c z).2.2.1 x c e rfl
    by_cases hc : c ∈ X.fs
    · obtain ⟨sl, q⟩ := slot c o (I.cne x c e) hc nch ho (I.freeC x c e)
      exact ⟨_, q, hd⟩
    · exact ⟨o, keep c o (I.cne x c e) hc nch ho (I.freeC x c e), hd⟩
  refine ⟨I.ok, I.os, hg, ⟨fun b o e n hb hx => ?_, fun b o e n hb hx => ?_, fun b o e n hx => ?_, fun b o e hx => ?_, fun b xs e => tups b xs (I.base.tups b xs e), fun b o xs e => frzs b o xs (I.base.frzs b o xs e), fun b ps e => ?_⟩, ?_, fun x c e => ?_, ?_, fun x c e => ?_, fun p hp => ?_, hok, I.len⟩
  · exact keep b o (neL b o e) hb (neC b o e hx) (I.base.keep b o e n hb hx) (I.base.free b o e n hx)
  · obtain ⟨sl, e1⟩ := I.base.slot b o e n hb hx
    obtain ⟨sl', e2⟩ := slot b _ (neL b o e) hb (neC b o e hx) e1 (I.base.free b o e n hx)
    exact ⟨sl', e2⟩
  · obtain ⟨o', e1⟩ := I.base.there b o e hx
    exact free b o' (neC b o e hx) e1 (I.base.free b o e n hx)
  · obtain ⟨o', e1⟩ := I.base.there b o e hx
    exact there b o' (neC b o e hx) e1
  · obtain ⟨m1, e1⟩ := I.base.tbls b ps e
    obtain ⟨m2, e2⟩ := tbls b _ e1
    exact ⟨m1 ++ m2, by rw [e2, Array.append_assoc]⟩
  · obtain ⟨m, hn, hl⟩ := I.loc
    refine ⟨m, ns m hn, fun i x v e1 e2 e3 => ?_⟩
    obtain ⟨u, r, l⟩ := hl i x v e1 e2 e3
    refine ⟨u, r, ?_⟩
    rcases l with l | ⟨k, c, e, z⟩
    · exact .inl l
    · exact .inr ⟨k, c, e, cellK x c e _ z⟩
  · obtain ⟨v, z⟩ := I.cell x c e
    exact ⟨v, cellK x c e v z⟩
  · obtain ⟨m, ⟨o, _, _, ho, _⟩, _⟩ := I.loc
    exact free _ o (fun z => (hch _ z).2.1 rfl) ho I.free
  · obtain ⟨v, o, ho, hd⟩ := I.cell x c e
    exact free c o (fun z => (hch c z).2.2.1 x c e rfl) ho (I.freeC x c e)
  · obtain ⟨e, n, ne, nf, d⟩ := I.pin p hp
    have nch : p.1 ∉ ch := fun z => (hch p.1 z).2.2.2 p hp rfl
    exact ⟨keep p.1 p.2 ne nf nch e n, free p.1 p.2 nch e n, ne, nf, d⟩
/-- .. where the frame's own object is kept too -/
theorem Inv.un {t' : Nat} (I : Inv X pins σ H s) (u : Un X.fs [] H H' s.heap h') (hok : HOk X.prog X.w H' h') : Inv X pins σ H' { s with heap := h', toks := t' } := by
  obtain ⟨m, ⟨o, es, ep, ho, r⟩, _⟩ := id I.loc
  obtain ⟨sl, hL⟩ := u.any ho I.free (by simp)
  exact I.step (g' := s.gens) (d' := s.drawn) (ch := []) (fun _ z => nomatch z) (fun b o _ hb _ e n => u.keep b o e n hb (by simp)) (fun b o _ hb _ e n => u.slot b o e n hb (by simp)) (fun b o _ e n => u.free b o e n (by simp)) (fun b o _ e => u.there b o e (by simp)) u.tups u.frzs u.tbls (fun m' hm => by
    obtain ⟨o', es', ep', ho', r'⟩ := hm
    rw [ho] at ho'; cases ho'
    exact ⟨_, es', ep', hL, r'⟩) hok I.bare
/-- behind a call (or a comprehension's block): the slots of this frame may have changed too, the records at ch may have turned -/
theorem Inv.call {g' : Array GenState} {t' : Nat} {d' : Drawn} {ch : List Addr} (I : Inv X pins σ H s) (u : Un (frs X.stack) ch H H' s.heap h') (hok : HOk X.prog X.w H' h') (hg : AllBare g')
    (hch : ∀ b ∈ ch, (b ∈ X.ex ∨ X.s_0.heap.objs.size ≤ b) ∧ b ≠ X.env.locals ∧ (∀ x c, X.env.cells.lookup x = some c → c ≠ b) ∧ ∀ p ∈ X.pn ++ pins, p.1 ≠ b) :
    Inv X pins σ H' { s with heap := h', gens := g', drawn := d', toks := t' } := by
  obtain ⟨m, ⟨o, es, ep, ho, r⟩, _⟩ := id I.loc
  obtain ⟨sl, hL⟩ := u.any ho I.free fun z => (hch _ z).2.1 rfl
  exact I.step (ch := ch) hch (fun b o hL hb hc e n => u.keep b o e n (fun z => (List.mem_cons.mp (I.stkSub b z)).elim hL hb) hc) (fun b o _ _ hc e n => u.any e n hc) (fun b o hc e n => u.free b o e n hc) (fun b o hc e => u.there b o e hc) u.tups u.frzs u.tbls (fun m' hm => by
    obtain ⟨o', es', ep', ho', r'⟩ := hm
    rw [ho] at ho'; cases ho'
    exact ⟨_, es', ep', hL, r'⟩) hok hg
/-- an untracked record of ours (an iterator) has turned -/
theorem Inv.turned {t' : Nat} {it : Addr} (I : Inv X pins σ H s) (k : ∀ b o, b ≠ it → s.heap.get? b = some o → h'.get? b = some o) (hn : H it = none) (hL : it ≠ X.env.locals)
    (h1 : it ∈ X.ex ∨ X.s_0.heap.objs.size ≤ it) (h2 : ∀ x c, X.env.cells.lookup x = some c → c ≠ it) (h3 : ∀ p ∈ X.pn ++ pins, p.1 ≠ it) : Inv X pins σ H { s with heap := h', toks := t' } := by
  have nit : ∀ b u, H b = some u → b ≠ it := fun b u e z => by rw [z, hn] at e; cases e
  refine I.step (g' := s.gens) (d' := s.drawn) (ch := [it]) (fun b hb => ?_) (fun b o _ _ hc e _ => k b o (fun z => hc (by simp [z])) e) (fun b o _ _ hc e _ => ⟨o.slots, k b o (fun z => hc (by simp [z])) e⟩) (fun _ _ _ _ n => n)
    (fun b o hc e => ⟨o, k b o (fun z => hc (by simp [z])) e⟩) (fun _ _ e => e) (fun _ _ _ e => e) (fun b ps e => ⟨#[], by rw [e]; simp⟩) (fun m hm => ?_) (fun b u e => ?_) I.bare
  · have e : b = it := by simpa using hb
    subst e
    exact ⟨h1, hL, h2, h3⟩
  · obtain ⟨o, es, ep, ho, r⟩ := hm
    exact ⟨o, es, ep, k _ o (Ne.symm hL) ho, r⟩
  · refine (I.hok b u e).stay (fun c v hc q => k c v ?_ q) (fun _ q => q) fun _ _ q => q
    rcases hc with z | z
    · rw [z]; exact nit b u e
    · exact nit c _ z
theorem Inv.tok (I : Inv X pins σ H s) (t : Nat) : Inv X pins σ H { s with toks := t } := I.un (h' := s.heap) (t' := t) Un.refl I.hok
/-- all objects kept -/
theorem Inv.kept {t' : Nat} (I : Inv X pins σ H s) (k : ∀ b u, s.heap.get? b = some u → h'.get? b = some u) : Inv X pins σ H { s with heap := h', toks := t' } := I.un (Un.kept k) (I.hok.kept k)
/-- a new object laid and tracked -/
theorem Inv.laid {a : Addr} {o : HO} {t' : Nat} (I : Inv X pins σ H s) (k : ∀ b u, s.heap.get? b = some u → h'.get? b = some u) (hp : s.heap.objs.size ≤ a) (new : ObjOk X.prog X.w (upd H a o) h' a o) :
    Inv X pins σ (upd H a o) { s with heap := h', toks := t' } := I.un (Un.laid k hp (I.hok.fresh hp)) (I.hok.laid k hp new)
/-- an object written -/
theorem Inv.write {x e : Addr} {o : HO} {t' : Nat} (I : Inv X pins σ H s) (mu : Mut (H x)) (he : e = x ∨ H e = some (.own x)) (k : ∀ b u, b ≠ e → s.heap.get? b = some u → h'.get? b = some u) (heo : ∃ u, h'.get? e = some u)
    (new : ObjOk X.prog X.w (upd H x o) h' x o) : Inv X pins σ (upd H x o) { s with heap := h', toks := t' } := I.un (Un.write mu he k heo) (I.hok.write mu he k heo new)
/-- forgetting slots, pins -/
theorem Inv.weak {σ' : List (Option V)} (I : Inv X pins σ H s) (hl : σ'.length = σ.length) (w : ∀ (i : Nat) v, σ'[i]? = some (some v) → σ[i]? = some (some v)) : Inv X pins σ' H s :=
  ⟨I.ok, I.os, I.bare, I.base, let ⟨m, hn, hl'⟩ := I.loc; ⟨m, hn, fun i x v e1 e2 e3 => hl' i x v e1 (w i v e2) e3⟩, I.cell, I.free, I.freeC, I.pin, I.hok, hl.trans I.len⟩
theorem Inv.pins_of {pins' : List (Addr × Obj)} (I : Inv X pins σ H s) (h : ∀ p ∈ pins', s.heap.get? p.1 = some p.2 ∧ H p.1 = none ∧ p.1 ≠ X.env.locals ∧ p.1 ∉ X.fs ∧ ∀ v, p.2.data ≠ .cell v) : Inv X pins' σ H s :=
  ⟨I.ok, I.os, I.bare, I.base, I.loc, I.cell, I.free, I.freeC, fun p hp => (List.mem_append.mp hp).elim (fun z => I.pin p (List.mem_append_left _ z)) (h p), I.hok, I.len⟩

theorem nodup_ix {N : List Str} (hN : N.Nodup) {i j : Nat} {x : Str} (a : N[i]? = some x) (b : N[j]? = some x) : i = j := by
  obtain ⟨h1, e1⟩ := List.getElem?_eq_some_iff.mp a
  obtain ⟨h2, e2⟩ := List.getElem?_eq_some_iff.mp b
  exact (List.getElem_inj hN).mp (e1.trans e2.symm)

/-- a name is stored; what changed -/
theorem store_ok2 {M : Model} {A : Around} {E : Value → Shared → Prop} {i : Nat} {x : Str} {v : V} {u : Value} {Q : Unit → Shared → Prop} (I : Inv X pins σ H s) (hN : X.N.Nodup) (hi : X.N[i]? = some x) (hx : Loc X.env.scope x) (r : RelV v u)
    (h : ∀ s', Inv X pins (σ.set i (some v)) H s' → (∃ a, Heap.SameBut a s.heap s'.heap ∧ (a = X.env.locals ∨ X.env.cells.lookup x = some a)) → Q () s') (hf : X.fn x = true ∨ X.env.scope.names.lookup x = some .local := by first | exact .inl rfl | exact .inr rfl | assumption) : wpAny M A (storeName X.env x u) Q E s := by
  obtain ⟨m, hn, hl⟩ := id I.loc
  have hcls : (X.env.scope.kind == .class || (X.env.scope.kind == .module && X.env.locals != X.env.globals)) = false := by rw [I.ok.kind]; rfl
  have hiσ : i < σ.length := by rw [I.len]; exact (List.getElem?_eq_some_iff.mp hi).1
  have cne := I.cne
  have tracked : ∀ {a : Addr} {h' : Heap}, (∃ o, s.heap.get? a = some o ∧ H a = none) → Heap.SameBut a s.heap h' → HOk X.prog X.w H h' := fun {a h'} ha hs b ob e => by
    obtain ⟨_, _, hfree⟩ := ha
    refine (I.hok b ob e).stay (fun c w' hc q => (hs.2 c ?_).trans q) (fun _ q => q) fun _ _ q => q
    rintro rfl
    rcases hc with rfl | hc
    · rw [hfree] at e; cases e
    · rw [hfree] at hc; cases hc
  rcases hx with hk | hk
  · refine wpAny_storeName_local hk hn (fun h' hn' hs => ?_) hcls
    obtain ⟨oL, _, _, hoL, _⟩ := id hn
    refine h _ ⟨I.ok, I.os, I.bare, ⟨fun b o e n hb hx => ?_, fun b o e n hb hx => ?_, I.base.free, fun b o e hx => ?_, I.base.tups, I.base.frzs, I.base.tbls⟩, ⟨_, hn', fun j y v' e1 e2 e3 => ?_⟩, fun y c e => ?_, I.free, I.freeC, fun p hp => ?_, tracked ⟨oL, hoL, I.free⟩ hs, by simpa using I.len⟩ ⟨_, hs, .inl rfl⟩
    · exact (hs.2 b (Nat.ne_of_lt (Nat.lt_of_lt_of_le (Heap.lt_size e) I.ok.above))).trans (I.base.keep b o e n hb hx)
    · obtain ⟨sl, e1⟩ := I.base.slot b o e n hb hx
      exact ⟨sl, (hs.2 b (Nat.ne_of_lt (Nat.lt_of_lt_of_le (Heap.lt_size e) I.ok.above))).trans e1⟩
    · obtain ⟨o', e1⟩ := I.base.there b o e hx
      exact ⟨o', (hs.2 b (Nat.ne_of_lt (Nat.lt_of_lt_of_le (Heap.lt_size e) I.ok.above))).trans e1⟩
    · by_cases hj : j = i
      · subst hj
        rw [hi] at e1; cases e1
        rw [List.getElem?_set_self hiσ] at e2
        cases e2
        exact ⟨u, r, .inl ⟨hk, by simp⟩⟩
      · rw [List.getElem?_set_ne (Ne.symm hj)] at e2
        obtain ⟨u', r', q⟩ := hl j y v' e1 e2 e3
        refine ⟨u', r', ?_⟩
        rcases q with ⟨k, e⟩ | ⟨k, c, e, z⟩
        · refine .inl ⟨k, ?_⟩
          have : y ≠ x := fun e => hj (nodup_ix hN e1 (e ▸ hi))
          simp [this, e]
        · exact .inr ⟨k, c, e, z.sameBut hs (cne y c e)⟩
    · obtain ⟨w', z⟩ := I.cell y c e
      exact ⟨w', z.sameBut hs (cne y c e)⟩
    · obtain ⟨e, n, ne, nf, d⟩ := I.pin p hp
      exact ⟨(hs.2 p.1 ne).trans e, n, ne, nf, d⟩
  · have hfn : X.fn x = true := by
      rcases hf with z | z
      · exact z
      · rw [z] at hk; cases hk
    obtain ⟨c, hc⟩ := I.ok.has x (.inl hk)
    obtain ⟨w', z⟩ := I.cell x c hc
    refine wpAny_storeName_cell I.ok.kind hk hc z (fun h' hc' hs => ?_)
    obtain ⟨oc, hoc, hocd⟩ := id z
    refine h { s with heap := h' } ⟨I.ok, I.os, I.bare, ⟨fun b o e n hb hx => ?_, fun b o e n hb hx => ?_, I.base.free, fun b o e hx => ?_, I.base.tups, I.base.frzs, I.base.tbls⟩, ⟨m, hn.sameBut hs (Ne.symm (cne x c hc)), fun j y v' e1 e2 e3 => ?_⟩, fun y c' e => ?_, I.free, I.freeC, fun p hp => ?_, tracked ⟨oc, hoc, I.freeC x c hc⟩ hs, by simpa using I.len⟩ ⟨c, hs, .inr hc⟩
    · exact (hs.2 b (Nat.ne_of_lt (Nat.lt_of_lt_of_le (Heap.lt_size e) (I.ok.cab x c hfn hc)))).trans (I.base.keep b o e n hb hx)
    · obtain ⟨sl, e1⟩ := I.base.slot b o e n hb hx
      exact ⟨sl, (hs.2 b (Nat.ne_of_lt (Nat.lt_of_lt_of_le (Heap.lt_size e) (I.ok.cab x c hfn hc)))).trans e1⟩
    · obtain ⟨o', e1⟩ := I.base.there b o e hx
      exact ⟨o', (hs.2 b (Nat.ne_of_lt (Nat.lt_of_lt_of_le (Heap.lt_size e) (I.ok.cab x c hfn hc)))).trans e1⟩
    · by_cases hj : j = i
      · subst hj
        rw [hi] at e1; cases e1
        rw [List.getElem?_set_self hiσ] at e2
        cases e2
        exact ⟨u, r, .inr ⟨.inl hk, c, hc, hc'⟩⟩
      · rw [List.getElem?_set_ne (Ne.symm hj)] at e2
        obtain ⟨u', r', q⟩ := hl j y v' e1 e2 e3
        refine ⟨u', r', ?_⟩
        rcases q with q | ⟨k, c', e, z'⟩
        · exact .inl q
        · refine .inr ⟨k, c', e, z'.sameBut hs ?_⟩
          rintro rfl
          exact hj (nodup_ix hN e1 (I.ok.inj _ _ _ e hc ▸ hi))
    · by_cases hcc : c' = c
      · subst hcc; exact ⟨_, hc'⟩
      · obtain ⟨w2, z2⟩ := I.cell y c' e
        exact ⟨w2, z2.sameBut hs hcc⟩
    · obtain ⟨e, n, ne, nf, d⟩ := I.pin p hp
      refine ⟨(hs.2 p.1 ?_).trans e, n, ne, nf, d⟩
      intro q
      rw [q, hoc] at e
      have q' : oc = p.2 := Option.some.inj e
      exact d w' (by rw [← q']; exact hocd)
theorem store_ok {M : Model} {A : Around} {E : Value → Shared → Prop} {i : Nat} {x : Str} {v : V} {u : Value} {Q : Unit → Shared → Prop} (I : Inv X pins σ H s) (hN : X.N.Nodup) (hi : X.N[i]? = some x) (hx : Loc X.env.scope x) (r : RelV v u)
    (h : ∀ s', Inv X pins (σ.set i (some v)) H s' → Q () s') (hf : X.fn x = true ∨ X.env.scope.names.lookup x = some .local := by first | exact .inl rfl | exact .inr rfl | assumption) : wpAny M A (storeName X.env x u) Q E s :=
  store_ok2 I hN hi hx r (fun s' I' _ => h s' I') hf
/-- behind a call or a block, the state as it is -/
theorem Inv.call' {s' : Shared} {ch : List Addr} (I : Inv X pins σ H s) (ho : s'.os = s.os) (u : Un (frs X.stack) ch H H' s.heap s'.heap) (hok : HOk X.prog X.w H' s'.heap) (hg : AllBare s'.gens)
    (hch : ∀ b ∈ ch, (b ∈ X.ex ∨ X.s_0.heap.objs.size ≤ b) ∧ b ≠ X.env.locals ∧ (∀ x c, X.env.cells.lookup x = some c → c ≠ b) ∧ ∀ p ∈ X.pn ++ pins, p.1 ≠ b) : Inv X pins σ H' s' := by
  obtain ⟨h', g', d', t', o'⟩ := s'
  have e : o' = s.os := ho
  subst e
  exact I.call (g' := g') (t' := t') (d' := d') u hok hg hch
end

/-! ### the judgements -/
/-- an exception: its class, its own dict's address (where it has one), the abstract heap behind it -/
abbrev XK := Value → Option Addr → Hp → Prop
abbrev St := List (Option V)
abbrev VK := V → Hp → Prop
/-- an expression's reading; a test's; an argument list's -/
abbrev TE := St → Hp → VK → Prop
abbrev TT := St → Hp → (Bool → Hp → Prop) → Prop
abbrev TA := St → Hp → (List V → Hp → Prop) → Prop
/-- what is wanted behind a statement -/
structure Ends where
  nx : St → Hp → Prop
  rt : VK
  bk : St → Hp → Prop := fun _ _ => False
  ct : St → Hp → Prop := fun _ _ => False
abbrev TS := Ends → St → Hp → Prop

def EP (X : Cx) (pins : List (Addr × Obj)) (σ : St) (Q : VK) (u : Value) (s' : Shared) : Prop := ∃ v H', Inv X pins σ H' s' ∧ RelV v u ∧ Q v H'
def TP (X : Cx) (pins : List (Addr × Obj)) (σ : St) (Q : Bool → Hp → Prop) (b : Bool) (s' : Shared) : Prop := ∃ H', Inv X pins σ H' s' ∧ Q b H'
def AP (X : Cx) (pins : List (Addr × Obj)) (σ : St) (Q : List V → Hp → Prop) (us : List Value) (s' : Shared) : Prop := ∃ vs H', Inv X pins σ H' s' ∧ Vals vs us ∧ Q vs H'
def SP (X : Cx) (pins : List (Addr × Obj)) (D : Ends) (f : Flow) (s' : Shared) : Prop :=
  match f with
  | .next => ∃ σ' H', Inv X pins σ' H' s' ∧ D.nx σ' H'
  | .brk => ∃ σ' H', Inv X pins σ' H' s' ∧ D.bk σ' H'
  | .cont => ∃ σ' H', Inv X pins σ' H' s' ∧ D.ct σ' H'
  | .ret u => ∃ v σ' H', Inv X pins σ' H' s' ∧ RelV v u ∧ D.rt v H'

def PE (X : Cx) (e : Expr) (t : TE) : Prop :=
  ∀ (pins : List (Addr × Obj)) (s : Shared) (σ : St) (H : Hp) (Q : VK), Inv X pins σ H s → t σ H Q → wpAny (model X.prog X.w) X.A (eval e X.env) (EP X pins σ Q) X.xe s
def PT (X : Cx) (e : Expr) (t : TT) : Prop :=
  ∀ (pins : List (Addr × Obj)) (s : Shared) (σ : St) (H : Hp) (Q : Bool → Hp → Prop), Inv X pins σ H s → t σ H Q → wpAny (model X.prog X.w) X.A (isTrue e X.env (eval e X.env)) (TP X pins σ Q) X.xe s
/-- a test whatever its 'whole' is (and, or) -/
def PW (X : Cx) (e : Expr) (t : TT) : Prop :=
  ∀ (whole : Sem Value) (pins : List (Addr × Obj)) (s : Shared) (σ : St) (H : Hp) (Q : Bool → Hp → Prop), Inv X pins σ H s → t σ H Q → wpAny (model X.prog X.w) X.A (isTrue e X.env whole) (TP X pins σ Q) X.xe s
theorem PW.pt {X : Cx} {e : Expr} {t : TT} (h : PW X e t) : PT X e t := h _
/-- an argument list (no star), from the left -/
def PA (X : Cx) (es : List Expr) (t : TA) : Prop :=
  ∀ (pos : Pos) (pins : List (Addr × Obj)) (s : Shared) (σ : St) (H : Hp) (Q : List V → Hp → Prop), Inv X pins σ H s → t σ H Q → wpAny (model X.prog X.w) X.A (spliced (backTo pos (starEach es X.env))) (AP X pins σ Q) X.xe s
def PS (X : Cx) (st : Stmt) (t : TS) : Prop :=
  ∀ (pins : List (Addr × Obj)) (s : Shared) (σ : St) (H : Hp) (D : Ends), Inv X pins σ H s → t D σ H → wpAny (model X.prog X.w) X.A (exec st X.env) (SP X pins D) X.xe s
def PSs (X : Cx) (st : List Stmt) (t : TS) : Prop :=
  ∀ (pins : List (Addr × Obj)) (s : Shared) (σ : St) (H : Hp) (D : Ends), Inv X pins σ H s → t D σ H → wpAny (model X.prog X.w) X.A (execs st X.env) (SP X pins D) X.xe s
/-- weaken the end -/
theorem thn {α : Type} {t : Sem α} {Q Q' : α → Shared → Prop} {M : Model} {A : Around} {E : Value → Shared → Prop} {s : Shared} (h : wpAny M A t Q E s) (hQ : ∀ a s, Q a s → Q' a s) : wpAny M A t Q' E s := wpAny_mono h hQ fun _ _ x => x
end L2

namespace L2
open PySem PySem.Spec PyProof.Rows
section
variable {X : Cx}


/-! ### names and constants -/
def tVar (i : Nat) : TE := fun σ H Q => ∃ v, σ[i]? = some (some v) ∧ Q v H
def tC (v : V) : TE := fun _ H Q => Q v H
theorem pe_var {i : Nat} {x : Str} {pos : Pos} (hN : X.N[i]? = some x) (hv : Vis X.env.scope x) (hd : (x == ("__debug__" : Str)) = false := by decide) (hcd : (x == ("__classdict__" : Str)) = false := by decide) : PE X (.Name x pos) (tVar i) := by
  intro pins s σ H Q I h
  obtain ⟨v, e, h⟩ := h
  obtain ⟨m, hn, hl⟩ := I.loc
  obtain ⟨u, r, l⟩ := hl i x v hN e hv
  have fin : EP X pins σ Q u s := ⟨v, H, I, r, h⟩
  rcases l with ⟨hk, hm⟩ | ⟨hk, c, hc, hcell⟩
  · exact wpAny_Name (wpAny_loadName_local I.ok.kind hk hn hm fin) hd
  · rcases hk with hk | hk
    · exact wpAny_Name (wpAny_loadName_cell I.ok.kind hk hc hcell fin) hd
    · exact wpAny_Name (wpAny_loadName_free I.ok.kind hk hc hcell fin hcd) hd
theorem pe_int {i j pos} : PE X (.Constant (.int i) j pos) (tC (.int i)) := fun _ _ _ H _ I h => wpAny_Constant_int ⟨.int i, H, I.tok _, ⟨_, rfl⟩, h⟩
theorem pe_bl {b j pos} : PE X (.Constant (.bool b) j pos) (tC (.bl b)) := fun _ _ _ H _ I h => Constant_bool ⟨.bl b, H, I, rfl, h⟩
theorem pe_non {j pos} : PE X (.Constant .none j pos) (tC .non) := fun _ _ _ H _ I h => Constant_none ⟨.non, H, I, rfl, h⟩

/-- a global name of the def -/
def Gl (X : Cx) (x : Str) : Prop := X.env.kindOf x = some .globalImplicit
theorem ld_glob {E : Value → Shared → Prop} {pins : List (Addr × Obj)} {s : Shared} {σ : St} {H : Hp} {x : Str} {u : Value} {pos : Pos} {Q : Value → Shared → Prop} (I : Inv X pins σ H s) (hg : Gl X x) (hm : X.mg x = some u) (h : Q u s)
    (hd : (x == ("__debug__" : Str)) = false := by decide) : wpAny (model X.prog X.w) X.A (eval (.Name x pos) X.env) Q E s :=
  Calls.Name_function_global I.ok.kind hg (Calls.loadGlobal_global (by rw [I.ok.glob]; exact I.mod.glob.keeps I.bk) hm h) hd
theorem ld_blt {E : Value → Shared → Prop} {pins : List (Addr × Obj)} {s : Shared} {σ : St} {H : Hp} {x : Str} {u : Value} {pos : Pos} {Q : Value → Shared → Prop} (I : Inv X pins σ H s) (hg : Gl X x) (hm : X.mg x = none) (hv : bootBuiltins x = some u) (h : Q u s)
    (hn : x ≠ "__name__" := by decide) (hd : (x == ("__debug__" : Str)) = false := by decide) : wpAny (model X.prog X.w) X.A (eval (.Name x pos) X.env) Q E s := by
  obtain ⟨mb, h1, h2⟩ := I.mod.blt
  exact Calls.Name_function_global I.ok.kind hg (Calls.loadGlobal_builtin (by rw [I.ok.glob]; exact I.mod.glob.keeps I.bk) hm (by rw [I.ok.blt]; exact h1.keeps I.bk) ((h2 x hn).trans hv) h) hd
/-- a module's constant, a class, a function, as a value -/
theorem pe_glob {x : Str} {v : V} {u : Value} {pos : Pos} (hg : Gl X x) (hm : X.mg x = some u) (r : RelV v u) (hd : (x == ("__debug__" : Str)) = false := by decide) : PE X (.Name x pos) (tC v) :=
  fun _ _ _ H _ I h => ld_glob I hg hm ⟨v, H, I, r, h⟩ hd

/-! ### arithmetic -/
variable {a b : Expr} {ta tb : TE} {pos : Pos}

/-! ### comparisons -/
def PC (X : Cx) (op : CmpOp) (a b : Expr) (t : TE) : Prop :=
  ∀ (pins : List (Addr × Obj)) (s : Shared) (σ : St) (H : Hp) (Q : VK), Inv X pins σ H s → t σ H Q →
    wpAny (model X.prog X.w) X.A (eval a X.env) (fun v s₁ => wpAny (model X.prog X.w) X.A (eval b X.env) (fun u s₂ => wpAny (model X.prog X.w) X.A (compareOp op v u) (EP X pins σ Q) X.xe s₂) X.xe s₁) X.xe s
theorem nobehind (b : Expr) {op : CmpOp} (h : op ≠ .In) (h2 : op ≠ .NotIn) : behindInMarks op b = false := by
  have e1 : (op == CmpOp.In) = false := by cases op <;> first | rfl | exact absurd rfl h
  have e2 : (op == CmpOp.NotIn) = false := by cases op <;> first | rfl | exact absurd rfl h2
  cases b <;> simp [behindInMarks, e1, e2]
/-- is None -/
def tIsN (ta : TE) : TE := fun σ H Q => ta σ H fun x H1 => Q (.bl (decide (x = .non))) H1
theorem RelV.none_iff {x : V} {v : Value} (r : RelV x v) : (v == Value.none) = decide (x = .non) := by
  cases x with
  | non => cases r; rfl
  | bl _ => cases r; rfl
  | int _ => obtain ⟨t, rfl⟩ := r; rfl
  | str _ => obtain ⟨t, rfl⟩ := r; rfl
  | byt _ => obtain ⟨t, rfl⟩ := r; rfl
  | flt _ => obtain ⟨t, rfl⟩ := r; rfl
  | ref _ => cases r; rfl
  | ty _ => cases r; rfl
theorem pc_isN {j pos'} (ha : PE X a ta) : PC X .Is a (.Constant .none j pos') (tIsN ta) := by
  intro pins s σ H Q I h
  refine thn (ha pins s σ H _ I h) fun v s1 ⟨x, H1, I1, r1, q1⟩ => ?_
  exact Constant_none (is_none_gen ⟨.bl _, H1, I1, by rw [r1.none_iff]; rfl, q1⟩)
/-- a comparison as a value, as a test -/
def tB (t : TE) : TT := fun σ H Q => t σ H fun x H1 => ∃ c, x = .bl c ∧ Q c H1
theorem pt_cmp {op : CmpOp} {t : TE} (h : PC X op a b t) (h1 : behindInMarks op b = false := by first | exact nobehind _ (by decide) (by decide) | rfl) : PT X (.Compare a [op] [b] pos) (tB t) := by
  intro pins s σ H Q I hw
  refine wpAny_isTrue_Compare1 (thn (h pins s σ H _ I hw) fun v s1 h1 => thn h1 fun u s2 h2 => thn h2 fun c s3 ⟨x, H1, I1, r1, q1⟩ => ?_) h1
  obtain ⟨d, rfl, q⟩ := q1
  cases r1
  exact wpAny_truthy_bool ⟨H1, I1, q⟩
/-- an expression whose value is a bool, as a test -/
theorem pt_val {e : Expr} {t : TE} (h : PE X e t) (he : ∀ whole, isTrue e X.env whole = (do let v ← whole; standAt e.pos; holding [v] (truthy v)) := by intro _; rfl) : PT X e (tB t) := by
  intro pins s σ H Q I hw
  refine isTrue_plain (thn (h pins s σ H _ I hw) fun v s1 ⟨x, H1, I1, r1, q1⟩ => ?_) (he _)
  obtain ⟨d, rfl, q⟩ := q1
  cases r1
  exact wpAny_truthy_bool ⟨H1, I1, q⟩

/-! ### and, or, not -/
variable {tA tB' : TT} {rest : List Expr}
def tAnd (t u : TT) : TT := fun σ H Q => t σ H fun c H1 => if c = true then u σ H1 Q else Q false H1
def tOr (t u : TT) : TT := fun σ H Q => t σ H fun c H1 => if c = true then Q true H1 else u σ H1 Q
def tNot (t : TT) : TT := fun σ H Q => t σ H fun c H1 => Q (!c) H1
theorem pw_and1 (ha : PT X a tA) : PW X (.BoolOp .And [a] pos) tA := by
  intro wh pins s σ H Q I h
  refine isTrue_and (thn (ha pins s σ H Q I h) fun c s1 e => ?_)
  cases c with
  | true => exact isTrue_and_nil e
  | false => exact e
theorem pw_or1 (ha : PT X a tA) : PW X (.BoolOp .Or [a] pos) tA := by
  intro wh pins s σ H Q I h
  refine isTrue_or (thn (ha pins s σ H Q I h) fun c s1 e => ?_)
  cases c with
  | false => exact isTrue_or_nil e
  | true => exact e
theorem pw_and (ha : PT X a tA) (hb : PW X (.BoolOp .And (b :: rest) pos) tB') : PW X (.BoolOp .And (a :: b :: rest) pos) (tAnd tA tB') := by
  intro wh pins s σ H Q I h
  refine isTrue_and (thn (ha pins s σ H _ I h) fun c s1 ⟨H1, I1, q1⟩ => ?_)
  cases c with
  | true => exact hb wh pins s1 σ H1 Q I1 q1
  | false => exact ⟨H1, I1, q1⟩
theorem pw_or (ha : PT X a tA) (hb : PW X (.BoolOp .Or (b :: rest) pos) tB') : PW X (.BoolOp .Or (a :: b :: rest) pos) (tOr tA tB') := by
  intro wh pins s σ H Q I h
  refine isTrue_or (thn (ha pins s σ H _ I h) fun c s1 ⟨H1, I1, q1⟩ => ?_)
  cases c with
  | true => exact ⟨H1, I1, q1⟩
  | false => exact hb wh pins s1 σ H1 Q I1 q1
theorem pt_not (ha : PT X a tA) : PT X (.UnaryOp .Not a pos) (tNot tA) := by
  intro pins s σ H Q I h
  exact isTrue_not (ha pins s σ H (fun c H1 => Q (!c) H1) I h)
/-- .. as values (bools) -/
def tAndV (ta tb : TE) : TE := fun σ H Q => ta σ H fun x H1 => ∃ c, x = .bl c ∧ if c = true then tb σ H1 Q else Q (.bl false) H1
theorem pe_one {op} {t : TE} (h : PE X a t) : PE X (.BoolOp op [a] pos) t := fun pins s σ H Q I hw => BoolOp_one (h pins s σ H Q I hw)
theorem pe_and (ha : PE X a ta) (hb : PE X (.BoolOp .And (b :: rest) pos) tb) : PE X (.BoolOp .And (a :: b :: rest) pos) (tAndV ta tb) := by
  intro pins s σ H Q I h
  refine BoolOp_and (thn (ha pins s σ H _ I h) fun v s1 ⟨x, H1, I1, r1, q1⟩ => ?_)
  obtain ⟨c, rfl, q1⟩ := q1
  cases r1
  refine wpAny_truthy_bool ?_
  cases c with
  | true => exact hb pins s1 σ H1 Q I1 q1
  | false => exact ⟨.bl false, H1, I1, rfl, q1⟩
/-- a if t else b -/
def tIf (t : TT) (ta tb : TE) : TE := fun σ H Q => t σ H fun c H1 => if c = true then ta σ H1 Q else tb σ H1 Q
theorem pe_ifExp {c : Expr} (hc : PT X c tA) (ha : PE X a ta) (hb : PE X b tb) : PE X (.IfExp c a b pos) (tIf tA ta tb) := by
  intro pins s σ H Q I h
  refine wpAny_IfExp (thn (hc pins s σ H _ I h) fun d s1 ⟨H1, I1, q1⟩ => ?_)
  cases d with
  | true => exact ha pins s1 σ H1 Q I1 q1
  | false => exact hb pins s1 σ H1 Q I1 q1
end
end L2

namespace L2
open PySem PySem.Spec PyProof.Rows

/-! ### a list, a tuple that is read: tracked, frozen, or an object of the module -/
def SqL (K : PySem.W.Frag) (H : Hp) (a : Addr) (xs : List V) : Prop :=
  Rd H a (.lst xs) ∨
    ∃ (o : Obj) (its : Array Value) (n : Nat), K.lookup a = some o ∧ o.cls = .type "list" ∧ o.dict = none ∧ o.data = .seq its n ∧ its.size ≤ sizeLine ∧ Vals xs its.toList
def SqT (K : PySem.W.Frag) (H : Hp) (a : Addr) (xs : List V) : Prop :=
  Rd H a (.tup xs) ∨
    ∃ (o : Obj) (its : Array Value) (n : Nat), K.lookup a = some o ∧ o.cls = .type "tuple" ∧ o.data = .seq its n ∧ its.size ≤ sizeLine ∧ Vals xs its.toList
def absV : Value → Option V
  | .none => some .non
  | .bool b => some (.bl b)
  | .int i _ => some (.int i)
  | .str x _ => some (.str x)
  | .bytes b _ => some (.byt b)
  | .float b _ => some (.flt b)
  | .ref a => some (.ref a)
  | .type n => some (.ty n)
  | _ => none
theorem RelV.abs {x : V} {u : Value} (r : RelV x u) : absV u = some x := by
  cases x with
  | non => cases r; rfl
  | bl _ => cases r; rfl
  | int _ => obtain ⟨t, rfl⟩ := r; rfl
  | str _ => obtain ⟨t, rfl⟩ := r; rfl
  | byt _ => obtain ⟨t, rfl⟩ := r; rfl
  | flt _ => obtain ⟨t, rfl⟩ := r; rfl
  | ref _ => cases r; rfl
  | ty _ => cases r; rfl
theorem RelV.inj {x y : V} {u : Value} (r : RelV x u) (q : RelV y u) : x = y := Option.some.inj (r.abs.symm.trans q.abs)
theorem Vals.inj : ∀ {xs ys : List V} {us : List Value}, Vals xs us → Vals ys us → xs = ys
  | _, _, _, .nil, .nil => rfl
  | _, _, _, .cons r t, .cons r' t' => by rw [r.inj r', Vals.inj t t']
section
variable {X : Cx} {pins : List (Addr × Obj)} {σ : St} {H : Hp} {s : Shared} {a : Addr} {xs ys : List V}
theorem SqL.of {K : PySem.W.Frag} (h : H a = some (.lst xs)) : SqL K H a xs := .inl (.inl h)
theorem SqT.of {K : PySem.W.Frag} (h : H a = some (.tup xs)) : SqT K H a xs := .inl (.inl h)
theorem Inv.list (I : Inv X pins σ H s) (h : SqL X.K H a xs) : ∃ its : List Value, Vals xs its ∧ PlainL s.heap a its.toArray ∧ xs.length ≤ sizeLine := by
  rcases h with h | ⟨o, its, n, hk, hc, hd, hs, hz, r⟩
  · obtain ⟨z, its, n, r, e⟩ := h.ok I.hok
    exact ⟨its, r, ⟨_, n, e, rfl, rfl, rfl⟩, z⟩
  · refine ⟨its.toList, r, ⟨o, n, I.kIn a o hk, hc, hd, by simpa using hs⟩, ?_⟩
    have e := r.length
    simp only [Array.length_toList] at e
    omega
theorem Inv.tuple (I : Inv X pins σ H s) (h : SqT X.K H a xs) : ∃ its : List Value, Vals xs its ∧ IsTup s.heap a its.toArray ∧ xs.length ≤ sizeLine := by
  rcases h with h | ⟨o, its, n, hk, hc, hs, hz, r⟩
  · obtain ⟨z, its, r, p⟩ := h.ok I.hok
    exact ⟨its, r, p, z⟩
  · refine ⟨its.toList, r, ⟨o, I.kIn a o hk, hc, n, by simpa using hs⟩, ?_⟩
    have e := r.length
    simp only [Array.length_toList] at e
    omega
theorem Inv.list_inj (I : Inv X pins σ H s) (h : SqL X.K H a xs) (h' : SqL X.K H a ys) : xs = ys := by
  obtain ⟨its, r, ⟨o, n, e, _, _, d⟩, _⟩ := I.list h
  obtain ⟨its', r', ⟨o', n', e', _, _, d'⟩, _⟩ := I.list h'
  rw [e] at e'; cases e'
  rw [d] at d'
  injection d' with d1 _
  have : its = its' := by simpa using congrArg Array.toList d1
  subst this
  exact r.inj r'
end

/-! ### another wish about exceptions -/
abbrev Cx.wish (X : Cx) (E : Value → Shared → Prop) : Cx := { X with xe := E }
/-- no exception leaves -/
abbrev Cx.nox (X : Cx) : Cx := X.wish fun _ _ => False
theorem Cx.Ok.wish {X : Cx} (ok : X.Ok) (E : Value → Shared → Prop) : (X.wish E).Ok :=
  ⟨ok.mod, ok.kind, ok.glob, ok.blt, ok.above, ok.inj, ok.has, ok.cab, ok.hd, ok.frames, ok.stk, ok.exf, ok.bs, ok.bsz, ok.noex, ok.exfs, ok.funs, ok.frf⟩
theorem Cx.Ok.unwish {X : Cx} {E : Value → Shared → Prop} (ok : (X.wish E).Ok) : X.Ok :=
  ⟨ok.mod, ok.kind, ok.glob, ok.blt, ok.above, ok.inj, ok.has, ok.cab, ok.hd, ok.frames, ok.stk, ok.exf, ok.bs, ok.bsz, ok.noex, ok.exfs, ok.funs, ok.frf⟩
section
variable {X : Cx} {pins : List (Addr × Obj)} {σ : St} {H : Hp} {s : Shared} {E : Value → Shared → Prop}
theorem Inv.wish (I : Inv X pins σ H s) (E : Value → Shared → Prop) : Inv (X.wish E) pins σ H s := ⟨I.ok.wish E, I.os, I.bare, I.base, I.loc, I.cell, I.free, I.freeC, I.pin, I.hok, I.len⟩
theorem Inv.unwish (I : Inv (X.wish E) pins σ H s) : Inv X pins σ H s := ⟨I.ok.unwish, I.os, I.bare, I.base, I.loc, I.cell, I.free, I.freeC, I.pin, I.hok, I.len⟩
theorem SP.unwish {D : Ends} {f : Flow} {s' : Shared} (h : SP (X.wish E) pins D f s') : SP X pins D f s' := by
  cases f with
  | next => obtain ⟨σ', H', I, q⟩ := h; exact ⟨σ', H', I.unwish, q⟩
  | brk => obtain ⟨σ', H', I, q⟩ := h; exact ⟨σ', H', I.unwish, q⟩
  | cont => obtain ⟨σ', H', I, q⟩ := h; exact ⟨σ', H', I.unwish, q⟩
  | ret u => obtain ⟨v, σ', H', I, r, q⟩ := h; exact ⟨v, σ', H', I.unwish, r, q⟩
theorem PSs.nox {st : List Stmt} {t : TS} (h : PSs X.nox st t) : PSs X st t := fun pins s σ H D I hw =>
  wpAny_mono (h pins s σ H D (I.wish _) hw) (fun _ _ q => q.unwish) fun _ _ z => False.elim z
end

/-! ### blocks and small statements -/
section
variable {X : Cx} {st : Stmt} {rest : List Stmt} {t u : TS} {e : Expr} {te : TE} {pos : Pos}
def tNext : TS := fun D σ H => D.nx σ H
def tSeq (t u : TS) : TS := fun D σ H => t { D with nx := u D } σ H
theorem pss_nil : PSs X [] tNext := fun _ _ σ H _ I h => wpAny_execs_nil ⟨σ, H, I, h⟩
theorem pss_cons (h1 : PS X st t) (h2 : PSs X rest u) : PSs X (st :: rest) (tSeq t u) := by
  intro pins s σ H D I h
  refine wpAny_execs_cons (thn (h1 pins s σ H { D with nx := u D } I h) fun f s1 q => ?_)
  cases f with
  | next =>
    obtain ⟨σ', H', I', q⟩ := q
    exact h2 pins s1 σ' H' D I' q
  | ret v => exact q
  | brk => exact q
  | cont => exact q
theorem pss_one (h1 : PS X st t) : PSs X [st] t := by
  intro pins s σ H D I h
  refine wpAny_execs_cons (thn (h1 pins s σ H D I h) fun f s1 q => ?_)
  cases f with
  | next => exact wpAny_execs_nil q
  | ret v => exact q
  | brk => exact q
  | cont => exact q
/-- in a def's body nothing is shown -/
theorem Inv.quiet {pins : List (Addr × Obj)} {σ : St} {H : Hp} {s : Shared} (I : Inv X pins σ H s) : interactive X.env = false := by simp [interactive, I.ok.kind]
/-- an expression whose value is dropped -/
def tDrop (te : TE) : TS := fun D σ H => te σ H fun _ H1 => D.nx σ H1
theorem ps_expr (he : PE X e te) (hs : swapsWith e none pos.line X.env = pure false := by rfl) : PS X (.Expr e pos) (tDrop te) := by
  intro pins s σ H D I h
  exact wpAny_Expr_any (thn (he pins s σ H _ I h) fun v s1 ⟨x, H1, I1, r1, q1⟩ => ⟨σ, H1, I1, q1⟩) I.quiet hs
def tRet (te : TE) : TS := fun D σ H => te σ H D.rt
theorem ps_ret (he : PE X e te) : PS X (.Return (some e) pos) (tRet te) := by
  intro pins s σ H D I h
  exact wpAny_Return_some (thn (he pins s σ H _ I h) fun v s1 ⟨x, H1, I1, r1, q1⟩ => ⟨x, σ, H1, I1, r1, q1⟩)
def tIfS (c : TT) (t u : TS) : TS := fun D σ H => c σ H fun b H1 => if b = true then t D σ H1 else u D σ H1
theorem ps_if {c : Expr} {a b : List Stmt} {tc : TT} (hc : PT X c tc) (ha : PSs X a t) (hb : PSs X b u) : PS X (.If c a b pos) (tIfS tc t u) := by
  intro pins s σ H D I h
  refine wpAny_If (thn (hc pins s σ H _ I h) fun d s1 ⟨H1, I1, q1⟩ => ?_)
  cases d with
  | true => exact ha pins s1 σ H1 D I1 q1
  | false => exact hb pins s1 σ H1 D I1 q1
end

/-! ### targets -/
abbrev TG := V → St → Hp → (St → Hp → Prop) → Prop
abbrev TGs := List V → St → Hp → (St → Hp → Prop) → Prop
def PG (X : Cx) (target : Expr) (t : TG) : Prop :=
  ∀ (pins : List (Addr × Obj)) (s : Shared) (σ : St) (H : Hp) (v : V) (u : Value) (Q : St → Hp → Prop), Inv X pins σ H s → RelV v u → t v σ H Q →
    wpAny (model X.prog X.w) X.A (assign target X.env u) (fun _ s' => ∃ σ' H', Inv X pins σ' H' s' ∧ Q σ' H') X.xe s
/-- several targets, one after another -/
def PGs (X : Cx) (ts : List Expr) (t : TGs) : Prop :=
  ∀ (pins : List (Addr × Obj)) (s : Shared) (σ : St) (H : Hp) (vs : List V) (us : List Value) (Q : St → Hp → Prop), Inv X pins σ H s → Vals vs us → t vs σ H Q →
    wpAny (model X.prog X.w) X.A (assignInOrder ((assignEach ts X.env).map (·.2)) us) (fun _ s' => ∃ σ' H', Inv X pins σ' H' s' ∧ Q σ' H') X.xe s
/-- o[i] = v, by values -/
abbrev TSet := V → V → V → Hp → (Hp → Prop) → Prop
def PSet (X : Cx) (t : TSet) : Prop :=
  ∀ (pins : List (Addr × Obj)) (s : Shared) (σ : St) (H : Hp) (o i v : V) (ov iv u : Value) (Q : Hp → Prop), Inv X pins σ H s → RelV o ov → RelV i iv → RelV v u → t o i v H Q →
    wpAny (model X.prog X.w) X.A (setItem ov iv u) (fun _ s' => ∃ H', Inv X pins σ H' s' ∧ Q H') X.xe s
section
variable {X : Cx} {pos : Pos}
def gName (i : Nat) : TG := fun v σ H Q => Q (σ.set i (some v)) H
theorem pg_name {i : Nat} {x : Str} (hN : X.N.Nodup) (hi : X.N[i]? = some x) (hx : Loc X.env.scope x) (hf : X.fn x = true ∨ X.env.scope.names.lookup x = some .local := by first | exact .inl rfl | exact .inr rfl | assumption) : PG X (.Name x pos) (gName i) := by
  intro pins s σ H v u Q I r h
  exact wpAny_assign_Name (store_ok I hN hi hx r (fun s' I' => ⟨_, H, I', h⟩) hf)
def gNil : TGs := fun vs σ H Q => vs = [] ∧ Q σ H
def gCons (t : TG) (u : TGs) : TGs := fun vs σ H Q => ∃ v r, vs = v :: r ∧ t v σ H fun σ' H' => u r σ' H' Q
theorem pgs_nil : PGs X [] gNil := by
  intro pins s σ H vs us Q I r h
  obtain ⟨e, h⟩ := h
  subst e
  cases r
  exact assignInOrder_nil ⟨σ, H, I, h⟩
theorem pgs_cons {e : Expr} {es : List Expr} {t : TG} {u : TGs} (h1 : PG X e t) (h2 : PGs X es u)
    (hs : (assignEach (e :: es) X.env).map (·.2) = assign e X.env :: (assignEach es X.env).map (·.2) := by rfl) : PGs X (e :: es) (gCons t u) := by
  intro pins s σ H vs us Q I r h
  obtain ⟨v, vr, e1, h⟩ := h
  subst e1
  cases r with
  | cons r rr =>
    rw [hs]
    refine assignInOrder_cons (thn (h1 pins s σ H _ _ _ I r h) fun _ s1 ⟨σ1, H1, I1, q1⟩ => ?_)
    exact h2 pins s1 σ1 H1 _ _ Q I1 rr q1
/-- (a, b, ..) = a tuple of that length -/
def gTup (K : PySem.W.Frag) (n : Nat) (t : TGs) : TG := fun v σ H Q => ∃ a xs, v = .ref a ∧ SqT K H a xs ∧ xs.length = n ∧ t xs σ H Q
theorem pg_tup {es : List Expr} {k : Nat} {t : TGs} {n : Nat} (hc : X.calm = true) (h : PGs X es t)
    (hn : (assignEach es X.env).length = n := by rfl) (hst : (assignEach es X.env).findIdx? (·.1) = none := by rfl) : PG X (.Tuple es k pos) (gTup X.K n t) := by
  intro pins s σ H v u Q I r hw
  obtain ⟨a, xs, e1, hq, hl, hw⟩ := hw
  subst e1
  cases r
  obtain ⟨its, rv, ht, hz⟩ := I.tuple hq
  refine assign_Tuple_tuple (I.ok.hd hc) ht (by simp [hn, ← hl, rv.length]) hst fun h' hx => ?_
  have I1 : Inv X pins σ H { s with heap := h' } := I.kept (t' := s.toks) fun b o e => hx b o (Nat.ne_of_lt (Heap.lt_size e)) e
  exact h pins _ σ H xs _ Q I1 (by simpa using rv) hw
/-- o[i] = .. -/
def gSub (to ti : TE) (t : TSet) : TG := fun v σ H Q => to σ H fun o H1 => ti σ H1 fun i H2 => t o i v H2 fun H3 => Q σ H3
theorem pg_sub {o i : Expr} {to ti : TE} {t : TSet} (ho : PE X o to) (hi : PE X i ti) (hs : PSet X t)
    (ha : ∀ v, assign (.Subscript o i pos) X.env v = (do
      let ov ← holding [v] (eval o X.env)
      let iv ← holding [v, ov] (eval i X.env)
      standAt pos
      holding [v, ov, iv] (setItem ov iv v)
      release [v, ov, iv] []) := by intro _; rfl) : PG X (.Subscript o i pos) (gSub to ti t) := by
  intro pins s σ H v u Q I r h
  rw [ha]
  refine wpAny_bind (wpAny_holding (thn (ho pins s σ H _ I h) fun ov s1 ⟨x, H1, I1, r1, q1⟩ => ?_))
  refine wpAny_bind (wpAny_holding (thn (hi pins s1 σ H1 _ I1 q1) fun iv s2 ⟨y, H2, I2, r2, q2⟩ => ?_))
  refine wpAny_bind (wpAny_standAt (wpAny_bind (wpAny_holding (thn (hs pins s2 σ H2 x y v ov iv u _ I2 r1 r2 r q2) fun _ s3 ⟨H3, I3, q3⟩ => ?_))))
  exact wpAny_release ⟨σ, H3, I3, q3⟩
/-- target = value -/
def tAsg (te : TE) (g : TG) : TS := fun D σ H => te σ H fun x H1 => g x σ H1 D.nx
theorem ps_asg {tg e : Expr} {te : TE} {g : TG} (he : PE X e te) (hg : PG X tg g) (hs : swapsWithSole [tg] e pos.line X.env = pure false := by rfl) (hw : swappedStores [tg] e X.env = pure none := by rfl)
    (h1 : (assignEach [tg] X.env).map (·.2) = [assign tg X.env] := by rfl) : PS X (.Assign [tg] e pos) (tAsg te g) := by
  intro pins s σ H D I h
  refine wpAny_Assign_stores (thn (he pins s σ H _ I h) fun v s1 ⟨x, H1, I1, r1, q1⟩ => ?_) hs hw
  rw [h1]
  exact thn (hg pins s1 σ H1 x v _ I1 r1 q1) fun _ s2 q => q
/-- name = value -/
theorem ps_set {i : Nat} {x : Str} {e : Expr} {te : TE} {pos' : Pos} (hN : X.N.Nodup) (hi : X.N[i]? = some x) (hx : Loc X.env.scope x) (he : PE X e te) (hs : swapsWith e (some (.Name x pos')) pos.line X.env = pure false := by rfl) (hf : X.fn x = true ∨ X.env.scope.names.lookup x = some .local := by first | exact .inl rfl | exact .inr rfl | assumption) :
    PS X (.Assign [.Name x pos'] e pos) (tAsg te (gName i)) := by
  intro pins s σ H D I h
  refine wpAny_Assign_Name (thn (he pins s σ H _ I h) fun v s1 ⟨y, H1, I1, r1, q1⟩ => ?_) hs
  exact store_ok I1 hN hi hx r1 (fun s2 I2 => ⟨_, H1, I2, q1⟩) hf
end

/-! ### while -/
section
variable {X : Cx} {pos : Pos}
/-- the invariant W with its measure -/
def tWhile (c : TT) (tb : TS) : TS := fun D σ H => ∃ W : Nat → St → Hp → Prop, (∃ m, W m σ H) ∧ ∀ m σ H, W m σ H →
  c σ H fun b H1 => if b = true then ∃ N : St → Hp → Prop, (∀ σ' H', N σ' H' → ∃ m', m' < m ∧ W m' σ' H') ∧ tb { D with nx := N, ct := N, bk := D.nx } σ H1 else D.nx σ H1
theorem ps_while {c : Expr} {body : List Stmt} {tc : TT} {tb : TS} (hp : PassesOwn (model X.prog X.w) X.A X.env X.xe) (hc : PT X c tc) (hb : PSs X body tb) : PS X (.While c body [] pos) (tWhile tc tb) := by
  intro pins s σ H D I h
  obtain ⟨W, ⟨m0, w0⟩, turn⟩ := h
  refine wpAny_While (codeAny_whileLoop (fun n s' => ∃ σ' H', Inv X pins σ' H' s' ∧ W n σ' H') ?_ m0 ⟨σ, H, I, w0⟩)
  rintro n s1 ⟨σ1, H1, I1, w1⟩
  refine wpAny_passesOwn hp (thn (hc pins s1 σ1 H1 _ I1 (turn n σ1 H1 w1)) fun b s2 ⟨H2, I2, q2⟩ => ?_)
  cases b with
  | true =>
    obtain ⟨N, hN, q2⟩ := q2
    rw [if_pos rfl]
    refine wpAny_passesOwn hp (thn (hb pins s2 σ1 H2 _ I2 q2) fun f s3 q3 => ?_)
    cases f with
    | next =>
      obtain ⟨σ3, H3, I3, n3⟩ := q3
      obtain ⟨m', hm, w3⟩ := hN σ3 H3 n3
      exact ⟨m', hm, σ3, H3, I3, w3⟩
    | cont =>
      obtain ⟨σ3, H3, I3, n3⟩ := q3
      obtain ⟨m', hm, w3⟩ := hN σ3 H3 n3
      exact ⟨m', hm, σ3, H3, I3, w3⟩
    | brk => exact q3
    | ret v => exact q3
  | false =>
    rw [if_neg Bool.false_ne_true]
    exact wpAny_execs_nil ⟨σ1, H2, I2, q2⟩
end

/-! ### what a loop or a comprehension walks -/
/-- at turn i: it yields x (the heap may grow), or it stops -/
structure It where
  go : Nat → Hp → Prop
  yld : Nat → Hp → V → Hp → Prop
  stop : Nat → Hp → Prop
/-- the iterator's own objects may turn: they are not the frame's, not pinned, younger than the entry (or a comprehension's own) -/
def FpOk (X : Cx) (pins : List (Addr × Obj)) (H : Hp) (b : Addr) : Prop :=
  H b = none ∧ b ≠ X.env.locals ∧ b ∉ X.fs ∧ (b ∈ X.ex ∨ X.s_0.heap.objs.size ≤ b) ∧ (∀ x c, X.env.cells.lookup x = some c → c ≠ b) ∧ ∀ p ∈ X.pn ++ pins, p.1 ≠ b
theorem Inv.fpOk {X : Cx} {pins : List (Addr × Obj)} {σ : St} {H H' : Hp} {s : Shared} {b : Addr} (I : Inv X pins σ H s) (hb : s.heap.objs.size ≤ b) (hn : H' b = none) : FpOk X pins H' b := by
  refine ⟨hn, Nat.ne_of_gt (Nat.lt_of_lt_of_le I.lt hb), I.nofs hb, .inr (Nat.le_trans I.sz hb), fun x c e z => ?_, fun p hp z => ?_⟩
  · obtain ⟨v, q⟩ := I.cell x c e
    exact absurd (Nat.lt_of_lt_of_le q.lt (by rw [z]; exact hb)) (Nat.lt_irrefl _)
  · exact absurd (Nat.lt_of_lt_of_le (Heap.lt_size (I.pin p hp).1) (by rw [z]; exact hb)) (Nat.lt_irrefl _)
structure Turn (P : Program) (w : World) (K : PySem.W.Frag) (tg : Expr) (J : It) (fp : List Addr) (it : Addr) (tn : Nat → Heap → Prop) : Prop where
  mem : it ∈ fp
  obj : ∀ i h, tn i h → ∀ b ∈ fp, ∃ o, h.get? b = some o ∧ ∀ v, o.data ≠ .cell v
  keep : ∀ i h h', tn i h → (∀ b ∈ fp, ∀ o, h.get? b = some o → h'.get? b = some o) → tn i h'
  item : ∀ (X : Cx), X.prog = P → X.w = w → X.K = K → X.calm = true → ∀ (i : Nat) (pins : List (Addr × Obj)) (s : Shared) (σ : St) (H : Hp) (E : Value → Shared → Prop), Inv X pins σ H s → (∀ b ∈ fp, FpOk X pins H b) → tn i s.heap → J.go i H →
    wpAny (model P w) X.A (pyNext (.ref it)) (fun r s1 => ∃ u, r = some u ∧
      wpAny (model P w) X.A (letOwnedTupleGo tg (.ref it) u) (fun _ s2 => ∃ x H', Inv X pins σ H' s2 ∧ RelV x u ∧ J.yld i H x H' ∧ tn (i + 1) s2.heap ∧ ∀ b ∈ fp, H' b = none) E s1) E s
  done : ∀ (X : Cx), X.prog = P → X.w = w → X.K = K → X.calm = true → ∀ (i : Nat) (pins : List (Addr × Obj)) (s : Shared) (σ : St) (H : Hp) (E : Value → Shared → Prop), Inv X pins σ H s → (∀ b ∈ fp, FpOk X pins H b) → tn i s.heap → J.stop i H →
    wpAny (model P w) X.A (pyNext (.ref it)) (fun r s1 => r = none ∧ Inv X pins σ H s1) E s
  self : ∀ (A : Around) (i : Nat) (s : Shared) (Q : Value → Shared → Prop) (E : Value → Shared → Prop), tn i s.heap → Q (.ref it) s → wpAny (model P w) A (pyIter (.ref it)) Q E s
abbrev TI := St → Hp → (It → Hp → Prop) → Prop
/-- an iterator has come -/
def PIE (X : Cx) (pins : List (Addr × Obj)) (σ : St) (tg : Expr) (R : It → Hp → Prop) (itv : Value) (s2 : Shared) : Prop :=
  ∃ (it : Addr) (fp : List Addr) (tn : Nat → Heap → Prop) (J : It) (H' : Hp), itv = .ref it ∧ Inv X pins σ H' s2 ∧ Turn X.prog X.w X.K tg J fp it tn ∧ tn 0 s2.heap ∧ (∀ b ∈ fp, FpOk X pins H' b) ∧ R J H'
def PI (X : Cx) (tg iter : Expr) (wi : TI) : Prop :=
  ∀ (pins : List (Addr × Obj)) (s : Shared) (σ : St) (H : Hp) (R : It → Hp → Prop), Inv X pins σ H s → wi σ H R →
    wpAny (model X.prog X.w) X.A (eval iter X.env) (fun v s1 => wpAny (model X.prog X.w) X.A (pyIter v) (PIE X pins σ tg R) X.xe s1) X.xe s

/-- the step ahead of the store is nothing for an iterator that keeps no tuple -/
theorem go_of {M : Model} {A : Around} {E : Value → Shared → Prop} {s : Shared} {tg : Expr} {it : Addr} {u : Value} {o : Obj} {n : String} {vs : Array Value} {Q : Unit → Shared → Prop} (ho : s.heap.get? it = some o) (hc : o.cls = .type n) (hd : o.data = .fields vs)
    (hn : ["enumerate", "zip", "dict_itemiterator", "dict_reverseitemiterator", "odict_iterator", "itertools.zip_longest", "itertools.pairwise"].contains n = false) (hQ : Q () s) : wpAny M A (letOwnedTupleGo tg (.ref it) u) Q E s := by
  unfold letOwnedTupleGo
  cases tg <;> first
    | exact wpAny_pure hQ
    | (cases u <;> first
        | exact wpAny_pure hQ
        | (refine wpAny_bind (wpAny_load ho ?_)
           rw [hc, hd]
           show wpAny M A (if (["enumerate", "zip", "dict_itemiterator", "dict_reverseitemiterator", "odict_iterator", "itertools.zip_longest", "itertools.pairwise"].contains n && vs[0]? == some (rawInt _)) = true then _ else _) Q E s
           rw [if_neg (by intro h; rw [hn, Bool.false_and] at h; cases h)]
           exact wpAny_pure hQ))

/-- the list at a, as it stands at each turn (a loop may append to it) -/
def Itl (K : PySem.W.Frag) (a : Addr) : It :=
  ⟨fun i H => ∃ xs x, SqL K H a xs ∧ xs[i]? = some x, fun i H x H' => H' = H ∧ ∀ xs, SqL K H a xs → xs[i]? = some x, fun i H => ∃ xs, SqL K H a xs ∧ xs.length ≤ i⟩
/-- lo, lo + 1, .. (n of them) -/
def Itr (lo : Int) (n : Nat) : It := ⟨fun i _ => i < n, fun i H x H' => H' = H ∧ x = .int (lo + i), fun i _ => n ≤ i⟩
theorem turn_list {P : Program} {w : World} {K : PySem.W.Frag} {tg : Expr} (a it : Addr) : Turn P w K tg (Itl K a) [it] it (fun i h => h.IsListIter it a i) where
  mem := by simp
  obj := fun i h st b hb => by
    have e : b = it := by simpa using hb
    subst e
    obtain ⟨o, e, c, d⟩ := st
    exact ⟨o, e, fun v z => by rw [d] at z; cases z⟩
  keep := fun i h h' st k => st.at fun o e => k it (by simp) o e
  item := by
    intro X hP hw hK hc i pins s σ H E I hf st hg
    subst hP hw hK
    obtain ⟨xs, x, hq, hx⟩ := hg
    obtain ⟨its, rv, p, hz⟩ := I.list hq
    obtain ⟨u, hu, ru⟩ := rv.get hx
    obtain ⟨f0, f1, f2, f3, f4, f5⟩ := hf it (by simp)
    refine wpAny_pyNext_list_item st p.isList (x := u) (by simpa using hu) fun h' st' sb => ?_
    have I1 : Inv X pins σ H { s with heap := h' } := I.turned (t' := s.toks) (fun b o hb e => (sb.2 b hb).trans e) f0 f1 f3 f4 f5
    obtain ⟨o, e, c, d⟩ := id st'
    exact ⟨u, rfl, go_of (s := { s with heap := h' }) e c d (by decide) ⟨x, H, I1, ru, ⟨rfl, fun ys hy => by rw [I.list_inj hy hq]; exact hx⟩, st', fun b hb => (hf b hb).1⟩⟩
  done := by
    intro X hP hw hK hc i pins s σ H E I hf st hg
    subst hP hw hK
    obtain ⟨xs, hq, hx⟩ := hg
    obtain ⟨its, rv, p, hz⟩ := I.list hq
    obtain ⟨f0, f1, f2, f3, f4, f5⟩ := hf it (by simp)
    have hl := rv.length
    exact wpAny_pyNext_list_end (I.ok.hd hc) st p.isList (by simp; omega) fun h' eb => ⟨rfl, I.turned (t' := s.toks) (fun b o hb e => eb b o hb e) f0 f1 f3 f4 f5⟩
  self := fun _ _ _ _ _ st h => wpAny_pyIter_listiter st h
theorem turn_range {P : Program} {w : World} {K : PySem.W.Frag} {tg : Expr} (it : Addr) (lo : Int) (n : Nat) : Turn P w K tg (Itr lo n) [it] it (fun i h => IsRangeIter h it (lo + (i : Nat) * 1) ((n : Int) - (i : Nat)) 1) where
  mem := by simp
  obj := fun i h st b hb => by
    have e : b = it := by simpa using hb
    subst e
    exact ⟨_, st, fun v z => by
      have z' : Data.fields _ = Data.cell v := z
      cases z'⟩
  keep := fun i h h' st k => k it (by simp) _ st
  item := by
    intro X hP hw hK hc i pins s σ H E I hf st hg
    subst hP hw hK
    obtain ⟨f0, f1, f2, f3, f4, f5⟩ := hf it (by simp)
    have W := Walks.range (prog := X.prog) (w := X.w) (I.ok.hd hc) it lo 1 n
    refine W.item i s _ _ hg st fun v h' tk hv st' kk => ?_
    obtain ⟨t, rfl⟩ := hv
    have I1 : Inv X pins σ H { s with heap := h', toks := tk } := I.turned (fun b o hb e => kk b o (by simpa using hb) e) f0 f1 f3 f4 f5
    refine ⟨_, rfl, go_of (s := { s with heap := h', toks := tk }) (n := "range_iterator") st' rfl rfl (by decide) ⟨.int (lo + i), H, I1, ⟨t, ?_⟩, ⟨rfl, rfl⟩, st', fun b hb => (hf b hb).1⟩⟩
    rw [Int.mul_one]
  done := by
    intro X hP hw hK hc i pins s σ H E I hf st hg
    subst hP hw hK
    obtain ⟨f0, f1, f2, f3, f4, f5⟩ := hf it (by simp)
    exact wpAny_pyNext_range_end (I.ok.hd hc) st (by have : n ≤ i := hg; omega) fun h' eb => ⟨rfl, I.turned (t' := s.toks) (fun b o hb e => eb b o hb e) f0 f1 f3 f4 f5⟩
  self := fun _ _ _ _ _ st h => wpAny_pyIter_rangeiter st h
end L2

namespace L2
open PySem PySem.Spec PyProof.Rows
section
variable {X : Cx} {tg : Expr}
def iList (K : PySem.W.Frag) (tl : TE) : TI := fun σ H R => tl σ H fun x H1 => ∃ a, x = .ref a ∧ (∃ xs, SqL K H1 a xs) ∧ R (Itl K a) H1
theorem pi_list {l : Expr} {tl : TE} (hl : PE X l tl) : PI X tg l (iList X.K tl) := by
  intro pins s σ H R I h
  refine thn (hl pins s σ H _ I h) fun v s1 ⟨x, H1, I1, r1, q1⟩ => ?_
  obtain ⟨a, e, ⟨xs, hq⟩, q⟩ := q1
  subst e
  cases r1
  obtain ⟨its, rv, p, hz⟩ := I1.list hq
  refine wpAny_pyIter_list p.isList ?_
  refine ⟨s1.heap.objs.size, [s1.heap.objs.size], _, _, H1, rfl, I1.kept (t' := s1.toks) fun b o e => Heap.get?_push_of_some _ e, turn_list a _, ⟨_, Heap.get?_push_size _ rfl, rfl, rfl⟩, fun b hb => ?_, q⟩
  have e : b = s1.heap.objs.size := by simpa using hb
  subst e
  exact I1.fpOk (Nat.le_refl _) (I1.hok.fresh (Nat.le_refl _))
/-- a range object just made, walked -/
theorem range_it {pins : List (Addr × Obj)} {σ : St} {H : Hp} {s : Shared} {R : It → Hp → Prop} {E : Value → Shared → Prop} {lo hi : Int} {t u v : Tok} {tk : Nat} (I : Inv X pins σ H s) (h1 : -(2 ^ 62) ≤ lo) (h2 : lo < 2 ^ 62) (h3 : -(2 ^ 62) ≤ hi) (h4 : hi < 2 ^ 62)
    (q : R (Itr lo (hi - lo).toNat) H) : wpAny (model X.prog X.w) X.A (pyIter (.ref s.heap.objs.size)) (PIE X pins σ tg R) E { s with heap := s.heap.push { cls := .type "range", data := .fields #[.int lo t, .int hi u, .int 1 v] }, toks := tk } := by
  refine wpAny_pyIter_range (IsRange.new ..) (small_one h1 h2 h3 h4) ?_
  have I1 : Inv X pins σ H { s with heap := s.heap.push { cls := .type "range", data := .fields #[.int lo t, .int hi u, .int 1 v] }, toks := tk } := I.kept fun b o e => Heap.get?_push_of_some _ e
  refine ⟨(s.heap.push { cls := .type "range", data := .fields #[.int lo t, .int hi u, .int 1 v] }).objs.size, [(s.heap.push { cls := .type "range", data := .fields #[.int lo t, .int hi u, .int 1 v] }).objs.size], _, _, H, rfl,
    I1.kept (t' := tk) fun b o e => Heap.get?_push_of_some _ e, turn_range _ lo (hi - lo).toNat, ?_, fun b hb => ?_, q⟩
  · have e1 : lo + ((0 : Nat) : Int) * 1 = lo := by simp
    have e2 : (((hi - lo).toNat : Nat) : Int) - ((0 : Nat) : Int) = Builtin.Range.rangeSize lo hi 1 := by rw [rangeSize_one]; split <;> omega
    show IsRangeIter _ _ (lo + ((0 : Nat) : Int) * 1) ((((hi - lo).toNat : Nat) : Int) - ((0 : Nat) : Int)) 1
    rw [e1, e2]
    exact Heap.get?_push_size _ rfl
  · have e : b = (s.heap.push { cls := .type "range", data := .fields #[.int lo t, .int hi u, .int 1 v] }).objs.size := by simpa using hb
    subst e
    exact I1.fpOk (Nat.le_refl _) (I1.hok.fresh (Nat.le_refl _))
def iRng1 (ta : TA) : TI := fun σ H R => ta σ H fun vs H1 => ∃ j : Int, vs = [.int j] ∧ -(2 ^ 62) ≤ j ∧ j < 2 ^ 62 ∧ R (Itr 0 j.toNat) H1
def iRng2 (ta : TA) : TI := fun σ H R => ta σ H fun vs H1 => ∃ i j : Int, vs = [.int i, .int j] ∧ (-(2 ^ 62) ≤ i ∧ i < 2 ^ 62 ∧ -(2 ^ 62) ≤ j ∧ j < 2 ^ 62) ∧ R (Itr i (j - i).toNat) H1
theorem pi_range1 {a : Expr} {ta : TA} {p pos : Pos} (hg : Gl X "range") (hm : X.mg "range" = none) (ha : PA X [a] ta) (hs : starEach [a] X.env = [(false, eval a X.env)] := by rfl) : PI X tg (.Call (.Name "range" p) [a] [] pos) (iRng1 ta) := by
  intro pins s σ H R I h
  refine Call_ (ld_blt I hg hm boot_range (PyProof.Rows.callWith_type1 (thn (ha pos pins s σ H _ I h) fun us s1 ⟨vs, H1, I1, r1, q1⟩ => ?_) hs rfl))
  obtain ⟨j, e, q1, q2, q⟩ := q1
  subst e
  cases r1 with
  | cons r rr =>
    cases rr
    obtain ⟨t, rfl⟩ := r
    exact call_range_1 (range_it I1 (by omega) (by omega) q1 q2 (by simpa using q))
theorem pi_range2 {a b : Expr} {ta : TA} {p pos : Pos} (hg : Gl X "range") (hm : X.mg "range" = none) (ha : PA X [a, b] ta) (hs : starEach [a, b] X.env = [(false, eval a X.env), (false, eval b X.env)] := by rfl) (hs2 : starEach [b] X.env = [(false, eval b X.env)] := by rfl) :
    PI X tg (.Call (.Name "range" p) [a, b] [] pos) (iRng2 ta) := by
  intro pins s σ H R I h
  refine Call_ (ld_blt I hg hm boot_range (PyProof.Rows.callWith_type1 (thn (ha pos pins s σ H _ I h) fun us s1 ⟨vs, H1, I1, r1, q1⟩ => ?_) (by rw [hs, hs2]) (by rw [hs2]; rfl)))
  obtain ⟨i, j, e, ⟨q1, q2, q3, q4⟩, q⟩ := q1
  subst e
  cases r1 with
  | cons r rr =>
    cases rr with
    | cons r' rr =>
      cases rr
      obtain ⟨t, rfl⟩ := r
      obtain ⟨t', rfl⟩ := r'
      exact call_range_2 (range_it I1 q1 q2 q3 q4 q)

/-! ### for -/
/-- W: the invariant by the turn and a measure; N: what the body is to reach -/
def tFor (wi : TI) (g : TG) (tb : TS) : TS := fun D σ H => wi σ H fun J H1 => ∃ W : Nat → Nat → St → Hp → Prop, (∃ m, W 0 m σ H1) ∧ ∀ i m σ H, W i m σ H →
  (J.stop i H ∧ D.nx σ H) ∨ (J.go i H ∧ ∃ N : St → Hp → Prop, (∀ σ' H', N σ' H' → ∃ m', m' < m ∧ W (i + 1) m' σ' H') ∧ ∀ x H', J.yld i H x H' → g x σ H' fun σ2 H2 => tb { D with nx := N, ct := N, bk := D.nx } σ2 H2)
/-- the records at fp as they stand -/
def pinsAt (fp : List Addr) (h : Heap) : List (Addr × Obj) := fp.filterMap fun b => (h.get? b).map fun o => (b, o)
theorem mem_pinsAt {fp : List Addr} {h : Heap} {b : Addr} {o : Obj} (hb : b ∈ fp) (e : h.get? b = some o) : (b, o) ∈ pinsAt fp h := List.mem_filterMap.mpr ⟨b, hb, by rw [e]; rfl⟩
theorem of_pinsAt {fp : List Addr} {h : Heap} {p : Addr × Obj} (hp : p ∈ pinsAt fp h) : p.1 ∈ fp ∧ h.get? p.1 = some p.2 := by
  obtain ⟨b, hb, e⟩ := List.mem_filterMap.mp hp
  cases q : h.get? b with
  | none => rw [q] at e; cases e
  | some o =>
    rw [q] at e
    have e' : (b, o) = p := Option.some.inj e
    subst e'
    exact ⟨hb, q⟩
theorem Inv.pinned {pins : List (Addr × Obj)} {σ : St} {H : Hp} {s : Shared} {fp : List Addr} (I : Inv X pins σ H s) (hf : ∀ b ∈ fp, FpOk X pins H b) (ho : ∀ b ∈ fp, ∃ o, s.heap.get? b = some o ∧ ∀ v, o.data ≠ .cell v) : Inv X (pins ++ pinsAt fp s.heap) σ H s :=
  I.pins_of fun p hp => (List.mem_append.mp hp).elim (fun z => I.pin p (List.mem_append_right _ z)) fun z => by
    obtain ⟨hb, e⟩ := of_pinsAt z
    obtain ⟨f0, f1, f2, _⟩ := hf p.1 hb
    obtain ⟨o, e', d⟩ := ho p.1 hb
    rw [e] at e'; cases e'
    exact ⟨e, f0, f1, f2, d⟩
theorem Inv.unpinned {pins pl : List (Addr × Obj)} {σ : St} {H : Hp} {s : Shared} (I : Inv X (pins ++ pl) σ H s) : Inv X pins σ H s := I.pins_of fun p hp => I.pin p (List.mem_append_right _ (List.mem_append_left _ hp))
theorem ps_for {iter : Expr} {body : List Stmt} {wi : TI} {g : TG} {tb : TS} {pos : Pos} (hp : PassesOwn (model X.prog X.w) X.A X.env X.xe) (hc : X.calm = true) (hi : PI X tg iter wi) (hg : PG X tg g) (hb : PSs X body tb)
    (hs : ∀ x, foldedSetIterable iter X.env x = pure x := by intro _; rfl) : PS X (.For tg iter body [] pos) (tFor wi g tb) := by
  intro pins s σ H D I h
  refine wpAny_For (thn (hi pins s σ H _ I h) fun v s1 h1 => thn h1 fun itv s2 h2 => ?_) hs
  obtain ⟨it, fp, tn, J, H2, e, I2, T, st2, f2, W, ⟨m0, w0⟩, turn⟩ := h2
  subst e
  -- what stays true of the iterator's objects through the loop
  have stat : ∀ {H' : Hp}, (∀ b ∈ fp, H' b = none) → ∀ b ∈ fp, FpOk X pins H' b := fun hn b hb => ⟨hn b hb, (f2 b hb).2⟩
  refine codeAny_forLoop_any (fun n s' => ∃ i σ' H', Inv X pins σ' H' s' ∧ tn i s'.heap ∧ (∀ b ∈ fp, H' b = none) ∧ W i n σ' H') ?_ m0 ⟨0, σ, H2, I2, st2, fun b hb => (f2 b hb).1, w0⟩
  rintro n s3 ⟨i, σ3, H3, I3, st3, fr3, w3⟩
  rcases turn i n σ3 H3 w3 with ⟨stop, qn⟩ | ⟨go, N, hN, step⟩
  · refine wpAny_passesOwn hp (thn (T.done X rfl rfl rfl hc i pins s3 σ3 H3 X.xe I3 (stat fr3) st3 stop) fun r s4 ⟨hr, I4⟩ => ?_)
    subst hr
    exact wpAny_execs_nil ⟨σ3, H3, I4, qn⟩
  · refine wpAny_passesOwn hp (thn (T.item X rfl rfl rfl hc i pins s3 σ3 H3 X.xe I3 (stat fr3) st3 go) fun r s4 ⟨u, hr, h4⟩ => ?_)
    subst hr
    refine wpAny_passesOwn hp (thn h4 fun _ s5 ⟨x, H5, I5, r5, y5, st5, fr5⟩ => ?_)
    have I5' := I5.pinned (stat fr5) (T.obj _ _ st5)
    refine wpAny_passesOwn hp (thn (hg _ s5 σ3 H5 x u _ I5' r5 (step x H5 y5)) fun _ s6 ⟨σ6, H6, I6, q6⟩ => ?_)
    refine wpAny_passesOwn hp (thn (hb _ s6 σ6 H6 _ I6 q6) fun f s7 q7 => ?_)
    have again : ∀ {σ7 : St} {H7 : Hp}, Inv X (pins ++ pinsAt fp s5.heap) σ7 H7 s7 → N σ7 H7 → ∃ m, m < n ∧ ∃ i σ' H', Inv X pins σ' H' s7 ∧ tn i s7.heap ∧ (∀ b ∈ fp, H' b = none) ∧ W i m σ' H' := fun {σ7 H7} I7 n7 => by
      obtain ⟨m', hm, w7⟩ := hN σ7 H7 n7
      refine ⟨m', hm, i + 1, σ7, H7, I7.unpinned, T.keep _ _ _ st5 fun b hb o e => (I7.pin (b, o) (List.mem_append_right _ (List.mem_append_right _ (mem_pinsAt hb e)))).1, fun b hb => ?_, w7⟩
      obtain ⟨o, e, d⟩ := T.obj _ _ st5 b hb
      exact (I7.pin (b, o) (List.mem_append_right _ (List.mem_append_right _ (mem_pinsAt hb e)))).2.1
    cases f with
    | next => obtain ⟨σ7, H7, I7, n7⟩ := q7; exact again I7 n7
    | cont => obtain ⟨σ7, H7, I7, n7⟩ := q7; exact again I7 n7
    | brk => obtain ⟨σ7, H7, I7, q7⟩ := q7; exact ⟨σ7, H7, I7.unpinned, q7⟩
    | ret v => obtain ⟨x7, σ7, H7, I7, r7, q7⟩ := q7; exact ⟨x7, σ7, H7, I7.unpinned, r7, q7⟩
end

/-! ### the forms one uses -/
/-- over a list that the body leaves as it is -/
theorem for_list {K : PySem.W.Frag} {a : Addr} {xs : List V} {g : TG} {tb : TS} {D : Ends} {σ : St} {H : Hp} (Pv : Nat → St → Hp → Prop) (h0 : Pv 0 σ H) (hl : ∀ i σ H, i ≤ xs.length → Pv i σ H → SqL K H a xs)
    (hs : ∀ i x σ H, xs[i]? = some x → Pv i σ H → g x σ H fun σ2 H2 => tb { D with nx := Pv (i + 1), ct := Pv (i + 1), bk := D.nx } σ2 H2) (hd : ∀ σ H, Pv xs.length σ H → D.nx σ H) :
    ∃ W : Nat → Nat → St → Hp → Prop, (∃ m, W 0 m σ H) ∧ ∀ i m σ H, W i m σ H →
      ((Itl K a).stop i H ∧ D.nx σ H) ∨ ((Itl K a).go i H ∧ ∃ N : St → Hp → Prop, (∀ σ' H', N σ' H' → ∃ m', m' < m ∧ W (i + 1) m' σ' H') ∧ ∀ x H', (Itl K a).yld i H x H' → g x σ H' fun σ2 H2 => tb { D with nx := N, ct := N, bk := D.nx } σ2 H2) := by
  refine ⟨fun i m σ H => m = xs.length - i ∧ i ≤ xs.length ∧ Pv i σ H, ⟨xs.length, by simp, Nat.zero_le _, h0⟩, ?_⟩
  rintro i m σ H ⟨rfl, hi, p⟩
  have q := hl i σ H hi p
  by_cases hlt : i < xs.length
  · refine .inr ⟨⟨xs, xs[i], q, by simp [hlt]⟩, Pv (i + 1), fun σ' H' p' => ⟨xs.length - (i + 1), by omega, rfl, hlt, p'⟩, fun x H' y => ?_⟩
    obtain ⟨e, y⟩ := y
    subst e
    exact hs i x σ _ (y xs q) p
  · have e : i = xs.length := by omega
    subst e
    exact .inl ⟨⟨xs, q, Nat.le_refl _⟩, hd σ H p⟩
/-- while, by a word and a measure of the state -/
theorem while_by {c : TT} {tb : TS} {D : Ends} {σ : St} {H : Hp} (Pv : St → Hp → Prop) (μ : St → Hp → Nat) (h0 : Pv σ H)
    (hs : ∀ σ H, Pv σ H → c σ H fun b H1 => if b = true then tb { D with nx := fun σ' H' => Pv σ' H' ∧ μ σ' H' < μ σ H, ct := fun σ' H' => Pv σ' H' ∧ μ σ' H' < μ σ H, bk := D.nx } σ H1 else D.nx σ H1)
    (mono : ∀ σ H Q Q', (∀ b H1, Q b H1 → Q' b H1) → c σ H Q → c σ H Q') : tWhile c tb D σ H := by
  refine ⟨fun m σ H => m = μ σ H ∧ Pv σ H, ⟨_, rfl, h0⟩, ?_⟩
  rintro m σ H ⟨rfl, p⟩
  refine mono σ H _ _ (fun b H1 q => ?_) (hs σ H p)
  cases b with
  | true => exact ⟨_, fun σ' H' ⟨p', l⟩ => ⟨_, l, rfl, p'⟩, q⟩
  | false => exact q
end L2

namespace L2
open PySem PySem.Spec PyProof.Rows

abbrev R2 := V → V → Hp → VK → Prop
/-- a two-place operation on values: f is binaryOp op, inplaceOp op or compareOp op -/
def OpR (X : Cx) (f : Value → Value → Sem Value) (r : R2) : Prop :=
  ∀ (pins : List (Addr × Obj)) (s : Shared) (σ : St) (H : Hp) (x y : V) (v u : Value) (Q : VK), Inv X pins σ H s → RelV x v → RelV y u → r x y H Q →
    wpAny (model X.prog X.w) X.A (f v u) (EP X pins σ Q) X.xe s
/-- a call of a value that is known (a builtin, a type) with values -/
def CallR (X : Cx) (f : Value) (r : List V → Hp → VK → Prop) : Prop :=
  ∀ (pins : List (Addr × Obj)) (s : Shared) (σ : St) (H : Hp) (xs : List V) (us : List Value) (Q : VK), Inv X pins σ H s → Vals xs us → r xs H Q →
    wpAny (model X.prog X.w) X.A (call f us) (EP X pins σ Q) X.xe s

def tOp (r : R2) (ta tb : TE) : TE := fun σ H Q => ta σ H fun x H1 => tb σ H1 fun y H2 => r x y H2 Q
def rI0 (g : Int → Int → V) : R2 := fun x y H Q => ∃ i j, x = .int i ∧ y = .int j ∧ Q (g i j) H

section
variable {X : Cx} {a b c : Expr} {ta tb tc : TE} {pos : Pos}

theorem binT (ha : PE X a ta) (hb : PE X b tb) {pins : List (Addr × Obj)} {s : Shared} {σ : St} {H : Hp} {R : V → V → Hp → Prop} (I : Inv X pins σ H s)
    (h : ta σ H fun x H1 => tb σ H1 fun y H2 => R x y H2) {Q : Value → Shared → Prop} {f : Value → Value → Sem Value}
    (hf : ∀ v u s2 x y H2, Inv X pins σ H2 s2 → RelV x v → RelV y u → R x y H2 → wpAny (model X.prog X.w) X.A (f v u) Q X.xe s2) :
    wpAny (model X.prog X.w) X.A (eval a X.env) (fun v s₁ => wpAny (model X.prog X.w) X.A (eval b X.env) (fun u s₂ => wpAny (model X.prog X.w) X.A (f v u) Q X.xe s₂) X.xe s₁) X.xe s := by
  refine thn (ha pins s σ H _ I h) fun v s1 ⟨x, H1, I1, r1, q1⟩ => ?_
  refine thn (hb pins s1 σ H1 _ I1 q1) fun u s2 ⟨y, H2, I2, r2, q2⟩ => ?_
  exact hf v u s2 x y H2 I2 r1 r2 q2

theorem pe_op {op : Operator} {r : R2} (ho : OpR X (binaryOp op) r) (ha : PE X a ta) (hb : PE X b tb) : PE X (.BinOp a op b pos) (tOp r ta tb) := by
  intro pins s σ H Q I h
  exact wpAny_BinOp (binT ha hb I h fun v u s2 x y H2 I2 rx ry q => ho pins s2 σ H2 x y v u Q I2 rx ry q)

/-! ### ints -/
theorem opI0 {f : Value → Value → Sem Value} {g : Int → Int → Int}
    (rule : ∀ (i j : Int) (t u : Tok) (s : Shared) (Q : Value → Shared → Prop) (E : Value → Shared → Prop), Q (.int (g i j) s.toks) { s with toks := s.toks + 1 } → wpAny (model X.prog X.w) X.A (f (.int i t) (.int j u)) Q E s) :
    OpR X f (rI0 fun i j => .int (g i j)) := by
  intro pins s σ H x y v u Q I rx ry h
  obtain ⟨i, j, rfl, rfl, q⟩ := h
  obtain ⟨t, rfl⟩ := rx
  obtain ⟨t', rfl⟩ := ry
  exact rule i j t t' s _ _ ⟨.int (g i j), H, I.tok _, ⟨_, rfl⟩, q⟩
theorem opB0 {f : Value → Value → Sem Value} {g : Int → Int → Bool}
    (rule : ∀ (i j : Int) (t u : Tok) (s : Shared) (Q : Value → Shared → Prop) (E : Value → Shared → Prop), Q (.bool (g i j)) s → wpAny (model X.prog X.w) X.A (f (.int i t) (.int j u)) Q E s) :
    OpR X f (rI0 fun i j => .bl (g i j)) := by
  intro pins s σ H x y v u Q I rx ry h
  obtain ⟨i, j, rfl, rfl, q⟩ := h
  obtain ⟨t, rfl⟩ := rx
  obtain ⟨t', rfl⟩ := ry
  exact rule i j t t' s _ _ ⟨.bl (g i j), H, I, rfl, q⟩


theorem op_add : OpR X (binaryOp .Add) (rI0 fun i j => .int (i + j)) := opI0 fun _ _ _ _ _ _ _ q => add_int q
theorem op_sub : OpR X (binaryOp .Sub) (rI0 fun i j => .int (i - j)) := opI0 fun _ _ _ _ _ _ _ q => sub_int q



/-! ### bools among ints: n += (a < b) -/
end

/-! ### comparisons -/
/-- the scalars that == tells apart as data does -/
def scal : V → V → Bool
  | .non, .non => true | .non, .int _ => true | .int _, .non => true | .non, .bl _ => true | .bl _, .non => true | .non, .str _ => true | .str _, .non => true
  | .int _, .int _ => true | .bl _, .bl _ => true | .str _, .str _ => true | .byt _, .byt _ => true
  | .int _, .str _ => true | .str _, .int _ => true | .bl _, .str _ => true | .str _, .bl _ => true
  | _, _ => false
def rEq : R2 := fun x y H Q => scal x y = true ∧ Q (.bl (decide (x = y))) H

theorem dec_int {i j : Int} : decide (V.int i = V.int j) = (i == j) := by
  rw [Bool.eq_iff_iff]
  simp
theorem dec_bl {i j : Bool} : decide (V.bl i = V.bl j) = (i == j) := by
  rw [Bool.eq_iff_iff]
  simp
theorem dec_str {i j : Str} : decide (V.str i = V.str j) = (i == j) := by
  rw [Bool.eq_iff_iff]
  simp
theorem dec_byt {i j : Array UInt8} : decide (V.byt i = V.byt j) = (i.toList == j.toList) := by
  rw [Bool.eq_iff_iff]
  cases i
  cases j
  simp

section
variable {X : Cx} {a b c : Expr} {ta tb tc : TE} {pos : Pos}
theorem fin_bl {pins : List (Addr × Obj)} {σ : St} {H : Hp} {s : Shared} {Q : VK} {k k' : Bool} (I : Inv X pins σ H s) (q : Q (.bl k) H) (e : k = k') : EP X pins σ Q (.bool k') s := by
  subst e
  exact ⟨.bl k, H, I, rfl, q⟩
theorem op_eq : OpR X (compareOp .Eq) rEq := by
  intro pins s σ H x y v u Q I rx ry h
  obtain ⟨hs, q⟩ := h
  cases x with
  | non =>
    cases rx
    cases y with
    | non => cases ry; exact PySem.EqNone.eq_none_none (fin_bl I q (by simp))
    | bl j => cases ry; exact PySem.EqNone.eq_none_bool (fin_bl I q (by simp))
    | int j => obtain ⟨t', rfl⟩ := ry; exact PySem.EqNone.eq_none_int (fin_bl I q (by simp))
    | str j => obtain ⟨t', rfl⟩ := ry; exact PySem.EqNone.eq_none_str (fin_bl I q (by simp))
    | _ => exact absurd (show false = true from hs) Bool.false_ne_true
  | bl i =>
    cases rx
    cases y with
    | non => cases ry; exact PySem.EqNone.eq_bool_none (fin_bl I q (by simp))
    | bl j => cases ry; exact eq_bool (fin_bl I q dec_bl)
    | str j => obtain ⟨t', rfl⟩ := ry; exact PySem.EqMixed.eq_bool_str (fin_bl I q (by simp))
    | _ => exact absurd (show false = true from hs) Bool.false_ne_true
  | int i =>
    obtain ⟨t, rfl⟩ := rx
    cases y with
    | non => cases ry; exact PySem.EqNone.eq_int_none (fin_bl I q (by simp))
    | int j => obtain ⟨t', rfl⟩ := ry; exact eq_int (fin_bl I q dec_int)
    | str j => obtain ⟨t', rfl⟩ := ry; exact PySem.EqMixed.eq_int_str (fin_bl I q (by simp))
    | _ => exact absurd (show false = true from hs) Bool.false_ne_true
  | str i =>
    obtain ⟨t, rfl⟩ := rx
    cases y with
    | non => cases ry; exact PySem.EqNone.eq_str_none (fin_bl I q (by simp))
    | bl j => cases ry; exact PySem.EqMixed.eq_str_bool (fin_bl I q (by simp))
    | int j => obtain ⟨t', rfl⟩ := ry; exact PySem.EqMixed.eq_str_int (fin_bl I q (by simp))
    | str j => obtain ⟨t', rfl⟩ := ry; exact eq_str (fin_bl I q dec_str)
    | _ => exact absurd (show false = true from hs) Bool.false_ne_true
  | byt i =>
    obtain ⟨t, rfl⟩ := rx
    cases y with
    | byt j => obtain ⟨t', rfl⟩ := ry; exact PySem.W.eq_bytes (fin_bl I q dec_byt)
    | _ => exact absurd (show false = true from hs) Bool.false_ne_true
  | _ => cases y <;> exact absurd (show false = true from hs) Bool.false_ne_true

theorem op_lt : OpR X (compareOp .Lt) (rI0 fun i j => .bl (decide (i < j))) := opB0 fun _ _ _ _ _ _ _ q => lt_int q
theorem op_le : OpR X (compareOp .LtE) (rI0 fun i j => .bl (decide (i ≤ j))) := opB0 fun _ _ _ _ _ _ _ q => le_int q
theorem op_gt : OpR X (compareOp .Gt) (rI0 fun i j => .bl (decide (j < i))) := opB0 fun _ _ _ _ _ _ _ q => gt_int q
theorem op_ge : OpR X (compareOp .GtE) (rI0 fun i j => .bl (decide (j ≤ i))) := opB0 fun _ _ _ _ _ _ _ q => ge_int q




theorem nomark (b : Expr) {op : CmpOp} (h : op ≠ .In := by decide) (h2 : op ≠ .NotIn := by decide) : behindInMarks op b = false := by
  have e1 : (op == CmpOp.In) = false := by cases op <;> first | rfl | exact absurd rfl h
  have e2 : (op == CmpOp.NotIn) = false := by cases op <;> first | rfl | exact absurd rfl h2
  cases b <;> simp [behindInMarks, e1, e2]
/-- a comparison as a value; hm: nomark b, or (for in, not in) by with_unfolding_all rfl -/
theorem pe_cmpR {op : CmpOp} {r : R2} (ho : OpR X (compareOp op) r) (ha : PE X a ta) (hb : PE X b tb) (hm : behindInMarks op b = false) : PE X (.Compare a [op] [b] pos) (tOp r ta tb) := by
  intro pins s σ H Q I h
  exact wpAny_Compare1 (binT ha hb I h fun v u s2 x y H2 I2 rx ry q => ho pins s2 σ H2 x y v u Q I2 rx ry q) hm
/-- a reading of a value as a test -/
def tTest (t : TE) : TT := fun σ H Q => t σ H fun x H' => ∃ k, x = .bl k ∧ Q k H'
theorem pt_cmpR {op : CmpOp} {r : R2} (ho : OpR X (compareOp op) r) (ha : PE X a ta) (hb : PE X b tb) (hm : behindInMarks op b = false) : PT X (.Compare a [op] [b] pos) (tTest (tOp r ta tb)) := by
  intro pins s σ H Q I h
  refine wpAny_isTrue_Compare1 (thn (ha pins s σ H _ I h) fun v s1 ⟨x, H1, I1, r1, q1⟩ => thn (hb pins s1 σ H1 _ I1 q1) fun u s2 ⟨y, H2, I2, r2, q2⟩ =>
    thn (ho pins s2 σ H2 x y v u _ I2 r1 r2 q2) fun c s3 ⟨z, H3, I3, r3, k, e, q3⟩ => ?_) hm
  subst e
  cases r3
  exact wpAny_truthy_bool ⟨H3, I3, q3⟩
/-- a op1 b op2 c -/
def tChain (r r' : R2) (ta tb tc : TE) : TE := fun σ H Q => ta σ H fun x H1 => tb σ H1 fun y H2 => r x y H2 fun z H3 => ∃ k, z = .bl k ∧
  (if k = true then tc σ H3 fun w' H4 => r' y w' H4 Q else Q (.bl false) H3)
theorem pe_chain {op op' : CmpOp} {r r' : R2} (ho : OpR X (compareOp op) r) (ho' : OpR X (compareOp op') r') (ha : PE X a ta) (hb : PE X b tb) (hc : PE X c tc)
    (hm : lastMarks [op, op'] [b, c] = false := by with_unfolding_all rfl) : PE X (.Compare a [op, op'] [b, c] pos) (tChain r r' ta tb tc) := by
  intro pins s σ H Q I h
  refine Compare_chain (thn (ha pins s σ H _ I h) fun v s1 ⟨x, H1, I1, r1, q1⟩ => chain_link (thn (hb pins s1 σ H1 _ I1 q1) fun u s2 ⟨y, H2, I2, r2, q2⟩ =>
    thn (ho pins s2 σ H2 x y v u _ I2 r1 r2 q2) fun d s3 ⟨z, H3, I3, r3, k, e, q3⟩ => ?_)) hm
  subst e
  cases r3
  refine wpAny_truthy_bool ?_
  cases k with
  | false => exact ite_ff ⟨.bl false, H3, I3, rfl, q3⟩
  | true => exact ite_tt (chain_last (thn (hc pins s3 σ H3 _ I3 q3) fun w' s4 ⟨z', H4, I4, r4, q4⟩ => ho' pins s4 σ H4 y z' u w' Q I4 r2 r4 q4))
theorem pt_chain {op op' : CmpOp} {r r' : R2} (ho : OpR X (compareOp op) r) (ho' : OpR X (compareOp op') r') (ha : PE X a ta) (hb : PE X b tb) (hc : PE X c tc)
    (hm : lastMarks [op, op'] [b, c] = false := by with_unfolding_all rfl) : PT X (.Compare a [op, op'] [b, c] pos) (tTest (tChain r r' ta tb tc)) := by
  intro pins s σ H Q I h
  refine isTrue_chain (thn (ha pins s σ H _ I h) fun v s1 ⟨x, H1, I1, r1, q1⟩ => test_link (thn (hb pins s1 σ H1 _ I1 q1) fun u s2 ⟨y, H2, I2, r2, q2⟩ =>
    thn (ho pins s2 σ H2 x y v u _ I2 r1 r2 q2) fun d s3 ⟨z, H3, I3, r3, k, e, q3⟩ => ?_)) hm
  subst e
  cases r3
  refine wpAny_truthy_bool ?_
  cases k with
  | false =>
    obtain ⟨k', e', q'⟩ := q3
    cases e'
    exact ite_ff ⟨H3, I3, q'⟩
  | true =>
    refine ite_tt (test_last (thn (hc pins s3 σ H3 _ I3 q3) fun w' s4 ⟨z', H4, I4, r4, q4⟩ => thn (ho' pins s4 σ H4 y z' u w' _ I4 r2 r4 q4) fun d' s5 ⟨z2, H5, I5, r5, k2, e2, q5⟩ => ?_))
    subst e2
    cases r5
    exact wpAny_truthy_bool ⟨H5, I5, q5⟩

/-! ### truth -/
theorem line63 : (sizeLine : Nat) < 2 ^ 63 := by rw [sizeLine_eq]; decide

/-! ### strs and bytes -/


/-! ### scalar builtins, by CallR -/
theorem vals1 {x : V} {us : List Value} (r : Vals [x] us) : ∃ u, us = [u] ∧ RelV x u := by
  cases r with
  | cons r1 r2 => cases r2; exact ⟨_, rfl, r1⟩
/-- len of a str, a bytes, a list, a tuple -/
def LenV (K : PySem.W.Frag) (x : V) (H : Hp) (n : Nat) : Prop :=
  match x with
  | .str y => y.length ≤ sizeLine ∧ n = y.length
  | .byt y => y.size ≤ sizeLine ∧ n = y.size
  | .ref p => (∃ xs, SqL K H p xs ∧ n = xs.length) ∨ ∃ xs, SqT K H p xs ∧ n = xs.length
  | _ => False
theorem call_len : CallR X (.builtin "len") (fun xs H Q => ∃ x n, xs = [x] ∧ LenV X.K x H n ∧ Q (.int n) H) := by
  intro pins s σ H xs us Q I r h
  obtain ⟨x, n, rfl, e, q⟩ := h
  obtain ⟨u, rfl, rx⟩ := vals1 r
  have hl := line63
  have hs : sizeLine = 16777216 := sizeLine_eq
  cases x with
  | str y =>
    obtain ⟨t, rfl⟩ := rx
    obtain ⟨hy, e'⟩ : y.length ≤ sizeLine ∧ n = y.length := e
    subst e'
    exact len_str (by omega) ⟨.int _, H, I.tok _, ⟨_, rfl⟩, q⟩
  | byt y =>
    obtain ⟨t, rfl⟩ := rx
    obtain ⟨hy, e'⟩ : y.size ≤ sizeLine ∧ n = y.size := e
    subst e'
    exact PySem.W.len_bytes (by omega) ⟨.int _, H, I.tok _, ⟨_, rfl⟩, q⟩
  | ref p =>
    cases rx
    have e' : (∃ xs, SqL X.K H p xs ∧ n = xs.length) ∨ ∃ xs, SqT X.K H p xs ∧ n = xs.length := e
    rcases e' with ⟨xs, hx, e'⟩ | ⟨xs, hx, e'⟩
    · subst e'
      obtain ⟨its, r', pl, hz⟩ := I.list hx
      have hlen := r'.length
      exact Calls.call_len_list pl.isList (by simp only [List.size_toArray]; omega) ⟨.int xs.length, H, I.tok _, ⟨_, by simp only [List.size_toArray]; rw [hlen]⟩, q⟩
    · subst e'
      obtain ⟨its, r', pl, hz⟩ := I.tuple hx
      have hlen := r'.length
      exact len_tuple pl (by simp only [List.size_toArray]; omega) ⟨.int xs.length, H, I.tok _, ⟨_, by simp only [List.size_toArray]; rw [hlen]⟩, q⟩
  | _ => exact (show False from e).elim
end
end L2

namespace L2
open PySem PySem.Spec PyProof.Rows

/-! ### an instance, its attributes a map -/
structure ObjM (h : Heap) (x dx C : Addr) (mA : Str → Option Value) : Prop where
  obj : h.get? x = some (PySem.W.instObj C dx)
  ns : h.Ns1 dx mA
  ne : dx ≠ x

theorem lookIn_ns {h : Heap} {dx : Addr} {mA : Str → Option Value} (n : h.Ns1 dx mA) : ∃ od, h.get? dx = some od ∧ ∀ name, PySem.W.lookIn name od = some (mA name) := by
  obtain ⟨o, es, ep, ho, hd, hk, _, hm⟩ := n
  refine ⟨o, ho, fun name => ?_⟩
  have e := hm name
  unfold nsFind findBy at e
  rw [← Array.find?_toList] at e
  unfold PySem.W.lookIn
  rw [hd]
  dsimp only
  split
  · rename_i y q
    rw [q] at e
    exact congrArg some e
  · rename_i q
    rw [q] at e
    have a : es.toList.any (·.refKey) = false := by
      rw [List.any_eq_false]
      intro y hy
      obtain ⟨z, t, hkey⟩ := hk y (Array.mem_toList_iff.mp hy)
      simp [DictEntry.refKey, hkey]
    have a' : ¬ es.toList.any (·.refKey) = true := by rw [a]; exact Bool.false_ne_true
    rw [if_neg a']
    exact congrArg some e

theorem ObjM.look {h : Heap} {x dx C : Addr} {mA : Str → Option Value} (I : ObjM h x dx C mA) : ∃ od, PySem.W.InstAt h x (PySem.W.instObj C dx) C (some od) ∧ ∀ name, PySem.W.lookIn name od = some (mA name) :=
  let ⟨od, ho, hl⟩ := lookIn_ns I.ns
  ⟨od, ⟨I.obj, rfl, rfl, ho⟩, hl⟩

section
variable {prog : Program} {w : World} {A : Around} {E : Value → Shared → Prop} {s : Shared} {K : PySem.W.Frag} {x dx C f : Addr} {mA : Str → Option Value} {name : Str} {v : Value}

theorem get_map {expr : Bool} {Q : Value → Shared → Prop} (X : K.In s.heap) (I : ObjM s.heap x dx C mA) (hg : PySem.W.plainGet K C name = true) (hh : PySem.W.hasDictIn K C = true)
    (ha : PySem.W.findIn K (.ref C) name = some none) (hv : mA name = some v) (hv' : PySem.W.handedIn v = true) (h : Q v { s with toks := s.toks + 1 }) :
    wpAny (model prog w) A (getAttr (.ref x) name expr) Q E s := by
  obtain ⟨od, J, hl⟩ := I.look
  exact PySem.W.get_value X J (PySem.W.plainGet_of hg).1 (PySem.W.findObj_own hh ha rfl (by rw [hl, hv])) hv' h


theorem get_meth {pl : Sem Bool} {Q : Value × List Value → Shared → Prop} (X : K.In s.heap) (I : ObjM s.heap x dx C mA) (hg : PySem.W.plainGet K C name = true)
    (hf : PySem.W.findIn K (.ref C) name = some (some (.ref f))) (ht : PySem.W.isFn K (.ref f) = true) (hv : mA name = none) (h : Q (.ref f, [.ref x]) s) :
    wpAny (model prog w) A (getMethod (.ref x) name pl) Q E s := by
  obtain ⟨od, J, hl⟩ := I.look
  exact PySem.W.method_fn X J (PySem.W.plainGet_of hg).1 (PySem.W.plainGet_of hg).2 hf (beq_iff_eq.mp ht) (by show (PySem.W.lookIn name od).map (·.isSome) = some false; rw [hl, hv]; rfl) h

theorem set_map {ns : List Str} {Q : Unit → Shared → Prop} (X : K.In s.heap) (I : ObjM s.heap x dx C mA)
    (hs : PySem.W.findIn K (.ref C) "__setattr__" = some (some (.builtin "object.__setattr__"))) (hp : PySem.W.plainOver K C = true) (ht : PySem.W.takerIn K C name = some none) (hh : PySem.W.hasDictIn K C = true)
    (hw : PySem.Within mA ns) (hsz : ns.length ≤ sizeLine)
    (h : ∀ h', ObjM h' x dx C (fun y => if y = name then some v else mA y) → Heap.SameBut dx s.heap h' → Q () { s with heap := h', toks := s.toks + 2 }) :
    wpAny (model prog w) A (setAttr (.ref x) name v) Q E s := by
  obtain ⟨od, J, hl⟩ := I.look
  refine PySem.W.set_plain X J hs (PySem.W.osa_open (s := { s with toks := s.toks + 1 }) (r := none) X J hp ht fun b => ?_)
  obtain ⟨cd, hc, hd'⟩ := PySem.W.any_some hh
  have hx : s.heap.get? x = some ⟨.ref C, some dx, .plain, #[]⟩ := I.obj
  refine wpAny_bind (wpAny_pure (wpAny_bind (wpAny_bind (wpAny_loadPart hx (wpAny_bind (PySem.W.Looks.here (s := { s with toks := s.toks + 1 }) (PySem.W.looks_clsIn X hc) ?_))))))
  rw [hd']
  refine wpAny_pure (a := some dx) (wpAny_bind (wpAny_pure (wpAny_bind ?_)))
  refine wpAny_nsSet1 (s := { s with toks := s.toks + 1 }) I.ns fun h' hn2 hs2 => ?_
  obtain ⟨oD, esD, epD, hoD, hdD, hcD⟩ := hn2.count (PySem.Within.cons name v hw)
  refine wpAny_bind (wpAny_lookBehind hoD (by rw [hdD]; exact pastItsLine_dict (Nat.le_trans hcD (by rw [List.length_cons]; omega))) ?_)
  exact wpAny_pure (h _ ⟨(hs2.2 _ (Ne.symm I.ne)).trans I.obj, hn2, I.ne⟩ hs2)

/-- C(..): the dict at the heap's end, the instance behind it; then its __init__ -/
theorem make_map {R : Result → Shared → Prop} {vs : List Value} {kw : List (Str × Value)} (X : K.In s.heap) (hm : PySem.W.makesIn K C = true)
    (hi : PySem.W.findIn K (.ref C) "__init__" = some (some (.ref f))) (hf : PySem.W.typeIn K (.ref f) = some (.type "function"))
    (h : codeAny (model prog w) (A.under (.builtin "type.__call__" ⟨.ref C :: vs, kw⟩)) (.call (.ref f) ⟨.ref (s.heap.objs.size + 1) :: vs, kw⟩) (PySem.W.InitBack (s.heap.objs.size + 1) R)
      { s with heap := (s.heap.push PySem.W.emptyDict).push (PySem.W.instObj C s.heap.objs.size) }) :
    codeAny (model prog w) A (.call (.ref C) ⟨vs, kw⟩) R s := by
  obtain ⟨hh, g, d, t, os⟩ := s
  exact PySem.W.make_core (PySem.W.makes_of X hm) (PySem.W.looks_findIn X hi) (fun self => PySem.W.bind_fn X self hf) (.inl rfl) h
end

/-! ### the attributes as a list of pairs -/
def putF (f : Str) (v : V) : List (Str × V) → List (Str × V)
  | [] => [(f, v)]
  | (g, x) :: r => if g = f then (g, v) :: r else (g, x) :: putF f v r
theorem lookup_putF (f g : Str) (v : V) : ∀ fs : List (Str × V), (putF f v fs).lookup g = if g = f then some v else fs.lookup g
  | [] => by
    show List.lookup g [(f, v)] = _
    by_cases h : g = f
    · have hb : (g == f) = true := beq_iff_eq.mpr h
      simp only [List.lookup, hb, if_pos h]
    · have hb : (g == f) = false := beq_eq_false_iff_ne.mpr h
      simp only [List.lookup, hb, if_neg h]
  | (k, x) :: r => by
    have ih := lookup_putF f g v r
    rw [show putF f v ((k, x) :: r) = (if k = f then (k, v) :: r else (k, x) :: putF f v r) from rfl]
    by_cases hk : k = f
    · rw [if_pos hk]
      by_cases h : g = k
      · have hb : (g == k) = true := beq_iff_eq.mpr h
        simp only [List.lookup, hb, if_pos (h.trans hk)]
      · have hb : (g == k) = false := beq_eq_false_iff_ne.mpr h
        simp only [List.lookup, hb, if_neg (fun e : g = f => h (e.trans hk.symm))]
    · rw [if_neg hk]
      by_cases h : g = k
      · have hb : (g == k) = true := beq_iff_eq.mpr h
        simp only [List.lookup, hb, if_neg (fun e : g = f => hk (h.symm.trans e))]
      · have hb : (g == k) = false := beq_eq_false_iff_ne.mpr h
        simp only [List.lookup, hb]
        exact ih
theorem keys_putF (f : Str) (v : V) : ∀ fs : List (Str × V), f ∈ (putF f v fs).map (·.1) ∧ ∀ g, g ∈ fs.map (·.1) → g ∈ (putF f v fs).map (·.1)
  | [] => ⟨by simp [putF], fun g h => by simp at h⟩
  | (k, x) :: r => by
    obtain ⟨i1, i2⟩ := keys_putF f v r
    rw [show putF f v ((k, x) :: r) = (if k = f then (k, v) :: r else (k, x) :: putF f v r) from rfl]
    by_cases hk : k = f
    · rw [if_pos hk]
      subst hk
      exact ⟨by simp, fun g h => by simpa using h⟩
    · rw [if_neg hk]
      refine ⟨?_, fun g h => ?_⟩
      · rw [List.map_cons]
        exact List.mem_cons_of_mem _ i1
      · rw [List.map_cons] at h ⊢
        rcases List.mem_cons.mp h with e | e
        · exact List.mem_cons.mpr (.inl e)
        · exact List.mem_cons_of_mem _ (i2 g e)
theorem length_putF (f : Str) (v : V) : ∀ fs : List (Str × V), (putF f v fs).length ≤ fs.length + 1
  | [] => by simp [putF]
  | (k, x) :: r => by
    have ih := length_putF f v r
    rw [show putF f v ((k, x) :: r) = (if k = f then (k, v) :: r else (k, x) :: putF f v r) from rfl]
    by_cases hk : k = f
    · rw [if_pos hk, List.length_cons, List.length_cons]; omega
    · rw [if_neg hk, List.length_cons, List.length_cons]; omega

theorem RelO.some_of {v : V} {o : Option Value} (r : RelO (some v) o) : ∃ u, o = some u ∧ RelV v u := by
  cases o with
  | none => exact (show False from r).elim
  | some u => exact ⟨u, rfl, r⟩
theorem RelO.none_of {o : Option Value} (r : RelO none o) : o = none := by
  cases o with
  | none => rfl
  | some u => exact (show False from r).elim
theorem handed_of {v : V} {u : Value} (r : RelV v u) : PySem.W.handedIn u = true := by
  cases v with
  | non => cases (show u = Value.none from r); rfl
  | bl b => cases (show u = Value.bool b from r); rfl
  | int i => obtain ⟨t, e⟩ := (show ∃ t, u = Value.int i t from r); cases e; rfl
  | str x => obtain ⟨t, e⟩ := (show ∃ t, u = Value.str x t from r); cases e; rfl
  | byt b => obtain ⟨t, e⟩ := (show ∃ t, u = Value.bytes b t from r); cases e; rfl
  | flt b => obtain ⟨t, e⟩ := (show ∃ t, u = Value.float b t from r); cases e; rfl
  | ref a => cases (show u = Value.ref a from r); rfl
  | ty n => cases (show u = Value.type n from r); rfl

section
variable {P : Program} {w : World} {H H' : Hp} {h h' : Heap} {a C dx : Addr} {fs fs' : List (Str × V)}
theorem ins_get (hok : HOk P w H h) (e : H a = some (.ins C dx fs)) : ∃ mA, ObjM h a dx C mA ∧ (∀ f, RelO (fs.lookup f) (mA f)) ∧ PySem.Within mA (fs.map (·.1)) ∧ fs.length ≤ 1000 ∧ H dx = some (.own a) := by
  obtain ⟨d, z, ne, ob, mA, n, r, q⟩ := (show ObjOk P w H h a (.ins C dx fs) from hok a _ e)
  exact ⟨mA, ⟨ob, n, ne⟩, r, q, z, d⟩
end

/-! ### what of the text a class must have -/
structure Cls (K : PySem.W.Frag) (C : Addr) : Prop where
  pg : PySem.W.plainGet K C Str.empty = true
  hd : PySem.W.hasDictIn K C = true
  po : PySem.W.plainOver K C = true
  sa : PySem.W.findIn K (.ref C) "__setattr__" = some (some (.builtin "object.__setattr__"))
theorem Cls.get {K : PySem.W.Frag} {C : Addr} (c : Cls K C) (f : Str) : PySem.W.plainGet K C f = true := c.pg
/-- no class of it has the name -/
def NoAttr (K : PySem.W.Frag) (C : Addr) (f : Str) : Prop := PySem.W.findIn K (.ref C) f = some none
theorem NoAttr.taker {K : PySem.W.Frag} {C : Addr} {f : Str} (n : NoAttr K C f) : PySem.W.takerIn K C f = some none := by
  unfold PySem.W.takerIn
  rw [show PySem.W.findIn K (.ref C) f = some none from n]
  rfl
/-- a method: a plain def of the class or of one above it -/
structure Meth (K : PySem.W.Frag) (C : Addr) (m : Str) (f : Addr) : Prop where
  at_ : PySem.W.findIn K (.ref C) m = some (some (.ref f))
  fn : PySem.W.isFn K (.ref f) = true
  kp : PySem.W.keepIn K (.ref f) = true

section
variable {X : Cx} {pins : List (Addr × Obj)} {σ : St} {H : Hp} {s : Shared} {a C dx : Addr} {fs : List (Str × V)} {f : Str} {v : V} {A : Around} {E : Value → Shared → Prop}

theorem getattr_ok {b : Bool} {Q : Value → Shared → Prop} (I : Inv X pins σ H s) (e : H a = some (.ins C dx fs)) (c : Cls X.K C) (n : NoAttr X.K C f) (l : fs.lookup f = some v)
    (h : ∀ u s', Inv X pins σ H s' → RelV v u → Q u s') : wpAny (model X.prog X.w) A (getAttr (.ref a) f b) Q E s := by
  obtain ⟨mA, O, r, _, _, _⟩ := ins_get I.hok e
  obtain ⟨u, hu, ru⟩ := RelO.some_of (v := v) (o := mA f) (by rw [← l]; exact r f)
  exact get_map I.kIn O (c.get f) c.hd n hu (handed_of ru) (h u _ (I.tok _) ru)


theorem getmeth_ok {m : Str} {g : Addr} {pl : Sem Bool} {Q : Value × List Value → Shared → Prop} (I : Inv X pins σ H s) (e : H a = some (.ins C dx fs)) (c : Cls X.K C) (k : Meth X.K C m g) (l : fs.lookup m = none)
    (h : Q (.ref g, [.ref a]) s) : wpAny (model X.prog X.w) A (getMethod (.ref a) m pl) Q E s := by
  obtain ⟨mA, O, r, _, _, _⟩ := ins_get I.hok e
  have hn : mA m = none := RelO.none_of (by rw [← l]; exact r m)
  exact get_meth I.kIn O (c.get m) k.at_ k.fn hn h

theorem setattr_ok {y : V} {u : Value} {Q : Unit → Shared → Prop} (I : Inv X pins σ H s) (e : H a = some (.ins C dx fs)) (c : Cls X.K C) (n : NoAttr X.K C f) (hl : fs.length < 1000) (ry : RelV y u)
    (h : ∀ s', Inv X pins σ (upd H a (.ins C dx (putF f y fs))) s' → Q () s') : wpAny (model X.prog X.w) A (setAttr (.ref a) f u) Q E s := by
  obtain ⟨mA, O, r, wi, _, ho⟩ := ins_get I.hok e
  have hz : (fs.map (·.1)).length ≤ sizeLine := by rw [List.length_map, sizeLine_eq]; omega
  refine set_map I.kIn O c.sa c.po n.taker c.hd wi hz fun h' O' sb => h _ ?_
  have hd : ∃ o, h'.get? dx = some o := let ⟨o, _, _, e', _⟩ := O'.ns; ⟨o, e'⟩
  refine I.write (x := a) (e := dx) (by rw [e]; exact True.intro) (.inr ho) (fun b q hb z => (sb.2 b hb).trans z) hd ?_
  refine ⟨by rw [upd_ne O.ne]; exact ho, ?_, O.ne, O'.obj, _, O'.ns, fun g => ?_, fun g hg => ?_⟩
  · have := length_putF f y fs; omega
  · show RelO ((putF f y fs).lookup g) (if g = f then some u else mA g)
    rw [lookup_putF]
    by_cases q : g = f
    · rw [if_pos q, if_pos q]; exact ry
    · rw [if_neg q, if_neg q]; exact r g
  · by_cases q : g = f
    · rw [q]; exact (keys_putF f y fs).1
    · refine (keys_putF f y fs).2 g (wi g fun z => hg ?_)
      show (if g = f then some u else mA g) = none
      rw [if_neg q]; exact z

/-- a new instance, tracked, without attributes -/
theorem Inv.made (I : Inv X pins σ H s) : Inv X pins σ (upd (upd H s.heap.objs.size (.own (s.heap.objs.size + 1))) (s.heap.objs.size + 1) (.ins C s.heap.objs.size []))
    { s with heap := (s.heap.push PySem.W.emptyDict).push (PySem.W.instObj C s.heap.objs.size) } := by
  have e1 : (s.heap.push PySem.W.emptyDict).get? s.heap.objs.size = some PySem.W.emptyDict := Heap.get?_push_size s.heap rfl
  have e2 : ((s.heap.push PySem.W.emptyDict).push (PySem.W.instObj C s.heap.objs.size)).get? (s.heap.objs.size + 1) = some (PySem.W.instObj C s.heap.objs.size) := by
    have := Heap.get?_push_size (s.heap.push PySem.W.emptyDict) (o := PySem.W.instObj C s.heap.objs.size) rfl
    rwa [Heap.size_push] at this
  have e3 : (s.heap.push PySem.W.emptyDict).Ns s.heap.objs.size (fun _ => none) := ⟨PySem.W.emptyDict, #[], _, e1, rfl, (fun e he => absurd he (by simp)), fun _ => rfl⟩
  have I1 := I.laid (a := s.heap.objs.size) (o := .own (s.heap.objs.size + 1)) (h' := s.heap.push PySem.W.emptyDict) (t' := s.toks) (fun b u q => Heap.get?_push_of_some _ q) (Nat.le_refl _) ⟨_, e1⟩
  refine I1.laid (a := s.heap.objs.size + 1) (o := .ins C s.heap.objs.size []) (t' := s.toks) (fun b u q => Heap.get?_push_of_some _ q) (Nat.le_of_eq (Heap.size_push _ _)) ?_
  have ne : s.heap.objs.size ≠ s.heap.objs.size + 1 := Nat.ne_of_lt (Nat.lt_succ_self _)
  refine ⟨by rw [upd_ne ne, upd_same], Nat.zero_le _, ne, e2, fun _ => none, (Heap.Ns1.of_empty e3).at fun o q => Heap.get?_push_of_some _ q, fun _ => True.intro, fun y hy => absurd rfl hy⟩

/-- e.f where nothing but the object is asked: through attributeBase (super) and the last hold -/
theorem attr_of {prog : Program} {w : World} {env : Env} {e : Expr} {f : Str} {pos : Pos} {s : Shared} {Q : Value → Shared → Prop} (hb : attributeBase e f env (eval e env) = eval e env)
    (h : wpAny (model prog w) A (eval e env) (fun o s₁ => wpAny (model prog w) A (getAttr o f true) Q E s₁) E s) : wpAny (model prog w) A (eval (.Attribute e f pos) env) Q E s :=
  Attribute_any_ h (by rw [arm_eval_Attribute, hb])
end

/-! ### readings and rules -/
/-- e.f, an attribute of the instance -/
def tFld (K : PySem.W.Frag) (ta : TE) (f : Str) : TE := fun σ H Q => ta σ H fun x H1 => ∃ a C dx fs v, x = .ref a ∧ H1 a = some (.ins C dx fs) ∧ Cls K C ∧ NoAttr K C f ∧ fs.lookup f = some v ∧ Q v H1
/-- e.f = value -/
def sFld (K : PySem.W.Frag) (ta tv : TE) (f : Str) : TS := fun D σ H => tv σ H fun y H1 => ta σ H1 fun x H2 => ∃ a C dx fs, x = .ref a ∧ H2 a = some (.ins C dx fs) ∧ Cls K C ∧ NoAttr K C f ∧ fs.length < 1000 ∧
  D.nx σ (upd H2 a (.ins C dx (putF f y fs)))

section
variable {X : Cx} {o e value : Expr} {f : Str} {pos pos' tpos : Pos} {ta tv : TE}
theorem pe_fld (he : PE X e ta) (hb : attributeBase e f X.env (eval e X.env) = eval e X.env) : PE X (.Attribute e f pos) (tFld X.K ta f) := by
  intro pins s σ H Q I h
  refine attr_of hb (thn (he pins s σ H _ I h) fun u s1 ⟨x, H1, I1, rx, a, C, dx, fs, v, ex, ea, c, n, l, q⟩ => ?_)
  subst ex
  obtain rfl : u = Value.ref a := rx
  exact getattr_ok I1 ea c n l fun u' s2 I2 ru => ⟨v, H1, I2, ru, q⟩
theorem ps_fld (ha : PE X o ta) (hv : PE X value tv) (hs : swapsWith value (some (.Attribute o f pos')) pos.line X.env = pure false) : PS X (.Assign [.Attribute o f pos'] value pos) (sFld X.K ta tv f) := by
  intro pins s σ H D I h
  refine plainObj_wpAny_Assign_Attribute (thn (hv pins s σ H _ I h) fun u s1 ⟨y, H1, I1, ry, q⟩ => thn (ha pins s1 σ H1 _ I1 q) fun ov s2 ⟨x, H2, I2, rx, a, C, dx, fs, ex, ea, c, n, l, q2⟩ => ?_) hs
  subst ex
  obtain rfl : ov = Value.ref a := rx
  exact setattr_ok I2 ea c n l ry fun s3 I3 => ⟨σ, _, I3, q2⟩

end

/-! ### isinstance -/
section
variable {X : Cx} {pins : List (Addr × Obj)} {σ : St} {H : Hp} {s : Shared} {A : Around} {E : Value → Shared → Prop} {Q : Value → Shared → Prop} {c : Value} {b : Bool}
end
end L2

namespace L2
open PySem PySem.Spec PyProof.Rows

/-! ### room -/
structure Room (k : Nat) (A : Around) : Prop where
  hd : A.handled = none
  dp : A.depth + 3 * k + 5 < recursionLimit
  un : A.units + 16 * k + 200 < cLine
theorem Room.mono {j k : Nat} {A : Around} (r : Room k A) (h : j ≤ k) : Room j A := ⟨r.hd, by have := r.dp; omega, by have := r.un; omega⟩
theorem Room.deeper {k : Nat} {A : Around} (r : Room (k + 1) A) (env : Env) : Room k (A.deeper env) :=
  ⟨r.hd, by have := r.dp; show A.depth + 1 + 3 * k + 5 < _; omega, by have := r.un; show A.units + 3 + 16 * k + 200 < _; omega⟩
theorem make_depth {A : Around} {C : Addr} {us : List Value} {kw : List (Str × Value)} : (A.under (.builtin "type.__call__" ⟨.ref C :: us, kw⟩)).depth = A.depth + 1 := by
  first | rfl | simp [Around.under, Code.weight, Code.isCreation, Code.isGuard, Code.isCaller, Code.frames, Code.isFrame, guardIds]
theorem make_units {A : Around} {C : Addr} {us : List Value} {kw : List (Str × Value)} : (A.under (.builtin "type.__call__" ⟨.ref C :: us, kw⟩)).units = A.units + 1 := by
  first | rfl | simp [Around.under, Code.cUnits, Code.frames, Code.isFrame]
theorem Room.make {k : Nat} {A : Around} (r : Room (k + 1) A) (C : Addr) (us : List Value) (kw : List (Str × Value)) : Room k (A.under (.builtin "type.__call__" ⟨.ref C :: us, kw⟩)) :=
  ⟨r.hd, by have := r.dp; rw [make_depth]; omega, by have := r.un; rw [make_units]; omega⟩
theorem Room.depth {k : Nat} {A : Around} (r : Room k A) : A.depth < recursionLimit := by have := r.dp; omega
theorem Room.units {k : Nat} {A : Around} (r : Room k A) : A.units + 64 < cLine := by have := r.un; omega

/-! ### argument lists and displays -/
def tNil : TA := fun _ H Q => Q [] H
def tCons (ta : TE) (tr : TA) : TA := fun σ H Q => ta σ H fun x H1 => tr σ H1 fun xs H2 => Q (x :: xs) H2
section
variable {X : Cx} {e : Expr} {es : List Expr} {te : TE} {t : TA} {pos : Pos}
theorem pa_nil : PA X [] tNil := fun _ _ _ _ H Q I h => Calls.spliced_nil ⟨[], H, I, .nil, h⟩
theorem pa_cons (ha : PE X e te) (hr : PA X es t) (hs : starEach (e :: es) X.env = (false, eval e X.env) :: starEach es X.env := by rfl) : PA X (e :: es) (tCons te t) := by
  intro pos pins s σ H Q I h
  rw [hs]
  show wpAny _ _ (spliced ((false, eval e X.env) :: backTo pos (starEach es X.env))) _ _ s
  refine Calls.spliced_cons (thn (ha pins s σ H _ I h) fun u s1 ⟨x, H1, I1, r1, q1⟩ => ?_)
  exact thn (hr pos pins s1 σ H1 _ I1 q1) fun us s2 ⟨xs, H2, I2, r2, q2⟩ => ⟨x :: xs, H2, I2, .cons r1 r2, q2⟩

/-- a tuple, a list of written items -/
def tTup (t : TA) : TE := fun σ H Q => t σ H fun xs H1 => xs.length ≤ sizeLine ∧ ∀ p, H1 p = none → Q (.ref p) (upd H1 p (.tup xs))
def tLst (t : TA) : TE := fun σ H Q => t σ H fun xs H1 => xs.length ≤ sizeLine ∧ ∀ p, H1 p = none → Q (.ref p) (upd H1 p (.lst xs))
theorem pe_tup {x1} (h : PA X es t) : PE X (.Tuple es x1 pos) (tTup t) := by
  intro pins s σ H Q I hq
  refine wpAny_Tuple_spliced (thn (h pos pins s σ H _ I hq) fun us s1 ⟨xs, H1, I1, r, z, q⟩ => ⟨by rw [← r.length]; exact z, ?_⟩)
  have hf : H1 s1.heap.objs.size = none := I1.hok.fresh (Nat.le_refl _)
  refine ⟨.ref s1.heap.objs.size, upd H1 s1.heap.objs.size (.tup xs), I1.laid (t' := s1.toks) (fun b u e => Heap.get?_push_of_some _ e) (Nat.le_refl _) ?_, rfl, q _ hf⟩
  exact ⟨z, us, r, ⟨_, Heap.get?_push_size _ rfl, rfl, _, rfl⟩⟩
theorem pe_lst (h : PA X es t) : PE X (.List es pos) (tLst t) := by
  intro pins s σ H Q I hq
  refine wpAny_List_spliced (thn (h pos pins s σ H _ I hq) fun us s1 ⟨xs, H1, I1, r, z, q⟩ => ⟨by rw [← r.length]; exact z, ?_⟩)
  have hf : H1 s1.heap.objs.size = none := I1.hok.fresh (Nat.le_refl _)
  refine ⟨.ref s1.heap.objs.size, upd H1 s1.heap.objs.size (.lst xs), I1.laid (t' := s1.toks) (fun b u e => Heap.get?_push_of_some _ e) (Nat.le_refl _) ?_, rfl, q _ hf⟩
  exact ⟨z, us, 0, r, Heap.get?_push_size _ rfl⟩
end

/-! ### what a def promises -/
/-- a def's promise: the bound arguments in the parameters' order, the heap, the wanted end, the wanted exception -/
abbrev Sp := List V → Hp → VK → XK → Prop
/-- how an exception lies behind a call (file 08 gives it): the callers' frames, abstract heap and state ahead of the call, the wish, the exception, the state -/
abbrev CXT := List Env → Hp → Shared → XK → Value → Shared → Prop

/-- the state at a call -/
structure Env0 (P : Program) (w : World) (K : PySem.W.Frag) (mg : Str → Option Value) (base : Heap) (A : Around) (outer : List Env) (s : Shared) (H : Hp) : Prop where
  frames : A.frames = some outer
  mod : Mod K mg base
  bs : ∀ b o, base.get? b = some o → s.heap.get? b = some o ∧ H b = none
  bsz : base.objs.size ≤ s.heap.objs.size
  funs : s.heap.FunFrames base outer
  frf : ∀ b ∈ frs outer, H b = none
  hok : HOk P w H s.heap
  bare : AllBare s.gens
/-- a call's end -/
def CE (outer : List Env) (P : Program) (w : World) (H : Hp) (s : Shared) (Q : VK) (u : Value) (s' : Shared) : Prop :=
  ∃ v H', s'.os = s.os ∧ AllBare s'.gens ∧ Un (frs outer) [] H H' s.heap s'.heap ∧ HOk P w H' s'.heap ∧ RelV v u ∧ Q v H'
def CR (CX : CXT) (outer : List Env) (P : Program) (w : World) (H : Hp) (s : Shared) (Q : VK) (E : XK) (r : Result) (s' : Shared) : Prop :=
  match r with
  | .ok (.ret u) => CE outer P w H s Q u s'
  | .ok _ => False
  | .error e => CX outer H s E e s'
structure FnOk (P : Program) (w : World) (K : PySem.W.Frag) (mg : Str → Option Value) (base : Heap) (CX : CXT) (k : Nat) (f : Addr) (fd : FuncData) (ps : List Str) (sp : Sp) : Prop where
  len : ∀ vs H Q E, sp vs H Q E → vs.length = ps.length
  run : ∀ (A : Around) (outer : List Env) (s : Shared) (H : Hp) (args : Args) (us : List Value) (vs : List V) (Q : VK) (E : XK), Room k A → Env0 P w K mg base A outer s H → BindsTo s fd args (ps.zip us) → Vals vs us → sp vs H Q E →
    codeAny (model P w) A (.call (.ref f) args) (CR CX outer P w H s Q E) s

theorem Env0.make {P : Program} {w : World} {K : PySem.W.Frag} {mg : Str → Option Value} {base : Heap} {A : Around} {outer : List Env} {s : Shared} {H : Hp} (e : Env0 P w K mg base A outer s H) (C : Addr) (us : List Value) (kw : List (Str × Value)) :
    Env0 P w K mg base (A.under (.builtin "type.__call__" ⟨.ref C :: us, kw⟩)) outer s H := ⟨by first | exact e.frames | (simpa [Around.under, Code.envs, Code.isFrame, pushEnvs] using e.frames), e.mod, e.bs, e.bsz, e.funs, e.frf, e.hok, e.bare⟩

section
variable {X : Cx} {pins : List (Addr × Obj)} {σ : St} {H : Hp} {s s' : Shared}
/-- from a body: what a callee wants -/
theorem Inv.env0 (I : Inv X pins σ H s) : Env0 X.prog X.w X.K X.mg X.base X.A X.stack s H :=
  ⟨I.ok.frames, I.ok.mod, I.bs, Nat.le_trans I.ok.bsz I.sz, I.stack, I.stkFree, I.hok, I.bare⟩
/-- behind a call -/
theorem Inv.after {Q : VK} {u : Value} (I : Inv X pins σ H s) (h : CE X.stack X.prog X.w H s Q u s') : EP X pins σ Q u s' := by
  obtain ⟨v, H', os, bare, un, hok, r, q⟩ := h
  obtain ⟨hh, g, d, t, os'⟩ := s'
  obtain rfl : os' = s.os := os
  exact ⟨v, H', I.call (h' := hh) (g' := g) (d' := d) (t' := t) (ch := []) un hok bare (fun b z => absurd z (by simp)), r, q⟩
end

/-! ### calls -/
/-- f(..): the written arguments, then the defaults dvs; E: what is wanted of an exception -/
def tCall (sp : Sp) (dvs : List V) (E : XK) (t : TA) : TE := fun σ H Q => t σ H fun vs H1 => sp (vs ++ dvs) H1 Q E
/-- o.m(..) of an instance of the class at C -/
def tMeth (C : Addr) (m : Str) (sp : Sp) (dvs : List V) (E : XK) (ta : TE) (t : TA) : TE := fun σ H Q => ta σ H fun x H1 => ∃ a dx fs, x = .ref a ∧ H1 a = some (.ins C dx fs) ∧ fs.lookup m = none ∧
  t σ H1 fun vs H2 => sp (x :: (vs ++ dvs)) H2 Q E
/-- C(..): a new instance and its dict, then __init__ -/
def tMake (C : Addr) (sp : Sp) (dvs : List V) (E : XK) (t : TA) : TE := fun σ H Q => t σ H fun vs H1 => ∀ x dx, H1 x = none → H1 dx = none → dx ≠ x →
  sp (.ref x :: (vs ++ dvs)) (upd (upd H1 dx (.own x)) x (.ins C dx [])) (fun v H2 => v = .non ∧ Q (.ref x) H2) E

/-- how the parameters are bound: us the positional arguments, kw the keywords' values by name, ds the defaults that fill up -/
def Binds (K : PySem.W.Frag) (fd : FuncData) (ps : List Str) (ds : List Value) : Prop :=
  ∀ (s : Shared) (us : List Value), K.In s.heap → (us ++ ds).length = ps.length → BindsTo s fd ⟨us, []⟩ (ps.zip (us ++ ds))
/-- every parameter is given -/
theorem Binds.all {K : PySem.W.Frag} {fd : FuncData} {ps : List Str} (h : ∀ us : List Value, us.length = ps.length → bindArgs fd ⟨us, []⟩ = pure (ps.zip us)) : Binds K fd ps [] := fun s us _ hl => by
  rw [List.append_nil] at hl ⊢
  exact .of_eq (h us hl)

/-- an exception of a callee reaches what this body wants of exceptions -/
def Passes (CX : CXT) (X : Cx) (E : XK) : Prop := ∀ (pins : List (Addr × Obj)) (σ : St) (H : Hp) (s : Shared) (e : Value) (s' : Shared), Inv X pins σ H s → CX X.stack H s E e s' → X.xe e s'

section
variable {X : Cx} {CX : CXT} {k : Nat} {f C : Addr} {fd : FuncData} {ps : List Str} {sp : Sp} {dvs : List V} {ds : List Value} {E : XK} {x m : Str} {p pos apos : Pos} {e o : Expr} {es : List Expr} {ta : TE} {t : TA}

/-- the callee runs -/
theorem run_fn {pins : List (Addr × Obj)} {σ : St} {H : Hp} {s : Shared} {Q : VK} {us : List Value} {vs : List V} (F : FnOk X.prog X.w X.K X.mg X.base CX k f fd ps sp) (hr : Room k X.A) (hb : Binds X.K fd ps ds) (hd : Vals dvs ds) (hx : Passes CX X E)
    (I : Inv X pins σ H s) (r : Vals vs us) (h : sp (vs ++ dvs) H Q E) : wpAny (model X.prog X.w) X.A (call (.ref f) us) (EP X pins σ Q) X.xe s := by
  have r2 : Vals (vs ++ dvs) (us ++ ds) := r.append hd
  have hl : (us ++ ds).length = ps.length := by rw [← r2.length]; exact F.len _ _ _ _ h
  refine wpAny_call (codeAny_mono (F.run X.A X.stack s H ⟨us, []⟩ (us ++ ds) (vs ++ dvs) Q E hr I.env0 (hb s us I.kIn hl) r2 h) fun r s' hq => ?_)
  cases r with
  | error e => exact hx pins σ H s e s' I hq
  | ok fl =>
    cases fl with
    | ret u => exact I.after hq
    | next => exact False.elim hq
    | brk => exact False.elim hq
    | cont => exact False.elim hq

theorem pe_call (F : FnOk X.prog X.w X.K X.mg X.base CX k f fd ps sp) (hr : Room k X.A) (hg : Gl X x) (hm : X.mg x = some (.ref f)) (hk : PySem.W.keepIn X.K (.ref f) = true) (hb : Binds X.K fd ps ds) (hd : Vals dvs ds) (hx : Passes CX X E)
    (ha : PA X (e :: es) t) (hdb : (x == ("__debug__" : Str)) = false := by decide) (he : starEach (e :: es) X.env = (false, eval e X.env) :: starEach es X.env := by rfl) (hpl : (backTo pos (starEach es X.env)).any (·.1) = false := by rfl) :
    PE X (.Call (.Name x p) (e :: es) [] pos) (tCall sp dvs E t) := by
  intro pins s σ H Q I h
  refine wpAny_Call_Name_kw (ld_glob I hg hm ?_ hdb)
  refine PySem.W.callWith_K (h₀ := X.base) I.ok.mod.kin hk (thn (ha pos pins s σ H _ I h) fun us s1 ⟨vs, H1, I1, r, q⟩ => ⟨I1.kIn, ?_⟩) he hpl
  exact run_fn F hr hb hd hx I1 r q

/-- o.m(e, ..) -/
theorem pe_meth {pl : Sem Bool} (he : PE X o ta) (c : Cls X.K C) (hm : Meth X.K C m f) (F : FnOk X.prog X.w X.K X.mg X.base CX k f fd ps sp) (hr : Room k X.A) (hb : Binds X.K fd ps ds) (hd : Vals dvs ds) (hx : Passes CX X E) (ha : PA X (e :: es) t)
    (hst : starEach (e :: es) X.env = (false, eval e X.env) :: starEach es X.env := by rfl) (hpl : (backTo pos (starEach es X.env)).any (·.1) = false := by rfl)
    (ht : eval (.Call (.Attribute o m apos) (e :: es) [] pos) X.env = (do
      let ov ← eval o X.env
      standAt apos.atName
      let (f, first) ← holding [ov] (getMethod ov m pl)
      callWith pos f first (backTo pos (starEach (e :: es) X.env)) (backToKw pos (keywordEach [] X.env))) := by rfl) :
    PE X (.Call (.Attribute o m apos) (e :: es) [] pos) (tMeth C m sp dvs E ta t) := by
  intro pins s σ H Q I h
  refine PySem.W.methodCall_KW (pl := pl) (thn (he pins s σ H _ I h) fun u s1 ⟨x, H1, I1, rx, a, dx, fs, ex, ea, l, q⟩ => ?_) ht
  subst ex
  obtain rfl : u = Value.ref a := rx
  refine getmeth_ok I1 ea c hm l ?_
  refine PySem.W.callWith_K (first := [.ref a]) (h₀ := X.base) I.ok.mod.kin hm.kp (thn (ha pos pins s1 σ H1 _ I1 q) fun us s2 ⟨vs, H2, I2, r, q2⟩ => ⟨I2.kIn, ?_⟩) hst hpl
  exact run_fn (us := .ref a :: us) (vs := .ref a :: vs) F hr hb hd hx I2 (.cons rfl r) q2
/-- o.m() -/
theorem pe_meth0 {pl : Sem Bool} (he : PE X o ta) (c : Cls X.K C) (hm : Meth X.K C m f) (F : FnOk X.prog X.w X.K X.mg X.base CX k f fd ps sp) (hr : Room k X.A) (hb : Binds X.K fd ps ds) (hd : Vals dvs ds) (hx : Passes CX X E)
    (ht : eval (.Call (.Attribute o m apos) [] [] pos) X.env = (do
      let ov ← eval o X.env
      standAt apos.atName
      let (f, first) ← holding [ov] (getMethod ov m pl)
      callWith pos f first (backTo pos (starEach [] X.env)) (backToKw pos (keywordEach [] X.env))) := by rfl) :
    PE X (.Call (.Attribute o m apos) [] [] pos) (tMeth C m sp dvs E ta tNil) := by
  intro pins s σ H Q I h
  refine PySem.W.methodCall_KW (pl := pl) (thn (he pins s σ H _ I h) fun u s1 ⟨x, H1, I1, rx, a, dx, fs, ex, ea, l, q⟩ => ?_) ht
  subst ex
  obtain rfl : u = Value.ref a := rx
  refine getmeth_ok I1 ea c hm l ?_
  exact PySem.W.callWith_K0 (first := [.ref a]) I1.kIn hm.kp (run_fn (us := [.ref a]) (vs := [.ref a]) F hr hb hd hx I1 (.cons rfl .nil) q)

/-- what a class must have to be made -/
structure Mk (K : PySem.W.Frag) (C f : Addr) : Prop where
  makes : PySem.W.makesIn K C = true
  init : PySem.W.findIn K (.ref C) "__init__" = some (some (.ref f))
  fn : PySem.W.isFn K (.ref f) = true
  kp : PySem.W.keepIn K (.ref C) = true

theorem run_make {pins : List (Addr × Obj)} {σ : St} {H : Hp} {s : Shared} {Q : VK} {us : List Value} {vs : List V} (M : Mk X.K C f) (F : FnOk X.prog X.w X.K X.mg X.base CX k f fd ps sp) (hr : Room (k + 1) X.A) (hb : Binds X.K fd ps ds) (hd : Vals dvs ds)
    (hx : Passes CX X E) (I : Inv X pins σ H s) (r : Vals vs us)
    (h : ∀ x dx, H x = none → H dx = none → dx ≠ x → sp (.ref x :: (vs ++ dvs)) (upd (upd H dx (.own x)) x (.ins C dx [])) (fun v H2 => v = .non ∧ Q (.ref x) H2) E) :
    wpAny (model X.prog X.w) X.A (call (.ref C) us) (EP X pins σ Q) X.xe s := by
  have hq := h (s.heap.objs.size + 1) s.heap.objs.size (I.hok.fresh (Nat.le_succ _)) (I.hok.fresh (Nat.le_refl _)) (Nat.ne_of_lt (Nat.lt_succ_self _))
  have I2 := Inv.made (C := C) I
  have r2 : Vals (V.ref (s.heap.objs.size + 1) :: (vs ++ dvs)) (Value.ref (s.heap.objs.size + 1) :: (us ++ ds)) := .cons rfl (r.append hd)
  have hl : (Value.ref (s.heap.objs.size + 1) :: us ++ ds).length = ps.length := by
    have e := r2.length
    rw [F.len _ _ _ _ hq] at e
    exact e.symm
  refine wpAny_call (make_map (f := f) I.kIn M.makes M.init (beq_iff_eq.mp M.fn) (codeAny_mono (F.run _ X.stack _ _ ⟨Value.ref (s.heap.objs.size + 1) :: us, []⟩ (Value.ref (s.heap.objs.size + 1) :: (us ++ ds)) _ _ E (hr.make C us [])
    (I2.env0.make C us []) (hb _ (Value.ref (s.heap.objs.size + 1) :: us) I2.kIn hl) r2 hq) fun r s' hq' => ?_))
  cases r with
  | error e => exact hx pins σ _ _ e s' I2 hq'
  | ok fl =>
    cases fl with
    | ret u =>
      obtain ⟨v, H', I3, rv, ev, q3⟩ := I2.after hq'
      subst ev
      exact ⟨rv, ⟨V.ref (s.heap.objs.size + 1), H', I3, rfl, q3⟩⟩
    | next => exact False.elim hq'
    | brk => exact False.elim hq'
    | cont => exact False.elim hq'
theorem pe_make (M : Mk X.K C f) (F : FnOk X.prog X.w X.K X.mg X.base CX k f fd ps sp) (hr : Room (k + 1) X.A) (hg : Gl X x) (hm : X.mg x = some (.ref C)) (hb : Binds X.K fd ps ds) (hd : Vals dvs ds) (hx : Passes CX X E)
    (ha : PA X (e :: es) t) (hdb : (x == ("__debug__" : Str)) = false := by decide) (he : starEach (e :: es) X.env = (false, eval e X.env) :: starEach es X.env := by rfl) (hpl : (backTo pos (starEach es X.env)).any (·.1) = false := by rfl) :
    PE X (.Call (.Name x p) (e :: es) [] pos) (tMake C sp dvs E t) := by
  intro pins s σ H Q I h
  refine wpAny_Call_Name_kw (ld_glob I hg hm ?_ hdb)
  refine PySem.W.callWith_K (h₀ := X.base) I.ok.mod.kin M.kp (thn (ha pos pins s σ H _ I h) fun us s1 ⟨vs, H1, I1, r, q⟩ => ⟨I1.kIn, ?_⟩) he hpl
  exact run_make M F hr hb hd hx I1 r q
theorem pe_make0 (M : Mk X.K C f) (F : FnOk X.prog X.w X.K X.mg X.base CX k f fd ps sp) (hr : Room (k + 1) X.A) (hg : Gl X x) (hm : X.mg x = some (.ref C)) (hb : Binds X.K fd ps ds) (hd : Vals dvs ds) (hx : Passes CX X E)
    (hdb : (x == ("__debug__" : Str)) = false := by decide) : PE X (.Call (.Name x p) [] [] pos) (tMake C sp dvs E tNil) := by
  intro pins s σ H Q I h
  refine wpAny_Call_Name_kw (ld_glob I hg hm ?_ hdb)
  exact PySem.W.callWith_K0 I.kIn M.kp (run_make (us := []) M F hr hb hd hx I .nil h)
end

/-! ### keywords -/
section
variable {X : Cx} {CX : CXT} {k : Nat} {f C : Addr} {fd : FuncData} {ps ks : List Str} {sp : Sp} {E : XK} {x m : Str} {p pos apos kpos : Pos} {e o : Expr} {es : List Expr} {kws : List Keyword} {te ta : TE} {t tk : TA} {nm : Option Str}

variable {g : List Value → List Value → List Value} {gV : List V → List V → List V}
end

/-! ### a def's body keeps its promise -/
/-- names: the parameters first -/
structure FnScope (N P : List Str) (sc : Scope) : Prop where
  kind : sc.kind = .function
  co : sc.isCoroutine = false
  gen : sc.isGenerator = false
  nd : N.Nodup
  pre : N.take P.length = P
  par : ∀ x ∈ P, sc.names.lookup x = some .local ∨ sc.names.lookup x = some .cell
  nofree : ∀ y ∈ sc.names, y.2 ≠ .free

theorem bindL_out {kindOf : Str → Option NameKind} {x : Str} : ∀ {binds : List (Str × Value)} {m : Str → Option Value}, (∀ v, (x, v) ∉ binds) → bindL kindOf binds m x = m x
  | [], _, _ => rfl
  | (n, v) :: r, m, h => by
    unfold bindL
    rw [bindL_out fun w hw => h w (List.mem_cons_of_mem _ hw)]
    split
    · have : x ≠ n := by rintro rfl; exact h v List.mem_cons_self
      simp [this]
    · rfl
theorem bindC_out {kindOf : Str → Option NameKind} {x : Str} : ∀ {binds : List (Str × Value)} {m : Str → Option Value}, (∀ v, (x, v) ∉ binds) → bindC kindOf binds m x = m x
  | [], _, _ => rfl
  | (n, v) :: r, m, h => by
    unfold bindC
    rw [bindC_out fun w hw => h w (List.mem_cons_of_mem _ hw)]
    split
    · rfl
    · have : x ≠ n := by rintro rfl; exact h v List.mem_cons_self
      simp [this]
theorem bindL_get {kindOf : Str → Option NameKind} {x : Str} {v : Value} : ∀ {P : List Str} {vs : List Value} {i : Nat} {m : Str → Option Value}, P.Nodup → P[i]? = some x → vs[i]? = some v → kindOf x = some .local →
    bindL kindOf (P.zip vs) m x = some v
  | [], _, _, _, _, h, _, _ => by simp at h
  | _ :: _, [], _, _, _, _, h, _ => by simp at h
  | p :: P, w :: vs, 0, m, nd, h1, h2, hk => by
    simp at h1 h2; subst h1; subst h2
    show bindL kindOf ((p, w) :: P.zip vs) m p = _
    unfold bindL
    rw [bindL_out fun v hv => (List.nodup_cons.mp nd).1 (List.of_mem_zip hv).1, if_pos hk]
    simp
  | p :: P, w :: vs, i + 1, m, nd, h1, h2, hk => by
    show bindL kindOf ((p, w) :: P.zip vs) m x = _
    unfold bindL
    exact bindL_get (i := i) (List.nodup_cons.mp nd).2 (by simpa using h1) (by simpa using h2) hk
theorem bindC_get {kindOf : Str → Option NameKind} {x : Str} {v : Value} : ∀ {P : List Str} {vs : List Value} {i : Nat} {m : Str → Option Value}, P.Nodup → P[i]? = some x → vs[i]? = some v → kindOf x ≠ some .local →
    bindC kindOf (P.zip vs) m x = some v
  | [], _, _, _, _, h, _, _ => by simp at h
  | _ :: _, [], _, _, _, _, h, _ => by simp at h
  | p :: P, w :: vs, 0, m, nd, h1, h2, hk => by
    simp at h1 h2; subst h1; subst h2
    show bindC kindOf ((p, w) :: P.zip vs) m p = _
    unfold bindC
    rw [bindC_out fun v hv => (List.nodup_cons.mp nd).1 (List.of_mem_zip hv).1, if_neg hk]
    simp
  | p :: P, w :: vs, i + 1, m, nd, h1, h2, hk => by
    show bindC kindOf ((p, w) :: P.zip vs) m x = _
    unfold bindC
    exact bindC_get (i := i) (List.nodup_cons.mp nd).2 (by simpa using h1) (by simpa using h2) hk

/-- the names' values at the entry -/
def start (N : List Str) (vs : List V) : St := vs.map some ++ List.replicate (N.length - vs.length) none

/-- the context of a def's body, at its entry; an exception leaves the frame, then lies as CX says -/
def cxOf (CX : CXT) (P : Program) (w : World) (K : PySem.W.Frag) (mg : Str → Option Value) (base : Heap) (N : List Str) (qual : Str) (scope : Scope) (f : Addr) (cd : Value) (A : Around) (outer : List Env) (s : Shared) (H : Hp) (E : XK) : Cx where
  prog := P
  w := w
  K := K
  mg := mg
  base := base
  A := A.deeper (envOfC qual scope s.heap.objs.size f cd)
  N := N
  s_0 := s
  H_0 := H
  env := envOfC qual scope s.heap.objs.size f cd
  outer := outer
  stack := envOfC qual scope s.heap.objs.size f cd :: outer
  ex := []
  calm := true
  fn := fun _ => true
  pn := []
  xe := fun e s' => wpAny (model P w) (A.deeper (envOfC qual scope s.heap.objs.size f cd)) (leaving (envOfC qual scope s.heap.objs.size f cd) e) (fun _ s'' => CX outer H s E e s'') (fun e' s'' => CX outer H s E e' s'') s'

theorem cell_has {sc : Scope} {n : Nat} {x : Str} (h : sc.names.lookup x = some .cell) : ∃ c, (cellsFrom n sc.names []).lookup x = some c := by
  have q := PySem.W.cellsFrom_some sc.names n [] (.inl h)
  exact Option.isSome_iff_exists.mp q

theorem inv_start {CX : CXT} {P : Program} {w : World} {K : PySem.W.Frag} {mg : Str → Option Value} {base : Heap} {N ps : List Str} {qual : Str} {scope : Scope} {f : Addr} {cd : Value} {A : Around} {outer : List Env} {s s1 : Shared} {H : Hp} {E : XK} {us : List Value} {vs : List V}
    (S : FnScope N ps scope) (hd : A.handled = none) (e0 : Env0 P w K mg base A outer s H) (hl : vs.length = ps.length) (r : Vals vs us)
    (x : InCallC s s.heap.objs.size (bindL (envOfC qual scope s.heap.objs.size f cd).kindOf (ps.zip us) fun _ => none) (cellsFrom (s.heap.objs.size + 1) scope.names []) (bindC (envOfC qual scope s.heap.objs.size f cd).kindOf (ps.zip us) fun _ => none) s1) :
    Inv (cxOf CX P w K mg base N qual scope f cd A outer s H E) [] (start N vs) H s1 := by
  have hpl : ps.length ≤ N.length := by have := congrArg List.length S.pre; rw [List.length_take] at this; omega
  obtain ⟨h1, tk, rfl, hk⟩ := x.done
  have noA : ∀ b : Addr, b ∉ (cxOf CX P w K mg base N qual scope f cd A outer s H E).ex := fun b z => absurd (show b ∈ ([] : List Addr) from z) (by simp)
  refine ⟨⟨e0.mod, S.kind, rfl, rfl, Nat.le_refl _, fun y z c h1 h2 => ?_, fun y hy => ?_, fun y c _ h => ?_, fun _ => hd, Around.frames_deeper e0.frames, .inr ⟨rfl, rfl⟩, fun b z => absurd z (noA b), e0.bs, e0.bsz, fun b _ _ => noA b, fun b z => absurd z (noA b), e0.funs, e0.frf⟩,
    rfl, e0.bare, Un.kept hk, ⟨_, x.toInCall.ns, fun i y v h1 h2 h3 => ?_⟩, fun y c h => ⟨_, x.cell y c h⟩, e0.hok.fresh (Nat.le_refl _), fun y c h => ?_, fun p hp => absurd (show p ∈ ([] : List (Addr × Obj)) from hp) (by simp), e0.hok.kept hk, ?_⟩
  · exact name_of_addr x.apart (PySem.mem_of_lookup h1) (PySem.mem_of_lookup h2)
  · have hy : scope.names.lookup y = some .cell ∨ scope.names.lookup y = some .free := hy
    rcases hy with hy | hy
    · exact cell_has hy
    · exact absurd rfl (S.nofree _ (PySem.mem_of_lookup hy))
  · exact Nat.le_of_lt (x.above y c (PySem.mem_of_lookup h))
  · have hi : i < vs.length := by
      unfold start at h2
      by_cases hi : i < vs.length
      · exact hi
      · rw [List.getElem?_append_right (by simpa using hi)] at h2
        rw [List.getElem?_replicate] at h2
        split at h2 <;> cases h2
    have ha : vs[i]? = some v := by
      unfold start at h2
      rw [List.getElem?_append_left (by simpa using hi), List.getElem?_map] at h2
      cases e : vs[i]? with
      | none => rw [e] at h2; cases h2
      | some a => rw [e] at h2; cases h2; rfl
    obtain ⟨u, hu, rv⟩ := r.get ha
    have hp : ps[i]? = some y := by
      rw [← S.pre, List.getElem?_take_of_lt (by omega)]; exact h1
    have ndP : ps.Nodup := by rw [← S.pre]; exact S.nd.sublist (List.take_sublist _ _)
    refine ⟨u, rv, ?_⟩
    rcases S.par y (List.mem_of_getElem? hp) with k | k
    · exact .inl ⟨k, bindL_get ndP hp hu k⟩
    · obtain ⟨c, e⟩ := cell_has (n := s.heap.objs.size + 1) k
      refine .inr ⟨.inl k, c, e, ?_⟩
      have q := x.cell y c e
      rw [bindC_get ndP hp hu (by show scope.names.lookup y ≠ _; rw [k]; decide)] at q
      exact q
  · exact e0.hok.fresh (Nat.le_of_lt (x.above y c (PySem.mem_of_lookup h)))
  · unfold start
    show _ = N.length
    rw [List.length_append, List.length_map, List.length_replicate]
    omega

/-- THE RULE: a def (or a method) of the text, by its body. The body's reading t is chosen for each entry; it is run at the parameters' values -/
theorem fn_of {CX : CXT} {P : Program} {w : World} {K : PySem.W.Frag} {mg : Str → Option Value} {base : Heap} {k : Nat} {f : Addr} {name qual : Str} {params : Arguments} {body : List Stmt} {scope : Scope} {dV kV doc pm cdv ct oc : Value} {an od : Option Addr}
    {osl : Array (Option Value)} {N ps : List Str} {sp : Sp} (lk : K.lookup f = some ⟨oc, od, .func (PySem.W.fnOf name qual params body scope dV kV doc pm an cdv ct), osl⟩) (hcd : PySem.W.codeIn K cdv qual = true) (S : FnScope N ps scope)
    (len : ∀ vs H Q E, sp vs H Q E → vs.length = ps.length)
    (hbody : ∀ (A : Around) (outer : List Env) (s : Shared) (H : Hp) (vs : List V) (Q : VK) (E : XK), Room k (A.deeper (envOfC qual scope s.heap.objs.size f cdv)) → sp vs H Q E →
      ∃ t, PSs (cxOf CX P w K mg base N qual scope f cdv A outer s H E) body t ∧ t { nx := fun _ H' => Q .non H', rt := Q } (start N vs) H) :
    FnOk P w K mg base CX (k + 1) f (PySem.W.fnOf name qual params body scope dV kV doc pm an cdv ct) ps sp := by
  refine ⟨len, fun A outer s H args us vs Q E hr e0 hb r hsp => ?_⟩
  have hl := len _ _ _ _ hsp
  have KX : K.In s.heap := e0.mod.kin.keeps fun b o e => (e0.bs b o e).1
  have lim : s.heap.NoLimit := e0.mod.nolimit.keeps fun b o e => (e0.bs b o e).1
  have hkind : ∀ y ∈ ps.zip us, scope.names.lookup y.1 = some .local ∨ (scope.names.lookup y.1 = some .cell ∧ ((cellsFrom (s.heap.objs.size + 1) scope.names []).lookup y.1).isSome = true) := fun ⟨n, v⟩ hy => by
    rcases S.par n (List.of_mem_zip hy).1 with q | q
    · exact .inl q
    · exact .inr ⟨q, PySem.W.cellsFrom_some _ _ _ (.inl q)⟩
  refine codeAny_call_function hr.depth (KX _ _ lk) rfl S.co S.gen rfl (PySem.W.codeRec_of KX hcd) (hb _ _ _ _ ?_)
  refine wpAny_newFunctionEnv_cells S.kind hkind fun env he s1 x => ?_
  subst he
  refine ⟨lim.keeps x.toInCall.keep, codeAny_func ?_⟩
  obtain ⟨t, ht, hq⟩ := hbody A outer s H vs Q E (hr.deeper _) hsp
  have I : Inv (cxOf CX P w K mg base N qual scope f cdv A outer s H E) [] (start N vs) H s1 := inv_start S hr.hd e0 hl r x
  refine wpAny_mono (ht [] s1 (start N vs) H _ I hq) (fun fl s' hs => ?_) fun e s' hs => hs
  have fin : ∀ {σ' : St} {H' : Hp} {v : V} {u : Value}, Inv (cxOf CX P w K mg base N qual scope f cdv A outer s H E) [] σ' H' s' → RelV v u → Q v H' → CE outer P w H s Q u s' :=
    fun {σ' H' v u} J rv q => ⟨v, H', J.os, J.bare, J.base, J.hok, rv, q⟩
  cases fl with
  | ret u =>
    obtain ⟨v, σ', H', J, rv, q⟩ := hs
    exact fin J rv q
  | next =>
    obtain ⟨σ', H', J, q⟩ := hs
    exact fin (v := V.non) (u := Value.none) J rfl q
  | brk =>
    obtain ⟨_, _, _, q⟩ := hs
    exact False.elim q
  | cont =>
    obtain ⟨_, _, _, q⟩ := hs
    exact False.elim q
end L2

namespace L2
open PySem PySem.Spec PyProof.Rows
section
variable {X : Cx} {x : Str} {p pos : Pos} {e : Expr} {es : List Expr} {t : TA} {id T : String} {r : List V → Hp → VK → Prop}

def tCB (r : List V → Hp → VK → Prop) (t : TA) : TE := fun σ H Q => t σ H fun vs H1 => r vs H1 Q
/-- f(e, ..), f a built-in function -/
theorem pe_callB (hc : CallR X (.builtin id) r) (hg : Gl X x) (hm : X.mg x = none) (hv : bootBuiltins x = some (.builtin id)) (ha : PA X (e :: es) t) (hn : x ≠ "__name__" := by decide) (hdb : (x == ("__debug__" : Str)) = false := by decide)
    (he : starEach (e :: es) X.env = (false, eval e X.env) :: starEach es X.env := by rfl) (hpl : (backTo pos (starEach es X.env)).any (·.1) = false := by rfl) : PE X (.Call (.Name x p) (e :: es) [] pos) (tCB r t) := by
  intro pins s σ H Q I h
  refine wpAny_Call_Name_kw (ld_blt I hg hm hv ?_ hn hdb)
  exact PyProof.Rows.callWith_builtin1 (thn (ha pos pins s σ H _ I h) fun us s1 ⟨vs, H1, I1, r1, q1⟩ => hc pins s1 σ H1 vs us Q I1 r1 q1) he hpl
end
end L2

namespace HT
open PySem PyProof.Rows

/-- t < u of tuples of ints -/
def lexLt : List Int → List Int → Bool
  | [], [] => false
  | [], _ :: _ => true
  | _ :: _, [] => false
  | x :: xs, y :: ys => if x = y then lexLt xs ys else decide (x < y)
theorem lexLt_cons (x y : Int) (xs ys : List Int) : lexLt (x :: xs) (y :: ys) = if x = y then lexLt xs ys else decide (x < y) := rfl
theorem lexLt_nil_nil : lexLt [] [] = false := rfl
theorem lexLt_nil_cons (y : Int) (ys : List Int) : lexLt [] (y :: ys) = true := rfl
theorem lexLt_cons_nil (x : Int) (xs : List Int) : lexLt (x :: xs) [] = false := rfl

theorem eqAt_int (A : Around) (s : Shared) (a : Int) (t : Tok) (c : Int) (u : Tok) : ∃ e, SeqAt.EqAt A s (.int a t) (.int c u) e ∧ (e = true ↔ a = c) :=
  ⟨(a == c), SeqAt.EqAt.int_int a t c u, by simp⟩
theorem rcLt_int (A : Around) (s : Shared) (a : Int) (t : Tok) (c : Int) (u : Tok) (prog : Program) (w : World) (E : Value → Shared → Prop) (Q : Value → Shared → Prop) (h : Q (.bool (decide (a < c))) s) :
    wpAny (model prog w) A (richCompare .Lt (.int a t) (.int c u)) Q E s :=
  (PyProof.Rows.lt_int h : wpAny (model prog w) A (compareOp .Lt (.int a t) (.int c u)) Q E s)

section
open PySem.SeqAt
open PySem.AutoSeq1 (wpAny_loadPart')
open PySem.MeetsSeq PySem.MeetsSeq2 PySem.MeetsSeq3

theorem tuple_lt_ints (l b : Addr) (items items2 : Array Value) (n n2 : Nat) (dd dd2 : Option Addr) (sl sl2 : Array (Option Value)) (ns ms : List Int) (hi : IntsAre items.toList ns) (hj : IntsAre items2.toList ms) :
    Meets (Builtin.«tuple.__lt__» ⟨[.ref l, .ref b], []⟩)
      (fun _ R s => s.heap.get? l = some { cls := .type "tuple", dict := dd, data := .seq items n, slots := sl } ∧ s.heap.get? b = some { cls := .type "tuple", dict := dd2, data := .seq items2 n2, slots := sl2 } ∧
        R (.ok (.ret (.bool (lexLt ns ms)))) s) :=
  .of_wp fun prog w A R s h => by
    obtain ⟨hp, g, d, tk, os⟩ := s; obtain ⟨hl, hb, h⟩ := h
    have f2 := AutoSeq1.sub_tuple_tuple
    have z1 : items.size = ns.length := by rw [← hi.length]; simp
    have z2 : items2.size = ms.length := by rw [← hj.length]; simp
    wp_walk using wpAny_loadPart' hl, wpAny_loadPart' hb, wpAny_forIn_list _ (fun rest b s' => b.1 = none ∧ s' = ⟨hp, g, d, tk, os⟩ ∧ ∃ (vs ws : List Value) (ns' ms' : List Int), rest = vs.zip ws ∧
      IntsAre vs ns' ∧ IntsAre ws ms' ∧ ns'.length + items2.size = ms'.length + items.size ∧ R (.ok (.ret (.bool (lexLt ns' ms')))) ⟨hp, g, d, tk, os⟩) _
    case turn =>
      rintro ⟨y, x⟩ rest b s' ⟨hb', rfl, vs, ws, ns', ms', hz, hvi, hwi, hlen, hR⟩
      cases hvi with
      | nil => rw [List.zip_nil_left] at hz; cases hz
      | cons a t hvi' =>
        cases hwi with
        | nil => rw [List.zip_nil_right] at hz; cases hz
        | cons c u hwi' =>
          rw [List.zip_cons_cons] at hz
          injection hz with hyx hrest
          injection hyx with hy hx
          subst hy hx
          rw [lexLt_cons] at hR
          simp only [List.length_cons] at hlen
          obtain ⟨e, he, hiff⟩ := eqAt_int A.in1 ⟨hp, g, d, tk, os⟩ a t c u
          refine wpAny_bind (he prog w _ _ ?_)
          cases e with
          | true =>
            rw [if_pos (hiff.mp rfl)] at hR
            wp_walk
            exact ⟨rfl, rfl, _, _, _, _, hrest, hvi', hwi', by omega, hR⟩
          | false =>
            rw [if_neg (fun q => absurd (hiff.mpr q) Bool.false_ne_true)] at hR
            have hri := rcLt_int A.in1 ⟨hp, g, d, tk, os⟩ a t c u prog w
            wp_walk using hri
            exact ⟨_, rfl, by simpa using hR⟩
    case fin =>
      rintro ⟨b1, b2⟩ s' ⟨hb', rfl, vs, ws, ns', ms', hz, hvi, hwi, hlen, hR⟩
      simp only at hb'
      subst hb'
      have hv : lexLt ns' ms' = decide (items.size < items2.size) := by
        cases hvi with
        | nil =>
          cases hwi with
          | nil =>
            simp only [List.length_nil] at hlen
            rw [lexLt_nil_nil]
            exact (decide_eq_false (by omega)).symm
          | cons c u hw =>
            simp only [List.length_nil, List.length_cons] at hlen
            rw [lexLt_nil_cons]
            exact (decide_eq_true (by omega)).symm
        | cons a t hv =>
          cases hwi with
          | nil =>
            simp only [List.length_nil, List.length_cons] at hlen
            rw [lexLt_cons_nil]
            exact (decide_eq_false (by omega)).symm
          | cons c u hw =>
            rw [List.zip_cons_cons] at hz
            cases hz
      rw [hv] at hR
      wp_walk
      exact ⟨_, rfl, by simpa [Builtin.Tuple.tupleCompareSizes] using hR⟩
    case h =>
      exact ⟨rfl, rfl, items.toList, items2.toList, ns, ms, rfl, hi, hj, by omega, h⟩
end

section
variable {prog : Program} {w : World} {A : Around} {E : Value → Shared → Prop} {s : Shared}

theorem lt_tupInts {l b : Addr} {items items2 : Array Value} {ns ms : List Int} {Q : Value → Shared → Prop} (hl : IsTup s.heap l items) (hb : IsTup s.heap b items2) (hi : IntsAre items.toList ns) (hj : IntsAre items2.toList ms)
    (hu : A.units < cLine) (h : Q (.bool (lexLt ns ms)) s) : wpAny (model prog w) A (compareOp .Lt (.ref l) (.ref b)) Q E s := by
  obtain ⟨⟨cls, dd, data, sl⟩, ho, hc, n, hd⟩ := id hl
  obtain ⟨⟨cls2, dd2, data2, sl2⟩, ho2, hc2, n2, hd2⟩ := id hb
  simp only at hc hd hc2 hd2
  subst hc hd hc2 hd2
  exact richCompare_meets_room (op := .Lt) ⟨_, ho, rfl⟩ ⟨_, ho2, rfl⟩ PySem.F.slot_tuple_lt PySem.F.entry_tuple_lt (PySem.F.args_tuple_lt_2 _ _) (tuple_lt_ints l b items items2 n n2 dd dd2 sl sl2 ns ms hi hj)
    ⟨ho, ho2, show Value.bool (lexLt ns ms) ≠ Value.notImplemented ∧ Q (.bool (lexLt ns ms)) s from ⟨(fun x => nomatch x), h⟩⟩ hu


/-! ### t[a:b], not the whole -/
/-- a slice's bound as a place among n (d where it is left out) -/
def sIx (n d : Nat) : Option Int → Nat
  | none => d
  | some v => if v < 0 then (v + (n : Int)).toNat else min v.toNat n
theorem sIx_nat (n d k : Nat) : sIx n d (some (k : Int)) = min k n := by
  show (if (k : Int) < 0 then ((k : Int) + (n : Int)).toNat else min (k : Int).toNat n) = min k n
  rw [if_neg (by omega), Int.toNat_natCast]

end
end HT

namespace L2
open PySem PySem.Spec PyProof.Rows

/-! ### the parts of a slice -/
abbrev TO := St → Hp → (Option Int → Hp → Prop) → Prop
/-- a slice's part (left out, or an int) -/
def PO (X : Cx) (e : Option Expr) (t : TO) : Prop :=
  ∀ (pins : List (Addr × Obj)) (s : Shared) (σ : St) (H : Hp) (Q : Option Int → Hp → Prop), Inv X pins σ H s → t σ H Q →
    wpAny (model X.prog X.w) X.A (evalPart e X.env) (fun u s' => ∃ o H', Inv X pins σ H' s' ∧ IsPart u o ∧ Q o H') X.xe s
def tPart (t : TE) : TO := fun σ H Q => t σ H fun x H1 => ∃ i, x = .int i ∧ Q (some i) H1

theorem intsAre_of {ns : List Int} : ∀ {us : List Value}, Vals (ns.map V.int) us → IntsAre us ns := by
  induction ns with
  | nil => intro us r; rw [List.map_nil] at r; cases r; exact .nil
  | cons n ns ih =>
    intro us r
    rw [List.map_cons] at r
    cases r with
    | cons r1 r2 =>
      obtain ⟨t, e⟩ := r1
      subst e
      exact .cons n t (ih r2)

section
variable {X : Cx} {e : Expr} {te : TE} {lo hi : Option Expr} {tl th : TO} {pos p2 : Pos}

theorem po_some (h : PE X e te) : PO X (some e) (tPart te) := by
  intro pins s σ H Q I hw
  rw [evalPart_some]
  refine thn (h pins s σ H _ I hw) fun u s1 ⟨x, H1, I1, r1, q1⟩ => ?_
  obtain ⟨i, rfl, q⟩ := q1
  obtain ⟨t, rfl⟩ := r1
  exact ⟨some i, H1, I1, .int i t, q⟩

/-- what a slice of a value is, by values: the slice object stands at sl -/
def SlR (X : Cx) (r : V → Option Int → Option Int → Hp → VK → Prop) : Prop :=
  ∀ (pins : List (Addr × Obj)) (s : Shared) (σ : St) (H : Hp) (x : V) (v vl vu : Value) (lo hi : Option Int) (sl : Addr) (Q : VK), Inv X pins σ H s → RelV x v → s.heap.IsSliceOf sl vl vu .none → IsPart vl lo → IsPart vu hi → r x lo hi H Q →
    ∃ T id, typeLookup (.type T) "__getitem__" = pure (some (.builtin id)) ∧ s.TypeIs v T ∧ wpAny (model X.prog X.w) X.A (getItem v (.ref sl)) (EP X pins σ Q) X.xe s
def tSl (r : V → Option Int → Option Int → Hp → VK → Prop) (te : TE) (tl th : TO) : TE := fun σ H Q => te σ H fun x H1 => tl σ H1 fun l H2 => th σ H2 fun u H3 => r x l u H3 Q
/-- a[lo:hi], any a -/
theorem pe_slice {r : V → Option Int → Option Int → Hp → VK → Prop} (hr : SlR X r) (he : PE X e te) (hl : PO X lo tl) (hu : PO X hi th) : PE X (.Subscript e (.Slice lo hi none p2) pos) (tSl r te tl th) := by
  intro pins s σ H Q I h
  refine Subscript_ (thn (he pins s σ H _ I h) fun v s1 ⟨x, H1, I1, r1, q1⟩ => ?_)
  refine wpAny_Slice (thn (hl pins s1 σ H1 _ I1 q1) fun vl s2 ⟨l, H2, I2, pl, q2⟩ => thn (hu pins s2 σ H2 _ I2 q2) fun vu s3 ⟨u, H3, I3, pu, q3⟩ => ?_)
  rw [evalPart_none]
  refine wpAny_pure ?_
  have I4 : Inv X pins σ H3 { s3 with heap := s3.heap.push { cls := .type "slice", data := .fields #[vl, vu, .none] } } := I3.kept (t' := s3.toks) fun b ob q => Heap.get?_push_of_some _ q
  obtain ⟨T, id, hT, ht, hg⟩ := hr pins { s3 with heap := s3.heap.push { cls := .type "slice", data := .fields #[vl, vu, .none] } } σ H3 x v vl vu l u s3.heap.objs.size Q I4 r1 (Heap.IsSliceOf.new ..) pl pu q3
  show wpAny (model X.prog X.w) X.A (subscriptTail e (.Slice lo hi none p2) v (.ref s3.heap.objs.size)) (EP X pins σ Q) X.xe { s3 with heap := s3.heap.push { cls := .type "slice", data := .fields #[vl, vu, .none] } }
  exact tail_any (ops := [.ref s3.heap.objs.size, v]) ht hT hg (by with_unfolding_all rfl)

/-- the items of xs[lo:hi] -/
def cutV (xs : List V) (lo hi : Option Int) : List V := (xs.drop (HT.sIx xs.length 0 lo)).take (HT.sIx xs.length xs.length hi - HT.sIx xs.length 0 lo)
theorem cutV_length (xs : List V) (lo hi : Option Int) : (cutV xs lo hi).length ≤ xs.length := by
  unfold cutV
  rw [List.length_take, List.length_drop]
  omega

/-! ### t < u, t + u -/
end
end L2

namespace L2
open PySem PySem.Spec PyProof.Rows

/-! ### places -/
/-- the place that an index of any sign means -/
def ixN (n : Nat) (i : Int) : Option Nat := if 0 ≤ i then (if i < n then some i.toNat else none) else if -(n : Int) ≤ i then some (i + n).toNat else none
def atI {α : Type} (xs : List α) (i : Int) : Option α := (ixN xs.length i).bind fun j => xs[j]?
theorem ixN_seq {n : Nat} {i : Int} {j : Nat} (h : ixN n i = some j) : seqIndex? i n = some j ∧ j < n ∧ -(n : Int) ≤ i ∧ i < n := by
  unfold ixN at h
  by_cases h0 : 0 ≤ i
  · rw [if_pos h0] at h
    by_cases h1 : i < n
    · rw [if_pos h1] at h
      have e : i.toNat = j := Option.some.inj h
      exact ⟨by rw [seqIndex_of h0 h1, e], by omega, by omega, h1⟩
    · rw [if_neg h1] at h; cases h
  · rw [if_neg h0] at h
    by_cases h1 : -(n : Int) ≤ i
    · rw [if_pos h1] at h
      have e : (i + n).toNat = j := Option.some.inj h
      exact ⟨by rw [seqIndex_neg (by omega) h1, e], by omega, h1, by omega⟩
    · rw [if_neg h1] at h; cases h
theorem atI_get {α : Type} {xs : List α} {i : Int} {v : α} (h : atI xs i = some v) : ∃ j, seqIndex? i xs.length = some j ∧ xs[j]? = some v ∧ j < xs.length ∧ -(xs.length : Int) ≤ i ∧ i < xs.length := by
  unfold atI at h
  cases e : ixN xs.length i with
  | none => rw [e] at h; cases h
  | some j =>
    rw [e] at h
    obtain ⟨h1, h2, h3, h4⟩ := ixN_seq e
    exact ⟨j, h1, h, h2, h3, h4⟩
theorem atI_nat {α : Type} {xs : List α} {j : Nat} {v : α} (h : xs[j]? = some v) : atI xs (j : Int) = some v := by
  have hj : j < xs.length := (List.getElem?_eq_some_iff.mp h).1
  have e : ixN xs.length (j : Int) = some j := by
    unfold ixN
    rw [if_pos (by omega), if_pos (by omega)]; simp
  unfold atI; rw [e]; exact h

/-! ### what may be subscripted -/
/-- what stands as an index of a plain subscript -/
def PlainIx (b : Expr) : Prop := ∀ o i, subscripted b false o i = operate [o, i] (getItem o i)
/-- a subscript by values -/
def IxR (X : Cx) (r : R2) : Prop :=
  ∀ (value slice : Expr) (pins : List (Addr × Obj)) (s : Shared) (σ : St) (H : Hp) (x y : V) (v u : Value) (Q : VK), Inv X pins σ H s → RelV x v → RelV y u → r x y H Q →
    subscripted slice false v u = operate [v, u] (getItem v u) → wpAny (model X.prog X.w) X.A (subscriptTail value slice v u) (EP X pins σ Q) X.xe s
/-- a call of a builtin's method by values: the receiver, the arguments -/
def MtR (X : Cx) (id : String) (r : V → List V → Hp → VK → Prop) : Prop :=
  ∀ (pins : List (Addr × Obj)) (s : Shared) (σ : St) (H : Hp) (x : V) (xs : List V) (v : Value) (us : List Value) (Q : VK), Inv X pins σ H s → RelV x v → Vals xs us → r x xs H Q →
    wpAny (model X.prog X.w) X.A (call (.builtin id) (v :: us)) (EP X pins σ Q) X.xe s
section
variable {X : Cx} {a b : Expr} {ta tb : TE} {pos : Pos}
/-- a[b] -/
theorem pe_ix {r : R2} (hr : IxR X r) (ha : PE X a ta) (hb : PE X b tb) (hs : PlainIx b) : PE X (.Subscript a b pos) (tOp r ta tb) := by
  intro pins s σ H Q I h
  exact Subscript_ (binT ha hb I h fun v u s2 x y H2 I2 rx ry q => hr a b pins s2 σ H2 x y v u Q I2 rx ry q (hs _ _))

def rIxL (K : PySem.W.Frag) : R2 := fun x y H Q => ∃ p xs i v, x = .ref p ∧ y = .int i ∧ SqL K H p xs ∧ atI xs i = some v ∧ Q v H
def rIxT (K : PySem.W.Frag) : R2 := fun x y H Q => ∃ p xs i v, x = .ref p ∧ y = .int i ∧ SqT K H p xs ∧ atI xs i = some v ∧ Q v H
theorem ix_list : IxR X (rIxL X.K) := by
  intro value slice pins s σ H x y v u Q I rx ry h hs
  obtain ⟨p, xs, i, z, rfl, rfl, hq, he, q⟩ := h
  cases rx
  obtain ⟨t, rfl⟩ := ry
  obtain ⟨its, r, pl, hz⟩ := I.list hq
  obtain ⟨j, h1, h2, h3, h4, h5⟩ := atI_get he
  obtain ⟨w, ew, rw'⟩ := r.get h2
  have hl := r.length
  have hn := line63
  have fin : EP X pins σ Q w s := ⟨z, H, I, rw', q⟩
  by_cases h0 : 0 ≤ i
  · have hj : i.toNat = j := by
      rw [seqIndex_of h0 h5] at h1
      exact Option.some.inj h1
    exact item_listR pl.isList h0 (by omega) (by rw [hj]; simpa using ew) fin hs
  · have hj : (i + (its.toArray.size : Int)).toNat = j := by
      rw [seqIndex_neg (by omega) h4] at h1
      rw [List.size_toArray, ← hl]
      exact Option.some.inj h1
    exact subscriptTail_builtinR (x := w) pl.isList.typeIs slot_list_getitem.lookup
      (wpAny_getItem_list_neg (Q := fun r s' => r = w ∧ EP X pins σ Q r s') pl.isList (by omega) (by rw [List.size_toArray] <;> omega) (by omega) (by rw [hj]; simpa using ew) ⟨rfl, fin⟩) hs
theorem ix_tup : IxR X (rIxT X.K) := by
  intro value slice pins s σ H x y v u Q I rx ry h hs
  obtain ⟨p, xs, i, z, rfl, rfl, hq, he, q⟩ := h
  cases rx
  obtain ⟨t, rfl⟩ := ry
  obtain ⟨its, r, pl, hz⟩ := I.tuple hq
  obtain ⟨j, h1, h2, h3, h4, h5⟩ := atI_get he
  obtain ⟨w, ew, rw'⟩ := r.get h2
  have hl := r.length
  have hn := line63
  have fin : EP X pins σ Q w s := ⟨z, H, I, rw', q⟩
  exact subscriptTail_builtinR (x := w) pl.typeIs slot_tuple_getitem.lookup
    (getItem_tuple (j := j) (Q := fun r s' => r = w ∧ EP X pins σ Q r s') pl (by omega) (by omega) (by rw [List.size_toArray, ← hl]; exact h1) (by simpa using ew) ⟨rfl, fin⟩) hs

/-! ### xs[i] = v, any sign -/
/-- the list's object behind a store -/
theorem mapSeq_set (its : List Value) (n j : Nat) (u : Value) : Obj.mapSeq (·.setIfInBounds j u) { cls := .type "list", data := .seq its.toArray n } = { cls := .type "list", data := .seq (its.set j u).toArray n } := by
  simp [Obj.mapSeq]
theorem Inv.lst {pins : List (Addr × Obj)} {σ : St} {H : Hp} {s : Shared} {p : Addr} {xs : List V} (I : Inv X pins σ H s) (h : H p = some (.lst xs)) :
    ∃ (its : List Value) (n : Nat), Vals xs its ∧ s.heap.get? p = some { cls := .type "list", data := .seq its.toArray n } ∧ xs.length ≤ sizeLine := by
  obtain ⟨z, its, n, r, e⟩ := I.hok p _ h
  exact ⟨its, n, r, e, z⟩
/-- the list at p is written by an update of its object -/
theorem Inv.lstUpd {pins : List (Addr × Obj)} {σ : St} {H : Hp} {s : Shared} {p : Addr} {xs ys : List V} {its its' : List Value} {n n' : Nat} {f : Obj → Obj} (I : Inv X pins σ H s) (h : H p = some (.lst xs))
    (ho : s.heap.get? p = some { cls := .type "list", data := .seq its.toArray n }) (hf : f { cls := .type "list", data := .seq its.toArray n } = { cls := .type "list", data := .seq its'.toArray n' }) (r : Vals ys its') (hz : ys.length ≤ sizeLine) (t : Nat) :
    Inv X pins σ (upd H p (.lst ys)) { s with heap := s.heap.update p f, toks := t } := by
  have e : (s.heap.update p f).get? p = some { cls := .type "list", data := .seq its'.toArray n' } := by
    rw [Heap.get?_update_self f ho (by rw [hf] <;> rfl), hf]
  refine I.write (x := p) (e := p) (by rw [h]; trivial) (.inl rfl) (fun b u hb q => (Heap.get?_update_other _ _ (Ne.symm hb)).trans q) ⟨_, e⟩ ?_
  exact ⟨hz, its', n', r, e⟩
def rSetL : V → V → V → Hp → (Hp → Prop) → Prop := fun o i v H Q => ∃ p xs k j, o = .ref p ∧ i = .int k ∧ H p = some (.lst xs) ∧ ixN xs.length k = some j ∧ Q (upd H p (.lst (xs.set j v)))
theorem set_list : PSet X rSetL := by
  intro pins s σ H o i v ov iv u Q I ro ri rv h
  obtain ⟨p, xs, k, j, rfl, rfl, hp, hj, q⟩ := h
  cases ro
  obtain ⟨t, rfl⟩ := ri
  obtain ⟨its, n, r, ho, hz⟩ := I.lst hp
  obtain ⟨h1, h2, h3, h4⟩ := ixN_seq hj
  have hl := r.length
  have hn := line63
  have I' : Inv X pins σ (upd H p (.lst (xs.set j v))) { s with heap := s.heap.update p (Obj.mapSeq (·.setIfInBounds j u)) } :=
    I.lstUpd hp ho (mapSeq_set its n j u) (r.set rv j) (by rw [List.length_set]; exact hz) s.toks
  by_cases h0 : 0 ≤ k
  · have hk : k.toNat = j := by
      rw [seqIndex_of h0 h4] at h1
      exact Option.some.inj h1
    exact PySem.W.ki_setAt ho h0 (by omega) (by rw [List.size_toArray, ← hl]; exact h4) (by rw [hk]; exact ⟨_, I', q⟩)
  · have hk : (k + (its.toArray.size : Int)).toNat = j := by
      rw [seqIndex_neg (by omega) h3] at h1
      rw [List.size_toArray, ← hl]
      exact Option.some.inj h1
    exact PySem.W.ki_setBack ho (by omega) (by rw [List.size_toArray, ← hl]; exact h3) (by omega) (by rw [hk]; exact ⟨_, I', q⟩)

/-! ### slices -/
theorem slice_bounds (lo hi : Option Int) (n : Nat) : (sliceBounds lo hi none n).1 = ((HT.sIx n 0 lo : Nat) : Int) ∧ (sliceBounds lo hi none n).2.1 = ((HT.sIx n n hi : Nat) : Int) ∧ (sliceBounds lo hi none n).2.2 = 1 := by
  refine ⟨?_, ?_, rfl⟩
  · cases lo with
    | none => simp [sliceBounds, HT.sIx]
    | some i =>
      simp only [sliceBounds, HT.sIx, Option.getD_none, show (1 : Int) > 0 by decide, if_true]
      by_cases h : i < 0
      · simp only [h, if_true] <;> omega
      · simp only [h, if_false] <;> omega
  · cases hi with
    | none => simp [sliceBounds, HT.sIx]
    | some i =>
      simp only [sliceBounds, HT.sIx, Option.getD_none, show (1 : Int) > 0 by decide, if_true]
      by_cases h : i < 0
      · simp only [h, if_true] <;> omega
      · simp only [h, if_false] <;> omega
theorem slicePick_cut (its : List Value) (lo hi : Option Int) : slicePick its.toArray lo hi none = ((its.drop (HT.sIx its.length 0 lo)).take (HT.sIx its.length its.length hi - HT.sIx its.length 0 lo)).toArray := by
  obtain ⟨h1, h2, h3⟩ := slice_bounds lo hi its.toArray.size
  unfold slicePick
  rw [h1, h2, h3]
  simp only [sliceRange_one, pick_run, List.size_toArray] <;> rfl
/-- xs[lo:hi] of a list: a new list -/
def rSlL (K : PySem.W.Frag) : V → Option Int → Option Int → Hp → VK → Prop := fun x lo hi H Q => ∃ a xs, x = .ref a ∧ SqL K H a xs ∧ ∀ p, H p = none → Q (.ref p) (upd H p (.lst (cutV xs lo hi)))
theorem sl_list : SlR X (rSlL X.K) := by
  intro pins s σ H x v vl vu lo hi sl Q I rx hs pl pu h
  obtain ⟨a, xs, rfl, hx, q⟩ := h
  cases rx
  obtain ⟨its, r, ht, hz⟩ := I.list hx
  have hlen := r.length
  refine ⟨"list", _, slot_list_getitem.lookup, ht.isList.typeIs, ?_⟩
  refine wpAny_getItem_list_slice ht.isList hs pl pu .none (by simp) ?_ (by rw [List.size_toArray] <;> omega)
  rw [slicePick_cut, ← hlen]
  refine ⟨.ref s.heap.objs.size, _, I.laid (t' := s.toks) (o := .lst (cutV xs lo hi)) (fun b ob q => Heap.get?_push_of_some _ q) (Nat.le_refl _) ?_, rfl, q _ (I.hok.fresh (Nat.le_refl _))⟩
  exact ⟨Nat.le_trans (cutV_length xs lo hi) hz, _, 0, (r.drop (HT.sIx xs.length 0 lo)).take (HT.sIx xs.length xs.length hi - HT.sIx xs.length 0 lo), Heap.get?_push_size _ rfl⟩

/-! ### in, not in: flat items -/
def flatV : V → Bool
  | .non => true
  | .bl _ => true
  | .int _ => true
  | .str _ => true
  | _ => false
/-- == of flat values -/
def eqV : V → V → Bool
  | .non, .non => true
  | .bl a, .bl b => a == b
  | .bl a, .int b => (if a then 1 else 0) == b
  | .int a, .bl b => a == (if b then 1 else 0)
  | .int a, .int b => a == b
  | .str a, .str b => a == b
  | _, _ => false
theorem eqAt_V {A : Around} {s : Shared} {y x : V} {u v : Value} (ry : RelV y u) (rx : RelV x v) (fy : flatV y = true) (fx : flatV x = true) : SeqAt.EqAt A s u v (eqV y x) := by
  cases y with
  | non =>
    cases ry
    cases x with
    | non => cases rx; exact SeqAt.EqAt.same _
    | bl b => cases rx; exact SeqAt.EqAt.none_bool b
    | int b => obtain ⟨t, rfl⟩ := rx; exact SeqAt.EqAt.none_int b t
    | str b => obtain ⟨t, rfl⟩ := rx; exact SeqAt.EqAt.none_str b t
    | _ => exact absurd (show false = true from fx) Bool.false_ne_true
  | bl a =>
    cases ry
    cases x with
    | non => cases rx; exact SeqAt.EqAt.bool_none a
    | bl b => cases rx; exact SeqAt.EqAt.bool_bool a b
    | int b => obtain ⟨t, rfl⟩ := rx; exact SeqAt.EqAt.bool_int a b t
    | str b => obtain ⟨t, rfl⟩ := rx; exact SeqAt.EqAt.bool_str a b t
    | _ => exact absurd (show false = true from fx) Bool.false_ne_true
  | int a =>
    obtain ⟨t', rfl⟩ := ry
    cases x with
    | non => cases rx; exact SeqAt.EqAt.int_none a t'
    | bl b => cases rx; exact SeqAt.EqAt.int_bool a t' b
    | int b => obtain ⟨t, rfl⟩ := rx; exact SeqAt.EqAt.int_int a t' b t
    | str b => obtain ⟨t, rfl⟩ := rx; exact SeqAt.EqAt.int_str a t' b t
    | _ => exact absurd (show false = true from fx) Bool.false_ne_true
  | str a =>
    obtain ⟨t', rfl⟩ := ry
    cases x with
    | non => cases rx; exact SeqAt.EqAt.str_none a t'
    | bl b => cases rx; exact SeqAt.EqAt.str_bool a t' b
    | int b => obtain ⟨t, rfl⟩ := rx; exact SeqAt.EqAt.str_int a t' b t
    | str b => obtain ⟨t, rfl⟩ := rx; exact SeqAt.EqAt.str_str a t' b t
    | _ => exact absurd (show false = true from fx) Bool.false_ne_true
  | _ => exact absurd (show false = true from fy) Bool.false_ne_true
/-- the items' answers, read off the values (a value's own answer does not lean on its token) -/
def eqU (x : V) (u : Value) : Bool := match u with
  | .none => eqV .non x
  | .bool b => eqV (.bl b) x
  | .int i _ => eqV (.int i) x
  | .str z _ => eqV (.str z) x
  | _ => false
theorem eqU_of {x y : V} {u : Value} (r : RelV y u) (f : flatV y = true) : eqU x u = eqV y x := by
  cases y with
  | non => cases r; rfl
  | bl b => cases r; rfl
  | int i => obtain ⟨t, rfl⟩ := r; rfl
  | str z => obtain ⟨t, rfl⟩ := r; rfl
  | _ => exact absurd (show false = true from f) Bool.false_ne_true
theorem any_eqU {x : V} : ∀ {xs : List V} {us : List Value}, Vals xs us → xs.all flatV = true → us.any (eqU x) = xs.any fun y => eqV y x
  | _, _, .nil, _ => rfl
  | y :: xs, u :: us, .cons r t, f => by
    rw [List.all_cons, Bool.and_eq_true] at f
    rw [List.any_cons, List.any_cons, eqU_of r f.1, any_eqU t f.2]
theorem mem_eqAt {A : Around} {s : Shared} {x : V} {v : Value} (rx : RelV x v) (fx : flatV x = true) : ∀ {xs : List V} {us : List Value}, Vals xs us → xs.all flatV = true → ∀ u ∈ us, SeqAt.EqAt A s u v (eqU x u)
  | _, _, .nil, _ => fun u hu => by cases hu
  | y :: xs, u :: us, .cons r t, f => fun u' hu => by
    rw [List.all_cons, Bool.and_eq_true] at f
    rcases List.mem_cons.mp hu with rfl | hu
    · rw [eqU_of r f.1]; exact eqAt_V r rx f.1 fx
    · exact mem_eqAt rx fx t f.2 u' hu
def inV (x : V) (xs : List V) : Bool := xs.any fun y => eqV y x
/-- x in a list or tuple of flat items -/
def rIn (K : PySem.W.Frag) (neg : Bool) : R2 := fun x y H Q => ∃ p xs, y = .ref p ∧ (SqL K H p xs ∨ SqT K H p xs) ∧ flatV x = true ∧ xs.all flatV = true ∧ Q (.bl (if neg then !inV x xs else inV x xs)) H
theorem op_in_seq : OpR X (compareOp .In) (rIn X.K false) := by
  intro pins s σ H x y v u Q I rx ry h
  obtain ⟨p, xs, rfl, hq, fx, fs, q⟩ := h
  cases ry
  rcases hq with hq | hq
  · obtain ⟨its, r, pl, hz⟩ := I.list hq
    refine SeqAt.in_listAt (eqU x) pl.isList (fun w hw => mem_eqAt rx fx r fs w (by simpa using hw)) ⟨.bl _, H, I, rfl, ?_⟩
    rw [show its.toArray.any (eqU x) = its.any (eqU x) by simp, any_eqU r fs]
    exact q
  · obtain ⟨its, r, pl, hz⟩ := I.tuple hq
    refine SeqAt.in_tupleAt (eqU x) pl (fun w hw => mem_eqAt rx fx r fs w (by simpa using hw)) ⟨.bl _, H, I, rfl, ?_⟩
    rw [show its.toArray.any (eqU x) = its.any (eqU x) by simp, any_eqU r fs]
    exact q
theorem op_notIn_seq : OpR X (compareOp .NotIn) (rIn X.K true) := by
  intro pins s σ H x y v u Q I rx ry h
  obtain ⟨p, xs, rfl, hq, fx, fs, q⟩ := h
  cases ry
  rcases hq with hq | hq
  · obtain ⟨its, r, pl, hz⟩ := I.list hq
    refine SeqAt.notIn_listAt (eqU x) pl.isList (fun w hw => mem_eqAt rx fx r fs w (by simpa using hw)) ⟨.bl _, H, I, rfl, ?_⟩
    rw [show its.toArray.any (eqU x) = its.any (eqU x) by simp, any_eqU r fs]
    exact q
  · obtain ⟨its, r, pl, hz⟩ := I.tuple hq
    refine SeqAt.notIn_tupleAt (eqU x) pl (fun w hw => mem_eqAt rx fx r fs w (by simpa using hw)) ⟨.bl _, H, I, rfl, ?_⟩
    rw [show its.toArray.any (eqU x) = its.any (eqU x) by simp, any_eqU r fs]
    exact q

/-! ### len, list(x), tuple(x) of any list or tuple that is read -/

/-! ### the call of a builtin's method: o.m(..) -/
/-- the value is of that builtin type -/
def tyV (K : PySem.W.Frag) (T : String) (x : V) (H : Hp) : Prop := match x with
  | .str _ => T = "str"
  | .int _ => T = "int"
  | .ref p => (T = "list" ∧ ∃ xs, SqL K H p xs) ∨ (T = "tuple" ∧ ∃ o, K.lookup p = some o ∧ o.cls = .type "tuple" ∧ o.dict = none) ∨
      (T = "dict" ∧ ((∃ kvs, H p = some (.dK kvs)) ∨ ∃ kvs, H p = some (.dT kvs))) ∨ (T = "set" ∧ ∃ S n, H p = some (.set S n))
  | _ => False
theorem tyV_is {pins : List (Addr × Obj)} {σ : St} {H : Hp} {s : Shared} {T : String} {x : V} {v : Value} (I : Inv X pins σ H s) (r : RelV x v) (ty : tyV X.K T x H) :
    s.TypeIs v T ∧ ∀ a, v = .ref a → ∃ ob, s.heap.get? a = some ob ∧ ob.dict = none := by
  cases x with
  | str z =>
    obtain ⟨t, rfl⟩ := r
    cases (show T = "str" from ty)
    exact ⟨typeIs_str s z t, fun _ e => nomatch e⟩
  | int i =>
    obtain ⟨t, rfl⟩ := r
    cases (show T = "int" from ty)
    exact ⟨typeIs_int s i t, fun _ e => nomatch e⟩
  | ref p =>
    cases r
    rcases ty with ⟨rfl, xs, hq⟩ | ⟨rfl, o, hk, hc, hd⟩ | ⟨rfl, hk⟩ | ⟨rfl, S, n, hk⟩
    · obtain ⟨its, _, pl, _⟩ := I.list hq
      refine ⟨pl.isList.typeIs, fun a e => ?_⟩
      cases e
      obtain ⟨o, n, e, c, hd, _⟩ := pl
      exact ⟨o, e, hd⟩
    · refine ⟨⟨o, I.kIn p o hk, hc⟩, fun a e => ?_⟩
      cases e
      exact ⟨o, I.kIn _ o hk, hd⟩
    · have z : ∃ o, s.heap.get? p = some o ∧ o.ExactDict := by
        rcases hk with ⟨kvs, hk⟩ | ⟨kvs, hk⟩
        · obtain ⟨_, _, _, _, o, _, _, e, ex, _⟩ := I.hok p _ hk
          exact ⟨o, e, ex⟩
        · obtain ⟨_, _, _, _, o, _, _, e, ex, _⟩ := I.hok p _ hk
          exact ⟨o, e, ex⟩
      obtain ⟨o, e, ex⟩ := z
      refine ⟨⟨o, e, ex.1⟩, fun a e2 => ?_⟩
      cases e2
      exact ⟨o, e, ex.2.1⟩
    · obtain ⟨o, _, _, _, e, ex, _⟩ := I.hok p _ hk
      refine ⟨⟨o, e, ex.1⟩, fun a e2 => ?_⟩
      cases e2
      exact ⟨o, e, ex.2.1⟩
  | _ => exact False.elim ty
def tBM (K : PySem.W.Frag) (T : String) (r : V → List V → Hp → VK → Prop) (to : TE) (t : TA) : TE := fun σ H Q => to σ H fun x H1 => tyV K T x H1 ∧ t σ H1 fun xs H2 => r x xs H2 Q
variable {o e : Expr} {es : List Expr} {to : TE} {t : TA} {name : Str} {apos cpos : Pos} {T id : String} {r : V → List V → Hp → VK → Prop}
theorem pe_bm (pa : PlainAttrs T) (slot : Slot T name id) (hty : typeOf (.builtin id) = pure (.type "method_descriptor")) (hm : MtR X id r) (ho : PE X o to) (ha : PA X (e :: es) t)
    (hbase : attributeBase o name X.env (eval o X.env) = eval o X.env := by rfl)
    (hfew : ((backTo cpos (starEach (e :: es) X.env)).all (fun x => !x.1) && (backToKw cpos (keywordEach [] X.env)).all (fun x => x.1.isSome)
      && decide ((e :: es).length + ([] : List Keyword).length + (if ([] : List Keyword).isEmpty then 0 else 1) < 30)) = true := by rfl)
    (hline : (apos.endLine == cpos.line) = true := by rfl) (hs : starEach (e :: es) X.env = (false, eval e X.env) :: starEach es X.env := by rfl) (hplain : (backTo cpos (starEach es X.env)).any (·.1) = false := by rfl) :
    PE X (.Call (.Attribute o name apos) (e :: es) [] cpos) (tBM X.K T r to t) := by
  intro pins s σ H Q I h
  refine wpAny_Call_method_late hbase hfew hline rfl (thn (ho pins s σ H _ I h) fun v s1 ⟨x, H1, I1, r1, ty, q1⟩ => ?_)
  obtain ⟨h1, h2⟩ := tyV_is I1 r1 ty
  refine ⟨T, id, pa, slot, hty, h1, h2, ?_⟩
  have hA := ha cpos pins s1 σ H1 _ I1 q1
  rw [hs] at hA ⊢
  refine Calls.callWith_builtin (by show (false || (backTo cpos (starEach es X.env)).any (·.1)) = false; rw [hplain] <;> rfl) (Calls.evalArgs_plain ?_)
  exact thn hA fun us s2 ⟨vs, H2, I2, r2, q2⟩ => hm pins s2 σ H2 x vs v us Q I2 r1 r2 q2
/- xs.append(e), list.index on a module's tuple .. are MtR facts of 06m -/
end
end L2

namespace L2
open PySem PySem.Spec PyProof.Rows

def MtM (X : Cx) (id : String) (r : V → List V → Hp → VK → Prop) : Prop :=
  ∀ (pins : List (Addr × Obj)) (s : Shared) (σ : St) (H : Hp) (x : V) (xs : List V) (v : Value) (us : List Value) (Q : VK), Inv X pins σ H s → RelV x v → Vals xs us → r x xs H Q →
    wpAny (model X.prog X.w) X.A (call (.builtin id) (v :: us)) (EP X pins σ Q) X.xe s

/-! ### lists of values -/
theorem Vals.one : ∀ {x : V} {us : List Value}, Vals [x] us → ∃ u, us = [u] ∧ RelV x u
  | _, _, .cons r .nil => ⟨_, rfl, r⟩

section
variable {X : Cx} {pins : List (Addr × Obj)} {σ : St} {H : Hp} {s : Shared} {l b : Addr} {xs ys zs : List V}

/-! ### the two steps: a tracked list is rewritten, a new list is laid -/
theorem Inv.lset {its its' : List Value} {n : Nat} {f : Array Value → Array Value} {t' : Nat} (I : Inv X pins σ H s) (hH : H l = some (.lst xs))
    (e : s.heap.get? l = some { cls := .type "list", data := .seq its.toArray n }) (hf : f its.toArray = its'.toArray) (hv : Vals ys its') (hz : ys.length ≤ sizeLine) :
    Inv X pins σ (upd H l (.lst ys)) { s with heap := s.heap.update l (Obj.mapSeq f), toks := t' } := by
  have q := PySem.IsL.update e f
  rw [hf] at q
  refine I.write (x := l) (e := l) (by rw [hH]; exact trivial) (.inl rfl) (fun b' u hb hu => (Heap.get?_update_other s.heap (Obj.mapSeq f) (Ne.symm hb)).trans hu) ⟨_, q⟩ ?_
  exact ⟨hz, its', _, hv, q⟩
theorem Inv.lnew {its : List Value} {t' : Nat} (I : Inv X pins σ H s) (hv : Vals ys its) (hz : ys.length ≤ sizeLine) :
    Inv X pins σ (upd H s.heap.objs.size (.lst ys)) { s with heap := s.heap.push { cls := .type "list", data := .seq its.toArray }, toks := t' } :=
  I.laid (fun _ _ q => Heap.get?_push_of_some _ q) (Nat.le_refl _) ⟨hz, its, 0, hv, Heap.get?_push_size _ rfl⟩
theorem Inv.fresh (I : Inv X pins σ H s) : H s.heap.objs.size = none := I.hok.fresh (Nat.le_refl _)
theorem Inv.lstM (I : Inv X pins σ H s) (hH : H l = some (.lst xs)) : xs.length ≤ sizeLine ∧ ∃ (its : List Value) (n : Nat), Vals xs its ∧ xs.length = its.length ∧ s.heap.get? l = some { cls := .type "list", data := .seq its.toArray n } := by
  obtain ⟨z, its, n, r, e⟩ := I.hok l _ hH
  exact ⟨z, its, n, r, r.length, e⟩

theorem notLongL {n : Nat} (h : n ≤ sizeLine) : Builtin.List.listTooLong n = false := by
  unfold Builtin.List.listTooLong
  exact decide_eq_false (by omega)
end

section
variable {X : Cx}

/-! ### methods -/
def rAppend : V → List V → Hp → VK → Prop := fun x vs H Q => ∃ l xs y, x = .ref l ∧ vs = [y] ∧ H l = some (.lst xs) ∧ xs.length < sizeLine ∧ Q .non (upd H l (.lst (xs ++ [y])))
theorem mt_append : MtM X "list.append" rAppend := by
  intro pins s σ H x vs v us Q I rx rv h
  obtain ⟨l, xs, y, rfl, rfl, hH, hz, q⟩ := h
  cases rx
  obtain ⟨u, rfl, ru⟩ := rv.one
  obtain ⟨z, its, n, r, hl, e⟩ := I.lstM hH
  refine call_meets F.slot_list_append ⟨_, e, rfl⟩ F.entry_list_append (F.args_list_append_2 _ _) (PySem.list_append l its.toArray n u (by rw [List.size_toArray]; omega)) ⟨e, ?_⟩
  refine ⟨.non, _, I.lset (its' := its ++ [u]) hH e (by simp) (r.append (.cons ru .nil)) ?_, rfl, q⟩
  rw [List.length_append, List.length_singleton]
  omega

def rExtend : V → List V → Hp → VK → Prop := fun x vs H Q => ∃ l b xs zs, x = .ref l ∧ vs = [.ref b] ∧ H l = some (.lst xs) ∧ H b = some (.lst zs) ∧ xs.length + zs.length ≤ sizeLine ∧ Q .non (upd H l (.lst (xs ++ zs)))
theorem mt_extend : MtM X "list.extend" rExtend := by
  intro pins s σ H x vs v us Q I rx rv h
  obtain ⟨l, b, xs, zs, rfl, rfl, hH, hB, hz, q⟩ := h
  cases rx
  obtain ⟨u, rfl, ru⟩ := rv.one
  cases ru
  obtain ⟨z, its, n, r, hl, e⟩ := I.lstM hH
  obtain ⟨z2, its2, n2, r2, hl2, e2⟩ := I.lstM hB
  have hsz : its.toArray.size + its2.toArray.size ≤ sizeLine := by rw [List.size_toArray, List.size_toArray]; omega
  have hlong : ¬ (!its.toArray.isEmpty && Builtin.List.listTooLong (its.toArray.size + its2.toArray.size)) = true := by
    rw [notLongL hsz, Bool.and_false]
    exact Bool.false_ne_true
  refine call_meets F.slot_list_extend ⟨_, e, rfl⟩ F.entry_list_extend (F.args_list_extend_2 _ _)
    (AutoSeq1.list_extend_list_list_0 l its.toArray n b its2.toArray n2 hlong (by rw [List.size_toArray]; omega) (by omega)) ⟨e, e2, ?_⟩
  refine ⟨.non, _, I.lset (its' := its ++ its2) hH e (by simp) (r.append r2) ?_, rfl, q⟩
  rw [List.length_append]
  omega





/-! ### list + list, list += list, list * int -/
def rCat : R2 := fun x y H Q => ∃ l b xs zs, x = .ref l ∧ y = .ref b ∧ H l = some (.lst xs) ∧ H b = some (.lst zs) ∧ xs.length + zs.length ≤ sizeLine ∧ ∀ p, H p = none → Q (.ref p) (upd H p (.lst (xs ++ zs)))
theorem op_cat : OpR X (binaryOp .Add) rCat := by
  intro pins s σ H x y v u Q I rx ry h
  obtain ⟨l, b, xs, zs, rfl, rfl, hH, hB, hz, q⟩ := h
  cases rx
  cases ry
  obtain ⟨z, its, n, r, hl, e⟩ := I.lstM hH
  obtain ⟨z2, its2, n2, r2, hl2, e2⟩ := I.lstM hB
  refine PySem.P.add_list e e2 ?_ (by rw [List.size_toArray, List.size_toArray]; omega)
  have ea : its.toArray ++ its2.toArray = (its ++ its2).toArray := by simp
  rw [ea]
  exact ⟨.ref _, _, I.lnew (t' := s.toks) (r.append r2) (by rw [List.length_append]; omega), rfl, q _ I.fresh⟩

/-! ### del xs[i] -/
end

/-! ### xs[a:b] = ys -/
section
variable {prog : Program} {w : World} {A : Around} {E : Value → Shared → Prop} {s : Shared}
set_option maxRecDepth 100000 in
end

section
variable {X : Cx}
end
end L2

namespace L2
open PySem PySem.Spec PyProof.Rows

theorem Vals.ints : ∀ {ns : List Int} {us : List Value}, Vals (ns.map V.int) us → IntsAre us ns
  | [], us, h => by
    rw [List.map_nil] at h
    cases h
    exact IntsAre.nil
  | n :: ns, us, h => by
    rw [List.map_cons] at h
    cases h with
    | cons r t =>
      obtain ⟨k, rfl⟩ := r
      exact IntsAre.cons n k (Vals.ints t)
theorem Vals.ref1 {a : Addr} {us : List Value} (r : Vals [V.ref a] us) : us = [Value.ref a] := by
  cases r with
  | cons r t =>
    cases t
    cases r
    rfl
theorem Vals.int2 {i j : Int} {us : List Value} (r : Vals [V.int i, V.int j] us) : ∃ t u, us = [Value.int i t, Value.int j u] := by
  cases r with
  | cons r t =>
    cases t with
    | cons r2 t2 =>
      cases t2
      obtain ⟨t, rfl⟩ := r
      obtain ⟨u, rfl⟩ := r2
      exact ⟨t, u, rfl⟩

/-! ### the library's walks over a list of ints, kept objects alone -/
section
variable {prog : Program} {w : World} {A : Around} {E : Value → Shared → Prop} {s : Shared} {l : Addr} {its : List Value} {ns : List Int} {Q : Value → Shared → Prop}
theorem sum_raw (hh : A.handled = none) (hl : s.heap.IsList l its.toArray) (hi : IntsAre its ns)
    (h : ∀ h' tk t', (∀ b o, s.heap.get? b = some o → h'.get? b = some o) → Q (.int ns.sum t') { s with heap := h', toks := tk }) : wpAny (model prog w) A (call (.builtin "sum") [.ref l]) Q E s := by
  obtain ⟨xs, e⟩ := hi.allInts.items
  have hn : numsOf (intItems xs).toList = ns := by rw [← e]; exact hi.numsOf
  rw [nums_intItems] at hn
  rw [e] at hl
  refine PySem.sum_intListG hh hl fun h' tk t' hk => ?_
  have := h h' tk t' hk
  rw [preSum_eq, List.take_of_length_le (by simp), hn]; exact this
theorem min_raw (hh : A.handled = none) (hl : s.heap.IsList l its.toArray) (hi : IntsAre its ns) (hne : 0 < ns.length)
    (h : ∀ h' tk M t', (∀ b o, s.heap.get? b = some o → h'.get? b = some o) → M ∈ ns → (∀ a, a ∈ ns → M ≤ a) → Q (.int M t') { s with heap := h', toks := tk }) : wpAny (model prog w) A (call (.builtin "min") [.ref l]) Q E s := by
  obtain ⟨xs, e⟩ := hi.allInts.items
  have hn : numsOf (intItems xs).toList = ns := by rw [← e]; exact hi.numsOf
  rw [nums_intItems] at hn
  subst hn
  rw [e] at hl
  have hsz : 0 < xs.size := by simpa using hne
  refine PySem.min_intList hh hl hsz fun v h' tk hv hk => ?_
  obtain ⟨t, rfl⟩ := intItems_at hv
  obtain ⟨h1, h2⟩ := argBest_lt (numAt xs) (xs.size - 1)
  refine h h' tk _ t hk ?_ fun a ha => ?_
  · rw [numAt_eq]; exact PySem.getD_mem (by rw [List.length_map, Array.length_toList]; omega)
  · obtain ⟨j, hj, rfl⟩ := mem_getD ha
    rw [List.length_map, Array.length_toList] at hj
    rw [← numAt_eq]; exact h2 j (by omega)
end

/-! ### the calls, by values (CallR of 03t; MtR of 06l) -/
section
variable {X : Cx}
/-- sum(xs) of a list of ints -/
def rSum (K : PySem.W.Frag) : List V → Hp → VK → Prop := fun vs H Q => ∃ (a : Addr) (ns : List Int), vs = [V.ref a] ∧ SqL K H a (ns.map V.int) ∧ Q (.int ns.sum) H
def rMin (K : PySem.W.Frag) : List V → Hp → VK → Prop := fun vs H Q => ∃ (a : Addr) (ns : List Int), vs = [V.ref a] ∧ SqL K H a (ns.map V.int) ∧ 0 < ns.length ∧ ∀ m, m ∈ ns → (∀ y, y ∈ ns → m ≤ y) → Q (.int m) H
theorem cr_sum (hc : X.calm = true) : CallR X (.builtin "sum") (rSum X.K) := by
  intro pins s σ H vs us Q I r h
  obtain ⟨a, ns, rfl, hs, q⟩ := h
  obtain ⟨its, rv, hl, _⟩ := I.list hs
  rw [Vals.ref1 r]
  exact sum_raw (I.ok.hd hc) hl.isList rv.ints fun h' tk t' hk => ⟨.int _, H, I.kept hk, ⟨_, rfl⟩, q⟩
theorem cr_min (hc : X.calm = true) : CallR X (.builtin "min") (rMin X.K) := by
  intro pins s σ H vs us Q I r h
  obtain ⟨a, ns, rfl, hs, hne, q⟩ := h
  obtain ⟨its, rv, hl, _⟩ := I.list hs
  rw [Vals.ref1 r]
  exact min_raw (I.ok.hd hc) hl.isList rv.ints hne fun h' tk m t' hk h1 h2 => ⟨.int _, H, I.kept hk, ⟨_, rfl⟩, q m h1 h2⟩

/-! sorted, sort (fewer than 64 items: the library's own bound) -/
end

/-! ### list.index, flat items -/
section
variable {X : Cx}
end

/-! ### type(x) of an own instance; is, is not of a module's class -/
section
variable {X : Cx}
end

/-! ### any(xs), all(xs) of a list of bools -/
section
variable {X : Cx}
end

/-! ### == and != of data at any depth: none, bools, ints, texts, lists, tuples -/
mutual
inductive Dp (K : PySem.W.Frag) (H : Hp) : V → PyData → Prop
  | non : Dp K H .non .none
  | bl (b : Bool) : Dp K H (.bl b) (.bool b)
  | int (i : Int) : Dp K H (.int i) (.int i)
  | str (x : Str) : Dp K H (.str x) (.str x)
  | lst {a : Addr} {xs : List V} {ds : List PyData} : SqL K H a xs → DpAll K H xs ds → Dp K H (.ref a) (.list ds)
  | tup {a : Addr} {xs : List V} {ds : List PyData} : SqT K H a xs → DpAll K H xs ds → Dp K H (.ref a) (.tuple ds)
inductive DpAll (K : PySem.W.Frag) (H : Hp) : List V → List PyData → Prop
  | nil : DpAll K H [] []
  | cons {v : V} {vs : List V} {d : PyData} {ds : List PyData} : Dp K H v d → DpAll K H vs ds → DpAll K H (v :: vs) (d :: ds)
end
section
variable {X : Cx} {pins : List (Addr × Obj)} {σ : St} {H : Hp} {s : Shared}
mutual
theorem Dp.reads (I : Inv X pins σ H s) : ∀ (d : PyData) (v : V) (u : Value), Dp X.K H v d → RelV v u → ∃ as, Reads s.heap u d as
  | .none, _, _, h, r => by
    cases h
    cases r
    exact ⟨_, Reads.none⟩
  | .bool b, _, _, h, r => by
    cases h
    cases r
    exact ⟨_, Reads.bool b⟩
  | .int i, _, _, h, r => by
    cases h
    obtain ⟨t, rfl⟩ := r
    exact ⟨_, Reads.int i t⟩
  | .str x, _, _, h, r => by
    cases h
    obtain ⟨t, rfl⟩ := r
    exact ⟨_, Reads.str x t⟩
  | .list ds, _, _, h, r => by
    cases h with
    | lst hs ha =>
      cases r
      obtain ⟨its, rv, ⟨o, n, ho, hc, _, hd⟩, _⟩ := I.list hs
      obtain ⟨as, hr⟩ := Dp.readsAll I ds _ its ha rv
      exact ⟨_, Reads.list ho hc hd hr⟩
  | .tuple ds, _, _, h, r => by
    cases h with
    | tup hs ha =>
      cases r
      obtain ⟨its, rv, ⟨o, ho, hc, n, hd⟩, _⟩ := I.tuple hs
      obtain ⟨as, hr⟩ := Dp.readsAll I ds _ its ha rv
      exact ⟨_, Reads.tuple ho hc hd hr⟩
  | .dict _, _, _, h, _ => by cases h
theorem Dp.readsAll (I : Inv X pins σ H s) : ∀ (ds : List PyData) (vs : List V) (us : List Value), DpAll X.K H vs ds → Vals vs us → ∃ as, ReadsAll s.heap us ds as
  | [], _, _, h, r => by
    cases h
    cases r
    exact ⟨_, ReadsAll.nil⟩
  | d :: ds, _, _, h, r => by
    cases h with
    | cons h1 h2 =>
      cases r with
      | cons r1 r2 =>
        obtain ⟨as, q1⟩ := Dp.reads I d _ _ h1 r1
        obtain ⟨bs, q2⟩ := Dp.readsAll I ds _ _ h2 r2
        exact ⟨_, ReadsAll.cons q1 q2⟩
end
end
section
variable {X : Cx}
end
end L2

namespace L2
open PySem PySem.Spec PyProof.Rows
abbrev CellAt (h : Heap) (c : Addr) (v : Option Value) : Prop := h.IsCell c v
def relS (scope sc : Scope) : Scope :=
  { scope with names := scope.names.map fun (n, k) => if (k == .free && sc.kind == .function && sc.names.lookup n == some .cell) then (n, .cell) else (n, k) }

def cloFrom (cells : List (Str × Addr)) : List (Str × NameKind) → List (Str × Addr) → List (Str × Addr)
  | [], acc => acc
  | (n, k) :: r, acc => if k == .free then cloFrom cells r ((n, (cells.lookup n).getD 0) :: acc) else cloFrom cells r acc

theorem closure_loop (env : Env) (f : Str × NameKind → List (Str × Addr) → Sem (ForInStep (List (Str × Addr))))
    (hf : ∀ n k c, f (n, k) c = if k == .free then (do let a ← cellOf env n; pure (.yield ((n, a) :: c))) else pure (.yield c)) :
    ∀ (names : List (Str × NameKind)) (acc : List (Str × Addr)), (∀ y ∈ names, y.2 = .free → ∃ c, env.cells.lookup y.1 = some c) → forIn names acc f = pure (cloFrom env.cells names acc)
  | [], acc, _ => by rw [List.forIn_nil]; rfl
  | (n, k) :: r, acc, h => by
    rw [List.forIn_cons, hf]
    have ih := fun acc => closure_loop env f hf r acc fun y hy => h y (List.mem_cons_of_mem _ hy)
    unfold cloFrom
    by_cases hk : (k == NameKind.free) = true
    · rw [if_pos hk, if_pos hk]
      obtain ⟨c, hc⟩ := h (n, k) List.mem_cons_self (by simpa using hk)
      have e : cellOf env n = pure c := by unfold cellOf; rw [hc]
      rw [e]
      have e2 : (env.cells.lookup n).getD 0 = c := by rw [hc]; rfl
      rw [e2]
      exact ih _
    · rw [if_neg hk, if_neg hk]
      exact ih _
theorem closure_ok {scope : Scope} {env : Env} (h : ∀ y ∈ scope.names, y.2 = .free → ∃ c, env.cells.lookup y.1 = some c) : closureFor scope env = pure (cloFrom env.cells scope.names []) := by
  simp only [closureFor]
  rw [closure_loop env _ (fun n k c => rfl) scope.names [] h]
  rfl

theorem mem_lookup {α : Type} : ∀ {l : List (Str × α)} {n : Str} {c : α}, (n, c) ∈ l → ∃ c', l.lookup n = some c'
  | (k, v) :: r, n, c, h => by
    rw [List.lookup_cons]
    cases hb : n == k with
    | true => exact ⟨_, rfl⟩
    | false =>
      rcases List.mem_cons.mp h with e | h
      · cases e; simp at hb
      · exact mem_lookup h

theorem cloFrom_mem {cells : List (Str × Addr)} : ∀ {names : List (Str × NameKind)} {acc : List (Str × Addr)} {n : Str} {c : Addr}, (n, c) ∈ cloFrom cells names acc → (n, c) ∈ acc ∨ ((n, .free) ∈ names ∧ c = (cells.lookup n).getD 0)
  | [], _, _, _, h => .inl h
  | (m, k) :: r, acc, n, c, h => by
    unfold cloFrom at h
    split at h
    · rename_i hk
      have hk : k = .free := by simpa using hk
      rcases cloFrom_mem h with h | ⟨h1, h2⟩
      · rcases List.mem_cons.mp h with e | h
        · cases e; exact .inr ⟨hk ▸ List.mem_cons_self, rfl⟩
        · exact .inl h
      · exact .inr ⟨List.mem_cons_of_mem _ h1, h2⟩
    · rcases cloFrom_mem h with h | ⟨h1, h2⟩
      · exact .inl h
      · exact .inr ⟨List.mem_cons_of_mem _ h1, h2⟩
theorem cloFrom_acc {cells : List (Str × Addr)} : ∀ {names : List (Str × NameKind)} {acc : List (Str × Addr)} {p : Str × Addr}, p ∈ acc → p ∈ cloFrom cells names acc
  | [], _, _, h => h
  | (m, k) :: r, acc, p, h => by
    unfold cloFrom
    split
    · exact cloFrom_acc (List.mem_cons_of_mem _ h)
    · exact cloFrom_acc h
theorem cloFrom_has {cells : List (Str × Addr)} : ∀ {names : List (Str × NameKind)} {acc : List (Str × Addr)} {n : Str}, (n, .free) ∈ names → (n, (cells.lookup n).getD 0) ∈ cloFrom cells names acc
  | (m, k) :: r, acc, n, h => by
    unfold cloFrom
    rcases List.mem_cons.mp h with e | h
    · cases e
      exact cloFrom_acc List.mem_cons_self
    · split
      · exact cloFrom_has h
      · exact cloFrom_has h

theorem cells_mem : ∀ {names : List (Str × NameKind)} {h : Heap} {acc : List (Str × Addr)} {x : Str} {c : Addr}, (x, c) ∈ cellsFrom h.objs.size names acc →
    (x, c) ∈ acc ∨ ((x, .cell) ∈ names ∧ h.objs.size ≤ c ∧ CellAt (pushCells h names) c none)
  | [], _, _, _, _, h => .inl h
  | (n, k) :: r, h, acc, x, c, hm => by
    unfold cellsFrom at hm
    unfold pushCells
    split at hm
    · rename_i hk
      rw [if_pos hk]
      have hk : k = .cell := by simpa using hk
      rw [← Heap.size_push h { cls := .type "cell", data := .cell none }] at hm
      rcases cells_mem hm with hm | ⟨h1, h2, h3⟩
      · rcases List.mem_cons.mp hm with e | hm
        · cases e
          exact .inr ⟨hk ▸ List.mem_cons_self, Nat.le_refl _, _, pushCells_keeps r _ _ _ (Heap.get?_push_size _ rfl), rfl⟩
        · exact .inl hm
      · rw [Heap.size_push] at h2
        exact .inr ⟨List.mem_cons_of_mem _ h1, Nat.le_of_succ_le h2, h3⟩
    · rename_i hk
      rw [if_neg hk]
      rcases cells_mem hm with hm | ⟨h1, h2, h3⟩
      · exact .inl hm
      · exact .inr ⟨List.mem_cons_of_mem _ h1, h2, h3⟩
theorem cells_acc : ∀ {names : List (Str × NameKind)} {n : Nat} {acc : List (Str × Addr)} {p : Str × Addr}, p ∈ acc → p ∈ cellsFrom n names acc
  | [], _, _, _, h => h
  | (m, k) :: r, n, acc, p, h => by
    unfold cellsFrom
    split
    · exact cells_acc (List.mem_cons_of_mem _ h)
    · exact cells_acc h
theorem cells_has : ∀ {names : List (Str × NameKind)} {n : Nat} {acc : List (Str × Addr)} {x : Str}, (x, .cell) ∈ names → ∃ c, (x, c) ∈ cellsFrom n names acc
  | (m, k) :: r, n, acc, x, h => by
    unfold cellsFrom
    rcases List.mem_cons.mp h with e | h
    · cases e
      exact ⟨n, cells_acc List.mem_cons_self⟩
    · split
      · exact cells_has h
      · exact cells_has h
theorem cells_inj : ∀ {names : List (Str × NameKind)} {h : Heap} {acc : List (Str × Addr)} {x y : Str} {c : Addr}, (∀ p ∈ acc, p.2 < h.objs.size) → (∀ x y c, (x, c) ∈ acc → (y, c) ∈ acc → x = y) →
    (x, c) ∈ cellsFrom h.objs.size names acc → (y, c) ∈ cellsFrom h.objs.size names acc → x = y
  | [], _, _, _, _, _, _, hi, h1, h2 => hi _ _ _ h1 h2
  | (n, k) :: r, h, acc, x, y, c, hl, hi, h1, h2 => by
    unfold cellsFrom at h1 h2
    split at h1
    · rename_i hk
      rw [if_pos hk] at h2
      rw [← Heap.size_push h { cls := .type "cell", data := .cell none }] at h1 h2
      refine cells_inj (h := h.push _) (fun p hp => ?_) (fun x y c a b => ?_) h1 h2
      · rw [Heap.size_push]
        rcases List.mem_cons.mp hp with rfl | hp
        · exact Nat.lt_succ_self _
        · exact Nat.lt_succ_of_lt (hl p hp)
      · rcases List.mem_cons.mp a with e | a <;> rcases List.mem_cons.mp b with e' | b
        · cases e; cases e'; rfl
        · cases e; exact absurd (hl _ b) (Nat.lt_irrefl _)
        · cases e'; exact absurd (hl _ a) (Nat.lt_irrefl _)
        · exact hi _ _ _ a b
    · rename_i hk
      rw [if_neg hk] at h2
      exact cells_inj hl hi h1 h2

theorem newEnv_comp {M : Model} {A : Around} {E : Value → Shared → Prop} {s : Shared} {scope : Scope} {globals : Addr} {closure : List (Str × Addr)} {qual : Str} {func : Option Addr} {code : Value} {around : Env} {builtins : Addr} {Q : Env → Shared → Prop}
    (h : Q (newEnv scope s.heap.objs.size globals (cellsFrom (s.heap.objs.size + 1) scope.names closure) qual func code (some around) builtins)
      { s with heap := pushCells (s.heap.push { cls := .type "dict", data := .dict #[] }) scope.names }) :
    wpAny M A (newFunctionEnv scope globals closure [] qual func code (some around) builtins) Q E s := by
  simp only [newFunctionEnv, Option.isSome_some, if_true]
  refine wpAny_bind (wpAny_alloc ?_)
  refine wpAny_bind (wpAny_layCells _ (fun n k c => rfl) scope.names closure _ _ ?_)
  rw [show ({ s with heap := s.heap.push { cls := .type "dict", data := .dict #[] } } : Shared).heap.objs.size = s.heap.objs.size + 1 from Heap.size_push ..]
  rw [List.forIn_nil]
  exact wpAny_bind (wpAny_pure (wpAny_pure h))

/-- every name of the written scope, in the scope that runs -/
theorem lookup_relS {sc : Scope} : ∀ {names : List (Str × NameKind)} {x : Str} {k : NameKind},
    (names.map fun (n, k) => if (k == NameKind.free && sc.kind == .function && sc.names.lookup n == some .cell) then (n, NameKind.cell) else (n, k)).lookup x = some k →
    ∃ k', names.lookup x = some k' ∧ (k = k' ∨ (k' = .free ∧ k = .cell))
  | [], _, _, h => by simp at h
  | (n, k₀) :: r, x, k, h => by
    have ih := @lookup_relS sc r x k
    have h' : List.lookup x ((if (k₀ == NameKind.free && sc.kind == .function && sc.names.lookup n == some .cell) = true then (n, NameKind.cell) else (n, k₀)) :: (r.map _)) = some k := h
    cases hx : x == n with
    | true =>
      simp only [List.lookup_cons, hx]
      by_cases hc : (k₀ == NameKind.free && sc.kind == .function && sc.names.lookup n == some .cell) = true
      · rw [if_pos hc] at h'
        simp only [List.lookup_cons, hx] at h'
        cases h'
        simp only [Bool.and_eq_true, beq_iff_eq] at hc
        exact ⟨k₀, rfl, .inr ⟨hc.1.1, rfl⟩⟩
      · rw [if_neg hc] at h'
        simp only [List.lookup_cons, hx] at h'
        cases h'
        exact ⟨_, rfl, .inl rfl⟩
    | false =>
      simp only [List.lookup_cons, hx]
      by_cases hc : (k₀ == NameKind.free && sc.kind == .function && sc.names.lookup n == some .cell) = true
      · rw [if_pos hc] at h'
        simp only [List.lookup_cons, hx] at h'
        exact ih h'
      · rw [if_neg hc] at h'
        simp only [List.lookup_cons, hx] at h'
        exact ih h'



/-- the names of a comprehension's block: its own (with their places in N), or captured -/
structure BlkOk (N : List Str) (sc scope : Scope) (own : List (Str × Nat)) : Prop where
  kind : scope.kind = .function
  uniq : ∀ y ∈ scope.names, scope.names.lookup y.1 = some y.2
  ix : ∀ p ∈ own, N[p.2]? = some p.1
  free : ∀ y ∈ scope.names, y.2 = .free → sc.names.lookup y.1 = some .cell ∨ sc.names.lookup y.1 = some .free
  own : ∀ y ∈ scope.names, y.2 = .local ∨ y.2 = .cell → y.1 ∈ own.map (·.1) ∨ y.1 ∉ N
/-- the slots of the block's own names forgotten -/
def wipe (σ : St) : List Nat → St
  | [] => σ
  | v :: vs => (wipe σ vs).set v none
theorem wipe_length (σ : St) : ∀ vs : List Nat, (wipe σ vs).length = σ.length
  | [] => rfl
  | v :: vs => by unfold wipe; rw [List.length_set, wipe_length σ vs]
theorem wipe_some {σ : St} {i : Nat} {x : V} : ∀ {vs : List Nat}, (wipe σ vs)[i]? = some (some x) → σ[i]? = some (some x) ∧ i ∉ vs
  | [], h => ⟨h, by simp⟩
  | v :: vs, h => by
    unfold wipe at h
    by_cases hi : v = i
    · subst hi
      by_cases hv : v < (wipe σ vs).length
      · rw [List.getElem?_set_self hv] at h; cases h
      · rw [List.getElem?_eq_none (by simpa using hv)] at h; cases h
    · rw [List.getElem?_set_ne hi] at h
      obtain ⟨h1, h2⟩ := wipe_some h
      exact ⟨h1, by simp only [List.mem_cons, not_or]; exact ⟨fun e => hi e.symm, h2⟩⟩

/-- the context of a block that starts at s, its iterator's objects at fp -/
abbrev Cx.blk (X : Cx) (s : Shared) (H : Hp) (scope : Scope) (cenv : Env) (fp : List Addr) : Cx := { X with s_0 := s, H_0 := H, env := cenv, outer := X.stack, ex := fp, fn := fun x => scope.names.lookup x == some .cell, pn := [], xe := fun _ _ => False }
section
variable {X : Cx} {pins : List (Addr × Obj)} {σ : St} {H : Hp} {s : Shared}
theorem block_start {scope : Scope} {own : List (Str × Nat)} {fp : List Addr} (I : Inv X pins σ H s) (ok : BlkOk X.N X.env.scope scope own) (hN : X.N.Nodup) (hfp : ∀ b ∈ fp, FpOk X pins H b ∧ b < s.heap.objs.size) :
    Inv (X.blk s H scope (compEnvC scope (cellsFrom (s.heap.objs.size + 1) scope.names (cloFrom X.env.cells scope.names [])) s.heap.objs.size X.env) fp) [] (wipe σ (own.map (·.2))) H { s with heap := pushCells (s.heap.push { cls := .type "dict", data := .dict #[] }) scope.names } := by
  have hfree : ∀ y ∈ scope.names, y.2 = .free → ∃ c, X.env.cells.lookup y.1 = some c := fun y hy e => by
    rcases ok.free y hy e with k | k
    · exact I.ok.has _ (.inl k)
    · exact I.ok.has _ (.inr k)
  generalize hcenv : compEnvC scope (cellsFrom (s.heap.objs.size + 1) scope.names (cloFrom X.env.cells scope.names [])) s.heap.objs.size X.env = cenv
  have kp : ∀ b o, s.heap.get? b = some o → (pushCells (s.heap.push { cls := .type "dict", data := .dict #[] }) scope.names).get? b = some o := fun b o e => pushCells_keeps _ _ _ _ (Heap.get?_push_of_some _ e)
  have hL : cenv.locals = s.heap.objs.size := by rw [← hcenv]; rfl
  have hcl : cenv.cells = cellsFrom (s.heap.objs.size + 1) scope.names (cloFrom X.env.cells scope.names []) := by rw [← hcenv]; rfl
  have hsc : cenv.scope = relS scope X.env.scope := by rw [← hcenv]; rfl
  rw [← Heap.size_push s.heap { cls := .type "dict", data := .dict #[] }] at hcl
  have cm : ∀ {y c}, (y, c) ∈ cloFrom X.env.cells scope.names [] → X.env.cells.lookup y = some c ∧ c < s.heap.objs.size := fun {y c} hm => by
    rcases cloFrom_mem hm with hm | ⟨h1, rfl⟩
    · cases hm
    · obtain ⟨c, hc⟩ := hfree _ h1 rfl
      rw [hc]
      obtain ⟨w, z⟩ := I.cell _ _ hc
      exact ⟨rfl, z.lt⟩
  have mem : ∀ {y c}, cenv.cells.lookup y = some c → (X.env.cells.lookup y = some c ∧ c < s.heap.objs.size) ∨ (s.heap.objs.size + 1 ≤ c ∧ CellAt (pushCells (s.heap.push { cls := .type "dict", data := .dict #[] }) scope.names) c none) := fun {y c} e => by
    rw [hcl] at e
    rcases cells_mem (PySem.mem_of_lookup e) with hm | ⟨_, h2, h3⟩
    · exact .inl (cm hm)
    · rw [Heap.size_push] at h2; exact .inr ⟨h2, h3⟩
  have look : ∀ {y}, scope.names.lookup y = some .free → ∃ c, cenv.cells.lookup y = some c ∧ X.env.cells.lookup y = some c := fun {y} hl => by
    have hy : (y, NameKind.free) ∈ scope.names := PySem.mem_of_lookup hl
    obtain ⟨c', e'⟩ := mem_lookup (cells_acc (names := scope.names) (n := (s.heap.push { cls := .type "dict", data := .dict #[] }).objs.size) (cloFrom_has (cells := X.env.cells) (acc := []) hy))
    rw [← hcl] at e'
    refine ⟨c', e', ?_⟩
    rw [hcl] at e'
    rcases cells_mem (PySem.mem_of_lookup e') with hm | ⟨h1, _, _⟩
    · exact (cm hm).1
    · have := ok.uniq _ h1
      rw [hl] at this; cases this
  have okB : (X.blk s H scope cenv fp).Ok := by
    refine ⟨I.ok.mod, by show cenv.scope.kind = _; rw [hsc]; exact ok.kind, by show cenv.globals = _; rw [← hcenv]; exact I.ok.glob, by show cenv.builtins = _; rw [← hcenv]; exact I.ok.blt, by show s.heap.objs.size ≤ cenv.locals; rw [hL]; exact Nat.le_refl _,
      fun y z c e1 e2 => ?_, fun y hy => ?_, fun y c z e => ?_, I.ok.hd, I.ok.frames, .inl rfl, fun b hb => ⟨?_, fun y c e z => ?_⟩, I.bs, Nat.le_trans I.ok.bsz I.sz, fun b o e hb => ?_, fun b hb z => ?_, I.stack, I.stkFree⟩
    · have e1 : cenv.cells.lookup y = some c := e1
      have e2 : cenv.cells.lookup z = some c := e2
      rw [hcl] at e1 e2
      refine cells_inj (fun p hp => ?_) (fun y z c a b => I.ok.inj y z c (cm a).1 (cm b).1) (PySem.mem_of_lookup e1) (PySem.mem_of_lookup e2)
      rw [Heap.size_push]
      exact Nat.lt_succ_of_lt (cm (y := p.1) (c := p.2) hp).2
    · show ∃ c, cenv.cells.lookup y = some c
      have key : ∀ k, cenv.kindOf y = some k → (k = .cell ∨ k = .free) → ∃ c, cenv.cells.lookup y = some c := fun k hk hk' => by
        unfold Env.kindOf at hk
        rw [hsc] at hk
        obtain ⟨k', e, r⟩ := lookup_relS hk
        have : k' = .cell ∨ k' = .free := by
          rcases r with rfl | ⟨rfl, _⟩
          · exact hk'
          · exact .inr rfl
        rcases this with rfl | rfl
        · obtain ⟨c, hm⟩ := cells_has (n := (s.heap.push { cls := .type "dict", data := .dict #[] }).objs.size) (acc := cloFrom X.env.cells scope.names []) (PySem.mem_of_lookup e)
          obtain ⟨c', e'⟩ := mem_lookup hm
          exact ⟨c', by rw [hcl]; exact e'⟩
        · obtain ⟨c, h1, _⟩ := look e
          exact ⟨c, h1⟩
      rcases hy with hy | hy
      · exact key _ hy (.inl rfl)
      · exact key _ hy (.inr rfl)
    · have z : (scope.names.lookup y == some NameKind.cell) = true := z
      have z : scope.names.lookup y = some .cell := by simpa using z
      have e : cenv.cells.lookup y = some c := e
      rw [hcl] at e
      rcases cells_mem (PySem.mem_of_lookup e) with hm | ⟨_, h2, _⟩
      · rcases cloFrom_mem hm with hm | ⟨h1, _⟩
        · cases hm
        · have q := ok.uniq _ h1
          rw [z] at q; cases q
      · rw [Heap.size_push] at h2
        exact Nat.le_of_succ_le h2
    · show b ≠ cenv.locals
      rw [hL]; exact Nat.ne_of_lt (hfp b hb).2
    · have e : cenv.cells.lookup y = some c := e
      rcases mem e with ⟨h1, _⟩ | ⟨h1, _⟩
      · exact (hfp b hb).1.2.2.2.2.1 y c h1 z
      · have h2 : s.heap.objs.size + 1 ≤ b := by rw [← z]; exact h1
        exact absurd (Nat.lt_of_lt_of_le (hfp b hb).2 (Nat.le_of_succ_le h2)) (Nat.lt_irrefl _)
    · rcases (hfp b hb).1.2.2.2.1 with z | z
      · exact I.ok.noex b o e z
      · exact absurd (Nat.lt_of_lt_of_le (Heap.lt_size e) (Nat.le_trans I.ok.bsz z)) (Nat.lt_irrefl _)
    · rcases List.mem_cons.mp (I.stkSub b z) with z | z
      · exact (hfp b hb).1.2.1 z
      · exact (hfp b hb).1.2.2.1 z
  refine ⟨okB, rfl, I.bare, Un.kept kp, ⟨fun _ => none, ?_, fun i y av e1 e2 e3 => ?_⟩, fun y c e => ?_, ?_, fun y c e => ?_, fun p hp => ?_, I.hok.kept kp, by rw [wipe_length]; exact I.len⟩
  · show Heap.Ns _ cenv.locals _
    rw [hL]
    exact Heap.Ns.keeps (Heap.Ns.new ..) fun b o e => pushCells_keeps _ _ _ _ e
  · obtain ⟨e2, hne⟩ := wipe_some e2
    have hfr : scope.names.lookup y = some .free ∧ (cenv.kindOf y = some .cell ∨ cenv.kindOf y = some .free) := by
      have key : ∀ k, cenv.scope.names.lookup y = some k → k = .local ∨ k = .cell ∨ k = .free → scope.names.lookup y = some .free ∧ (cenv.kindOf y = some .cell ∨ cenv.kindOf y = some .free) := fun k hk hk' => by
        have hk0 := hk
        rw [hsc] at hk
        obtain ⟨k', e, r⟩ := lookup_relS hk
        have no : ¬ (k' = .local ∨ k' = .cell) := fun hh => by
          rcases ok.own _ (PySem.mem_of_lookup e) hh with e' | e'
          · obtain ⟨p, hp, hpy⟩ := List.mem_map.mp e'
            have e3 := ok.ix p hp
            have : p.1 = y := hpy
            rw [this] at e3
            exact hne (List.mem_map.mpr ⟨p, hp, nodup_ix hN e3 e1⟩)
          · exact e' (List.mem_of_getElem? e1)
        rcases r with rfl | ⟨rfl, rfl⟩
        · rcases hk' with rfl | rfl | rfl
          · exact absurd (.inl rfl) no
          · exact absurd (.inr rfl) no
          · exact ⟨e, .inr hk0⟩
        · exact ⟨e, .inl hk0⟩
      have e3 : Vis cenv.scope y := e3
      rcases e3 with e3 | e3 | e3
      · exact key _ e3 (.inl rfl)
      · exact key _ e3 (.inr (.inl rfl))
      · exact key _ e3 (.inr (.inr rfl))
    obtain ⟨m, hn, hl⟩ := I.loc
    have hvis : Vis X.env.scope y := (ok.free _ (PySem.mem_of_lookup hfr.1) rfl).elim (fun k => .inr (.inl k)) (fun k => .inr (.inr k))
    obtain ⟨w, r, q⟩ := hl i y av e1 e2 hvis
    refine ⟨w, r, .inr ⟨hfr.2, ?_⟩⟩
    obtain ⟨c, h1, h2⟩ := look hfr.1
    rcases q with ⟨k, _⟩ | ⟨_, c', e', z⟩
    · have k : X.env.scope.names.lookup y = some .local := k
      rcases ok.free _ (PySem.mem_of_lookup hfr.1) rfl with k' | k' <;> rw [show X.env.scope.names.lookup y = _ from k'] at k <;> cases k
    · rw [h2] at e'; cases e'
      exact ⟨c, h1, z.keeps kp⟩
  · have e : cenv.cells.lookup y = some c := e
    rcases mem e with ⟨h1, _⟩ | ⟨_, z⟩
    · obtain ⟨w, z⟩ := I.cell y c h1
      exact ⟨w, z.keeps kp⟩
    · exact ⟨_, z⟩
  · show H cenv.locals = none
    rw [hL]; exact I.hok.fresh (Nat.le_refl _)
  · have e : cenv.cells.lookup y = some c := e
    rcases mem e with ⟨h1, _⟩ | ⟨h1, _⟩
    · exact I.freeC y c h1
    · exact I.hok.fresh (Nat.le_of_succ_le h1)
  · exact absurd (show p ∈ ([] : List (Addr × Obj)) ++ [] from hp) (by simp)

/-- an item appended to a tracked list -/
theorem app_ok {E : Value → Shared → Prop} {D : Addr} {xs : List V} {y : V} {v : Value} {Q : Value → Shared → Prop} (I : Inv X pins σ H s) (hD : H D = some (.lst xs)) (hz : xs.length < sizeLine) (r : RelV y v)
    (h : ∀ s', Inv X pins σ (upd H D (.lst (xs ++ [y]))) s' → Q .none s') : wpAny (model X.prog X.w) X.A (call (.builtin "list.append") [.ref D, v]) Q E s := by
  obtain ⟨hz', its, n, ri, e⟩ := I.hok D _ hD
  have hl := ri.length
  refine append_at (hsz := by rw [List.size_toArray]; omega) e fun h' sb ho' => ?_
  refine h { s with heap := h' } (I.write (t' := s.toks) (by rw [hD]; trivial) (.inl rfl) (fun b u hb q => (sb.2 b hb).trans q) ⟨_, ho'⟩ ⟨by rw [List.length_append]; exact hz, its ++ [v], n + 1, ri.append (.cons r .nil), ?_⟩)
  rw [ho']
  simp

/-- a clause's tests -/
def PTs (X : Cx) (ifs : List Expr) (t : TT) : Prop :=
  ∀ (pins : List (Addr × Obj)) (s : Shared) (σ : St) (H : Hp) (Q : Bool → Hp → Prop), Inv X pins σ H s → t σ H Q →
    wpAny (model X.prog X.w) X.A (forIn ifs true fun c r => if r = true then do let ok ← isTrue c X.env (eval c X.env); pure (ForInStep.yield ok) else pure (ForInStep.yield r)) (TP X pins σ Q) X.xe s
def tYes : TT := fun _ H Q => Q true H
theorem pts_nil : PTs X [] tYes := fun _ _ _ H _ I h => wpAny_tests_nil ⟨H, I, h⟩
theorem pts_one {c : Expr} {t : TT} (h : PT X c t) : PTs X [c] t := fun pins s σ H Q I hw => wpAny_tests_one (h pins s σ H Q I hw)
end

theorem thnF {α : Type} {t : Sem α} {Q Q' : α → Shared → Prop} {M : Model} {A : Around} {E : Value → Shared → Prop} {s : Shared} (h : wpAny M A t Q (fun _ _ => False) s) (hQ : ∀ a s, Q a s → Q' a s) : wpAny M A t Q' E s := wpAny_mono h hQ fun _ _ z => False.elim z

/-- the loop of a list comprehension's block, the target of any form (codeAny_compLoop_tests asks a target that no tuple goes to; statement and proof follow it, PyProof/CompMap.lean:41-61, with the step letOwnedTupleGo kept) -/
theorem compLoop_any {prog : Program} {w : World} {A : Around} {R : Result → Shared → Prop} {s : Shared} {elt target iter : Expr} {ifs : List Expr} {scope : Scope} {pos : Pos} {it acc : Value} {env : Env} (I : Nat → Shared → Prop)
    (turn : ∀ n s, I n s → wpAny (model prog w) A (pyNext it) (fun r s₁ => match r with
      | none => R (.ok .next) s₁
      | some v => wpAny (model prog w) A (letOwnedTupleGo target it v) (fun _ s₁' => wpAny (model prog w) A (assign target env v) (fun _ s₂ =>
          wpAny (model prog w) A (forIn ifs true fun c r => if r = true then do let ok ← isTrue c env (eval c env); pure (ForInStep.yield ok) else pure (ForInStep.yield r)) (fun ok s₃ =>
            if ok = true then wpAny (model prog w) A (eval elt env) (fun x s₄ =>
              wpAny (model prog w) A (call (.builtin "list.append") [acc, x]) (fun _ s₅ => ∃ m, m < n ∧ I m s₅) (notedBy (model prog w) A env fun e s' => R (.error e) s') s₄) (notedBy (model prog w) A env fun e s' => R (.error e) s') s₃
            else ∃ m, m < n ∧ I m s₃) (notedBy (model prog w) A env fun e s' => R (.error e) s') s₂) (notedBy (model prog w) A env fun e s' => R (.error e) s') s₁') (notedBy (model prog w) A env fun e s' => R (.error e) s') s₁) (notedBy (model prog w) A env fun e s' => R (.error e) s') s)
    (n : Nat) (h : I n s) :
    codeAny (model prog w) A (.compLoop (.ListComp elt [⟨target, iter, ifs, 0⟩] scope pos) 0 it acc env) R s := by
  refine codeAny_loop rfl I (fun n s hI => ?_) n h
  show wpAny _ A ((compTurn (.ListComp elt [⟨target, iter, ifs, 0⟩] scope pos) 0 it acc env).onRaise (fun x => do noteFrame x env; theTreesLotGoes x)) _ _ s
  refine wpAny_noted ?_
  rw [compTurn_list]
  refine wpAny_bind (wpAny_standAt (wpAny_bind (wpAny_mono (turn n s hI) (fun r s₁ h₁ => ?_) fun _ _ h' => h')))
  cases r with
  | none => exact wpAny_pure h₁
  | some v =>
    refine wpAny_bind (wpAny_mono h₁ (fun _ s₁' h₁' => ?_) fun _ _ h' => h')
    refine wpAny_bind (wpAny_mono h₁' (fun _ s₂ h₂ => wpAny_bind (wpAny_mono h₂ (fun ok s₃ h₃ => ?_) fun _ _ h' => h')) fun _ _ h' => h')
    cases ok with
    | false => exact wpAny_pure ⟨rfl, h₃⟩
    | true =>
      exact wpAny_bind (wpAny_bind (wpAny_mono h₃ (fun x s₄ h₄ => wpAny_bind (wpAny_mono h₄ (fun _ s₅ h₅ => wpAny_pure (wpAny_pure ⟨rfl, h₅⟩)) fun _ _ h' => h')) fun _ _ h' => h'))

section
variable {X : Cx}
/-- [elt for target in iter if ..]: D the new list; W by the turn and a measure, Nx what a turn is to reach -/
def tLc (wi : TI) (g : TG) (tt : TT) (te : TE) (vs : List Nat) : TE := fun σ H Q => wi σ H fun J H1 => ∀ D, H1 D = none → ∃ W : Nat → Nat → Hp → Prop, (∃ m, W 0 m (upd H1 D (.lst []))) ∧ ∀ i m H, W i m H →
  (J.stop i H ∧ Q (.ref D) H) ∨ (J.go i H ∧ ∃ Nx : Hp → Prop, (∀ H', Nx H' → ∃ m', m' < m ∧ W (i + 1) m' H') ∧ ∀ x H', J.yld i H x H' → g x (wipe σ vs) H' fun σ2 H2 => wipe σ2 vs = wipe σ vs ∧ tt σ2 H2 fun b H3 =>
    if b = true then te σ2 H3 fun y H4 => ∃ acc, H4 D = some (.lst acc) ∧ acc.length < sizeLine ∧ Nx (upd H4 D (.lst (acc ++ [y]))) else Nx H3)
theorem lc_core {pins : List (Addr × Obj)} {s : Shared} {σ : St} {H : Hp} {Q : VK} {elt tg iter : Expr} {ifs : List Expr} {scope : Scope} {own : List (Str × Nat)} {pos pos' : Pos} {wi : TI} {g : TG} {tt : TT} {te : TE} {use : Option (Value → Sem Unit)} {Qf : Value → Shared → Prop}
    (hc : X.calm = true) (hN : X.N.Nodup) (I : Inv X pins σ H s) (hi : PI X tg iter wi) (ok : BlkOk X.N X.env.scope scope own)
    (hg : ∀ (s : Shared) (H : Hp) (C : Addr) (cl : List (Str × Addr)) (fp : List Addr), PG (X.blk s H scope (compEnvC scope cl C X.env) fp) tg g) (ht : ∀ (s : Shared) (H : Hp) (C : Addr) (cl : List (Str × Addr)) (fp : List Addr), PTs (X.blk s H scope (compEnvC scope cl C X.env) fp) ifs tt)
    (he : ∀ (s : Shared) (H : Hp) (C : Addr) (cl : List (Str × Addr)) (fp : List Addr), PE (X.blk s H scope (compEnvC scope cl C X.env) fp) elt te) (hs : ∀ x, foldedSetIterable iter X.env x = pure x)
    (h : tLc wi g tt te (own.map (·.2)) σ H Q)
    (hRR : ∀ D C s' m H', Inv X pins σ H' s' → Q (.ref D) H' → s'.heap.Ns C m → FpOk X pins H' C → compPost (model X.prog X.w) X.A X.xe use Qf (.ref D) C (.ok .next) s') :
    wpAny (model X.prog X.w) X.A (comprehension (.ListComp elt [⟨tg, iter, ifs, 0⟩] scope pos) scope X.env pos' (newList []) false (eval iter X.env) use) Qf X.xe s := by
  have hfree : ∀ y ∈ scope.names, y.2 = .free → ∃ c, X.env.cells.lookup y.1 = some c := fun y hy e => by
    rcases ok.free y hy e with k | k
    · exact I.ok.has _ (.inl k)
    · exact I.ok.has _ (.inr k)
  refine wpAny_comprehension_free (use := use) rfl hs (closure_ok hfree) ok.kind (fun y hy e => by rw [ok.uniq y hy, e])
    (thn (hi pins s σ H _ I h) fun xv s1 hx => thn hx fun itv s2 h2 => ?_)
  obtain ⟨it, fp, tn, J, H2, e, I2, T, st2, f2, q⟩ := h2
  subst e
  refine wpAny_newObj_type (newEnv_comp ?_) (by show 0 ≤ sizeLine; decide)
  generalize hD : s2.heap.objs.size = D
  have hDn : H2 D = none := I2.hok.fresh (Nat.le_of_eq hD)
  obtain ⟨W, ⟨m0, w0⟩, turn⟩ := q D hDn
  -- the new list
  generalize hs3 : ({ s2 with heap := s2.heap.push { cls := .type "list", data := .seq ([] : List Value).toArray } } : Shared) = s3
  have I3 : Inv X pins σ (upd H2 D (.lst [])) s3 := by
    rw [← hs3]
    refine I2.laid (t' := s2.toks) (fun b o e => Heap.get?_push_of_some _ e) (Nat.le_of_eq hD) ⟨Nat.zero_le _, [], 0, .nil, ?_⟩
    rw [← hD]
    exact Heap.get?_push_size _ rfl
  have h3 : s3.heap = s2.heap.push { cls := .type "list", data := .seq ([] : List Value).toArray } := by rw [← hs3]
  have sz : ∀ b ∈ fp, b < s2.heap.objs.size := fun b hb => by
    obtain ⟨o, e, _⟩ := T.obj _ _ st2 b hb
    exact Heap.lt_size e
  have f3 : ∀ b ∈ fp, FpOk X pins (upd H2 D (.lst [])) b ∧ b < s3.heap.objs.size := fun b hb => by
    have hlt := sz b hb
    refine ⟨⟨?_, (f2 b hb).2⟩, by rw [h3, Heap.size_push]; exact Nat.lt_succ_of_lt hlt⟩
    rw [upd_ne (by rw [← hD]; exact Nat.ne_of_lt hlt)]
    exact (f2 b hb).1
  have st3 : tn 0 s3.heap := T.keep _ _ _ st2 fun b _ o e => by rw [h3]; exact Heap.get?_push_of_some _ e
  have I4 := block_start I3 ok hN f3
  have pg := hg s3 (upd H2 D (.lst [])) s3.heap.objs.size (cellsFrom (s3.heap.objs.size + 1) scope.names (cloFrom X.env.cells scope.names [])) fp
  have pt := ht s3 (upd H2 D (.lst [])) s3.heap.objs.size (cellsFrom (s3.heap.objs.size + 1) scope.names (cloFrom X.env.cells scope.names [])) fp
  have pe := he s3 (upd H2 D (.lst [])) s3.heap.objs.size (cellsFrom (s3.heap.objs.size + 1) scope.names (cloFrom X.env.cells scope.names [])) fp
  show codeAny _ _ (.compStart (.ListComp elt [⟨tg, iter, ifs, 0⟩] scope pos) 0 (.ref it) (.ref D) (compEnvC scope (cellsFrom (s3.heap.objs.size + 1) scope.names (cloFrom X.env.cells scope.names [])) s3.heap.objs.size X.env)) (compPost (model X.prog X.w) X.A X.xe use Qf (.ref D) s3.heap.objs.size) { s3 with heap := pushCells (s3.heap.push { cls := .type "dict", data := .dict #[] }) scope.names }
  have nfp : ∀ b ∈ fp, (upd H2 D (.lst [])) b = none := fun b hb => (f3 b hb).1.1
  generalize hce : compEnvC scope (cellsFrom (s3.heap.objs.size + 1) scope.names (cloFrom X.env.cells scope.names [])) s3.heap.objs.size X.env = ce at I4 pg pt pe ⊢
  have cL : ce.locals = s3.heap.objs.size := by subst hce; rfl
  generalize hH3 : upd H2 D (.lst []) = H3 at I3 I4 pg pt pe w0 nfp f3
  generalize hs4 : ({ s3 with heap := pushCells (s3.heap.push { cls := .type "dict", data := .dict #[] }) scope.names } : Shared) = s4 at I4 ⊢
  have st4 : tn 0 s4.heap := T.keep _ _ _ st3 fun b _ o e => by rw [← hs4]; exact pushCells_keeps _ _ _ _ (Heap.get?_push_of_some _ e)
  have stat : ∀ {σ' : St} {H' : Hp} {s' : Shared}, Inv (X.blk s3 H3 scope ce fp) [] σ' H' s' → (∀ b ∈ fp, H' b = none) → ∀ b ∈ fp, FpOk (X.blk s3 H3 scope ce fp) [] H' b := fun {σ' H' s'} I' hn b hb =>
    ⟨hn b hb, (I'.ok.exf b hb).1, I'.ok.exfs b hb, .inl hb, fun x c e => (I'.ok.exf b hb).2 x c e, fun p hp => absurd (show p ∈ ([] : List (Addr × Obj)) ++ [] from hp) (by simp)⟩
  have loop : codeAny (model X.prog X.w) X.A (.compLoop (.ListComp elt [⟨tg, iter, ifs, 0⟩] scope pos) 0 (.ref it) (.ref D) ce) (compPost (model X.prog X.w) X.A X.xe use Qf (.ref D) s3.heap.objs.size) s4 := by
    refine compLoop_any (fun n s' => ∃ i H', Inv (X.blk s3 H3 scope ce fp) [] (wipe σ (own.map (·.2))) H' s' ∧ tn i s'.heap ∧ (∀ b ∈ fp, H' b = none) ∧ W i n H') ?_ m0 ⟨0, H3, I4, st4, nfp, w0⟩
    rintro n s5 ⟨i, H5, I5, st5, n5, w5⟩
    rcases turn i n H5 w5 with ⟨stop, qq⟩ | ⟨go, Nx, hNx, step⟩
    · have td := T.done (X.blk s3 H3 scope ce fp) rfl rfl rfl hc i [] s5 _ H5 (fun _ _ => False) I5 (stat I5 n5) st5 stop
      refine thnF td fun r s6 ⟨hr, I6⟩ => ?_
      subst hr
      -- back in the def's context
      have I7 : Inv X pins σ H5 s6 := I3.call' (ch := fp) I6.os I6.base I6.hok I6.bare fun b hb => ⟨(f3 b hb).1.2.2.2.1, (f3 b hb).1.2.1, (f3 b hb).1.2.2.2.2.1, (f3 b hb).1.2.2.2.2.2⟩
      have nC : H5 s3.heap.objs.size = none := by
        have z : H5 ce.locals = none := I6.free
        rw [cL] at z
        exact z
      obtain ⟨m, hn, _⟩ := I6.loc
      have hn : s6.heap.Ns ce.locals m := hn
      rw [cL] at hn
      exact hRR D s3.heap.objs.size s6 m H5 I7 qq hn (I3.fpOk (Nat.le_refl _) nC)
    · have ti := T.item (X.blk s3 H3 scope ce fp) rfl rfl rfl hc i [] s5 _ H5 (fun _ _ => False) I5 (stat I5 n5) st5 go
      refine thnF ti fun r s6 ⟨u, hr, h6⟩ => ?_
      subst hr
      refine thnF h6 fun _ s7 ⟨x, H7, I7, r7, y7, st7, n7⟩ => ?_
      have I7' := I7.pinned (stat I7 n7) (T.obj _ _ st7)
      refine thnF (pg _ s7 _ H7 x u _ I7' r7 (step x H7 y7)) fun _ s8 ⟨σ8, H8, I8, hw8, q8⟩ => ?_
      refine thnF (pt _ s8 σ8 H8 _ I8 q8) fun b s9 ⟨H9, I9, q9⟩ => ?_
      -- the turn's end
      have fin : ∀ {s' : Shared} {H' : Hp}, Inv (X.blk s3 H3 scope ce fp) ([] ++ pinsAt fp s7.heap) σ8 H' s' → Nx H' → ∃ m, m < n ∧ ∃ i H', Inv (X.blk s3 H3 scope ce fp) [] (wipe σ (own.map (·.2))) H' s' ∧ tn i s'.heap ∧ (∀ b ∈ fp, H' b = none) ∧ W i m H' := fun {s' H'} I' nx => by
        obtain ⟨m', hm, w'⟩ := hNx H' nx
        have pin' : ∀ b ∈ fp, ∀ o, s7.heap.get? b = some o → s'.heap.get? b = some o ∧ H' b = none := fun b hb o e =>
          let z := I'.pin (b, o) (List.mem_append_right _ (List.mem_append_right _ (mem_pinsAt hb e)))
          ⟨z.1, z.2.1⟩
        have hl : (wipe σ (own.map (·.2))).length = σ8.length := by rw [← hw8, wipe_length]
        refine ⟨m', hm, i + 1, H', (I'.unpinned (pins := [])).weak hl (fun j v e => ?_), T.keep _ _ _ st7 fun b hb o e => (pin' b hb o e).1, fun b hb => ?_, w'⟩
        · rw [← hw8] at e
          exact (wipe_some e).1
        · obtain ⟨o, e, _⟩ := T.obj _ _ st7 b hb
          exact (pin' b hb o e).2
      cases b with
      | false =>
        simp only [Bool.false_eq_true, if_false] at q9 ⊢
        exact fin I9 q9
      | true =>
        simp only [if_true] at q9 ⊢
        refine thnF (pe _ s9 σ8 H9 _ I9 q9) fun z s10 ⟨yv, H10, I10, r10, acc, hD10, hz10, nx⟩ => ?_
        exact app_ok (X := X.blk s3 H3 scope ce fp) I10 hD10 hz10 r10 fun s11 I11 => fin I11 nx
  exact codeAny_compStart_list loop (T.self X.A 0 _ _ _ st4 loop)
/-- as a value -/
theorem pe_lc {elt tg iter : Expr} {ifs : List Expr} {scope : Scope} {own : List (Str × Nat)} {pos : Pos} {wi : TI} {g : TG} {tt : TT} {te : TE} (hc : X.calm = true) (hN : X.N.Nodup) (hi : PI X tg iter wi) (ok : BlkOk X.N X.env.scope scope own)
    (hg : ∀ (s : Shared) (H : Hp) (C : Addr) (cl : List (Str × Addr)) (fp : List Addr), PG (X.blk s H scope (compEnvC scope cl C X.env) fp) tg g) (ht : ∀ (s : Shared) (H : Hp) (C : Addr) (cl : List (Str × Addr)) (fp : List Addr), PTs (X.blk s H scope (compEnvC scope cl C X.env) fp) ifs tt)
    (he : ∀ (s : Shared) (H : Hp) (C : Addr) (cl : List (Str × Addr)) (fp : List Addr), PE (X.blk s H scope (compEnvC scope cl C X.env) fp) elt te) (hs : ∀ x, foldedSetIterable iter X.env x = pure x := by intro _; rfl) :
    PE X (.ListComp elt [⟨tg, iter, ifs, 0⟩] scope pos) (tLc wi g tt te (own.map (·.2))) := by
  intro pins s σ H Q I h
  rw [eval_ListComp]
  refine lc_core hc hN I hi ok hg ht he hs h fun D C s' m H' I' q hn f => ⟨m, hn, fun h'' sb => ?_⟩
  obtain ⟨f0, f1, f2, f3, f4, f5⟩ := f
  exact ⟨.ref D, H', I'.turned (t' := s'.toks) (fun b o hb e => (sb.2 b hb).trans e) f0 f1 f3 f4 f5, rfl, q⟩
/-- name = [..] on one line, the name a local -/
theorem ps_setLc {i : Nat} {y : Str} {py : Pos} {elt tg iter : Expr} {ifs : List Expr} {scope : Scope} {own : List (Str × Nat)} {pos spos : Pos} {wi : TI} {g : TG} {tt : TT} {te : TE} (hc : X.calm = true) (hN : X.N.Nodup) (hy : X.N[i]? = some y) (hyl : X.env.scope.names.lookup y = some .local)
    (hsw : swapsWith (.ListComp elt [⟨tg, iter, ifs, 0⟩] scope pos) (some (.Name y py)) spos.line X.env = pure true) (hi : PI X tg iter wi) (ok : BlkOk X.N X.env.scope scope own)
    (hg : ∀ (s : Shared) (H : Hp) (C : Addr) (cl : List (Str × Addr)) (fp : List Addr), PG (X.blk s H scope (compEnvC scope cl C X.env) fp) tg g) (ht : ∀ (s : Shared) (H : Hp) (C : Addr) (cl : List (Str × Addr)) (fp : List Addr), PTs (X.blk s H scope (compEnvC scope cl C X.env) fp) ifs tt)
    (he : ∀ (s : Shared) (H : Hp) (C : Addr) (cl : List (Str × Addr)) (fp : List Addr), PE (X.blk s H scope (compEnvC scope cl C X.env) fp) elt te) (hs : ∀ x, foldedSetIterable iter X.env x = pure x := by intro _; rfl) :
    PS X (.Assign [.Name y py] (.ListComp elt [⟨tg, iter, ifs, 0⟩] scope pos) spos) (tAsg (tLc wi g tt te (own.map (·.2))) (gName i)) := by
  intro pins s σ H D I h
  rw [exec_Assign_Name_used _ _ _ _ hsw]
  refine wpAny_bind (wpAny_standAt (wpAny_bind ?_))
  show wpAny _ X.A (do let _ ← comprehension (.ListComp elt [⟨tg, iter, ifs, 0⟩] scope pos) scope X.env (firstIterPos [⟨tg, iter, ifs, 0⟩] pos) (newList []) false (eval iter X.env) (some (assign (.Name y py) X.env))) _ _ s
  have h : tLc wi g tt te (own.map (·.2)) σ H (fun x H1 => gName i x σ H1 D.nx) := h
  refine wpAny_bind (thn (lc_core (Qf := fun _ s' => SP X pins D .next s') hc hN I hi ok hg ht he hs h fun L C s' m H' I' q hn f => ?_) fun _ s' hq => wpAny_pure (wpAny_pure hq))
  show wpAny _ _ (assign (.Name y py) X.env (.ref L)) _ _ _
  refine wpAny_assign_Name (store_ok2 (v := V.ref L) I' hN hy (.inl hyl) rfl (fun s2 I2 ⟨a, sb, ha⟩ => ?_) (.inr hyl))
  obtain ⟨f0, f1, f2, f3, f4, f5⟩ := f
  have haC : C ≠ a := by
    rcases ha with z | z
    · rw [z]; exact f1
    · exact fun e => f4 y a z e.symm
  refine ⟨m, hn.sameBut sb haC, fun h3 sb3 => ?_⟩
  exact ⟨_, H', I2.turned (t' := s2.toks) (fun b o hb e => (sb3.2 b hb).trans e) f0 f1 f3 f4 f5, q⟩
theorem sw_true {elt : Expr} {gs : List Comprehension} {scope : Scope} {pos py : Pos} {y : Str} {l : Nat} {env : Env} (hk : env.scope.kind = .function) (hy : env.scope.names.lookup y = some .local) (hl : (py.line == pos.line) = true)
    (ha : (scope.names.any fun (n, k) => n == y && (k == .local || k == .cell)) = false) : swapsWith (.ListComp elt gs scope pos) (some (.Name y py)) l env = pure true := by
  have ky : env.kindOf y = some .local := hy
  have hb : env.blockKind = .function := by unfold Env.blockKind; rw [hk]; rfl
  unfold swapsWith
  simp only [hb, ky, ha, Expr.pos, hl]
  rfl
end

/-! ### the forms one uses -/
/-- over a range: Pv by the turn and the heap (the new list at D within) -/
theorem lc_range {lo : Int} {n : Nat} {g : TG} {tt : TT} {te : TE} {vs : List Nat} {σ : St} {H1 : Hp} {D : Addr} {Qd : Hp → Prop} (Pv : Nat → Hp → Prop) (h0 : Pv 0 (upd H1 D (.lst [])))
    (hs : ∀ i H, i < n → Pv i H → g (.int (lo + i)) (wipe σ vs) H fun σ2 H2 => wipe σ2 vs = wipe σ vs ∧ tt σ2 H2 fun b H3 =>
      if b = true then te σ2 H3 fun y H4 => ∃ acc, H4 D = some (.lst acc) ∧ acc.length < sizeLine ∧ Pv (i + 1) (upd H4 D (.lst (acc ++ [y]))) else Pv (i + 1) H3) (hd : ∀ H, Pv n H → Qd H) :
    ∃ W : Nat → Nat → Hp → Prop, (∃ m, W 0 m (upd H1 D (.lst []))) ∧ ∀ i m H, W i m H →
      ((Itr lo n).stop i H ∧ Qd H) ∨ ((Itr lo n).go i H ∧ ∃ Nx : Hp → Prop, (∀ H', Nx H' → ∃ m', m' < m ∧ W (i + 1) m' H') ∧ ∀ x H', (Itr lo n).yld i H x H' → g x (wipe σ vs) H' fun σ2 H2 => wipe σ2 vs = wipe σ vs ∧ tt σ2 H2 fun b H3 =>
        if b = true then te σ2 H3 fun y H4 => ∃ acc, H4 D = some (.lst acc) ∧ acc.length < sizeLine ∧ Nx (upd H4 D (.lst (acc ++ [y]))) else Nx H3) := by
  refine ⟨fun i m H => m = n - i ∧ i ≤ n ∧ Pv i H, ⟨n, by simp, Nat.zero_le _, h0⟩, ?_⟩
  rintro i m H ⟨rfl, hi, p⟩
  by_cases hlt : i < n
  · refine .inr ⟨hlt, Pv (i + 1), fun H' p' => ⟨n - (i + 1), by omega, rfl, hlt, p'⟩, fun x H' y => ?_⟩
    obtain ⟨e, y⟩ := y
    subst e y
    exact hs i _ hlt p
  · have e : i = n := by omega
    subst e
    exact .inl ⟨Nat.le_refl _, hd H p⟩
/-- over a list that the block leaves as it is -/
theorem lc_list {K : PySem.W.Frag} {a : Addr} {xs : List V} {g : TG} {tt : TT} {te : TE} {vs : List Nat} {σ : St} {H1 : Hp} {D : Addr} {Qd : Hp → Prop} (Pv : Nat → Hp → Prop) (h0 : Pv 0 (upd H1 D (.lst []))) (hl : ∀ i H, i ≤ xs.length → Pv i H → SqL K H a xs)
    (hs : ∀ i x H, xs[i]? = some x → Pv i H → g x (wipe σ vs) H fun σ2 H2 => wipe σ2 vs = wipe σ vs ∧ tt σ2 H2 fun b H3 =>
      if b = true then te σ2 H3 fun y H4 => ∃ acc, H4 D = some (.lst acc) ∧ acc.length < sizeLine ∧ Pv (i + 1) (upd H4 D (.lst (acc ++ [y]))) else Pv (i + 1) H3) (hd : ∀ H, Pv xs.length H → Qd H) :
    ∃ W : Nat → Nat → Hp → Prop, (∃ m, W 0 m (upd H1 D (.lst []))) ∧ ∀ i m H, W i m H →
      ((Itl K a).stop i H ∧ Qd H) ∨ ((Itl K a).go i H ∧ ∃ Nx : Hp → Prop, (∀ H', Nx H' → ∃ m', m' < m ∧ W (i + 1) m' H') ∧ ∀ x H', (Itl K a).yld i H x H' → g x (wipe σ vs) H' fun σ2 H2 => wipe σ2 vs = wipe σ vs ∧ tt σ2 H2 fun b H3 =>
        if b = true then te σ2 H3 fun y H4 => ∃ acc, H4 D = some (.lst acc) ∧ acc.length < sizeLine ∧ Nx (upd H4 D (.lst (acc ++ [y]))) else Nx H3) := by
  refine ⟨fun i m H => m = xs.length - i ∧ i ≤ xs.length ∧ Pv i H, ⟨xs.length, by simp, Nat.zero_le _, h0⟩, ?_⟩
  rintro i m H ⟨rfl, hi, p⟩
  have q := hl i H hi p
  by_cases hlt : i < xs.length
  · refine .inr ⟨⟨xs, xs[i], q, by simp [hlt]⟩, Pv (i + 1), fun H' p' => ⟨xs.length - (i + 1), by omega, rfl, hlt, p'⟩, fun x H' y => ?_⟩
    obtain ⟨e, y⟩ := y
    subst e
    exact hs i x _ (y xs q) p
  · have e : i = xs.length := by omega
    subst e
    exact .inl ⟨⟨xs, q, Nat.le_refl _⟩, hd H p⟩
def blkC (N : List Str) (sc scope : Scope) (own : List (Str × Nat)) : Bool :=
  (match scope.kind with | .function => true | _ => false) && (scope.names.all fun y => decide (scope.names.lookup y.1 = some y.2)) && (own.all fun p => decide (N[p.2]? = some p.1)) &&
    (scope.names.all fun y => match y.2 with
      | .free => (match sc.names.lookup y.1 with | some .cell => true | some .free => true | _ => false)
      | .local => decide (y.1 ∈ own.map (·.1)) || decide (y.1 ∉ N)
      | .cell => decide (y.1 ∈ own.map (·.1)) || decide (y.1 ∉ N)
      | _ => true)
theorem blkOk_by {N : List Str} {sc scope : Scope} {own : List (Str × Nat)} (h : blkC N sc scope own = true) : BlkOk N sc scope own := by
  unfold blkC at h
  simp only [Bool.and_eq_true, List.all_eq_true, decide_eq_true_eq] at h
  obtain ⟨⟨⟨h1, h2⟩, h3⟩, h4⟩ := h
  refine ⟨?_, h2, h3, fun y hy e => ?_, fun y hy e => ?_⟩
  · split at h1
    · assumption
    · cases h1
  · have q := h4 y hy
    simp only [e] at q
    split at q <;> first | exact .inl (by assumption) | exact .inr (by assumption) | cases q
  · have q := h4 y hy
    rcases e with e | e <;> (simp only [e, Bool.or_eq_true, decide_eq_true_eq] at q; exact q)
end L2

namespace L2
open PySem PySem.Spec PyProof.Rows


section
variable {prog : Program} {w : World} {A : Around} {R : Result → Shared → Prop} {s : Shared} {elt t0 i0 t1 i1 : Expr} {ifs0 ifs1 : List Expr} {scope : Scope} {pos : Pos} {it acc : Value} {env : Env}
end

section
variable {X : Cx}
end
end L2

namespace L2
open PySem PySem.Spec PyProof.Rows

/-! ### lists of pairs as tables -/
section
variable {κ : Type} [DecidableEq κ]
def valV (kvs : List (κ × V)) (k : κ) : Option V := (kvs.find? fun kv => decide (kv.1 = k)).map (·.2)
/-- in its place, or at the end -/
def putK (kvs : List (κ × V)) (k : κ) (v : V) : List (κ × V) :=
  if (kvs.any fun kv => decide (kv.1 = k)) = true then kvs.map (fun kv => if kv.1 = k then (kv.1, v) else kv) else kvs ++ [(k, v)]

theorem valV_pos {p : κ × V} {r : List (κ × V)} {k : κ} (e : p.1 = k) : valV (p :: r) k = some p.2 := by simp [valV, List.find?_cons, e]
theorem valV_neg {p : κ × V} {r : List (κ × V)} {k : κ} (e : ¬ p.1 = k) : valV (p :: r) k = valV r k := by simp [valV, List.find?_cons, e]
theorem valV_any (k : κ) : ∀ kvs : List (κ × V), (kvs.any fun kv => decide (kv.1 = k)) = (valV kvs k).isSome
  | [] => rfl
  | p :: r => by
    rw [List.any_cons]
    by_cases e : p.1 = k
    · simp only [valV_pos e, decide_eq_true e, Bool.true_or, Option.isSome_some]
    · rw [valV_neg e, decide_eq_false e, Bool.false_or]; exact valV_any k r
theorem length_putK (kvs : List (κ × V)) (k : κ) (v : V) : (putK kvs k v).length ≤ kvs.length + 1 := by
  unfold putK
  split
  · rw [List.length_map]; omega
  · rw [List.length_append, List.length_cons, List.length_nil]; omega
theorem putK_new {kvs : List (κ × V)} {k : κ} (v : V) (h : valV kvs k = none) : putK kvs k v = kvs ++ [(k, v)] := by
  unfold putK
  rw [valV_any, h]
  exact if_neg (by decide)

theorem RelO.isSome_eq {o : Option V} {u : Option Value} (r : RelO o u) : o.isSome = u.isSome := by
  cases o with
  | none => cases u with
    | none => rfl
    | some _ => exact (show False from r).elim
  | some _ => cases u with
    | none => exact (show False from r).elim
    | some _ => rfl

/-- raw tables of the same keys -/
theorem KV.val {kvs : List (κ × V)} {vs : List (κ × Value)} (r : KV kvs vs) (k : κ) : RelO (valV kvs k) (valueAt vs k) := by
  unfold KV at r
  induction r with
  | nil => exact True.intro
  | @cons p q ps qs h t ih =>
    obtain ⟨h1, h2⟩ := h
    by_cases e : p.1 = k
    · have e' : q.1 = k := h1.symm.trans e
      have b : valueAt (q :: qs) k = some q.2 := by simp [valueAt, List.find?_cons, e']
      rw [valV_pos e, b]; exact h2
    · have e' : ¬ q.1 = k := fun z => e (h1.trans z)
      have b : valueAt (q :: qs) k = valueAt qs k := by simp [valueAt, List.find?_cons, e']
      rw [valV_neg e, b]; exact ih
theorem KV.any {kvs : List (κ × V)} {vs : List (κ × Value)} (r : KV kvs vs) (k : κ) : (kvs.any fun kv => decide (kv.1 = k)) = vs.any fun kv => decide (kv.1 = k) := by
  unfold KV at r
  induction r with
  | nil => rfl
  | cons h t ih => rw [List.any_cons, List.any_cons, ih, h.1]
theorem KV.repl {kvs : List (κ × V)} {vs : List (κ × Value)} (r : KV kvs vs) (k : κ) {y : V} {u : Value} (ry : RelV y u) :
    KV (kvs.map fun kv => if kv.1 = k then (kv.1, y) else kv) (vs.map fun kv => if kv.1 = k then (kv.1, u) else kv) := by
  unfold KV at r ⊢
  induction r with
  | nil => exact .nil
  | @cons p q ps qs h t ih =>
    rw [List.map_cons, List.map_cons]
    refine .cons ?_ ih
    obtain ⟨h1, h2⟩ := h
    by_cases e : p.1 = k
    · rw [if_pos e, if_pos (h1.symm.trans e)]; exact ⟨h1, ry⟩
    · rw [if_neg e, if_neg (fun z => e (h1.trans z))]; exact ⟨h1, h2⟩
theorem KV.put {kvs : List (κ × V)} {vs : List (κ × Value)} (r : KV kvs vs) (k : κ) {y : V} {u : Value} (ry : RelV y u) : KV (putK kvs k y) (stored vs k u) := by
  unfold putK stored
  rw [r.any k]
  by_cases e : (vs.any fun kv => decide (kv.1 = k)) = true
  · rw [if_pos e, if_pos e]; exact r.repl k ry
  · rw [if_neg e, if_neg e]; exact Paired.snoc r ⟨rfl, ry⟩
theorem KV.length {kvs : List (κ × V)} {vs : List (κ × Value)} (r : KV kvs vs) : kvs.length = vs.length := Paired.length r
end


/-! ### a tracked dict, its keys ints and texts or tuples of these -/
theorem kV_is {P : Program} {w : World} {k : Key} {u : Value} (r : RelV (kV k) u) : (mixKind P w).is k u = true := by
  cases k with
  | inl i => obtain ⟨t, e⟩ := (show ∃ t, u = Value.int i t from r); subst e; exact mixKind_int P w i t
  | inr x => obtain ⟨t, e⟩ := (show ∃ t, u = Value.str x t from r); subst e; exact mixKind_str P w x t
theorem items_are {P : Program} {w : World} : ∀ {ks : List Key} {us : List Value}, Vals (ks.map kV) us → ItemsAre (mixKind P w) ks us
  | [], _, r => by rw [List.map_nil] at r; cases r; exact .nil
  | k :: ks, _, r => by
    rw [List.map_cons] at r
    cases r with
    | cons h t => exact .cons (kV_is h) (items_are t)

/-- raw entries of a dict with tuple keys -/
abbrev KT (H : Hp) : List (List Key × V) → List (List Key × Addr × Value) → Prop := Paired fun p q => p.1 = q.1 ∧ H q.2.1 = some (.tup (p.1.map kV)) ∧ RelV p.2 q.2.2
theorem KT.val {H : Hp} {kvs : List (List Key × V)} {xs : List (List Key × Addr × Value)} (r : KT H kvs xs) (k : List Key) : RelO (valV kvs k) ((atKey xs k).map (·.2)) := by
  induction r with
  | nil => exact True.intro
  | @cons p q ps qs h t ih =>
    obtain ⟨h1, _, h2⟩ := h
    by_cases e : p.1 = k
    · have e' : q.1 = k := h1.symm.trans e
      have b : atKey (q :: qs) k = some q.2 := by simp [atKey, List.find?_cons, e']
      rw [valV_pos e, b]; exact h2
    · have e' : ¬ q.1 = k := fun z => e (h1.trans z)
      have b : atKey (q :: qs) k = atKey qs k := by simp [atKey, List.find?_cons, e']
      rw [valV_neg e, b]; exact ih
theorem KT.repl {H : Hp} {kvs : List (List Key × V)} {xs : List (List Key × Addr × Value)} (r : KT H kvs xs) (k : List Key) {y : V} {u : Value} (ry : RelV y u) :
    KT H (kvs.map fun kv => if kv.1 = k then (kv.1, y) else kv) (xs.map (putAt k u)) := by
  induction r with
  | nil => exact .nil
  | @cons p q ps qs h t ih =>
    rw [List.map_cons, List.map_cons]
    refine .cons ?_ ih
    obtain ⟨h1, h2, h3⟩ := h
    unfold putAt
    by_cases e : p.1 = k
    · rw [if_pos e, if_pos (h1.symm.trans e)]; exact ⟨h1, h2, ry⟩
    · rw [if_neg e, if_neg (fun z => e (h1.trans z))]; exact ⟨h1, h2, h3⟩
theorem KT.put {H : Hp} {kvs : List (List Key × V)} {xs : List (List Key × Addr × Value)} (r : KT H kvs xs) (k : List Key) {b : Addr} {y : V} {u : Value} (hb : H b = some (.tup (k.map kV))) (ry : RelV y u) :
    KT H (putK kvs k y) (storedH xs k b u) := by
  have e : (kvs.any fun kv => decide (kv.1 = k)) = (atKey xs k).isSome := by
    rw [valV_any, (r.val k).isSome_eq, Option.isSome_map]
  unfold putK storedH
  rw [e]
  by_cases q : (atKey xs k).isSome = true
  · rw [if_pos q, if_pos q]; exact r.repl k ry
  · rw [if_neg q, if_neg q]; exact Paired.snoc r ⟨rfl, hb, ry⟩
theorem KT.keeps {H H' : Hp} {kvs : List (List Key × V)} {xs : List (List Key × Addr × Value)} (r : KT H kvs xs) (ht : ∀ b ys, H b = some (.tup ys) → H' b = some (.tup ys)) : KT H' kvs xs :=
  Paired.mapP r fun _ _ z => ⟨z.1, ht _ _ z.2.1, z.2.2⟩

section
variable {P : Program} {w : World} {H : Hp} {h : Heap} {a : Addr}
theorem rd_of {u : HO} (ok : HOk P w H h) (e : Rd H a u) : ObjOk P w H h a u := e.ok ok
theorem dk_rd {kvs : List (Key × V)} (ok : HOk P w H h) (e : Rd H a (.dK kvs)) : kvs.length ≤ sizeLine ∧ (a == sysModules) = false ∧ ∃ vs, KV kvs vs ∧ h.DictOf (mixKind P w) a vs :=
  show ObjOk P w H h a (.dK kvs) from rd_of ok e
theorem dk_of {kvs : List (Key × V)} (ok : HOk P w H h) (e : H a = some (.dK kvs)) : kvs.length ≤ sizeLine ∧ (a == sysModules) = false ∧ ∃ vs, KV kvs vs ∧ h.DictOf (mixKind P w) a vs := dk_rd ok (.inl e)
/-- a tracked tuple of ints and texts is a key -/
theorem key_of {ks : List Key} (ok : HOk P w H h) (e : H a = some (.tup (ks.map kV))) : (tupleKind (mixKind P w)).is h ks a := by
  obtain ⟨_, its, r, o, h1, h2, n, h3⟩ := (show ObjOk P w H h a (.tup (ks.map kV)) from ok a _ e)
  exact ⟨o, its.toArray, n, h1, h2, h3, by simpa using items_are r⟩
theorem dt_rd {kvs : List (List Key × V)} (ok : HOk P w H h) (e : Rd H a (.dT kvs)) : kvs.length ≤ sizeLine ∧ (a == sysModules) = false ∧
    ∃ xs, KT H kvs xs ∧ h.DictOfH (tupleKind (mixKind P w)) a xs := by
  obtain ⟨z, y, xs, r, o, es, ep, h1, h2, h3, h4, h5⟩ := (show ObjOk P w H h a (.dT kvs) from rd_of ok e)
  refine ⟨z, y, xs, r, o, es, ep, h1, h2, h3, h4, fun x hx => ?_, h5⟩
  have all : ∀ {l : List (List Key × V)} {m : List (List Key × Addr × Value)}, KT H l m → ∀ x ∈ m, (tupleKind (mixKind P w)).is h x.1 x.2.1 := by
    intro l m q
    induction q with
    | nil => intro x hx; exact nomatch hx
    | @cons p q ps qs hq t ih =>
      intro x hx
      rcases List.mem_cons.mp hx with e | hx
      · subst e
        exact key_of ok (by rw [← hq.1]; exact hq.2.1)
      · exact ih x hx
  exact all r x hx
theorem dt_of {kvs : List (List Key × V)} (ok : HOk P w H h) (e : H a = some (.dT kvs)) : kvs.length ≤ sizeLine ∧ (a == sysModules) = false ∧
    ∃ xs, KT H kvs xs ∧ h.DictOfH (tupleKind (mixKind P w)) a xs := dt_rd ok (.inl e)
end

/-- what the dict at a holds at the key y -/
def DGet (H : Hp) (a : Addr) (y : V) (r : Option V) : Prop :=
  (∃ kvs k, Rd H a (.dK kvs) ∧ y = kV k ∧ r = valV kvs k) ∨ ∃ kvs k b, Rd H a (.dT kvs) ∧ y = .ref b ∧ H b = some (.tup (k.map kV)) ∧ r = valV kvs k
/-- the heap behind a[y] = v -/
def DPut (H : Hp) (a : Addr) (y v : V) (H' : Hp) : Prop :=
  (∃ kvs k, H a = some (.dK kvs) ∧ y = kV k ∧ kvs.length < sizeLine ∧ H' = upd H a (.dK (putK kvs k v))) ∨
  ∃ kvs k b, H a = some (.dT kvs) ∧ y = .ref b ∧ H b = some (.tup (k.map kV)) ∧ kvs.length < sizeLine ∧ H' = upd H a (.dT (putK kvs k v))
theorem DPut.k {H : Hp} {a : Addr} {kvs : List (Key × V)} {k : Key} {v : V} (e : H a = some (.dK kvs)) (hl : kvs.length < sizeLine) : DPut H a (kV k) v (upd H a (.dK (putK kvs k v))) := .inl ⟨kvs, k, e, rfl, hl, rfl⟩


section
variable {X : Cx} {pins : List (Addr × Obj)} {σ : St} {H : Hp} {s : Shared} {a : Addr} {y v : V} {u r : Value} {o : Option V} {A : Around} {E : Value → Shared → Prop}

theorem Inv.big (I : Inv X pins σ H s) : sysModules < s.heap.objs.size := by
  have h : mainGlobals < s.heap.objs.size := (I.mod.glob.keeps I.bk).lt
  exact Nat.lt_trans (by decide) h

/-- d[y], there -/
theorem d_getItem {Q : Value → Shared → Prop} (hu : A.units + 1 < cLine) (I : Inv X pins σ H s) (g : DGet H a y (some v)) (ry : RelV y u) (h : ∀ w' s', Inv X pins σ H s' → RelV v w' → Q w' s') :
    wpAny (model X.prog X.w) A (getItem (.ref a) u) Q E s := by
  rcases g with ⟨kvs, k, e, ey, l⟩ | ⟨kvs, k, b, e, ey, eb, l⟩
  · subst ey
    obtain ⟨z, hd, vs, rel, dd⟩ := dk_rd I.hok e
    obtain ⟨w', hw, rw'⟩ := RelO.some_of (v := v) (o := valueAt vs k) (by rw [l]; exact rel.val k)
    exact wpAny_getItem_of (kV_is ry) dd.mapOf hw (h w' _ (I.tok _) rw')
  · subst ey
    cases (show u = Value.ref b from ry)
    obtain ⟨z, hd, xs, rel, dd⟩ := dt_rd I.hok e
    obtain ⟨w', hw, rw'⟩ := RelO.some_of (v := v) (o := (atKey xs k).map (·.2)) (by rw [l]; exact rel.val k)
    obtain ⟨p, hp, hp2⟩ := Option.map_eq_some_iff.mp hw
    refine wpAny_getItem_heap (tupleKind_room_in1 hu) (key_of I.hok eb) dd hp ?_
    rw [hp2]
    exact h w' _ (I.tok _) rw'
/-- a dict's object is replaced -/
theorem d_write {h' : Heap} {t' : Nat} {ob : HO} (I : Inv X pins σ H s) (mu : Mut (H a)) (hs : Heap.SameBut a s.heap h') (he : ∃ q, h'.get? a = some q) (new : ObjOk X.prog X.w (upd H a ob) h' a ob) :
    Inv X pins σ (upd H a ob) { s with heap := h', toks := t' } :=
  I.write (x := a) (e := a) mu (.inl rfl) (fun b q hb z => (hs.2 b hb).trans z) he new
theorem dk_new {P : Program} {w : World} {H' : Hp} {h' : Heap} {kvs : List (Key × V)} {vs : List (Key × Value)} (z : kvs.length ≤ sizeLine) (hd : (a == sysModules) = false) (rel : KV kvs vs) (dd : h'.DictOf (mixKind P w) a vs) :
    ObjOk P w H' h' a (.dK kvs) := ⟨z, hd, vs, rel, dd⟩
/-- d[y] = v -/
theorem d_setItem {H' : Hp} {Q : Unit → Shared → Prop} (hu : A.units + 1 < cLine) (I : Inv X pins σ H s) (g : DPut H a y v H') (ry : RelV y u) (rv : RelV v r) (h : ∀ s', Inv X pins σ H' s' → Q () s') :
    wpAny (model X.prog X.w) A (setItem (.ref a) u r) Q E s := by
  rcases g with ⟨kvs, k, e, ey, l, eH⟩ | ⟨kvs, k, b, e, ey, eb, l, eH⟩
  · subst ey eH
    obtain ⟨z, hd, vs, rel, dd⟩ := dk_of I.hok e
    have hz : vs.length ≤ sizeLine := by rw [← rel.length]; exact z
    have hl : (putK kvs k v).length ≤ sizeLine := by have := length_putK kvs k v; omega
    refine wpAny_setItem_pairs (hsz := hz) (kV_is ry) dd fun h' dd' hs => h _ ?_
    have he : ∃ q, h'.get? a = some q := let ⟨q, _, _, hq, _⟩ := dd'; ⟨q, hq⟩
    exact d_write I (by rw [e]; exact True.intro) hs he (dk_new hl hd (rel.put k rv) dd')
  · subst ey eH
    cases (show u = Value.ref b from ry)
    obtain ⟨z, hd, xs, rel, dd⟩ := dt_of I.hok e
    have hz : xs.length ≤ sizeLine := by rw [← Paired.length rel]; exact z
    have hl : (putK kvs k v).length ≤ sizeLine := by have := length_putK kvs k v; omega
    refine wpAny_setItem_heap (hsz := hz) (tupleKind_room_in1 hu) (key_of I.hok eb) dd fun h' dd' hs => h _ ?_
    obtain ⟨q, es, ep, hq, h2, h3, h4, _, h5⟩ := dd'
    refine d_write I (by rw [e]; exact True.intro) hs ⟨q, hq⟩ ⟨hl, hd, _, (rel.put k eb rv).keeps fun c ys ec => ?_, q, es, ep, hq, h2, h3, h4, h5⟩
    rw [upd_ne (ne_of ec e (fun z => nomatch z))]
    exact ec
end

section
variable {X : Cx} {pins : List (Addr × Obj)} {σ : St} {H : Hp} {s : Shared} {a : Addr} {kvs : List (Key × V)} {k : Key} {u : Value} {A : Around} {E : Value → Shared → Prop}
/-- len(d) -/
theorem d_len {Q : Value → Shared → Prop} (I : Inv X pins σ H s) (e : Rd H a (.dK kvs)) (h : ∀ t s', Inv X pins σ H s' → Q (.int kvs.length t) s') : wpAny (model X.prog X.w) A (call (.builtin "len") [.ref a]) Q E s := by
  obtain ⟨z, hd, vs, rel, dd⟩ := dk_rd I.hok e
  refine call_len_dict hd dd (by rw [← rel.length]; rw [sizeLine_eq] at z; omega) ?_
  rw [← rel.length]
  exact h _ _ (I.tok _)
end


/-! ### readings and rules -/
/-- the element of a subscription, not a slice -/
def NoSl (i : Expr) : Prop := ∀ ov iv, subscripted i false ov iv = operate [ov, iv] (getItem ov iv)
theorem subD_of {prog : Program} {w : World} {A : Around} {E : Value → Shared → Prop} {s : Shared} {env : Env} {value slice : Expr} {pos : Pos} {T id : String} {Q : Value → Shared → Prop}
    (hl : typeLookup (.type T) "__getitem__" = pure (some (.builtin id))) (hs : NoSl slice)
    (h : wpAny (model prog w) A (eval value env) (fun o s₁ => wpAny (model prog w) A (eval slice env) (fun i s₂ => s₂.TypeIs o T ∧ wpAny (model prog w) A (getItem o i) Q E s₂) E s₁) E s) :
    wpAny (model prog w) A (eval (.Subscript value slice pos) env) Q E s := by
  refine Subscript_ (wpAny_mono h (fun o s₁ h₁ => wpAny_mono h₁ (fun i s₂ h₂ => ?_) fun _ _ x => x) fun _ _ x => x)
  obtain ⟨hT, h₂⟩ := h₂
  unfold subscriptTail
  refine wpAny_bind ?_
  rw [getitemInPython_of_ne hT.not_modules]
  refine wpAny_bind (wpAny_specialOf hT hl ?_)
  have fin : wpAny (model prog w) A (subscripted slice false o i) (fun r s₃ => wpAny (model prog w) A (letTemporaryGo value o r >>= fun _ => pure r) Q E s₃) E s₂ := by
    rw [hs o i]
    exact wpAny_operating (wpAny_mono h₂ (fun r s₃ h₃ => wpAny_bind (wpAny_letTemporaryGo (wpAny_pure h₃))) fun _ _ x => x)
  first
    | exact wpAny_pure (wpAny_bind fin)
    | exact wpAny_bind (wpAny_pure (wpAny_bind fin))
    | exact wpAny_bind fin

theorem dict_typeIs {X : Cx} {pins : List (Addr × Obj)} {σ : St} {H : Hp} {s : Shared} {a : Addr} {y : V} {o : Option V} (I : Inv X pins σ H s) (g : DGet H a y o) : s.TypeIs (.ref a) "dict" := by
  rcases g with ⟨kvs, k, e, _, _⟩ | ⟨kvs, k, b, e, _, _, _⟩
  · obtain ⟨_, _, vs, _, dd⟩ := dk_rd I.hok e
    exact dd.typeIs
  · obtain ⟨_, _, xs, _, dd⟩ := dt_rd I.hok e
    exact dd.typeIs

/-- d[y] -/
def tDGet (td ty : TE) : TE := fun σ H Q => td σ H fun x H1 => ty σ H1 fun y H2 => ∃ a v, x = .ref a ∧ DGet H2 a y (some v) ∧ Q v H2
/-- d[y] = v -/
def sDPut (td ty tv : TE) : TS := fun D σ H => tv σ H fun v H1 => td σ H1 fun x H2 => ty σ H2 fun y H3 => ∃ a H4, x = .ref a ∧ DPut H3 a y v H4 ∧ D.nx σ H4

section
variable {X : Cx} {o i e value : Expr} {pos pos' tpos : Pos} {td ty tv : TE}
theorem pe_dget (hu : X.A.units + 1 < cLine) (ho : PE X o td) (hi : PE X i ty) (hs : NoSl i) : PE X (.Subscript o i pos) (tDGet td ty) := by
  intro pins s σ H Q I h
  refine subD_of PySem.F.slot_dict_getitem.lookup hs (thn (ho pins s σ H _ I h) fun u s1 ⟨x, H1, I1, rx, q1⟩ => thn (hi pins s1 σ H1 _ I1 q1) fun iv s2 ⟨y, H2, I2, ry, a, v, ex, g, q2⟩ => ?_)
  subst ex
  obtain rfl : u = Value.ref a := rx
  exact ⟨dict_typeIs I2 g, d_getItem hu I2 g ry fun w' s3 I3 rw' => ⟨v, H2, I3, rw', q2⟩⟩
theorem ps_dput (hu : X.A.units + 1 < cLine) (ho : PE X o td) (hi : PE X i ty) (hv : PE X value tv) (hs : swapsWith value (some (.Subscript o i pos')) pos.line X.env = pure false) :
    PS X (.Assign [.Subscript o i pos'] value pos) (sDPut td ty tv) := by
  intro pins s σ H D I h
  refine wpAny_Assign_Subscript (thn (hv pins s σ H _ I h) fun r s1 ⟨v, H1, I1, rv, q1⟩ => thn (ho pins s1 σ H1 _ I1 q1) fun u s2 ⟨x, H2, I2, rx, q2⟩ => thn (hi pins s2 σ H2 _ I2 q2) fun iv s3 ⟨y, H3, I3, ry, a, H4, ex, g, q3⟩ => ?_) hs
  subst ex
  obtain rfl : u = Value.ref a := rx
  exact d_setItem hu I3 g ry rv fun s4 I4 => ⟨σ, H4, I4, q3⟩
end


/-! ### displays -/
theorem dk_empty {P : Program} {w : World} {H : Hp} (h : Heap) (hb : sysModules < h.objs.size) : ObjOk P w H (h.push { cls := .type "dict", data := .dict #[] }) h.objs.size (.dK []) :=
  ⟨Nat.zero_le _, beq_eq_false_iff_ne.mpr (Ne.symm (Nat.ne_of_lt hb)), [], .nil, Heap.DictOf.new h⟩
/-- {}, to be a dict of the kind that is wanted -/
def tDNewK : TE := fun _ H Q => ∀ p, H p = none → Q (.ref p) (upd H p (.dK []))
section
variable {X : Cx} {pos : Pos}
theorem pe_dnewK : PE X (.Dict [] [] pos) tDNewK := fun pins s σ H Q I h =>
  wpAny_Dict_empty ⟨.ref s.heap.objs.size, _, I.laid (a := s.heap.objs.size) (o := .dK []) (t' := s.toks) (fun _ _ q => Heap.get?_push_of_some _ q) (Nat.le_refl _) (dk_empty s.heap I.big), rfl, h _ (I.hok.fresh (Nat.le_refl _))⟩
end




/-! ### methods -/


section
variable {X : Cx} {pins : List (Addr × Obj)} {σ : St} {H : Hp} {s : Shared} {a : Addr} {y d : V} {u r : Value} {o : Option V} {A : Around} {E : Value → Shared → Prop}
end

section
variable {X : Cx} {o e f : Expr} {apos cpos : Pos} {td ty tx : TE}
end

/-! ### dict(d): a copy -/
section
variable {X : Cx} {pins : List (Addr × Obj)} {σ : St} {H : Hp} {s : Shared} {a : Addr} {kvs : List (Key × V)} {A : Around} {E : Value → Shared → Prop}
end


section
variable {X : Cx} {pins : List (Addr × Obj)} {σ : St} {H : Hp} {s : Shared} {a : Addr} {y : V} {u : Value} {A : Around} {E : Value → Shared → Prop}
end
end L2

namespace L2
open PySem PySem.Spec PyProof.Rows


section
variable {prog : Program} {w : World} {A : Around} {E : Value → Shared → Prop}


end

section
variable {X : Cx}
end
end L2

namespace L2
open PySem PySem.Spec PyProof.Rows

theorem boot_reversed5 : bootBuiltins "reversed" = some (.type "reversed") := by decide +kernel

section
variable {X : Cx} {pins : List (Addr × Obj)} {σ : St} {H : Hp} {s : Shared} {h' : Heap}
/-- several records of ours have turned -/
theorem Inv.turnedL {t' : Nat} {ch : List Addr} (I : Inv X pins σ H s) (k : ∀ b o, b ∉ ch → s.heap.get? b = some o → h'.get? b = some o) (hf : ∀ b ∈ ch, FpOk X pins H b) : Inv X pins σ H { s with heap := h', toks := t' } := by
  have nit : ∀ b u, H b = some u → b ∉ ch := fun b u e z => by
    have q := (hf b z).1
    rw [q] at e; cases e
  refine I.step (g' := s.gens) (d' := s.drawn) (ch := ch) (fun b hb => ⟨(hf b hb).2.2.2.1, (hf b hb).2.1, (hf b hb).2.2.2.2.1, (hf b hb).2.2.2.2.2⟩) (fun b o _ _ hc e _ => k b o hc e) (fun b o _ _ hc e _ => ⟨o.slots, k b o hc e⟩)
    (fun _ _ _ _ n => n) (fun b o hc e => ⟨o, k b o hc e⟩) (fun _ _ e => e) (fun _ _ _ e => e) (fun b ps e => ⟨#[], by rw [e]; simp⟩) (fun m hm => ?_) (fun b u e => ?_) I.bare
  · obtain ⟨o, es, ep, ho, r⟩ := hm
    exact ⟨o, es, ep, k _ o (fun z => (hf _ z).2.1 rfl) ho, r⟩
  · refine (I.hok b u e).stay (fun c v hc q => k c v ?_ q) (fun _ q => q) fun _ _ q => q
    rcases hc with z | z
    · rw [z]; exact nit b u e
    · exact nit c _ z
/-- .. and one new object is laid -/
theorem Inv.turnedNew {t' : Nat} {ch : List Addr} {T : Addr} {ob : HO} (I : Inv X pins σ H s) (k : ∀ b o, b ∉ ch → s.heap.get? b = some o → h'.get? b = some o) (hf : ∀ b ∈ ch, FpOk X pins H b) (hT : s.heap.objs.size ≤ T)
    (new : ObjOk X.prog X.w (upd H T ob) h' T ob) : Inv X pins σ (upd H T ob) { s with heap := h', toks := t' } := by
  have hn : H T = none := I.hok.fresh hT
  have nit : ∀ b u, H b = some u → b ∉ ch := fun b u e z => by
    have q := (hf b z).1
    rw [q] at e; cases e
  refine I.step (g' := s.gens) (d' := s.drawn) (ch := ch) (fun b hb => ⟨(hf b hb).2.2.2.1, (hf b hb).2.1, (hf b hb).2.2.2.2.1, (hf b hb).2.2.2.2.2⟩) (fun b o _ _ hc e _ => k b o hc e) (fun b o _ _ hc e _ => ⟨o.slots, k b o hc e⟩)
    (fun b o _ e n => ?_) (fun b o hc e => ⟨o, k b o hc e⟩) (fun b xs e => ?_) (fun b o u e => ?_) (fun b ps e => ⟨#[], ?_⟩) (fun m hm => ?_) (fun b u e => ?_) I.bare
  · rw [upd_ne (Nat.ne_of_lt (Nat.lt_of_lt_of_le (Heap.lt_size e) hT))]; exact n
  · rw [upd_ne (ne_of_none e hn)]; exact e
  · rw [upd_ne (ne_of_none e hn)]; exact e
  · rw [upd_ne (ne_of_none e hn), e]; simp
  · obtain ⟨o, es, ep, ho, r⟩ := hm
    exact ⟨o, es, ep, k _ o (fun z => (hf _ z).2.1 rfl) ho, r⟩
  · by_cases hb : b = T
    · subst hb
      rw [upd_same] at e
      cases e
      exact new
    · rw [upd_ne hb] at e
      refine (I.hok b u e).stay (fun c v hc q => k c v ?_ q) (fun c q => by rw [upd_ne (ne_of_none q hn)]; exact q) fun c xs q => by rw [upd_ne (ne_of_none q hn)]; exact q
      rcases hc with z | z
      · rw [z]; exact nit b u e
      · exact nit c _ z

/-! ### locking a thing while a statement runs -/
theorem Inv.lock {d : Addr} {u : HO} (I : Inv X pins σ H s) (h : H d = some u) (mu : Mut (some u)) : ∃ od, Inv X pins σ (upd H d (.frz od u)) s := by
  have x := I.hok d u h
  have ex : ∃ od, s.heap.get? d = some od := by
    cases u with
    | lst xs => obtain ⟨_, _, _, _, e⟩ := x; exact ⟨_, e⟩
    | dK kvs => obtain ⟨_, _, _, _, o, _, _, e, _⟩ := x; exact ⟨o, e⟩
    | dT kvs => obtain ⟨_, _, _, _, o, _, _, e, _⟩ := x; exact ⟨o, e⟩
    | set S n => obtain ⟨o, _, _, _, e, _⟩ := x; exact ⟨o, e⟩
    | ins C dx fs => obtain ⟨_, _, _, e, _⟩ := x; exact ⟨_, e⟩
    | ext φ => obtain ⟨_, ⟨_, e⟩, _⟩ := x; exact ⟨_, e⟩
    | _ => exact False.elim mu
  obtain ⟨od, e⟩ := ex
  have new : ObjOk X.prog X.w (upd H d (.frz od u)) s.heap d (.frz od u) := by
    refine ⟨e, x.stay (fun b v _ q => q) (fun b q => ?_) fun b xs q => ?_⟩
    · rw [upd_ne (fun z => by rw [z, h] at q; cases q; exact mu)]; exact q
    · rw [upd_ne (fun z => by rw [z, h] at q; cases q; exact mu)]; exact q
  exact ⟨od, I.write (x := d) (e := d) (t' := s.toks) (h' := s.heap) (by rw [h]; exact mu) (.inl rfl) (fun b v _ q => q) ⟨od, e⟩ new⟩
theorem Inv.nofrz {d : Addr} {u : HO} (I : Inv X pins σ H s) (h : H d = some u) (mu : Mut (some u)) : ∀ o' u', X.H_0 d ≠ some (.frz o' u') := fun o' u' e => by
  have q := I.base.frzs d o' u' e
  rw [h] at q
  cases q
  exact mu
theorem Inv.unlock {d : Addr} {od : Obj} {u : HO} (I : Inv X pins σ H s) (h : H d = some (.frz od u)) (hn : ∀ o' u', X.H_0 d ≠ some (.frz o' u')) : Inv X pins σ (upd H d u) s := by
  have neH : ∀ b o, H b = some o → (∀ o' u', o ≠ .frz o' u') → b ≠ d := fun b o e hne z => by
    rw [z, h] at e
    cases e
    exact hne _ _ rfl
  have neN : ∀ b, H b = none → b ≠ d := fun b e z => by rw [z, h] at e; cases e
  refine ⟨I.ok, I.os, I.bare, ⟨I.base.keep, I.base.slot, fun b o e n hx => ?_, I.base.there, fun b xs e => ?_, fun b o x e => ?_, fun b ps e => ?_⟩, I.loc, I.cell, ?_, fun x c e => ?_, fun p hp => ?_, fun b o e => ?_, I.len⟩
  · rw [upd_ne (neN b (I.base.free b o e n hx))]; exact I.base.free b o e n hx
  · have q := I.base.tups b xs e
    rw [upd_ne (neH b _ q (fun _ _ z => nomatch z))]; exact q
  · have q := I.base.frzs b o x e
    rw [upd_ne (fun z => by rw [z] at e; exact hn _ _ e)]; exact q
  · obtain ⟨m, q⟩ := I.base.tbls b ps e
    exact ⟨m, by rw [upd_ne (neH b _ q (fun _ _ z => nomatch z))]; exact q⟩
  · rw [upd_ne (neN _ I.free)]; exact I.free
  · rw [upd_ne (neN c (I.freeC x c e))]; exact I.freeC x c e
  · obtain ⟨e, n, r⟩ := I.pin p hp
    exact ⟨e, by rw [upd_ne (neN _ n)]; exact n, r⟩
  · by_cases hb : b = d
    · rw [hb, upd_same] at e
      cases e
      rw [hb]
      obtain ⟨_, x⟩ := I.hok d _ h
      exact x.stay (fun c v _ q => q) (fun c q => by rw [upd_ne (neH c _ q (fun _ _ z => nomatch z))]; exact q) fun c xs q => by rw [upd_ne (neH c _ q (fun _ _ z => nomatch z))]; exact q
    · rw [upd_ne hb] at e
      exact (I.hok b o e).stay (fun c v _ q => q) (fun c q => by rw [upd_ne (neH c _ q (fun _ _ z => nomatch z))]; exact q) fun c xs q => by rw [upd_ne (neH c _ q (fun _ _ z => nomatch z))]; exact q
end
/-- the statement runs while the thing at d is locked (read, not written); d and what stands there are the reading's choice -/
def tLock (t : TS) : TS := fun D σ H => ∃ d u, H d = some u ∧ Mut (some u) ∧ ∀ od, t ⟨fun σ' H' => H' d = some (.frz od u) ∧ D.nx σ' (upd H' d u), fun v H' => H' d = some (.frz od u) ∧ D.rt v (upd H' d u), fun σ' H' => H' d = some (.frz od u) ∧ D.bk σ' (upd H' d u), fun σ' H' => H' d = some (.frz od u) ∧ D.ct σ' (upd H' d u)⟩ σ (upd H d (.frz od u))
def tLockE (t : TE) : TE := fun σ H Q => ∃ d u, H d = some u ∧ Mut (some u) ∧ ∀ od, t σ (upd H d (.frz od u)) fun v H' => H' d = some (.frz od u) ∧ Q v (upd H' d u)
section
variable {X : Cx}
theorem ps_lock {st : Stmt} {t : TS} (h : PS X st t) : PS X st (tLock t) := by
  intro pins s σ H D I hw
  obtain ⟨d, u, hd, mu, hw⟩ := hw
  obtain ⟨od, I1⟩ := I.lock hd mu
  refine thn (h pins s σ _ _ I1 (hw od)) fun f s1 q => ?_
  cases f with
  | next => obtain ⟨σ', H', I2, e, q⟩ := q; exact ⟨σ', _, I2.unlock e (I.nofrz hd mu), q⟩
  | brk => obtain ⟨σ', H', I2, e, q⟩ := q; exact ⟨σ', _, I2.unlock e (I.nofrz hd mu), q⟩
  | cont => obtain ⟨σ', H', I2, e, q⟩ := q; exact ⟨σ', _, I2.unlock e (I.nofrz hd mu), q⟩
  | ret v => obtain ⟨x, σ', H', I2, r, e, q⟩ := q; exact ⟨x, σ', _, I2.unlock e (I.nofrz hd mu), r, q⟩
theorem pe_lock {e : Expr} {t : TE} (h : PE X e t) : PE X e (tLockE t) := by
  intro pins s σ H Q I hw
  obtain ⟨d, u, hd, mu, hw⟩ := hw
  obtain ⟨od, I1⟩ := I.lock hd mu
  refine thn (h pins s σ _ _ I1 (hw od)) fun v s1 ⟨x, H1, I2, r, e2, q⟩ => ?_
  exact ⟨x, _, I2.unlock e2 (I.nofrz hd mu), r, q⟩

/-! ### one iterator just laid -/
theorem pi_one {tg : Expr} {pins : List (Addr × Obj)} {σ : St} {H : Hp} {s : Shared} {R : It → Hp → Prop} {J : It} {tn : Nat → Heap → Prop} {tk : Nat} (I : Inv X pins σ H s) (o : Obj)
    (T : Turn X.prog X.w X.K tg J [s.heap.objs.size] s.heap.objs.size tn) (st : tn 0 (s.heap.push o)) (q : R J H) : PIE X pins σ tg R (.ref s.heap.objs.size) { s with heap := s.heap.push o, toks := tk } := by
  refine ⟨s.heap.objs.size, [s.heap.objs.size], tn, J, H, rfl, I.kept fun b ob e => Heap.get?_push_of_some _ e, T, st, fun b hb => ?_, q⟩
  have e : b = s.heap.objs.size := by simpa using hb
  subst e
  exact I.fpOk (Nat.le_refl _) (I.hok.fresh (Nat.le_refl _))
end

/-! ### range with a step -/
section
variable {X : Cx} {tg : Expr}
end

/-! ### reversed(list) -/
/-- the list at a (n items at the start, which the loop leaves there), from its end -/
def Itv (K : PySem.W.Frag) (a : Addr) (n : Nat) : It :=
  ⟨fun i H => i < n ∧ ∃ (xs : List V) (x : V), SqL K H a xs ∧ xs[n - 1 - i]? = some x, fun i H x H' => H' = H ∧ ∀ xs, SqL K H a xs → xs[n - 1 - i]? = some x, fun i _ => n ≤ i⟩
theorem turn_rev {P : Program} {w : World} {K : PySem.W.Frag} {tg : Expr} (a it : Addr) (n : Nat) : Turn P w K tg (Itv K a n) [it] it (fun i h => i ≤ n ∧ h.IsRevIter it a ((n : Int) - 1 - (i : Nat))) where
  mem := by simp
  obj := fun i h st b hb => by
    have e : b = it := by simpa using hb
    subst e
    obtain ⟨_, o, e, c, d⟩ := st
    exact ⟨o, e, fun v z => by rw [d] at z; cases z⟩
  keep := fun i h h' st k => ⟨st.1, st.2.at fun o e => k it (by simp) o e⟩
  item := by
    intro X hP hw hK hc i pins s σ H E I hf st hg
    subst hP hw hK
    obtain ⟨hin, xs, x, hq, hx⟩ := hg
    obtain ⟨its, rv, p, hz⟩ := I.list hq
    obtain ⟨u, hu, ru⟩ := rv.get hx
    obtain ⟨f0, f1, f2, f3, f4, f5⟩ := hf it (by simp)
    obtain ⟨_, hit⟩ := st
    have e1 : (n : Int) - 1 - ((i : Nat) : Int) = ((n - 1 - i : Nat) : Int) := by omega
    rw [e1] at hit
    refine wpAny_pyNext_rev_item hit p.isList (x := u) (by simpa using hu) fun h' st' sb => ?_
    have e2 : ((n - 1 - i : Nat) : Int) - 1 = (n : Int) - 1 - ((i + 1 : Nat) : Int) := by omega
    rw [e2] at st'
    have I1 : Inv X pins σ H { s with heap := h' } := I.turned (t' := s.toks) (fun b o hb e => (sb.2 b hb).trans e) f0 f1 f3 f4 f5
    obtain ⟨o, e, c, d⟩ := id st'
    exact ⟨u, rfl, go_of (s := { s with heap := h' }) e c d (by decide) ⟨x, H, I1, ru, ⟨rfl, fun ys hy => by rw [I.list_inj hy hq]; exact hx⟩, ⟨hin, st'⟩, fun b hb => (hf b hb).1⟩⟩
  done := by
    intro X hP hw hK hc i pins s σ H E I hf st hg
    subst hP hw hK
    obtain ⟨f0, f1, f2, f3, f4, f5⟩ := hf it (by simp)
    obtain ⟨hin, hit⟩ := st
    have hge : n ≤ i := hg
    have e1 : (n : Int) - 1 - ((i : Nat) : Int) = -1 := by omega
    rw [e1] at hit
    exact wpAny_pyNext_rev_end (I.ok.hd hc) hit fun h' eb => ⟨rfl, I.turned (t' := s.toks) (fun b o hb e => eb b o hb e) f0 f1 f3 f4 f5⟩
  self := fun A i s Q E st h => wpAny_pyIter_revIter st.2 h
def iRev (K : PySem.W.Frag) (ta : TA) : TI := fun σ H R => ta σ H fun vs H1 => ∃ (a : Addr) (xs : List V), vs = [.ref a] ∧ SqL K H1 a xs ∧ R (Itv K a xs.length) H1
section
variable {X : Cx} {tg : Expr}
theorem pi_reversed {e : Expr} {ta : TA} {p pos : Pos} (hg : Gl X "reversed") (hm : X.mg "reversed" = none) (ha : PA X [e] ta) (hs : starEach [e] X.env = [(false, eval e X.env)] := by rfl) : PI X tg (.Call (.Name "reversed" p) [e] [] pos) (iRev X.K ta) := by
  intro pins s σ H R I h
  refine Call_ (ld_blt I hg hm boot_reversed5 (PyProof.Rows.callWith_type1 (thn (ha pos pins s σ H _ I h) fun us s1 ⟨vs, H1, I1, r1, q1⟩ => ?_) hs rfl))
  obtain ⟨a, xs, e, hq, q⟩ := q1
  subst e
  cases r1 with
  | cons r rr =>
    cases rr
    cases r
    obtain ⟨its, rv, p', hz⟩ := I1.list hq
    have hl := rv.length
    have e1 : ((its.toArray.size : Nat) : Int) - 1 = (xs.length : Int) - 1 - ((0 : Nat) : Int) := by simp only [List.size_toArray]; omega
    refine call_reversed_list p'.isList (wpAny_pyIter_revIter (l := a) (i := ((its.toArray.size : Nat) : Int) - 1) ⟨_, Heap.get?_push_size _ rfl, rfl, rfl⟩ ?_)
    refine pi_one (tk := s1.toks) I1 _ (turn_rev a _ xs.length) ⟨Nat.zero_le _, ?_⟩ q
    rw [← e1]
    exact ⟨_, Heap.get?_push_size _ rfl, rfl, rfl⟩
end

/-! ### a str -/

/-! ### a dict's keys: any dict's entries -/
section
variable {prog : Program} {w : World} {A : Around} {E : Value → Shared → Prop} {s : Shared}
theorem iter_keys {d : Addr} {o : Obj} {es : Array DictEntry} {ep : Nat} {Q : Value → Shared → Prop} (hd : (d == sysModules) = false) (ho : s.heap.get? d = some o) (hc : o.ExactDict) (hdat : o.data = .dict es ep)
    (hQ : Q (.ref s.heap.objs.size) { s with heap := s.heap.push { cls := .type "dict_keyiterator", data := .fields #[.ref d, .int 0 0, .int es.size 0, .int ep 0] } }) :
    wpAny (model prog w) A (pyIter (.ref d)) Q E s := by
  have hT : s.TypeIs (.ref d) "dict" := ⟨o, ho, hc.1⟩
  refine wpAny_pyIter_slot hT F.slot_dict_iter (wpAny_call_entry F.slot_dict_iter hT F.entry_dict_iter ?_ (F.args_dict_iter_1 _))
  unfold Builtin.«dict.__iter__»
  refine wpAny_bind ?_
  unfold Builtin.Dict.dictSlotNone
  refine wpAny_bind (wpAny_notOrdered_dict hT ?_)
  show wpAny _ _ (pure (Value.ref d)) _ _ s
  refine wpAny_pure ?_
  show wpAny _ _ (Builtin.Dict.showsAll d >>= _) _ _ s
  unfold Builtin.Dict.showsAll
  rw [if_neg (by rw [hd]; exact Bool.false_ne_true)]
  refine wpAny_bind (wpAny_pure ?_)
  refine wpAny_bind (wpAny_dictEntries ho hdat ?_)
  refine wpAny_bind (wpAny_dictEpoch ho hdat ?_)
  refine wpAny_bind (wpAny_newObj_type (wpAny_pure ⟨_, rfl, "dict_keyiterator", _, ⟨_, Heap.get?_push_size _ rfl, rfl⟩, F.slot_dict_keyiterator_next.lookup, ?_⟩))
  simpa [rawInt] using hQ
theorem next_key_item {it d : Addr} {i n ep : Nat} {od : Obj} {es : Array DictEntry} {en : DictEntry} {Q : Option Value → Shared → Prop} (hit : s.heap.IsKeyIter it d i n ep) (hod : s.heap.get? d = some od) (hdd : od.data = .dict es ep)
    (hsz : es.size = n) (hx : es[i]? = some en) (hQ : ∀ h', h'.IsKeyIter it d (i + 1) n ep → Heap.SameBut it s.heap h' → Q (some en.key) { s with heap := h' }) : wpAny (model prog w) A (pyNext (.ref it)) Q E s := by
  obtain ⟨o, ho, hc, hd⟩ := id hit
  unfold pyNext
  refine wpAny_bind (wpAny_attempt (wpAny_callSpecial?_slot (name := Str.ofString "__next__") hit.typeIs F.slot_dict_keyiterator_next
    (wpAny_call_entry F.slot_dict_keyiterator_next hit.typeIs F.entry_dict_keyiterator_next ?_ (F.args_dict_keyiterator_next_1 _))))
  refine wpAny_bind (wpAny_pure ?_)
  refine wpAny_bind ?_
  refine wpAny_bind ?_
  first | refine wpAny_bind (wpAny_typeNameOfWhole_keyiter hit.typeIs (wpAny_pure ?_)) | refine wpAny_bind (wpAny_typeNameOf_keyiter hit.typeIs (wpAny_pure ?_))
  refine wpAny_bind (wpAny_fieldsOf ho hd ?_)
  have hown : Builtin.Dict_items.ownsTuple "dict_keyiterator" = false := by decide
  simp only [hown, Bool.false_eq_true, if_false]
  show wpAny _ _ (if (Value.ref d == Value.none) = true then _ else _) _ _ s
  rw [if_neg (show ¬ ((Value.ref d == Value.none) = true) from Bool.false_ne_true)]
  refine wpAny_bind (wpAny_pure ?_)
  refine wpAny_bind (wpAny_dictEntries hod hdd ?_)
  rw [if_neg (by rw [hsz]; simp)]
  refine wpAny_bind (wpAny_pure ?_)
  refine wpAny_bind (wpAny_dictEpoch hod hdd ?_)
  rw [if_neg (by simp)]
  refine wpAny_pure ?_
  obtain ⟨hlt', hen⟩ := Array.getElem?_eq_some_iff.mp hx
  simp only [show ¬ ((i : Int) < 0) from by omega, if_false, Int.toNat_natCast, Array.getElem?_eq_getElem hlt']
  refine wpAny_bind ?_
  first | refine wpAny_bind (wpAny_typeNameOfWhole_keyiter hit.typeIs (wpAny_pure ?_)) | refine wpAny_bind (wpAny_typeNameOf_keyiter hit.typeIs (wpAny_pure ?_))
  refine wpAny_bind (wpAny_isOneOf_keyiter hit.typeIs ?_)
  show wpAny _ _ (setField (.ref it) 1 (rawInt ((i : Int) + 1)) >>= _) _ _ s
  refine wpAny_bind (wpAny_setField ho hd (by simp) ?_)
  have hit' : (s.heap.update it (Obj.mapFields (·.setIfInBounds 1 (rawInt ((i : Int) + 1))))).IsKeyIter it d (i + 1) n ep :=
    ⟨_, Heap.get?_update_self _ ho (Obj.isFreed_of_fields (Obj.data_mapFields hd _)), (Obj.cls_mapFields ..).trans hc, by rw [Obj.data_mapFields hd]; simp [rawInt]⟩
  refine wpAny_bind (wpAny_holding ?_)
  refine wpAny_bind (wpAny_isOneOf_keyiter (s := { s with heap := s.heap.update it (Obj.mapFields (·.setIfInBounds 1 (rawInt ((i : Int) + 1)))) }) hit'.typeIs ?_)
  show wpAny _ _ (pure es[i].key) _ _ _
  rw [hen]
  exact wpAny_pure (wpAny_pure ⟨_, rfl, wpAny_pure (hQ _ hit' (Heap.SameBut.update ..))⟩)
theorem next_key_end {it d : Addr} {i n ep : Nat} {od : Obj} {es : Array DictEntry} {Q : Option Value → Shared → Prop} (hh : A.handled = none) (hit : s.heap.IsKeyIter it d i n ep) (hod : s.heap.get? d = some od) (hdd : od.data = .dict es ep)
    (hsz : es.size = n) (hge : n ≤ i) (hQ : ∀ h', Heap.ExtBut it s.heap h' → Q none { s with heap := h' }) : wpAny (model prog w) A (pyNext (.ref it)) Q E s := by
  obtain ⟨o, ho, hc, hd⟩ := id hit
  unfold pyNext
  refine wpAny_bind (wpAny_attempt (wpAny_callSpecial?_slot (name := Str.ofString "__next__") hit.typeIs F.slot_dict_keyiterator_next
    (wpAny_call_entry F.slot_dict_keyiterator_next hit.typeIs F.entry_dict_keyiterator_next ?_ (F.args_dict_keyiterator_next_1 _))))
  refine wpAny_bind (wpAny_pure ?_)
  refine wpAny_bind ?_
  refine wpAny_bind ?_
  first | refine wpAny_bind (wpAny_typeNameOfWhole_keyiter hit.typeIs (wpAny_pure ?_)) | refine wpAny_bind (wpAny_typeNameOf_keyiter hit.typeIs (wpAny_pure ?_))
  refine wpAny_bind (wpAny_fieldsOf ho hd ?_)
  have hown : Builtin.Dict_items.ownsTuple "dict_keyiterator" = false := by decide
  simp only [hown, Bool.false_eq_true, if_false]
  show wpAny _ _ (if (Value.ref d == Value.none) = true then _ else _) _ _ s
  rw [if_neg (show ¬ ((Value.ref d == Value.none) = true) from Bool.false_ne_true)]
  refine wpAny_bind (wpAny_pure ?_)
  refine wpAny_bind (wpAny_dictEntries hod hdd ?_)
  rw [if_neg (by rw [hsz]; simp)]
  refine wpAny_bind (wpAny_pure ?_)
  refine wpAny_bind (wpAny_dictEpoch hod hdd ?_)
  rw [if_neg (by simp)]
  refine wpAny_pure ?_
  have hge' : es.size ≤ i := by rw [hsz]; exact hge
  simp only [show ¬ ((i : Int) < 0) from by omega, if_false, Int.toNat_natCast, Array.getElem?_eq_none hge']
  refine wpAny_bind ?_
  first | refine wpAny_bind (wpAny_typeNameOfWhole_keyiter hit.typeIs (wpAny_pure ?_)) | refine wpAny_bind (wpAny_typeNameOf_keyiter hit.typeIs (wpAny_pure ?_))
  show wpAny _ _ (setField (.ref it) 0 .none >>= _) _ _ s
  refine wpAny_bind (wpAny_setField ho hd (by simp) ?_)
  show wpAny _ _ (newExc (.type "StopIteration") [] >>= _) _ _ _
  refine wpAny_bind ?_
  simp only [newExc, newTuple]
  refine wpAny_bind (wpAny_newObj_type ?_ (by size_fits))
  refine wpAny_bind (m := firstArgMember _ _) (wpAny_of_eq (a := Value.none) (by first | rfl | (simp only [firstArgMember]; rfl)) ?_)
  refine wpAny_newObj_type ?_ (by size_fits)
  simp only [raiseNew]
  refine wpAny_bind (wpAny_handled ?_)
  rw [show A.in1.handled = none from hh]
  refine wpAny_bind (wpAny_pure (wpAny_throw ?_))
  refine wpAny_bind (wpAny_isInstance (T := "StopIteration") (b := true) ⟨_, Heap.get?_push_size _ rfl, rfl⟩ isSubtype_stop ?_)
  exact wpAny_pure (hQ _ (((Heap.SameBut.update ..).extBut.push _).push _))
end

/-! ### a locked dict -/
theorem kv_get {κ : Type} {kvs : List (κ × V)} {vs : List (κ × Value)} (h : KV kvs vs) : ∀ {i : Nat} {k : κ} {v : V}, kvs[i]? = some (k, v) → ∃ u, vs[i]? = some (k, u) ∧ RelV v u := by
  unfold KV at h
  induction h with
  | nil => intro i k v e; simp at e
  | @cons a b l₁ l₂ r t ih =>
    intro i k v e
    cases i with
    | zero =>
      simp only [List.getElem?_cons_zero, Option.some.injEq] at e
      subst e
      refine ⟨b.2, ?_, r.2⟩
      simp only [List.getElem?_cons_zero]
      exact congrArg some (Prod.ext r.1.symm rfl)
    | succ j =>
      simp only [List.getElem?_cons_succ] at e ⊢
      exact ih e
theorem paired_get {α β : Type} {G : α → β → Prop} {l₁ : List α} {l₂ : List β} (h : Paired G l₁ l₂) : ∀ {i : Nat} {a : α}, l₁[i]? = some a → ∃ b, l₂[i]? = some b ∧ G a b := by
  induction h with
  | nil => intro i a e; simp at e
  | @cons a b l₁ l₂ r t ih =>
    intro i a' e
    cases i with
    | zero =>
      simp only [List.getElem?_cons_zero, Option.some.injEq] at e
      subst e
      exact ⟨b, rfl, r⟩
    | succ j =>
      simp only [List.getElem?_cons_succ] at e ⊢
      exact ih e
theorem relV_key {k : Key} {u : Value} (h : keyIs k u = true) : RelV (kV k) u := by
  rcases keyIs_shape h with ⟨i, t, rfl, rfl⟩ | ⟨x, t, rfl, rfl⟩
  · exact ⟨t, rfl⟩
  · exact ⟨t, rfl⟩
section
variable {X : Cx} {pins : List (Addr × Obj)} {σ : St} {H : Hp} {s : Shared} {d : Addr} {o : Obj}
theorem Inv.frzK {kvs : List (Key × V)} (I : Inv X pins σ H s) (h : H d = some (.frz o (.dK kvs))) :
    (d == sysModules) = false ∧ s.heap.get? d = some o ∧ o.ExactDict ∧ ∃ (es : Array DictEntry) (ep : Nat) (vs : List (Key × Value)), o.data = .dict es ep ∧ es.size = kvs.length ∧ KV kvs vs ∧ s.heap.DictAt (mixKind X.prog X.w) d vs ep := by
  obtain ⟨hd, z, hs, vs, kv, o', es, ep, ho, hx, hdt, r⟩ := I.hok d _ h
  rw [hd] at ho
  cases ho
  refine ⟨hs, hd, hx, es, ep, vs, hdt, ?_, kv, o, es, hd, hx, hdt, r⟩
  have l1 := r.2.1.length
  have l2 : kvs.length = vs.length := Paired.length kv
  rw [Array.length_toList] at l1
  omega
/-- the same for tuple keys -/
theorem Inv.frzT {kvs : List (List Key × V)} (I : Inv X pins σ H s) (h : H d = some (.frz o (.dT kvs))) :
    (d == sysModules) = false ∧ s.heap.get? d = some o ∧ o.ExactDict ∧ ∃ (es : Array DictEntry) (ep : Nat), o.data = .dict es ep ∧ es.size = kvs.length ∧
      ∀ (i : Nat) (k : List Key) (v : V), kvs[i]? = some (k, v) → ∃ (en : DictEntry) (q : Addr), es[i]? = some en ∧ en.key = .ref q ∧ H q = some (.tup (k.map kV)) := by
  obtain ⟨hd, z, hs, xs, pr, o', es, ep, ho, hx, hdt, he, _⟩ := I.hok d _ h
  rw [hd] at ho
  cases ho
  refine ⟨hs, hd, hx, es, ep, hdt, ?_, fun i k v e => ?_⟩
  · have l1 : es.size = xs.length := size_of_entries he
    have l2 : kvs.length = xs.length := Paired.length pr
    omega
  · obtain ⟨b, hb, e1, e2, _⟩ := paired_get pr e
    have q := entry_at he i
    rw [hb] at q
    exact ⟨_, b.2.1, q, rfl, e2⟩
end

/-- the keys of the locked dict at d, in their order -/
def Itk (d : Addr) (o : Obj) (kvs : List (Key × V)) : It :=
  ⟨fun i H => H d = some (.frz o (.dK kvs)) ∧ i < kvs.length, fun i H x H' => H' = H ∧ ∃ k v, kvs[i]? = some (k, v) ∧ x = kV k, fun i H => H d = some (.frz o (.dK kvs)) ∧ kvs.length ≤ i⟩
/-- .. of tuple keys: the key's own tuple -/
def Itkt (d : Addr) (o : Obj) (kvs : List (List Key × V)) : It :=
  ⟨fun i H => H d = some (.frz o (.dT kvs)) ∧ i < kvs.length, fun i H x H' => H' = H ∧ ∃ (k : List Key) (v : V) (q : Addr), kvs[i]? = some (k, v) ∧ x = .ref q ∧ H q = some (.tup (k.map kV)), fun i H => H d = some (.frz o (.dT kvs)) ∧ kvs.length ≤ i⟩
theorem dict_ep {o : Obj} {es es' : Array DictEntry} {ep ep' : Nat} (h : o.data = .dict es ep) (h' : o.data = .dict es' ep') : es' = es ∧ ep' = ep := by
  rw [h] at h'
  cases h'
  exact ⟨rfl, rfl⟩
section
variable {P : Program} {w : World} {K : PySem.W.Frag} {tg : Expr} {d : Addr} {o : Obj} {es : Array DictEntry} {ep : Nat}
theorem turn_keys {kvs : List (Key × V)} (it : Addr) (hod : o.data = .dict es ep) : Turn P w K tg (Itk d o kvs) [it] it (fun i h => h.IsKeyIter it d i kvs.length ep) where
  mem := by simp
  obj := fun i h st b hb => by
    have e : b = it := by simpa using hb
    subst e
    obtain ⟨oi, e, c, dd⟩ := st
    exact ⟨oi, e, fun v z => by rw [dd] at z; cases z⟩
  keep := fun i h h' st k => st.at fun oi e => k it (by simp) oi e
  item := by
    intro X hP hw hK hc i pins s σ H E I hf st hg
    subst hP hw hK
    obtain ⟨hd, hi⟩ := hg
    obtain ⟨f0, f1, f2, f3, f4, f5⟩ := hf it (by simp)
    obtain ⟨hs, hgd, hx, es', ep', vs, hdt, hsz, kv, hm⟩ := I.frzK hd
    obtain ⟨rfl, rfl⟩ := dict_ep hod hdt
    obtain ⟨⟨k, v⟩, hkv⟩ : ∃ p, kvs[i]? = some p := ⟨kvs[i], List.getElem?_eq_getElem hi⟩
    obtain ⟨u, hu, ru⟩ := kv_get kv hkv
    have hl : kvs.length = vs.length := Paired.length kv
    rw [hl] at st
    refine wpAny_pyNext_dict_item st hm hu fun key h' hkey st' sb => ?_
    have I1 : Inv X pins σ H { s with heap := h' } := I.turned (t' := s.toks) (fun b ob hb e => (sb.2 b hb).trans e) f0 f1 f3 f4 f5
    obtain ⟨oi, e, c, dd⟩ := id st'
    refine ⟨key, rfl, go_of (s := { s with heap := h' }) e c dd (by decide) ⟨kV k, H, I1, relV_key (show keyIs k key = true from hkey), ⟨rfl, k, v, hkv, rfl⟩, ?_, fun b hb => (hf b hb).1⟩⟩
    show h'.IsKeyIter it d (i + 1) kvs.length _
    rw [hl]
    exact st'
  done := by
    intro X hP hw hK hc i pins s σ H E I hf st hg
    subst hP hw hK
    obtain ⟨hd, hi⟩ := hg
    obtain ⟨f0, f1, f2, f3, f4, f5⟩ := hf it (by simp)
    obtain ⟨hs, hgd, hx, es', ep', vs, hdt, hsz, kv, hm⟩ := I.frzK hd
    obtain ⟨rfl, rfl⟩ := dict_ep hod hdt
    exact next_key_end (I.ok.hd hc) st hgd hdt hsz hi fun h' eb => ⟨rfl, I.turned (t' := s.toks) (fun b ob hb e => eb b ob hb e) f0 f1 f3 f4 f5⟩
  self := fun A i s Q E st h => wpAny_pyIter_keyiter st h
theorem turn_keysT {kvs : List (List Key × V)} (it : Addr) (hod : o.data = .dict es ep) : Turn P w K tg (Itkt d o kvs) [it] it (fun i h => h.IsKeyIter it d i kvs.length ep) where
  mem := by simp
  obj := fun i h st b hb => by
    have e : b = it := by simpa using hb
    subst e
    obtain ⟨oi, e, c, dd⟩ := st
    exact ⟨oi, e, fun v z => by rw [dd] at z; cases z⟩
  keep := fun i h h' st k => st.at fun oi e => k it (by simp) oi e
  item := by
    intro X hP hw hK hc i pins s σ H E I hf st hg
    subst hP hw hK
    obtain ⟨hd, hi⟩ := hg
    obtain ⟨f0, f1, f2, f3, f4, f5⟩ := hf it (by simp)
    obtain ⟨hs, hgd, hx, es', ep', hdt, hsz, ent⟩ := I.frzT hd
    obtain ⟨rfl, rfl⟩ := dict_ep hod hdt
    obtain ⟨⟨k, v⟩, hkv⟩ : ∃ p, kvs[i]? = some p := ⟨kvs[i], List.getElem?_eq_getElem hi⟩
    obtain ⟨en, q, hen, hkey, hq⟩ := ent i k v hkv
    refine next_key_item st hgd hdt hsz hen fun h' st' sb => ?_
    have I1 : Inv X pins σ H { s with heap := h' } := I.turned (t' := s.toks) (fun b ob hb e => (sb.2 b hb).trans e) f0 f1 f3 f4 f5
    obtain ⟨oi, e, c, dd⟩ := id st'
    exact ⟨en.key, rfl, go_of (s := { s with heap := h' }) e c dd (by decide) ⟨.ref q, H, I1, hkey, ⟨rfl, k, v, q, hkv, rfl, hq⟩, st', fun b hb => (hf b hb).1⟩⟩
  done := by
    intro X hP hw hK hc i pins s σ H E I hf st hg
    subst hP hw hK
    obtain ⟨hd, hi⟩ := hg
    obtain ⟨f0, f1, f2, f3, f4, f5⟩ := hf it (by simp)
    obtain ⟨hs, hgd, hx, es', ep', hdt, hsz, ent⟩ := I.frzT hd
    obtain ⟨rfl, rfl⟩ := dict_ep hod hdt
    exact next_key_end (I.ok.hd hc) st hgd hdt hsz hi fun h' eb => ⟨rfl, I.turned (t' := s.toks) (fun b ob hb e => eb b ob hb e) f0 f1 f3 f4 f5⟩
  self := fun A i s Q E st h => by
    refine wpAny_pyIter_slot st.typeIs F.slot_dict_keyiterator_iter (wpAny_call_entry F.slot_dict_keyiterator_iter st.typeIs F.entry_dict_keyiterator_iter ?_ (F.args_dict_keyiterator_iter_1 _))
    show wpAny _ _ (ret (.ref it)) _ _ s
    exact wpAny_pure ⟨_, rfl, "dict_keyiterator", _, st.typeIs, F.slot_dict_keyiterator_next.lookup, h⟩
end

/-! ### for k in d, d.keys(), d.values(), d.items() -/
/-- the dict is locked (tLock, or by the caller) -/
def iKeys (td : TE) : TI := fun σ H R => td σ H fun x H1 => ∃ d o, x = .ref d ∧ ((∃ kvs, H1 d = some (.frz o (.dK kvs)) ∧ R (Itk d o kvs) H1) ∨ ∃ kvs, H1 d = some (.frz o (.dT kvs)) ∧ R (Itkt d o kvs) H1)
section
variable {X : Cx} {tg e : Expr} {td : TE} {apos cpos : Pos}
theorem pi_keys (he : PE X e td) : PI X tg e (iKeys td) := by
  intro pins s σ H R I h
  refine thn (he pins s σ H _ I h) fun u s1 ⟨x, H1, I1, rx, d, o, ex, q⟩ => ?_
  subst ex
  obtain rfl : u = Value.ref d := rx
  rcases q with ⟨kvs, hd, q⟩ | ⟨kvs, hd, q⟩
  · obtain ⟨hs, hgd, hx, es, ep, vs, hdt, hsz, kv, hm⟩ := I1.frzK hd
    refine iter_keys hs hgd hx hdt (pi_one (tk := s1.toks) I1 _ (turn_keys _ hdt) ⟨_, Heap.get?_push_size _ rfl, rfl, ?_⟩ q)
    rw [hsz] <;> rfl
  · obtain ⟨hs, hgd, hx, es, ep, hdt, hsz, ent⟩ := I1.frzT hd
    refine iter_keys hs hgd hx hdt (pi_one (tk := s1.toks) I1 _ (turn_keysT _ hdt) ⟨_, Heap.get?_push_size _ rfl, rfl, ?_⟩ q)
    rw [hsz] <;> rfl
end

/-! ### enumerate(list) -/
/-- the list at a as it stands at each turn, each item in a new pair -/
def Ite (K : PySem.W.Frag) (a : Addr) : It :=
  ⟨fun i H => ∃ (xs : List V) (x : V), SqL K H a xs ∧ xs[i]? = some x, fun i H v H' => ∃ T x, v = .ref T ∧ H T = none ∧ H' = upd H T (.tup [.int (i : Nat), x]) ∧ ∀ xs, SqL K H a xs → xs[i]? = some x, fun i H => ∃ xs : List V, SqL K H a xs ∧ xs.length ≤ i⟩
theorem turn_enum {P : Program} {w : World} {K : PySem.W.Frag} {elts : List Expr} {kk : Nat} {tpos : Pos} (a e it : Addr) :
    Turn P w K (.Tuple elts kk tpos) (Ite K a) [e, it] e (fun i h => (∃ old, IsEnum h e it ((i : Nat) : Int) old) ∧ h.IsListIter it a i ∧ e ≠ it) where
  mem := by simp
  obj := fun i h st b hb => by
    obtain ⟨⟨old, he⟩, ⟨o, ho, hc, hd⟩, _⟩ := st
    have e' : b = e ∨ b = it := by simpa using hb
    rcases e' with z | z
    · rw [z]; exact ⟨_, he, fun v q => nomatch q⟩
    · rw [z]; exact ⟨o, ho, fun v q => by rw [hd] at q; cases q⟩
  keep := fun i h h' st k => let ⟨⟨old, he⟩, hi, hne⟩ := st; ⟨⟨old, k e (by simp) _ he⟩, hi.at fun o q => k it (by simp) o q, hne⟩
  item := by
    intro X hP hw hK hc i pins s σ H E I hf st hg
    subst hP hw hK
    obtain ⟨⟨old, he⟩, hit, hne⟩ := st
    obtain ⟨xs, x, hq, hx⟩ := hg
    obtain ⟨its, rv, p, hz⟩ := I.list hq
    obtain ⟨u, hu, ru⟩ := rv.get hx
    have hel : e < s.heap.objs.size := Heap.lt_size he
    have hil : it < s.heap.objs.size := by obtain ⟨_, q, _⟩ := hit; exact Heap.lt_size q
    refine wpAny_pyNext_enum_item he hit p.isList (x := u) (by simpa using hu) hne fun h' ho hit' hT hsz hk => ?_
    refine ⟨_, rfl, wpAny_letOwnedTupleGo_enum (s := { s with heap := h', toks := s.toks + 1 }) ho fun h'' he' sb => ?_⟩
    have hT2 : h''.get? s.heap.objs.size = some { cls := .type "tuple", data := .seq #[.int i s.toks, u] } := (sb.2 _ (Nat.ne_of_gt hel)).trans hT
    have new : ObjOk X.prog X.w (upd H s.heap.objs.size (.tup [.int (i : Nat), x])) h'' s.heap.objs.size (.tup [.int (i : Nat), x]) :=
      ⟨by show 2 ≤ sizeLine; decide, [.int i s.toks, u], .cons ⟨_, rfl⟩ (.cons ru .nil), ⟨_, hT2, rfl, _, rfl⟩⟩
    have I1 : Inv X pins σ (upd H s.heap.objs.size (.tup [.int (i : Nat), x])) { s with heap := h'', toks := s.toks + 1 } :=
      I.turnedNew (ch := [e, it]) (fun b ob hb q => (sb.2 b (fun z => hb (by simp [z]))).trans (hk b ob (fun z => hb (by simp [z])) (fun z => hb (by simp [z])) q)) hf (Nat.le_refl _) new
    refine ⟨.ref s.heap.objs.size, _, I1, rfl, ⟨_, x, rfl, I.hok.fresh (Nat.le_refl _), rfl, fun ys hy => by rw [I.list_inj hy hq]; exact hx⟩, ⟨⟨u, ?_⟩, hit'.at fun o q => (sb.2 it (Ne.symm hne)).trans q, hne⟩, fun b hb => ?_⟩
    · have e1 : ((i + 1 : Nat) : Int) = (i : Int) + 1 := by omega
      rw [e1]; exact he'
    · have hb' : b < s.heap.objs.size := by
        have e' : b = e ∨ b = it := by simpa using hb
        rcases e' with z | z
        · rw [z]; exact hel
        · rw [z]; exact hil
      rw [upd_ne (Nat.ne_of_lt hb')]
      exact (hf b hb).1
  done := by
    intro X hP hw hK hc i pins s σ H E I hf st hg
    subst hP hw hK
    obtain ⟨⟨old, he⟩, hit, hne⟩ := st
    obtain ⟨xs, hq, hx⟩ := hg
    obtain ⟨its, rv, p, hz⟩ := I.list hq
    obtain ⟨f0, f1, f2, f3, f4, f5⟩ := hf it (by simp)
    have hl := rv.length
    exact wpAny_pyNext_enum_end (I.ok.hd hc) he hit p.isList (by simp; omega) fun h' eb => ⟨rfl, I.turned (t' := s.toks) (fun b o hb q => eb b o hb q) f0 f1 f3 f4 f5⟩
  self := fun A i s Q E st h => let ⟨⟨_, he⟩, _⟩ := st; wpAny_pyIter_enum he h
def iEnum (K : PySem.W.Frag) (ta : TA) : TI := fun σ H R => ta σ H fun vs H1 => ∃ a xs, vs = [.ref a] ∧ SqL K H1 a xs ∧ R (Ite K a) H1
theorem pi_enum {X : Cx} {e : Expr} {ta : TA} {p pos tpos : Pos} {elts : List Expr} {kk : Nat} (hg : Gl X "enumerate") (hm : X.mg "enumerate" = none) (ha : PA X [e] ta) (hs : starEach [e] X.env = [(false, eval e X.env)] := by rfl) :
    PI X (.Tuple elts kk tpos) (.Call (.Name "enumerate" p) [e] [] pos) (iEnum X.K ta) := by
  intro pins s σ H R I h
  refine Call_ (ld_blt I hg hm boot_enumerate (PyProof.Rows.callWith_type1 (thn (ha pos pins s σ H _ I h) fun us s1 ⟨vs, H1, I1, r1, q1⟩ => ?_) hs rfl))
  obtain ⟨a, xs, ex, hq, q⟩ := q1
  subst ex
  cases r1 with
  | cons r rr =>
    cases rr
    cases r
    obtain ⟨its, rv, p', hz⟩ := I1.list hq
    refine call_enumerate_list p'.isList fun h' he hit hsz hk => wpAny_pyIter_enum he ?_
    have I2 : Inv X pins σ H1 { s1 with heap := h' } := I1.kept (t' := s1.toks) hk
    refine ⟨s1.heap.objs.size + 1, [s1.heap.objs.size + 1, s1.heap.objs.size], _, _, H1, rfl, I2, turn_enum a (s1.heap.objs.size + 1) s1.heap.objs.size, ⟨⟨.none, he⟩, hit, Nat.succ_ne_self _⟩, fun b hb => ?_, q⟩
    have e' : b = s1.heap.objs.size + 1 ∨ b = s1.heap.objs.size := by simpa using hb
    have hle : s1.heap.objs.size ≤ b := by
      rcases e' with z | z
      · rw [z]; exact Nat.le_add_right _ _
      · rw [z]; exact Nat.le_refl _
    exact I1.fpOk hle (I1.hok.fresh hle)
/-! ### zip(list, list) -/
theorem boot_zip5 : bootBuiltins "zip" = some (.type "zip") := by decide +kernel
/-- the lists at a and b as they stand at each turn, the items in new pairs -/
def Itz (K : PySem.W.Frag) (a b : Addr) : It :=
  ⟨fun i H => ∃ (xs ys : List V) (x y : V), SqL K H a xs ∧ SqL K H b ys ∧ xs[i]? = some x ∧ ys[i]? = some y,
    fun i H v H' => ∃ T x y, v = .ref T ∧ H T = none ∧ H' = upd H T (.tup [x, y]) ∧ (∀ xs, SqL K H a xs → xs[i]? = some x) ∧ ∀ ys, SqL K H b ys → ys[i]? = some y,
    fun i H => ∃ xs ys : List V, SqL K H a xs ∧ SqL K H b ys ∧ (xs.length ≤ i ∨ ys.length ≤ i)⟩
theorem turn_zip {P : Program} {w : World} {K : PySem.W.Frag} {elts : List Expr} {kk : Nat} {tpos : Pos} {a b z TI TO i1 i2 : Addr} (D : ZipApart z TI TO i1 i2 a b) :
    Turn P w K (.Tuple elts kk tpos) (Itz K a b) [z, TI, TO, i1, i2] z (fun i h => IsZip h z TI TO .none ∧ IsPair h TI (.ref i1) (.ref i2) ∧ (∃ x y, IsPair h TO x y) ∧ h.IsListIter i1 a i ∧ h.IsListIter i2 b i) where
  mem := by simp
  obj := fun i h st c hc => by
    obtain ⟨hz, hTI, ⟨x, y, hTO⟩, ⟨o1, e1, _, d1⟩, ⟨o2, e2, _, d2⟩⟩ := st
    have e' : c = z ∨ c = TI ∨ c = TO ∨ c = i1 ∨ c = i2 := by simpa using hc
    rcases e' with q | q | q | q | q
    · rw [q]; exact ⟨_, hz, fun v q => nomatch q⟩
    · rw [q]; exact ⟨_, hTI, fun v q => nomatch q⟩
    · rw [q]; exact ⟨_, hTO, fun v q => nomatch q⟩
    · rw [q]; exact ⟨o1, e1, fun v q => by rw [d1] at q; cases q⟩
    · rw [q]; exact ⟨o2, e2, fun v q => by rw [d2] at q; cases q⟩
  keep := fun i h h' st k => by
    obtain ⟨hz, hTI, ⟨x, y, hTO⟩, h1, h2⟩ := st
    exact ⟨k z (by simp) _ hz, k TI (by simp) _ hTI, ⟨x, y, k TO (by simp) _ hTO⟩, h1.at fun o q => k i1 (by simp) o q, h2.at fun o q => k i2 (by simp) o q⟩
  item := by
    intro X hP hw hK hc i pins s σ H E I hf st hg
    subst hP hw hK
    obtain ⟨hz, hTI, ⟨x0, y0, hTO⟩, h1, h2⟩ := st
    obtain ⟨xs, ys, x, y, hqx, hqy, hx, hy⟩ := hg
    obtain ⟨its, rv, p, _⟩ := I.list hqx
    obtain ⟨its2, rv2, p2, _⟩ := I.list hqy
    obtain ⟨u, hu, ru⟩ := rv.get hx
    obtain ⟨u2, hu2, ru2⟩ := rv2.get hy
    have hzl : z < s.heap.objs.size := Heap.lt_size hz
    refine wpAny_pyNext_zip_item D hz hTI hTO h1 h2 p.isList p2.isList (x := u) (y := u2) (by simpa using hu) (by simpa using hu2) fun h' z' TO' h1' h2' hT hsz hk => ?_
    refine ⟨_, rfl, wpAny_letOwnedTupleGo_zip (s := { s with heap := h' }) z' fun h'' z'' sb => ?_⟩
    have hT2 : h''.get? s.heap.objs.size = some { cls := .type "tuple", data := .seq #[u, u2] } := (sb.2 _ (Nat.ne_of_gt hzl)).trans hT
    have new : ObjOk X.prog X.w (upd H s.heap.objs.size (.tup [x, y])) h'' s.heap.objs.size (.tup [x, y]) :=
      ⟨by show 2 ≤ sizeLine; decide, [u, u2], .cons ru (.cons ru2 .nil), ⟨_, hT2, rfl, _, rfl⟩⟩
    have I1 : Inv X pins σ (upd H s.heap.objs.size (.tup [x, y])) { s with heap := h'' } :=
      I.turnedNew (t' := s.toks) (ch := [z, TI, TO, i1, i2]) (fun c o hb q => (sb.2 c (fun q' => hb (by simp [q']))).trans (hk c o (fun q' => hb (by simp [q'])) (fun q' => hb (by simp [q'])) (fun q' => hb (by simp [q'])) (fun q' => hb (by simp [q'])) q)) hf (Nat.le_refl _) new
    refine ⟨.ref s.heap.objs.size, _, I1, rfl, ⟨_, x, y, rfl, I.hok.fresh (Nat.le_refl _), rfl, fun l hl => by rw [I.list_inj hl hqx]; exact hx, fun l hl => by rw [I.list_inj hl hqy]; exact hy⟩, ⟨z'', ?_, ⟨u, u2, ?_⟩, ?_, ?_⟩, fun c hcm => ?_⟩
    · exact (sb.2 _ D.TIz).trans (hk _ _ D.TIz D.TITO D.TIi1 D.TIi2 hTI)
    · exact (sb.2 _ D.TOz).trans TO'
    · exact h1'.at fun o q => (sb.2 _ D.i1z).trans q
    · exact h2'.at fun o q => (sb.2 _ D.i2z).trans q
    · have hlt : c < s.heap.objs.size := by
        have e' : c = z ∨ c = TI ∨ c = TO ∨ c = i1 ∨ c = i2 := by simpa using hcm
        rcases e' with q | q | q | q | q
        · rw [q]; exact hzl
        · rw [q]; exact Heap.lt_size hTI
        · rw [q]; exact Heap.lt_size hTO
        · rw [q]; obtain ⟨_, e1, _⟩ := h1; exact Heap.lt_size e1
        · rw [q]; obtain ⟨_, e2, _⟩ := h2; exact Heap.lt_size e2
      rw [upd_ne (Nat.ne_of_lt hlt)]
      exact (hf c hcm).1
  done := by
    intro X hP hw hK hc i pins s σ H E I hf st hg
    subst hP hw hK
    obtain ⟨hz, hTI, ⟨x0, y0, hTO⟩, h1, h2⟩ := st
    obtain ⟨xs, ys, hqx, hqy, hend⟩ := hg
    obtain ⟨its, rv, p, _⟩ := I.list hqx
    obtain ⟨its2, rv2, p2, _⟩ := I.list hqy
    have l1 := rv.length
    have l2 := rv2.length
    have he : its.toArray[i]? = none ∨ its2.toArray[i]? = none := by
      rcases hend with q | q
      · exact .inl (by simp; omega)
      · exact .inr (by simp; omega)
    exact wpAny_pyNext_zip_end (I.ok.hd hc) D hz hTI hTO h1 h2 p.isList p2.isList he fun h' hk => ⟨rfl, I.turnedL (t' := s.toks) (ch := [z, TI, TO, i1, i2]) (fun c o hb q =>
      hk c o (fun q' => hb (by simp [q'])) (fun q' => hb (by simp [q'])) (fun q' => hb (by simp [q'])) (fun q' => hb (by simp [q'])) q) hf⟩
  self := fun A i s Q E st h => wpAny_pyIter_zip st.1 h
def iZip (K : PySem.W.Frag) (ta : TA) : TI := fun σ H R => ta σ H fun vs H1 => ∃ a b xs ys, vs = [.ref a, .ref b] ∧ SqL K H1 a xs ∧ SqL K H1 b ys ∧ R (Itz K a b) H1
theorem pi_zip {X : Cx} {e e2 : Expr} {ta : TA} {p pos tpos : Pos} {elts : List Expr} {kk : Nat} (hg : Gl X "zip") (hm : X.mg "zip" = none) (ha : PA X [e, e2] ta)
    (hs : starEach [e, e2] X.env = (false, eval e X.env) :: starEach [e2] X.env := by rfl) (hpl : (backTo pos (starEach [e2] X.env)).any (·.1) = false := by rfl) :
    PI X (.Tuple elts kk tpos) (.Call (.Name "zip" p) [e, e2] [] pos) (iZip X.K ta) := by
  intro pins s σ H R I h
  refine Call_ (ld_blt I hg hm boot_zip5 (PyProof.Rows.callWith_type1 (thn (ha pos pins s σ H _ I h) fun us s1 ⟨vs, H1, I1, r1, q1⟩ => ?_) hs hpl))
  obtain ⟨a, b, xs, ys, ex, hqx, hqy, q⟩ := q1
  subst ex
  cases r1 with
  | cons r rr =>
    cases rr with
    | cons r' rr =>
      cases rr
      cases r
      cases r'
      obtain ⟨its, rv, p1, _⟩ := I1.list hqx
      obtain ⟨its2, rv2, p2, _⟩ := I1.list hqy
      have la : a < s1.heap.objs.size := p1.lt
      have lb : b < s1.heap.objs.size := p2.lt
      refine call_zip_2 p1.isList p2.isList fun h' hz hTI hTO h1 h2 hsz hk => wpAny_pyIter_zip hz ?_
      have I2 : Inv X pins σ H1 { s1 with heap := h' } := I1.kept (t' := s1.toks) hk
      refine ⟨s1.heap.objs.size + 4, [s1.heap.objs.size + 4, s1.heap.objs.size + 2, s1.heap.objs.size + 3, s1.heap.objs.size, s1.heap.objs.size + 1], _, _, H1, rfl, I2, turn_zip (PySem.W.ktu_apart s1.heap.objs.size a b la lb), ⟨hz, hTI, ⟨_, _, hTO⟩, h1, h2⟩, fun c hcm => ?_, q⟩
      have e' : c = s1.heap.objs.size + 4 ∨ c = s1.heap.objs.size + 2 ∨ c = s1.heap.objs.size + 3 ∨ c = s1.heap.objs.size ∨ c = s1.heap.objs.size + 1 := by simpa using hcm
      have hle : s1.heap.objs.size ≤ c := by
        rcases e' with z | z | z | z | z
        · rw [z]; exact Nat.le_add_right _ _
        · rw [z]; exact Nat.le_add_right _ _
        · rw [z]; exact Nat.le_add_right _ _
        · rw [z]; exact Nat.le_refl _
        · rw [z]; exact Nat.le_add_right _ _
      exact I1.fpOk hle (I1.hok.fresh hle)
end L2

section 
namespace Bits
open PySem PyProof.Rows








end Bits
end 

section 
namespace TL
open PySem PySem.Builtin PySem.Builtin.Str PySem.StrLaws


/-! ### the list functions -/




/-! ### the model's split and partition are these -/




/-! ### computing spl and par -/


/-! ### digits -/

/-! ### words: x.split() -/
end TL
end 

namespace L2
open PySem PySem.Spec PyProof.Rows




section
variable {X : Cx} {pins : List (Addr × Obj)} {σ : St} {H : Hp} {s : Shared} {Q : VK}
end

section
variable {X : Cx}





/-! ### of a text alone -/

/-! ### of a text and a text -/

end

section
variable {X : Cx} {o e : Expr} {to te : TE}

end
end L2

namespace L2
open PySem PySem.Spec PyProof.Rows

section
variable {X : Cx}
end

/-! ### slices of a text -/


end L2

namespace Att
open PySem PySem.W PySem.Calls PyProof.Rows

/-! ### the script -/



/-! ### the attachment: holds_open's last premise (the goal 'hc' behind k_head) from a wpAny of the law's body -/



/-! ### rules over ANY heap (no ledger) from facts about the written part K: the library's own take a ledger (News) for what they write -/
section
variable {prog : Program} {w : World} {A : Around} {E : Value → Shared → Prop} {s : Shared} {K : Frag}





/-! the whole heap as the ledger: makes every rule that writes through a ledger a rule over any heap -/

end
end Att

namespace L2
open PySem PySem.Spec PyProof.Rows



end L2

namespace L2
open PySem PySem.Spec PyProof.Rows


end L2

/- THE LAST THEOREM (shape; LID, My.* are yours):
   My.Adr: a structure of the addresses that your layer names (classes, functions); My.Txt K t: a structure (Prop) of the equations over K;
   My.txt_mk : {K} {implicit addresses ..} (e1 : nsIn K mainGlobals "law" = some (some (.ref f))) (e2 : K.lookup f = some ⟨oc, od, .func (fnOf "law" "law" params body scope dV kV doc pm an cdv ct), sl⟩) (e3 : codeIn K cdv "law" = true) .. : ∃ t, My.Txt K t

set_option maxRecDepth 100000 in
set_option maxHeartbeats 0 in
theorem PySem.Challenge.cw_LID_holds : PySem.Challenge.rw_LID.Holds := by
  w_on; o_law; k_head; (case hw => w_witness2)
  k_fill
  refine L2.walk_of (l := PySem.Challenge.rw_LID) (n := 63) (k := 40) (x := "script") (CX := fun w => ..) (sp := fun _ => My.sp_law) rfl (by decide) rfl ⟨rfl, by decide, by decide⟩ (fun w h Y => PySem.W.kIn_of Y) ?F ?S ?C
  case F =>
    intro w mg fa h KX G hmg
    have T : ∃ t, My.Txt (L2.KOf KX) t := by
      dsimp only [L2.KOf]                          -- K must stand as «<heap const> w.params» for k_is
      refine' My.txt_mk ?e1 ?e2 ?e3 ..
      (case e1 => PySem.W.k_is)                    -- in the order: a name -> its address -> its object -> its parts
      (case e2 => PySem.W.k_is)
      ..
    obtain ⟨t, T⟩ := T
    have e0 := hmg.symm.trans (PySem.W.mg_of KX G T.law)
    cases e0                                       -- fa is the law's own address
    exact ⟨_, fun s u => .of_eq rfl, fun base kb nb => My.law_fn T kb nb⟩     -- if «.of_eq rfl» comes too early: refine' ⟨_, ?b, fun base kb nb => My.law_fn T kb nb⟩; exact fun s u => .of_eq rfl
  case S => exact fun w H a ns hl hO hS => ..
  case C => exact ..
(the tactic k_is has no namespace: write k_is) -/

/-! SHORT WORDS over the layer: a def of the text, its body, what a loop and a test want. -/
namespace L2
open PySem PySem.Spec PyProof.Rows

/-! ### the text by places -/
/-- the j-th statement of a class's body -/
def inClass (s : Stmt) (j : Nat) : Stmt := match s with
  | .ClassDef _ _ _ body _ _ _ _ _ _ _ => body.getD j (.Pass ⟨0, 0, 0, 0⟩)
  | _ => .Pass ⟨0, 0, 0, 0⟩
def defArgs (s : Stmt) : Arguments := match s with
  | .FunctionDef _ a _ _ _ _ _ _ _ _ => a
  | _ => { posonlyargs := [], args := [], vararg := none, kwonlyargs := [], kw_defaults := [], kwarg := none, defaults := [] }
def defBody (s : Stmt) : List Stmt := match s with
  | .FunctionDef _ _ b _ _ _ _ _ _ _ => b
  | _ => []
def defScope (s : Stmt) : Scope := match s with
  | .FunctionDef _ _ _ _ _ _ sc _ _ _ => sc
  | _ => { kind := .function, names := [], isGenerator := false, isCoroutine := false }

/-! ### no exception leaves a def -/
abbrev CX0 : CXT := fun _ _ _ _ _ _ => False
abbrev E0 : XK := fun _ _ _ => False
theorem pass0 {X : Cx} : Passes CX0 X E0 := fun _ _ _ _ _ _ _ h => h.elim

/-! ### a def (or method) of the text as it stands behind the top -/
structure Fun (K : PySem.W.Frag) (x qual : Str) (st : Stmt) (f : Addr) (fd : FuncData) : Prop where
  ex : ∃ (oc : Value) (od : Option Addr) (kV doc pm : Value) (an : Option Addr) (cdv ct : Value) (osl : Array (Option Value)),
    fd = PySem.W.fnOf x qual (defArgs st) (defBody st) (defScope st) .none kV doc pm an cdv ct ∧ K.lookup f = some ⟨oc, od, .func fd, osl⟩ ∧ PySem.W.codeIn K cdv qual = true
  kp : PySem.W.keepIn K (.ref f) = true
section
variable {P : Program} {w : World} {K : PySem.W.Frag} {mg : Str → Option Value} {base : Heap}
/-- THE RULE for a def: its body as a term of rules, and the reading of that term -/
theorem Fun.ok {x qual : Str} {st : Stmt} {f : Addr} {fd : FuncData} {N ps : List Str} {k : Nat} {sp : Sp} (F : Fun K x qual st f fd) (S : FnScope N ps (defScope st)) (len : ∀ vs H Q E, sp vs H Q E → vs.length = ps.length)
    (hbody : ∀ (cdv : Value) (A : Around) (outer : List Env) (s : Shared) (H : Hp) (vs : List V) (Q : VK) (E : XK), Room k (A.deeper (envOfC qual (defScope st) s.heap.objs.size f cdv)) → sp vs H Q E →
      ∃ t, PSs (cxOf CX0 P w K mg base N qual (defScope st) f cdv A outer s H E).nox (defBody st) t ∧ t { nx := fun _ H' => Q .non H', rt := Q } (start N vs) H) : FnOk P w K mg base CX0 (k + 1) f fd ps sp := by
  obtain ⟨oc, od, kV, doc, pm, an, cdv, ct, osl, rfl, lk, hcd⟩ := F.ex
  refine fn_of lk hcd S len fun A outer s H vs Q E hr hsp => ?_
  obtain ⟨t, h, q⟩ := hbody cdv A outer s H vs Q E hr hsp
  exact ⟨t, h.nox, q⟩
/-- how its arguments bind (no defaults): h is «fun _ _ _ _ _ _ us hl => match us, hl with | [_, _], _ => rfl», one _ a parameter -/
theorem Fun.binds {x qual : Str} {st : Stmt} {f : Addr} {fd : FuncData} {ps : List Str} (F : Fun K x qual st f fd)
    (h : ∀ (kV doc pm : Value) (an : Option Addr) (cdv ct : Value) (us : List Value), us.length = ps.length → bindArgs (PySem.W.fnOf x qual (defArgs st) (defBody st) (defScope st) .none kV doc pm an cdv ct) ⟨us, []⟩ = pure (ps.zip us)) : Binds K fd ps [] := by
  obtain ⟨oc, od, kV, doc, pm, an, cdv, ct, osl, rfl, lk, hcd⟩ := F.ex
  exact .all (h kV doc pm an cdv ct)
theorem fun_mk {x qual : Str} {st : Stmt} {f : Addr} {oc : Value} {od an : Option Addr} {osl : Array (Option Value)} {kV doc pm cdv ct : Value} (l : K.lookup f = some ⟨oc, od, .func (PySem.W.fnOf x qual (defArgs st) (defBody st) (defScope st) .none kV doc pm an cdv ct), osl⟩)
    (c : PySem.W.codeIn K cdv qual = true) (k : PySem.W.keepIn K (.ref f) = true) : Fun K x qual st f (PySem.W.fnOf x qual (defArgs st) (defBody st) (defScope st) .none kV doc pm an cdv ct) := ⟨⟨oc, od, kV, doc, pm, an, cdv, ct, osl, rfl, l, c⟩, k⟩
end
theorem hu_of {A : Around} {k : Nat} (hr : Room k A) : A.units + 1 < cLine := Nat.lt_of_le_of_lt (Nat.add_le_add_left (by decide : 1 ≤ 64) _) hr.units

/-! ### expressions in short: the name that stands in the i-th slot -/
section
variable {X : Cx}
theorem pv (i : Nat) {x : Str} {pos : Pos} (hN : X.N[i]? = some x := by rfl) (hv : Vis X.env.scope x := by first | exact Or.inl rfl | exact Or.inr (Or.inl rfl) | exact Or.inr (Or.inr rfl)) (hd : (x == ("__debug__" : Str)) = false := by decide)
    (hcd : (x == ("__classdict__" : Str)) = false := by decide) : PE X (.Name x pos) (tVar i) := pe_var hN hv hd hcd
/-- len of a dict -/
theorem call_lenD : CallR X (.builtin "len") (fun xs H Q => ∃ a kvs, xs = [V.ref a] ∧ H a = some (.dK kvs) ∧ Q (.int kvs.length) H) := by
  intro pins s σ H xs us Q I r h
  obtain ⟨a, kvs, rfl, ha, q⟩ := h
  obtain ⟨u, rfl, ru⟩ := vals1 r
  cases ru
  exact d_len I (.inl ha) fun t s' I' => ⟨.int kvs.length, H, I', ⟨t, rfl⟩, q⟩
end

/-! ### tests -/
theorem iteF {A B : Prop} (h : B) : if false = true then A else B := by
  rw [if_neg Bool.false_ne_true]
  exact h
theorem iteT {A B : Prop} (h : A) : if true = true then A else B := by
  rw [if_pos rfl]
  exact h
theorem ite2 {c A B : Prop} [Decidable c] (h1 : c → A) (h2 : ¬ c → B) : if c then A else B := by
  by_cases h : c
  · rw [if_pos h]
    exact h1 h
  · rw [if_neg h]
    exact h2 h

/-! ### heaps -/
/-- all that was tracked is as it was -/
def Same (H H' : Hp) : Prop := ∀ b o, H b = some o → H' b = some o
theorem Same.refl (H : Hp) : Same H H := fun _ _ h => h
theorem Same.trans {H H1 H2 : Hp} (a : Same H H1) (b : Same H1 H2) : Same H H2 := fun c o h => b c o (a c o h)
theorem Same.free {H H' : Hp} (e : Same H H') {l : Addr} (h : H' l = Option.none) : H l = Option.none := by
  cases q : H l with
  | none => rfl
  | some o =>
    rw [e l o q] at h
    cases h
theorem Same.seq {K : PySem.W.Frag} {H H' : Hp} {a : Addr} {xs : List V} (e : Same H H') (h : SqL K H a xs) : SqL K H' a xs := by
  rcases h with (h | ⟨o, h⟩) | h
  · exact .inl (.inl (e _ _ h))
  · exact .inl (.inr ⟨o, e _ _ h⟩)
  · exact .inr h

/-! ### a dict's pairs: keys that differ -/
section
variable {κ : Type} [DecidableEq κ]
theorem nd_snoc : ∀ {l : List κ} {k : κ}, l.Nodup → ¬ k ∈ l → (l ++ [k]).Nodup
  | [], k, _, _ => by simp
  | a :: r, k, h, hk => by
    obtain ⟨h1, h2⟩ := List.nodup_cons.mp h
    show (a :: (r ++ [k])).Nodup
    refine List.nodup_cons.mpr ⟨fun m => ?_, nd_snoc h2 fun m => hk (List.mem_cons.mpr (Or.inr m))⟩
    rcases List.mem_append.mp m with q | q
    · exact h1 q
    · exact hk (List.mem_cons.mpr (Or.inl (List.mem_singleton.mp q).symm))
end
/-! ### lists -/
theorem at_of {xs : List V} {z : Int} {j : Nat} {v : V} (e : z = (j : Int)) (h : xs[j]? = some v) : atI xs z = some v := by
  rw [e]
  exact atI_nat h
theorem nd_ix {α : Type} {l : List α} (hN : l.Nodup) {i j : Nat} {x : α} (a : l[i]? = some x) (b : l[j]? = some x) : i = j := by
  obtain ⟨h1, e1⟩ := List.getElem?_eq_some_iff.mp a
  obtain ⟨h2, e2⟩ := List.getElem?_eq_some_iff.mp b
  exact (List.getElem_inj hN).mp (e1.trans e2.symm)
/-- a new instance and its __init__ leave all that was tracked as it was -/
theorem Same.made {H H1 : Hp} {x dx C : Addr} (nx : H x = Option.none) (nd : H dx = Option.none) (k : ∀ b o, (upd (upd H dx (.own x)) x (.ins C dx [])) b = some o → b ≠ x → H1 b = some o) : Same H H1 := fun b o e =>
  k b o (by rw [upd_ne (ne_of_none e nx), upd_ne (ne_of_none e nd)]; exact e) (ne_of_none e nx)
end L2

end
section
section
set_option Elab.async false
set_option linter.all false
set_option maxRecDepth 100000
set_option maxHeartbeats 2000000
namespace L2
open PySem PySem.Spec PyProof.Rows
open PySem.W (WData Codec OpenSpec Well WellAll ReadsW ReadsAllW)
/-! ### an answer as data -/
mutual
/-- x stands for the datum d, lists and tuples all the way -/
inductive Dw (K : PySem.W.Frag) (H : Hp) : V → WData → Prop
  | non : Dw K H .non .none
  | bl (b : Bool) : Dw K H (.bl b) (.bool b)
  | int (i : Int) : Dw K H (.int i) (.int i)
  | str (x : Str) : Dw K H (.str x) (.str x)
  | byt (b : Array UInt8) : Dw K H (.byt b) (.bytes b.toList)
  | lst {a : Addr} {xs : List V} {ds : List WData} : SqL K H a xs → DwAll K H xs ds → Dw K H (.ref a) (.list ds)
  | tup {a : Addr} {xs : List V} {ds : List WData} : SqT K H a xs → DwAll K H xs ds → Dw K H (.ref a) (.tuple ds)
inductive DwAll (K : PySem.W.Frag) (H : Hp) : List V → List WData → Prop
  | nil : DwAll K H [] []
  | cons {v : V} {vs : List V} {d : WData} {ds : List WData} : Dw K H v d → DwAll K H vs ds → DwAll K H (v :: vs) (d :: ds)
end
theorem dw_ints {K : PySem.W.Frag} {H : Hp} : ∀ ns : List Int, DwAll K H (ns.map V.int) (ns.map WData.int)
  | [] => .nil
  | n :: r => .cons (.int n) (dw_ints r)
theorem ints_dw {K : PySem.W.Frag} {H : Hp} : ∀ (ns : List Int) (xs : List V), DwAll K H xs (ns.map WData.int) → xs = ns.map V.int
  | [], xs, h => by
    cases h
    rfl
  | n :: r, xs, h => by
    cases h with
    | cons h1 h2 =>
      cases h1
      rw [ints_dw r _ h2] <;> rfl
section
variable {P : Program} {w : World} {K : PySem.W.Frag} {H : Hp} {h : Heap} {R : PySem.W.WRecords} {cl : Str → Option Addr}
theorem sqL_at {a : Addr} {xs : List V} (hok : HOk P w H h) (KX : K.In h) (q : SqL K H a xs) : ∃ (its : List Value) (o : Obj) (n : Nat), Vals xs its ∧ h.get? a = some o ∧ o.cls = .type "list" ∧ o.data = .seq its.toArray n := by
  rcases q with q | ⟨o, its, n, e, hc, _, hd, _, hv⟩
  · obtain ⟨_, its, n, hv, e⟩ := (show ObjOk P w H h a (.lst xs) from q.ok hok)
    exact ⟨its, _, n, hv, e, rfl, rfl⟩
  · exact ⟨its.toList, o, n, hv, KX _ _ e, hc, by simp [hd]⟩
theorem sqT_at {a : Addr} {xs : List V} (hok : HOk P w H h) (KX : K.In h) (q : SqT K H a xs) : ∃ (its : List Value) (o : Obj) (n : Nat), Vals xs its ∧ h.get? a = some o ∧ o.cls = .type "tuple" ∧ o.data = .seq its.toArray n := by
  rcases q with q | ⟨o, its, n, e, hc, hd, _, hv⟩
  · obtain ⟨_, its, hv, o, e, hc, n, hd⟩ := (show ObjOk P w H h a (.tup xs) from q.ok hok)
    exact ⟨its, o, n, hv, e, hc, hd⟩
  · exact ⟨its.toList, o, n, hv, KX _ _ e, hc, by simp [hd]⟩
mutual
theorem Dw.reads (hok : HOk P w H h) (KX : K.In h) : ∀ (d : WData) (v : V) (u : Value), Dw K H v d → RelV v u → ∃ as, ReadsW R cl h u d as
  | .none, _, _, x, r => by
    cases x
    cases r
    exact ⟨_, ReadsW.none⟩
  | .bool b, _, _, x, r => by
    cases x
    cases r
    exact ⟨_, ReadsW.bool b⟩
  | .int i, _, _, x, r => by
    cases x
    obtain ⟨t, rfl⟩ := r
    exact ⟨_, ReadsW.int i t⟩
  | .str s, _, _, x, r => by
    cases x
    obtain ⟨t, rfl⟩ := r
    exact ⟨_, ReadsW.str s t⟩
  | .bytes b, _, _, x, r => by
    cases x
    obtain ⟨t, rfl⟩ := r
    exact ⟨_, ReadsW.bytes _ t⟩
  | .list ds, _, _, x, r => by
    cases x with
    | lst hs ha =>
      cases r
      obtain ⟨its, o, n, rv, ho, hc, hd⟩ := sqL_at hok KX hs
      obtain ⟨as, hr⟩ := Dw.readsAll hok KX ds _ its ha rv
      exact ⟨_, ReadsW.list ho hc hd hr⟩
  | .tuple ds, _, _, x, r => by
    cases x with
    | tup hs ha =>
      cases r
      obtain ⟨its, o, n, rv, ho, hc, hd⟩ := sqT_at hok KX hs
      obtain ⟨as, hr⟩ := Dw.readsAll hok KX ds _ its ha rv
      exact ⟨_, ReadsW.tuple ho hc hd hr⟩
  | .float _, _, _, x, _ => by cases x
  | .dict _, _, _, x, _ => by cases x
  | .bytearray _, _, _, x, _ => by cases x
  | .set _, _, _, x, _ => by cases x
  | .frozenset _, _, _, x, _ => by cases x
  | .obj _ _, _, _, x, _ => by cases x
theorem Dw.readsAll (hok : HOk P w H h) (KX : K.In h) : ∀ (ds : List WData) (vs : List V) (us : List Value), DwAll K H vs ds → Vals vs us → ∃ as, ReadsAllW R cl h us ds as
  | [], _, _, x, r => by
    cases x
    cases r
    exact ⟨_, ReadsAllW.nil⟩
  | d :: ds, _, _, x, r => by
    cases x with
    | cons h1 h2 =>
      cases r with
      | cons r1 r2 =>
        obtain ⟨as, q1⟩ := Dw.reads hok KX d _ _ h1 r1
        obtain ⟨bs, q2⟩ := Dw.readsAll hok KX ds _ _ h2 r2
        exact ⟨_, ReadsAllW.cons q1 q2⟩
end
end
/-! ### the arguments -/
mutual
/-- data that a codec tells -/
def plW : WData → Bool
  | .none => true
  | .bool _ => true
  | .int _ => true
  | .str _ => true
  | .bytes _ => true
  | .list xs => plWs xs
  | .tuple xs => plWs xs
  | _ => false
def plWs : List WData → Bool
  | [] => true
  | x :: r => plW x && plWs r
end
theorem plWs_map {α : Type} {f : α → WData} (h : ∀ a, plW (f a) = true) : ∀ l : List α, plWs (l.map f) = true
  | [] => rfl
  | x :: r => by
    show (plW (f x) && plWs (r.map f)) = true
    rw [h x, plWs_map h r] <;> rfl
theorem pl_enc : ∀ (c : Codec) (a : c.denote), plW (c.enc a) = true
  | .unit, _ => rfl
  | .bool, _ => rfl
  | .int _ _, _ => rfl
  | .nat _ _, _ => rfl
  | .u8, _ => rfl
  | .bytes _ _, _ => rfl
  | .text _ _ _ _, _ => rfl
  | .list _ _ c, a => plWs_map (fun x => pl_enc c x) a
  | .pair c d, a => by
    show (plW (c.enc a.1) && (plW (d.enc a.2) && true)) = true
    rw [pl_enc c a.1, pl_enc d a.2] <;> rfl
  | .triple c d e, a => by
    show (plW (c.enc a.1) && (plW (d.enc a.2.1) && (plW (e.enc a.2.2) && true))) = true
    rw [pl_enc c a.1, pl_enc d a.2.1, pl_enc e a.2.2] <;> rfl
  | .option c, none => rfl
  | .option c, some x => pl_enc c x
theorem pl_encAll : ∀ (cs : List Codec) (a : Codec.denoteAll cs), plWs (Codec.encAll cs a) = true
  | [], _ => rfl
  | c :: cs, a => by
    show (plW (c.enc a.1) && plWs (Codec.encAll cs a.2)) = true
    rw [pl_enc c a.1, pl_encAll cs a.2] <;> rfl
theorem weight_mem : ∀ {xs : List WData} {d : WData}, d ∈ xs → d.weight ≤ WData.weightAll xs
  | [], d, h => absurd h (by simp)
  | x :: r, d, h => by
    show d.weight ≤ x.weight + 1 + WData.weightAll r
    rcases List.mem_cons.mp h with e | m
    · rw [e]
      omega
    · have z := weight_mem m
      omega
def toV : Value → V
  | .none => .non
  | .bool b => .bl b
  | .int i _ => .int i
  | .str x _ => .str x
  | .bytes b _ => .byt b
  | .ref a => .ref a
  | _ => .non
/-- a value of the arguments, its objects among A -/
def OkU (A : List Addr) : Value → Prop
  | .none => True
  | .bool _ => True
  | .int _ _ => True
  | .str _ _ => True
  | .bytes _ _ => True
  | .ref a => a ∈ A
  | _ => False
theorem OkU.mono {A B : List Addr} (h : ∀ a ∈ A, a ∈ B) : ∀ {u : Value}, OkU A u → OkU B u := fun {u} x => by
  cases u with
  | ref a => exact h a x
  | none => trivial
  | bool b => trivial
  | int i t => trivial
  | str s t => trivial
  | bytes b t => trivial
  | _ => exact False.elim x
theorem relV_toV {A : List Addr} {u : Value} (x : OkU A u) : RelV (toV u) u := by
  cases u with
  | ref a => rfl
  | none => rfl
  | bool b => rfl
  | int i t => exact ⟨t, rfl⟩
  | str s t => exact ⟨t, rfl⟩
  | bytes b t => exact ⟨t, rfl⟩
  | _ => exact False.elim x
theorem vals_toV {A : List Addr} : ∀ {vs : List Value}, (∀ u ∈ vs, OkU A u) → Vals (vs.map toV) vs
  | [], _ => .nil
  | u :: r, h => .cons (relV_toV (h u (List.mem_cons_self ..))) (vals_toV fun x hx => h x (List.mem_cons_of_mem _ hx))
/-- an object of the arguments -/
def ArgOb (h : Heap) (A : List Addr) (a : Addr) : Prop := ∃ vs : List Value, vs.length ≤ sizeLine ∧ (∀ u ∈ vs, OkU A u) ∧
  (h.get? a = some { cls := .type "list", data := .seq vs.toArray } ∨ h.get? a = some { cls := .type "tuple", data := .seq vs.toArray })
theorem ArgOb.mono {h : Heap} {A B : List Addr} {a : Addr} (k : ∀ a ∈ A, a ∈ B) (x : ArgOb h A a) : ArgOb h B a := by
  obtain ⟨vs, h1, h2, h3⟩ := x
  exact ⟨vs, h1, fun u hu => (h2 u hu).mono k, h3⟩
theorem wellAll_len {P : Params} {h : Heap} : ∀ {vs : List Value} {ds : List WData}, WellAll P h vs ds → vs.length = ds.length
  | _, _, .nil => rfl
  | _, _, .cons _ b => by
    show _ + 1 = _ + 1
    rw [wellAll_len b]
theorem well_list {P : Params} {h : Heap} {v : Value} {ds : List WData} (x : Well P h v (.list ds)) : ∃ (a : Addr) (vs : List Value), v = .ref a ∧ h.get? a = some { cls := .type "list", data := .seq vs.toArray } ∧ WellAll P h vs ds := by
  cases x with
  | list ho hall => exact ⟨_, _, rfl, ho, hall⟩
theorem well_tuple {P : Params} {h : Heap} {v : Value} {ds : List WData} (x : Well P h v (.tuple ds)) : ∃ (a : Addr) (vs : List Value), v = .ref a ∧ h.get? a = some { cls := .type "tuple", data := .seq vs.toArray } ∧ WellAll P h vs ds := by
  cases x with
  | tuple ho hall => exact ⟨_, _, rfl, ho, hall⟩
theorem well_cons {P : Params} {h : Heap} {us : List Value} {d : WData} {ds : List WData} (x : WellAll P h us (d :: ds)) : ∃ (v : Value) (vs : List Value), us = v :: vs ∧ Well P h v d ∧ WellAll P h vs ds := by
  cases x with
  | cons a b => exact ⟨_, _, rfl, a, b⟩
theorem line_of {n : Nat} (h : n ≤ 1048576) : n ≤ sizeLine := Nat.le_trans h (by decide)
section
variable {P : Params} {h : Heap}
mutual
theorem area_one : ∀ (d : WData) (v : Value), Well P h v d → plW d = true → d.weight ≤ 1048576 → ∃ A : List Addr, OkU A v ∧ ∀ a ∈ A, ArgOb h A a
  | .none, _, x, _, _ => by
    cases x
    exact ⟨[], trivial, fun a m => absurd m (by simp)⟩
  | .bool b, _, x, _, _ => by
    cases x
    exact ⟨[], trivial, fun a m => absurd m (by simp)⟩
  | .int i, _, x, _, _ => by
    cases x
    exact ⟨[], trivial, fun a m => absurd m (by simp)⟩
  | .str s, _, x, _, _ => by
    cases x
    exact ⟨[], trivial, fun a m => absurd m (by simp)⟩
  | .bytes b, _, x, _, _ => by
    cases x
    exact ⟨[], trivial, fun a m => absurd m (by simp)⟩
  | .list ds, _, x, p, z => by
    obtain ⟨a, vs, rfl, ho, hall⟩ := well_list x
    have z2 : WData.weightAll ds ≤ 1048576 := z
    obtain ⟨A, h1, h2⟩ := area_all ds _ hall p fun d hd => Nat.le_trans (weight_mem hd) z2
    have k : ∀ b ∈ A, b ∈ a :: A := fun b hb => List.mem_cons_of_mem _ hb
    refine ⟨a :: A, List.mem_cons_self .., fun b hb => ?_⟩
    rcases List.mem_cons.mp hb with e | m
    · rw [e]
      exact ⟨vs, line_of (by rw [wellAll_len hall]; exact Nat.le_trans (PySem.W.length_le_weightAllW ds) z2), fun u hu => (h1 u hu).mono k, .inl ho⟩
    · exact (h2 b m).mono k
  | .tuple ds, _, x, p, z => by
    obtain ⟨a, vs, rfl, ho, hall⟩ := well_tuple x
    have z2 : WData.weightAll ds ≤ 1048576 := z
    obtain ⟨A, h1, h2⟩ := area_all ds _ hall p fun d hd => Nat.le_trans (weight_mem hd) z2
    have k : ∀ b ∈ A, b ∈ a :: A := fun b hb => List.mem_cons_of_mem _ hb
    refine ⟨a :: A, List.mem_cons_self .., fun b hb => ?_⟩
    rcases List.mem_cons.mp hb with e | m
    · rw [e]
      exact ⟨vs, line_of (by rw [wellAll_len hall]; exact Nat.le_trans (PySem.W.length_le_weightAllW ds) z2), fun u hu => (h1 u hu).mono k, .inr ho⟩
    · exact (h2 b m).mono k
  | .float _, _, _, p, _ => Bool.noConfusion (show false = true from p)
  | .dict _, _, _, p, _ => Bool.noConfusion (show false = true from p)
  | .bytearray _, _, _, p, _ => Bool.noConfusion (show false = true from p)
  | .set _, _, _, p, _ => Bool.noConfusion (show false = true from p)
  | .frozenset _, _, _, p, _ => Bool.noConfusion (show false = true from p)
  | .obj _ _, _, _, p, _ => Bool.noConfusion (show false = true from p)
theorem area_all : ∀ (ds : List WData) (vs : List Value), WellAll P h vs ds → plWs ds = true → (∀ d ∈ ds, d.weight ≤ 1048576) → ∃ A : List Addr, (∀ u ∈ vs, OkU A u) ∧ ∀ a ∈ A, ArgOb h A a
  | [], _, x, _, _ => by
    cases x
    exact ⟨[], fun u m => absurd m (by simp), fun a m => absurd m (by simp)⟩
  | d :: ds, _, x, p, z => by
    obtain ⟨v, vs, rfl, x1, x2⟩ := well_cons x
    have q : plW d = true ∧ plWs ds = true := Bool.and_eq_true_iff.mp p
    obtain ⟨A, a1, a2⟩ := area_one d v x1 q.1 (z d (List.mem_cons_self ..))
    obtain ⟨B, b1, b2⟩ := area_all ds vs x2 q.2 fun e he => z e (List.mem_cons_of_mem _ he)
    have kA : ∀ b ∈ A, b ∈ A ++ B := fun b hb => List.mem_append.mpr (.inl hb)
    have kB : ∀ b ∈ B, b ∈ A ++ B := fun b hb => List.mem_append.mpr (.inr hb)
    refine ⟨A ++ B, fun u hu => ?_, fun b hb => ?_⟩
    · rcases List.mem_cons.mp hu with e | m
      · rw [e]
        exact a1.mono kA
      · exact (b1 u m).mono kB
    · rcases List.mem_append.mp hb with m | m
      · exact (a2 b m).mono kA
      · exact (b2 b m).mono kB
end
end
/-- what is tracked of an argument's object -/
def hoOf (o : Obj) : Option HO := match o.data with
  | .seq vs _ => if (o.cls == Value.type "list") = true then some (.frz o (.lst (vs.toList.map toV))) else some (.frz o (.tup (vs.toList.map toV)))
  | _ => none
def argH (K : PySem.W.Frag) (h : Heap) (A : List Addr) : Hp := fun b => if b ∈ A then (if (K.lookup b).isNone = true then (h.get? b).bind hoOf else none) else none
/-- nothing is tracked but what is known to the object -/
def OnlyF (H : Hp) : Prop := ∀ b, H b = none ∨ ∃ o u, H b = some (.frz o u)
theorem hoOf_lst (vs : List Value) : hoOf { cls := .type "list", data := .seq vs.toArray } = some (.frz { cls := .type "list", data := .seq vs.toArray } (.lst (vs.map toV))) := by
  show (if (Value.type "list" == Value.type "list") = true then some (HO.frz { cls := .type "list", data := .seq vs.toArray } (.lst (vs.toArray.toList.map toV))) else some (HO.frz { cls := .type "list", data := .seq vs.toArray } (.tup (vs.toArray.toList.map toV)))) = _
  rw [if_pos (beq_self_eq_true _)]
theorem hoOf_tup (vs : List Value) : hoOf { cls := .type "tuple", data := .seq vs.toArray } = some (.frz { cls := .type "tuple", data := .seq vs.toArray } (.tup (vs.map toV))) := by
  show (if (Value.type "tuple" == Value.type "list") = true then some (HO.frz { cls := .type "tuple", data := .seq vs.toArray } (.lst (vs.toArray.toList.map toV))) else some (HO.frz { cls := .type "tuple", data := .seq vs.toArray } (.tup (vs.toArray.toList.map toV)))) = _
  rw [if_neg (by decide)]
section
variable {P : Program} {w : World} {K : PySem.W.Frag} {h : Heap} {A : List Addr}
theorem argH_at {b : Addr} {o : Obj} (hb : b ∈ A) (hk : K.lookup b = none) (e : h.get? b = some o) : argH K h A b = hoOf o := by
  unfold argH
  rw [if_pos hb, hk, if_pos (show (none : Option Obj).isNone = true from rfl), e] <;> rfl
theorem of_argH {b : Addr} {u : HO} (q : argH K h A b = some u) : b ∈ A ∧ K.lookup b = none := by
  unfold argH at q
  by_cases hb : b ∈ A
  · rw [if_pos hb] at q
    cases hk : K.lookup b with
    | none => exact ⟨hb, rfl⟩
    | some o =>
      rw [hk, if_neg (by simp)] at q
      cases q
  · rw [if_neg hb] at q
    cases q
/-- what stands tracked -/
theorem argH_is (ar : ∀ a ∈ A, ArgOb h A a) {b : Addr} {u : HO} (q : argH K h A b = some u) : K.lookup b = none ∧ ∃ vs : List Value, vs.length ≤ sizeLine ∧ (∀ u ∈ vs, OkU A u) ∧
    ((h.get? b = some { cls := .type "list", data := .seq vs.toArray } ∧ u = .frz { cls := .type "list", data := .seq vs.toArray } (.lst (vs.map toV))) ∨
     (h.get? b = some { cls := .type "tuple", data := .seq vs.toArray } ∧ u = .frz { cls := .type "tuple", data := .seq vs.toArray } (.tup (vs.map toV)))) := by
  obtain ⟨hb, hk⟩ := of_argH q
  obtain ⟨vs, h1, h2, h3⟩ := ar b hb
  refine ⟨hk, vs, h1, h2, ?_⟩
  rcases h3 with e | e
  · rw [argH_at hb hk e, hoOf_lst] at q
    exact .inl ⟨e, (Option.some.inj q).symm⟩
  · rw [argH_at hb hk e, hoOf_tup] at q
    exact .inr ⟨e, (Option.some.inj q).symm⟩
theorem argH_only (ar : ∀ a ∈ A, ArgOb h A a) : OnlyF (argH K h A) := fun b => by
  cases q : argH K h A b with
  | none => exact .inl rfl
  | some u =>
    obtain ⟨_, vs, _, _, ⟨_, e⟩ | ⟨_, e⟩⟩ := argH_is ar q
    · exact .inr ⟨_, _, by rw [e]⟩
    · exact .inr ⟨_, _, by rw [e]⟩
theorem argH_ok (ar : ∀ a ∈ A, ArgOb h A a) : HOk P w (argH K h A) h := fun b u q => by
  obtain ⟨_, vs, h1, h2, ⟨e, rfl⟩ | ⟨e, rfl⟩⟩ := argH_is ar q
  · exact ⟨e, by rw [List.length_map]; exact h1, vs, _, vals_toV h2, e⟩
  · exact ⟨e, by rw [List.length_map]; exact h1, vs, vals_toV h2, _, e, rfl, _, rfl⟩
theorem seq_inj {c c' : Value} {vs us : List Value} (e : (some { cls := c, data := .seq vs.toArray } : Option Obj) = some { cls := c', data := .seq us.toArray }) : c = c' ∧ vs = us := by
  have e1 := Option.some.inj e
  have e2 : c = c' := congrArg Obj.cls e1
  have e3 : Data.seq vs.toArray = Data.seq us.toArray := congrArg Obj.data e1
  injection e3 with e4
  refine ⟨e2, ?_⟩
  have e5 := congrArg Array.toList e4
  simpa using e5
/-- a list argument -/
theorem argL (KX : K.In h) (ar : ∀ a ∈ A, ArgOb h A a) {a : Addr} {vs : List Value} (ha : a ∈ A) (e : h.get? a = some { cls := .type "list", data := .seq vs.toArray }) : (∀ u ∈ vs, OkU A u) ∧ SqL K (argH K h A) a (vs.map toV) := by
  obtain ⟨us, h1, h2, h3⟩ := ar a ha
  have hu : us = vs := by
    rcases h3 with q | q
    · rw [e] at q
      exact (seq_inj q).2.symm
    · rw [e] at q
      exact absurd (Value.type.inj (seq_inj q).1) (by decide)
  subst hu
  refine ⟨h2, ?_⟩
  cases hk : K.lookup a with
  | none => exact .inl (.inr ⟨_, by rw [argH_at ha hk e, hoOf_lst]⟩)
  | some o =>
    have e2 := KX a o hk
    rw [e] at e2
    obtain rfl := Option.some.inj e2
    exact .inr ⟨_, us.toArray, _, hk, rfl, rfl, rfl, by rw [List.size_toArray]; exact h1, by simpa using vals_toV h2⟩
theorem argT (KX : K.In h) (ar : ∀ a ∈ A, ArgOb h A a) {a : Addr} {vs : List Value} (ha : a ∈ A) (e : h.get? a = some { cls := .type "tuple", data := .seq vs.toArray }) : (∀ u ∈ vs, OkU A u) ∧ SqT K (argH K h A) a (vs.map toV) := by
  obtain ⟨us, h1, h2, h3⟩ := ar a ha
  have hu : us = vs := by
    rcases h3 with q | q
    · rw [e] at q
      exact absurd (Value.type.inj (seq_inj q).1) (by decide)
    · rw [e] at q
      exact (seq_inj q).2.symm
  subst hu
  refine ⟨h2, ?_⟩
  cases hk : K.lookup a with
  | none => exact .inl (.inr ⟨_, by rw [argH_at ha hk e, hoOf_tup]⟩)
  | some o =>
    have e2 := KX a o hk
    rw [e] at e2
    obtain rfl := Option.some.inj e2
    exact .inr ⟨_, us.toArray, _, hk, rfl, rfl, by rw [List.size_toArray]; exact h1, by simpa using vals_toV h2⟩
mutual
theorem dw_one {Pm : Params} (KX : K.In h) (ar : ∀ a ∈ A, ArgOb h A a) : ∀ (d : WData) (v : Value), Well Pm h v d → plW d = true → OkU A v → Dw K (argH K h A) (toV v) d
  | .none, _, x, _, _ => by
    cases x
    exact .non
  | .bool b, _, x, _, _ => by
    cases x
    exact .bl b
  | .int i, _, x, _, _ => by
    cases x
    exact .int i
  | .str s, _, x, _, _ => by
    cases x
    exact .str s
  | .bytes b, _, x, _, _ => by
    cases x
    have z := Dw.byt (K := K) (H := argH K h A) b.toArray
    exact z
  | .list ds, _, x, p, hu => by
    obtain ⟨a, vs, rfl, ho, hall⟩ := well_list x
    obtain ⟨h2, hs⟩ := argL KX ar hu ho
    exact .lst hs (dw_all KX ar ds _ hall p h2)
  | .tuple ds, _, x, p, hu => by
    obtain ⟨a, vs, rfl, ho, hall⟩ := well_tuple x
    obtain ⟨h2, hs⟩ := argT KX ar hu ho
    exact .tup hs (dw_all KX ar ds _ hall p h2)
  | .float _, _, _, p, _ => Bool.noConfusion (show false = true from p)
  | .dict _, _, _, p, _ => Bool.noConfusion (show false = true from p)
  | .bytearray _, _, _, p, _ => Bool.noConfusion (show false = true from p)
  | .set _, _, _, p, _ => Bool.noConfusion (show false = true from p)
  | .frozenset _, _, _, p, _ => Bool.noConfusion (show false = true from p)
  | .obj _ _, _, _, p, _ => Bool.noConfusion (show false = true from p)
theorem dw_all {Pm : Params} (KX : K.In h) (ar : ∀ a ∈ A, ArgOb h A a) : ∀ (ds : List WData) (vs : List Value), WellAll Pm h vs ds → plWs ds = true → (∀ u ∈ vs, OkU A u) → DwAll K (argH K h A) (vs.map toV) ds
  | [], _, x, _, _ => by
    cases x
    exact .nil
  | d :: ds, _, x, p, hu => by
    obtain ⟨v, vs, rfl, x1, x2⟩ := well_cons x
    have q : plW d = true ∧ plWs ds = true := Bool.and_eq_true_iff.mp p
    exact .cons (dw_one KX ar d v x1 q.1 (hu _ (List.mem_cons_self ..))) (dw_all KX ar ds vs x2 q.2 fun u m => hu u (List.mem_cons_of_mem _ m))
end
end
/-! ### the call -/
theorem spec_call {P : Program} {w : World} {K : PySem.W.Frag} {mg mb : Str → Option Value} {CX : CXT} {k : Nat} {fa : Addr} {fd : FuncData} {ps : List Str} {sp : Sp} {s₁ : Shared} {vals : List Value} {ds : List WData} {R : PySem.W.WRecords} {cl : Str → Option Addr} {d0 : WData}
    (KX : K.In s₁.heap) (hns : s₁.heap.Ns mainGlobals mg) (hb : s₁.heap.Ns builtinsNs mb) (hbb : ∀ x : Str, x ≠ "__name__" → mb x = bootBuiltins x) (hlim : s₁.heap.NoLimit) (hg : s₁.gens = #[])
    (hwl : WellAll w.params s₁.heap vals ds) (hpl : plWs ds = true) (hwt : ∀ d ∈ ds, d.weight ≤ 1048576) (hr : Room k callerA)
    (F : ∀ base : Heap, K.In base → base.Ns mainGlobals mg → FnOk P w K mg base CX k fa fd ps sp) (hbind : ∀ (s : Shared) (us : List Value), us.length = ps.length → BindsTo s fd ⟨us, []⟩ (ps.zip us)) (hlen : ds.length = ps.length)
    (hsp : ∀ (H : Hp) (xs : List V), OnlyF H → DwAll K H xs ds → sp xs H (fun v H' => Dw K H' v d0) fun _ _ _ => False)
    (hCX : ∀ H e s', CX [] H s₁ (fun _ _ _ => False) e s' → False) :
    codeAny (model P w) callerA (.call (.ref fa) ⟨vals, []⟩) (fun r s' => ∃ u as, r = .ok (.ret u) ∧ ReadsW R cl s'.heap u d0 as ∧ OldK s₁.heap s'.heap ∧ s'.os = s₁.os ∧ AllBare s'.gens) s₁ := by
  obtain ⟨A, ho, ar⟩ := area_all ds vals hwl hpl hwt
  have hO : OnlyF (argH K s₁.heap A) := argH_only ar
  have hok : HOk P w (argH K s₁.heap A) s₁.heap := argH_ok ar
  have hS := dw_all KX ar ds vals hwl hpl ho
  have hV := vals_toV ho
  have hK : ∀ b u, argH K s₁.heap A b = some u → K.lookup b = none := fun b u q => (argH_is ar q).1
  have noA : ∀ {b : Addr} {o : Obj} {es : Array DictEntry} {ep : Nat}, s₁.heap.get? b = some o → o.data = .dict es ep → argH K s₁.heap A b = none := fun {b o es ep} e d => by
    cases q : argH K s₁.heap A b with
    | none => rfl
    | some u =>
      obtain ⟨_, vs, _, _, ⟨e2, _⟩ | ⟨e2, _⟩⟩ := argH_is ar q
      · rw [e2] at e
        cases e
        have d' : Data.seq vs.toArray _ = Data.dict es ep := d
        cases d'
      · rw [e2] at e
        cases e
        have d' : Data.seq vs.toArray _ = Data.dict es ep := d
        cases d'
  generalize argH K s₁.heap A = H at hO hok hS hK noA
  have base_of : ∀ {b : Addr} {o : Obj}, s₁.heap.get? b = some o → H b = none → (hidT s₁.heap H).get? b = some o := fun e n => hidT_get e n
  have nsK : ∀ {b : Addr} {m : Str → Option Value}, s₁.heap.Ns b m → (hidT s₁.heap H).Ns b m := fun {b m} ⟨o, es, ep, e, d, r⟩ => ⟨o, es, ep, base_of e (noA e d), d, r⟩
  have nK : ∀ b o, K.lookup b = some o → H b = none := fun b o e => by
    cases q : H b with
    | none => rfl
    | some u =>
      rw [hK b u q] at e
      cases e
  have hKb : K.In (hidT s₁.heap H) := fun b o e => base_of (KX b o e) (nK b o e)
  have hM : Mod K mg (hidT s₁.heap H) := ⟨hKb, nsK hns, ⟨mb, nsK hb, hbb⟩, let ⟨mc, h1, h2⟩ := hlim; ⟨mc, nsK h1, h2⟩⟩
  have e0 : Env0 P w K mg (hidT s₁.heap H) callerA [] s₁ H := ⟨rfl, hM, fun b o e => of_hidT e, Nat.le_of_eq (hidT_size _ _), trivial, fun b hb => absurd (show b ∈ ([] : List Addr) from hb) (by simp), hok, .of_eq hg⟩
  have hl : vals.length = ps.length := by rw [wellAll_len hwl]; exact hlen
  refine codeAny_mono ((F _ hKb (nsK hns)).run callerA [] s₁ H ⟨vals, []⟩ vals (vals.map toV) _ _ hr e0 (hbind s₁ vals hl) hV (hsp H _ hO hS)) fun r s' x => ?_
  cases r with
  | error e => exact (hCX H e s' x).elim
  | ok fl =>
    cases fl with
    | next => exact False.elim x
    | brk => exact False.elim x
    | cont => exact False.elim x
    | ret u =>
      obtain ⟨v, H', os, bare, un, hok', r', q⟩ := x
      have kept : ∀ b o, s₁.heap.get? b = some o → s'.heap.get? b = some o := fun b o e => by
        cases q2 : H b with
        | none => exact un.keep b o e q2 (by intro z; exact absurd (show b ∈ ([] : List Addr) from z) (by simp)) (by simp)
        | some u2 =>
          rcases hO b with z | ⟨ob, u3, z⟩
          · rw [q2] at z
            cases z
          · have z2 := un.frzs b ob _ z
            obtain ⟨e1, _⟩ := hok b _ z
            obtain ⟨e2, _⟩ := hok' b _ z2
            rw [e] at e1
            cases e1
            exact e2
      have KX' : K.In s'.heap := fun b o e => kept b o (KX b o e)
      obtain ⟨as, hrd⟩ := Dw.reads (R := R) (cl := cl) hok' KX' d0 v u q r'
      exact ⟨u, as, rfl, hrd, OldK.of_keep kept, os, bare⟩
/-! ### the row -/
theorem layable_weight {ds : List WData} (h : WData.layableAll ds = true) : ∀ d ∈ ds, d.weight ≤ 1048576 := fun d hd =>
  (PySem.W.layableW_iff.mp (List.all_eq_true.mp h d hd)).2.2
theorem encAll_len : ∀ (cs : List Codec) (a : Codec.denoteAll cs), (Codec.encAll cs a).length = cs.length
  | [], _ => rfl
  | c :: cs, a => by
    show (Codec.encAll cs a.2).length + 1 = cs.length + 1
    rw [encAll_len cs a.2]
/-- the goal that k_headS leaves (case hc), from the promise of the row's def: whatever the arguments that the codecs let and the row asks for, the def gives what stands for enc (f ..) -/
theorem walk_spec {r : OpenSpec} {k : Nat} {q : Program} {loose : List Str} {XP : (Str → Option Value) → Heap → Prop} {YP : World → Heap → Prop} {d : DefRec} {K : Params → PySem.W.Frag} {CX : World → CXT} {ps : List Str} {sp : World → Sp}
    (hwell : r.wellSaid = true) (hdf : d.params.defaults = []) (hlen : r.args.length = ps.length) (hr : Room k callerA)
    (hY : ∀ (w : World) (h : Heap), YP w h → (K w.params).In h)
    (F : ∀ (w : World) (mg : Str → Option Value) (fa : Addr) (h : Heap), YP w h → (K w.params).In h → h.Ns mainGlobals mg → mg d.name = some (.ref fa) →
      ∃ fd : FuncData, (∀ (s : Shared) (us : List Value), us.length = ps.length → BindsTo s fd ⟨us, []⟩ (ps.zip us)) ∧
        ∀ base : Heap, (K w.params).In base → base.Ns mainGlobals mg → FnOk r.prog w (K w.params) mg base (CX w) k fa fd ps (sp w))
    (hsp : ∀ (w : World) (H : Hp) (xs : List V) (a : Codec.denoteAll r.args), OnlyF H → Codec.withinAll r.args a = true → Codec.app r.args r.asked a = true → DwAll (K w.params) H xs (Codec.encAll r.args a) →
      sp w xs H (fun v H' => Dw (K w.params) H' v (r.ret.enc (Codec.app r.args r.f a))) fun _ _ _ => False)
    (hCX : ∀ (w : World) (H : Hp) (s : Shared) (e : Value) (s' : Shared), CX w [] H s (fun _ _ _ => False) e s' → False) :
    PySem.W.WalkOS q loose XP YP r d [] (fun f vs => PySem.call f vs) := by
  intro w s_0 s₁ mg mb G Y fa o pm cd doc dV kV ho hd hcd hD hmg hg args vals as hpre hlay hrd hwl hlo
  obtain ⟨a, e1, e2⟩ := PySem.W.os_pre_some hpre
  obtain ⟨e3, hwi⟩ := Codec.encAll_of_decAll r.args args a e1
  subst e3
  have KX := hY w _ Y
  obtain ⟨fd, hb, hF⟩ := F w mg fa _ Y KX G.T.g hmg
  refine PySem.W.enter_call (codeAny_mono (spec_call (R := []) (cl := classAt s_0.heap) (d0 := r.ret.enc (Codec.app r.args r.f a)) KX G.T.g G.T.b G.T.builtins G.T.nolimit hg hwl (pl_encAll _ _) (layable_weight hlay) hr hF hb (by rw [encAll_len]; exact hlen)
    (fun H xs hO hS => hsp w H xs a hO hwi e2 hS) fun H e s' => hCX w H s₁ e s') fun r' s' hq => ?_)
  obtain ⟨u, as', rfl, h1, h2, h3, h4⟩ := hq
  exact ⟨.inl ⟨u, _, as', rfl, fun _ => rfl, h1, (OpenSpec.post_iff hwell hwi _ _).mpr rfl, fun z => Bool.noConfusion (show false = true from z)⟩, h2, h3, h4⟩
/-- the same where the promise hangs on the written part alone -/
theorem walk_specK {r : OpenSpec} {k : Nat} {q : Program} {loose : List Str} {XP : (Str → Option Value) → Heap → Prop} {YP : World → Heap → Prop} {d : DefRec} {K : Params → PySem.W.Frag} {CX : CXT} {ps : List Str} {sp : PySem.W.Frag → Sp}
    (hwell : r.wellSaid = true) (hdf : d.params.defaults = []) (hlen : r.args.length = ps.length) (hr : Room k callerA)
    (hY : ∀ (w : World) (h : Heap), YP w h → (K w.params).In h)
    (F : ∀ (w : World) (mg : Str → Option Value) (fa : Addr) (h : Heap), YP w h → (K w.params).In h → h.Ns mainGlobals mg → mg d.name = some (.ref fa) →
      ∃ fd : FuncData, (∀ (s : Shared) (us : List Value), us.length = ps.length → BindsTo s fd ⟨us, []⟩ (ps.zip us)) ∧
        ∀ base : Heap, (K w.params).In base → base.Ns mainGlobals mg → FnOk r.prog w (K w.params) mg base CX k fa fd ps (sp (K w.params)))
    (hsp : ∀ (K : PySem.W.Frag) (H : Hp) (xs : List V) (a : Codec.denoteAll r.args), OnlyF H → Codec.withinAll r.args a = true → Codec.app r.args r.asked a = true → DwAll K H xs (Codec.encAll r.args a) →
      sp K xs H (fun v H' => Dw K H' v (r.ret.enc (Codec.app r.args r.f a))) fun _ _ _ => False)
    (hCX : ∀ (H : Hp) (s : Shared) (e : Value) (s' : Shared), CX [] H s (fun _ _ _ => False) e s' → False) :
    PySem.W.WalkOS q loose XP YP r d [] (fun f vs => PySem.call f vs) :=
  walk_spec (K := K) (CX := fun _ => CX) (sp := fun w => sp (K w.params)) hwell hdf hlen hr hY F (fun w H xs a h1 h2 h3 h4 => hsp (K w.params) H xs a h1 h2 h3 h4) fun _ H s e s' => hCX H s e s'
end L2
end

end
section
/-! Mathematics, part A: what is taken, as bits. -/
namespace Ts
/-- sums of numbers without a common bit -/
theorem testBit_add_disj : ∀ (k x y : Nat), (∀ i, ¬ (x.testBit i = true ∧ y.testBit i = true)) → (x + y).testBit k = (x.testBit k || y.testBit k) := by
  intro k
  induction k with
  | zero =>
    intro x y h
    have h0 := h 0
    simp only [Nat.testBit_zero, decide_eq_true_eq] at h0 ⊢
    by_cases hx : x % 2 = 1 <;> by_cases hy : y % 2 = 1
    · exact absurd ⟨hx, hy⟩ h0
    · have : (x + y) % 2 = 1 := by omega
      simp [hx, this]
    · have : (x + y) % 2 = 1 := by omega
      simp [hy, this]
    · have : ¬ (x + y) % 2 = 1 := by omega
      simp [hx, hy, this]
  | succ k ih =>
    intro x y h
    have h0 := h 0
    simp only [Nat.testBit_zero, decide_eq_true_eq] at h0
    have e : (x + y) / 2 = x / 2 + y / 2 := by omega
    rw [Nat.testBit_succ, Nat.testBit_succ, Nat.testBit_succ, e]
    refine ih _ _ fun i => ?_
    rw [← Nat.testBit_succ, ← Nat.testBit_succ]
    exact h (i + 1)

theorem foldl_add (l : List Nat) : ∀ a, l.foldl (· + ·) a = a + l.foldl (· + ·) 0 := by
  induction l with
  | nil => intro a; rfl
  | cons x l ih =>
    intro a
    rw [List.foldl_cons, List.foldl_cons, ih (a + x), ih (0 + x)]
    omega

/-- the bits of a row that begins at part f, by seat s -/
def bitsF (s : Nat) : Nat → List Nat → Nat
  | _, [] => 0
  | f, x :: l => (if x = s then 2 ^ f else 0) + bitsF s (f + 1) l

theorem bitsOf_aux (s f : Nat) : ∀ (l : List Nat) (n : Nat), ((l.zipIdx n).map fun x => if x.1 = s then 2 ^ (f + x.2) else 0).foldl (· + ·) 0 = bitsF s (f + n) l
  | [], n => rfl
  | x :: l, n => by
    rw [List.zipIdx_cons, List.map_cons, List.foldl_cons, foldl_add, bitsOf_aux s f l (n + 1)]
    show 0 + (if x = s then 2 ^ (f + n) else 0) + bitsF s (f + (n + 1)) l = (if x = s then 2 ^ (f + n) else 0) + bitsF s (f + n + 1) l
    rw [Nat.zero_add]
    rfl
theorem bitsOf_eq (s : Nat) (b : Ks327.Booking) : Ks327.bitsOf s b = bitsF s b.from_ b.seats := bitsOf_aux s b.from_ b.seats 0

theorem bitsF_bit (s : Nat) : ∀ (l : List Nat) (f k : Nat), (bitsF s f l).testBit k = true ↔ f ≤ k ∧ l[k - f]? = some s
  | [], f, k => by
    show (0 : Nat).testBit k = true ↔ _
    simp
  | x :: l, f, k => by
    have ih := bitsF_bit s l (f + 1)
    have hd : ∀ i, ¬ ((if x = s then 2 ^ f else 0).testBit i = true ∧ (bitsF s (f + 1) l).testBit i = true) := by
      rintro i ⟨h1, h2⟩
      have h3 := ((ih i).mp h2).1
      by_cases hx : x = s
      · rw [if_pos hx, Nat.testBit_two_pow] at h1
        have : f = i := of_decide_eq_true h1
        omega
      · rw [if_neg hx] at h1
        simp at h1
    show ((if x = s then 2 ^ f else 0) + bitsF s (f + 1) l).testBit k = true ↔ _
    rw [testBit_add_disj k _ _ hd, Bool.or_eq_true, ih k]
    by_cases hk : k = f
    · subst hk
      have e0 : k - k = 0 := Nat.sub_self k
      rw [e0]
      by_cases hx : x = s
      · rw [if_pos hx, Nat.testBit_two_pow]
        simp [hx]
      · rw [if_neg hx]
        simp [hx]
        omega
    · by_cases hlt : f ≤ k
      · have e1 : k - f = (k - (f + 1)) + 1 := by omega
        rw [e1, List.getElem?_cons_succ]
        have h0 : ¬ (if x = s then 2 ^ f else 0).testBit k = true := by
          by_cases hx : x = s
          · rw [if_pos hx, Nat.testBit_two_pow]
            simp only [decide_eq_true_eq]
            omega
          · rw [if_neg hx]
            simp
        constructor
        · rintro (h | h)
          · exact absurd h h0
          · exact ⟨hlt, h.2⟩
        · rintro h
          exact .inr ⟨by omega, h.2⟩
      · constructor
        · rintro (h | h)
          · by_cases hx : x = s
            · rw [if_pos hx, Nat.testBit_two_pow] at h
              have : f = k := of_decide_eq_true h
              omega
            · rw [if_neg hx] at h
              simp at h
          · omega
        · rintro h
          omega

/-- b sits on seat s on part k -/
def SitsOn (b : Ks327.Booking) (s k : Nat) : Prop := b.from_ ≤ k ∧ b.seats[k - b.from_]? = some s
theorem bitsOf_bit (s : Nat) (b : Ks327.Booking) (k : Nat) : (Ks327.bitsOf s b).testBit k = true ↔ SitsOn b s k := by
  rw [bitsOf_eq, bitsF_bit]
  rfl

/-- no two of them share a seat on a part -/
def Apart (l : List Ks327.Booking) : Prop := l.Pairwise fun b c => ∀ s k, ¬ (SitsOn b s k ∧ SitsOn c s k)

theorem sum_bits (s : Nat) : ∀ (l : List Ks327.Booking), Apart l → ∀ k, ((l.map (Ks327.bitsOf s)).foldl (· + ·) 0).testBit k = true ↔ ∃ b ∈ l, SitsOn b s k
  | [], _, k => by simp
  | b :: l, h, k => by
    have h' := (List.pairwise_cons).mp h
    have ih := sum_bits s l h'.2
    rw [List.map_cons, List.foldl_cons, foldl_add, Nat.zero_add, testBit_add_disj, Bool.or_eq_true, bitsOf_bit, ih k]
    · simp
    · rintro i ⟨h1, h2⟩
      obtain ⟨c, hc, h3⟩ := (ih i).mp h2
      exact h'.1 c hc s i ⟨(bitsOf_bit s b i).mp h1, h3⟩

theorem taken_len (a : Ks327.Abs) : (Ks327.taken a).length = a.seats := by simp [Ks327.taken]
theorem free_iff {a : Ks327.Abs} (h : Apart (Ks327.held a)) (k s : Nat) : Ks325.free (Ks327.taken a) k s = true ↔ s < a.seats ∧ ¬ ∃ b ∈ Ks327.held a, SitsOn b s k := by
  unfold Ks325.free
  rw [Bool.and_eq_true, taken_len, decide_eq_true_eq]
  refine and_congr_right fun hs => ?_
  have e : (Ks327.taken a).getD s 0 = ((Ks327.held a).map (Ks327.bitsOf s)).foldl (· + ·) 0 := by
    unfold Ks327.taken
    rw [List.getD_eq_getElem?_getD, List.getElem?_map, List.getElem?_range hs]
    rfl
  rw [e, ← sum_bits s (Ks327.held a) h k]
  simp
end Ts

end
section
/-! Mathematics, part B: the row with the fewest changes. -/
namespace Ts
open Ks325
def stepC (last : Option Nat) (s : Nat) : Nat := if last = none ∨ last = some s then 0 else 1

structure IsMin (m : Nat) (l : List Nat) : Prop where
  mem : m ∈ l
  le : ∀ a ∈ l, m ≤ a
theorem IsMin.unique {m n : Nat} {l : List Nat} (h : IsMin m l) (g : IsMin n l) : m = n := Nat.le_antisymm (h.le n g.mem) (g.le m h.mem)
def minL : List Nat → Nat
  | [] => 0
  | [a] => a
  | a :: b :: l => min a (minL (b :: l))
theorem minL_is : ∀ (l : List Nat), l ≠ [] → IsMin (minL l) l
  | [], h => absurd rfl h
  | [a], _ => ⟨by simp [minL], by simp [minL]⟩
  | a :: b :: l, _ => by
    have ih := minL_is (b :: l) (by simp)
    refine ⟨?_, ?_⟩
    · show min a (minL (b :: l)) ∈ a :: b :: l
      by_cases h : a ≤ minL (b :: l)
      · rw [Nat.min_eq_left h]
        exact List.mem_cons_self
      · rw [Nat.min_eq_right (by omega)]
        exact List.mem_cons_of_mem _ ih.mem
    · intro x hx
      show min a (minL (b :: l)) ≤ x
      rcases List.mem_cons.mp hx with (rfl | hx)
      · exact Nat.min_le_left _ _
      · exact Nat.le_trans (Nat.min_le_right _ _) (ih.le x hx)

def lexLe (p q : Nat × Nat) : Prop := p.1 < q.1 ∨ (p.1 = q.1 ∧ p.2 ≤ q.2)
structure IsMinP (m : Nat × Nat) (l : List (Nat × Nat)) : Prop where
  mem : m ∈ l
  le : ∀ a ∈ l, lexLe m a
theorem lexLe_anti {p q : Nat × Nat} (h : lexLe p q) (g : lexLe q p) : p = q := by
  unfold lexLe at h g
  exact Prod.ext (by omega) (by omega)
theorem lexLe_total (p q : Nat × Nat) : lexLe p q ∨ lexLe q p := by unfold lexLe; omega
theorem lexLe_trans {p q r : Nat × Nat} (h : lexLe p q) (g : lexLe q r) : lexLe p r := by unfold lexLe at *; omega
theorem IsMinP.unique {m n : Nat × Nat} {l : List (Nat × Nat)} (h : IsMinP m l) (g : IsMinP n l) : m = n := lexLe_anti (h.le n g.mem) (g.le m h.mem)
instance (p q : Nat × Nat) : Decidable (lexLe p q) := inferInstanceAs (Decidable (_ ∨ _))
def minP : List (Nat × Nat) → Nat × Nat
  | [] => (0, 0)
  | [a] => a
  | a :: b :: l => if lexLe a (minP (b :: l)) then a else minP (b :: l)
theorem minP_is : ∀ (l : List (Nat × Nat)), l ≠ [] → IsMinP (minP l) l
  | [], h => absurd rfl h
  | [a], _ => ⟨by simp [minP], by simp [minP, lexLe]⟩
  | a :: b :: l, _ => by
    have ih := minP_is (b :: l) (by simp)
    have e : minP (a :: b :: l) = if lexLe a (minP (b :: l)) then a else minP (b :: l) := rfl
    rw [e]
    by_cases h : lexLe a (minP (b :: l))
    · rw [if_pos h]
      refine ⟨List.mem_cons_self, fun x hx => ?_⟩
      rcases List.mem_cons.mp hx with (rfl | hx)
      · exact .inr ⟨rfl, Nat.le_refl _⟩
      · exact lexLe_trans h (ih.le x hx)
    · rw [if_neg h]
      refine ⟨List.mem_cons_of_mem _ ih.mem, fun x hx => ?_⟩
      rcases List.mem_cons.mp hx with (rfl | hx)
      · exact (lexLe_total x _).resolve_left h
      · exact ih.le x hx

/-! ### What the program reckons -/
/-- fewest changes from a seat to the end, by the later part's -/
def fewA (s : Nat) (later : List (Nat × Nat)) : Nat := if later = [] then 0 else minL (later.map fun x => x.2 + stepC (some s) x.1)
/-- for each part: each free seat with the fewest changes from it -/
def aheads : List (List Nat) → List (List (Nat × Nat))
  | [] => []
  | f :: r => (f.map fun s => (s, fewA s ((aheads r).headD []))) :: aheads r
def choices (last : Option Nat) (d : List (Nat × Nat)) : List (Nat × Nat) := d.map fun x => (x.2 + stepC last x.1, x.1)
def best (last : Option Nat) (d : List (Nat × Nat)) : Nat := (minP (choices last d)).2
def rowOf : Option Nat → List (List (Nat × Nat)) → List Nat
  | _, [] => []
  | last, d :: r => best last d :: rowOf (some (best last d)) r

/-! ### What the specification reckons -/
theorem lesser_none (y : Option Nat) : lesser none y = y := by cases y <;> rfl
theorem fold_lesser : ∀ (C : List (Option Nat)) (acc : Option Nat), (∃ m, C.foldl lesser acc = some m ∧ (some m = acc ∨ some m ∈ C) ∧ (∀ x, acc = some x → m ≤ x) ∧ ∀ x, some x ∈ C → m ≤ x) ∨ (C.foldl lesser acc = none ∧ acc = none ∧ ∀ x, some x ∉ C)
  | [], acc => by
    cases acc with
    | none => exact .inr ⟨rfl, rfl, fun x h => by cases h⟩
    | some x => exact .inl ⟨x, rfl, .inl rfl, fun y h => by cases h; exact Nat.le_refl _, fun y h => by cases h⟩
  | c :: C, acc => by
    have ih := fold_lesser C (lesser acc c)
    rw [List.foldl_cons]
    rcases ih with ⟨m, h1, h2, h3, h4⟩ | ⟨h1, h2, h3⟩
    · refine .inl ⟨m, h1, ?_, ?_, ?_⟩
      · rcases h2 with h2 | h2
        · cases acc with
          | none =>
            rw [lesser_none] at h2
            exact .inr (by rw [h2]; exact List.mem_cons_self)
          | some x =>
            cases c with
            | none => exact .inl h2
            | some y =>
              have e : m = min x y := Option.some.inj h2
              by_cases hxy : x ≤ y
              · rw [Nat.min_eq_left hxy] at e
                exact .inl (by rw [e])
              · rw [Nat.min_eq_right (by omega)] at e
                exact .inr (by rw [e]; exact List.mem_cons_self)
        · exact .inr (List.mem_cons_of_mem _ h2)
      · intro x hx
        subst hx
        cases c with
        | none => exact h3 x rfl
        | some y => exact Nat.le_trans (h3 (min x y) rfl) (Nat.min_le_left _ _)
      · intro x hx
        rcases List.mem_cons.mp hx with hx | hx
        · subst hx
          cases acc with
          | none => exact h3 x rfl
          | some y => exact Nat.le_trans (h3 (min y x) rfl) (Nat.min_le_right _ _)
        · exact h4 x hx
    · have e : acc = none ∧ c = none := by
        cases acc with
        | none =>
          rw [lesser_none] at h2
          exact ⟨rfl, h2⟩
        | some x => cases c <;> cases h2
      exact .inr ⟨h1, e.1, fun x hx => by
        rcases List.mem_cons.mp hx with hx | hx
        · rw [e.2] at hx
          cases hx
        · exact h3 x hx⟩

/-- a dict of costs is a row of costs -/
structure Like (d : List (Nat × Nat)) (C : List (Option Nat)) : Prop where
  iff : ∀ s c, (s, c) ∈ d ↔ C[s]? = some (some c)

theorem Like.of_mem {d : List (Nat × Nat)} {C : List (Option Nat)} (h : Like d C) {c : Nat} (hc : some c ∈ C) : ∃ s, (s, c) ∈ d := by
  obtain ⟨s, hs⟩ := List.getElem?_of_mem hc
  exact ⟨s, (h.iff s c).mpr hs⟩

theorem Like.mem {d : List (Nat × Nat)} {C : List (Option Nat)} (h : Like d C) {s c : Nat} (hc : (s, c) ∈ d) : some c ∈ C := List.mem_of_getElem? ((h.iff s c).mp hc)

/-- the later part's least, by the dict -/
theorem least_of {d : List (Nat × Nat)} {C : List (Option Nat)} (h : Like d C) (hd : d ≠ []) : ∃ m, C.foldl lesser none = some m ∧ (∃ s, (s, m) ∈ d) ∧ ∀ s c, (s, c) ∈ d → m ≤ c := by
  rcases fold_lesser C none with ⟨m, h1, h2, _, h4⟩ | ⟨_, _, h3⟩
  · refine ⟨m, h1, ?_, fun s c hc => h4 c (h.mem hc)⟩
    rcases h2 with h2 | h2
    · cases h2
    · exact h.of_mem h2
  · cases d with
    | nil => exact absurd rfl hd
    | cons x l =>
      obtain ⟨s, c⟩ := x
      exact absurd (h.mem List.mem_cons_self) (h3 c)

/-- one part's costs -/
theorem cost_of {t : Taken} {s : Nat} {d : List (Nat × Nat)} {C : List (Option Nat)} (h : Like d C) (hl : C.length = t.length) (hs : s < t.length) (hd : d ≠ []) :
    lesser (C.getD s none) (more (C.foldl lesser none) 1) = some (minL (d.map fun x => x.2 + stepC (some s) x.1)) := by
  obtain ⟨m, h1, ⟨s0, hs0⟩, h3⟩ := least_of h hd
  have key : IsMin (minL (d.map fun x => x.2 + stepC (some s) x.1)) (d.map fun x => x.2 + stepC (some s) x.1) := minL_is _ (by simpa using hd)
  rw [h1, List.getD_eq_getElem?_getD]
  have hsC : s < C.length := by omega
  cases e : C[s]? with
  | none =>
    rw [List.getElem?_eq_none_iff] at e
    omega
  | some o =>
    cases o with
    | none =>
      show lesser none (some (m + 1)) = _
      rw [lesser_none]
      refine congrArg some (IsMin.unique (l := d.map fun x => x.2 + stepC (some s) x.1) ⟨?_, ?_⟩ key)
      · refine List.mem_map.mpr ⟨(s0, m), hs0, ?_⟩
        have : s ≠ s0 := by
          rintro rfl
          have := (h.iff s m).mp hs0
          rw [e] at this
          cases this
        simp [stepC, this]
      · intro a ha
        obtain ⟨⟨s1, c1⟩, hm, rfl⟩ := List.mem_map.mp ha
        have h4 := h3 s1 c1 hm
        have : s ≠ s1 := by
          rintro rfl
          have := (h.iff s c1).mp hm
          rw [e] at this
          cases this
        simp [stepC, this]
        omega
    | some c =>
      show some (min c (m + 1)) = _
      have hsc : (s, c) ∈ d := (h.iff s c).mpr e
      refine congrArg some (IsMin.unique (l := d.map fun x => x.2 + stepC (some s) x.1) ⟨?_, ?_⟩ key)
      · by_cases hcm : c ≤ m + 1
        · rw [Nat.min_eq_left hcm]
          exact List.mem_map.mpr ⟨(s, c), hsc, by simp [stepC]⟩
        · rw [Nat.min_eq_right (by omega)]
          refine List.mem_map.mpr ⟨(s0, m), hs0, ?_⟩
          have : s ≠ s0 := by
            rintro rfl
            have := (h.iff s m).mp hs0
            rw [e] at this
            have e2 : c = m := Option.some.inj (Option.some.inj this)
            omega
          simp [stepC, this]
      · intro a ha
        obtain ⟨⟨s1, c1⟩, hm, rfl⟩ := List.mem_map.mp ha
        have h4 := h3 s1 c1 hm
        by_cases hss : s = s1
        · subst hss
          have := (h.iff s c1).mp hm
          rw [e] at this
          have e2 : c = c1 := Option.some.inj (Option.some.inj this)
          subst e2
          simp [stepC]
          omega
        · simp [stepC, hss]
          omega

def ends (t : Taken) : List (Option Nat) := (List.range t.length).map fun _ => some 0
theorem cost_end {t : Taken} {s : Nat} (hs : s < t.length) : lesser ((ends t).getD s none) (more ((ends t).foldl lesser none) 1) = some 0 := by
  rw [(List.getD_eq_getElem?_getD)]
  have e : (ends t)[s]? = some (some 0) := by
    unfold ends
    rw [List.getElem?_map, List.getElem?_range hs]
    rfl
  rw [e]
  have hm : ∀ x, some x ∈ ends t → x = 0 := by
    intro x hx
    obtain ⟨_, _, h⟩ := List.mem_map.mp hx
    exact (Option.some.inj h).symm
  rcases fold_lesser (ends t) none with ⟨m, h1, h2, _, _⟩ | ⟨_, _, h3⟩
  · rw [h1]
    show some (min 0 (m + 1)) = some 0
    simp
  · exact absurd (List.mem_of_getElem? e) (h3 0)

/-- a dict of a part's free seats, and the row of costs -/
theorem like_costs {t : Taken} {k : Nat} {g : Nat → Nat} {next : List (Option Nat)} (hg : ∀ s, s < t.length → lesser (next.getD s none) (more (next.foldl lesser none) 1) = some (g s)) :
    Like (((List.range t.length).filter (free t k)).map fun s => (s, g s)) (costs t k next) := by
  refine ⟨fun s c => ?_⟩
  show _ ↔ ((List.range t.length).map fun s => if free t k s then lesser (next.getD s none) (more (next.foldl lesser none) 1) else none)[s]? = some (some c)
  rw [List.getElem?_map]
  by_cases hs : s < t.length
  · rw [List.getElem?_range hs]
    show _ ↔ some (if free t k s then _ else none) = some (some c)
    rw [hg s hs]
    constructor
    · intro h
      obtain ⟨s1, h1, h2⟩ := List.mem_map.mp h
      obtain ⟨e1, e2⟩ := Prod.mk.inj h2
      subst e1
      rw [if_pos (List.mem_filter.mp h1).2, e2]
    · intro h
      by_cases hf : free t k s = true
      · rw [if_pos hf] at h
        have e2 : g s = c := Option.some.inj (Option.some.inj h)
        exact List.mem_map.mpr ⟨s, List.mem_filter.mpr ⟨List.mem_range.mpr hs, hf⟩, by rw [e2]⟩
      · rw [if_neg hf] at h
        cases h
  · constructor
    · intro h
      obtain ⟨s1, h1, h2⟩ := List.mem_map.mp h
      obtain ⟨e1, e2⟩ := Prod.mk.inj h2
      subst e1
      exact absurd (List.mem_range.mp (List.mem_filter.mp h1).1) hs
    · intro h
      rw [List.getElem?_eq_none (by simpa using Nat.le_of_not_lt hs)] at h
      cases h

def freeOf (t : Taken) (k : Nat) : List Nat := (List.range t.length).filter (free t k)

/-- rows of costs, and the dicts -/
inductive Likes (t : Taken) : List (List (Nat × Nat)) → List (List (Option Nat)) → Prop
  | nil : Likes t [] [ends t]
  | cons {d C ds Cs} : d ≠ [] → Like d C → C.length = t.length → (∀ s c, (s, c) ∈ d → c = fewA s (ds.headD [])) → Likes t ds Cs → Likes t (d :: ds) (C :: Cs)

theorem costs_len (t : Taken) (k : Nat) (n : List (Option Nat)) : (costs t k n).length = t.length := by simp [costs]

theorem back_likes (t : Taken) : ∀ (ks : List Nat), (∀ k ∈ ks, freeOf t k ≠ []) → Likes t (aheads (ks.map (freeOf t))) (back t ks)
  | [], _ => Likes.nil
  | k :: ks, h => by
    have ih := back_likes t ks fun k hk => h k (List.mem_cons_of_mem _ hk)
    have hk := h k List.mem_cons_self
    show Likes t (((freeOf t k).map fun s => (s, fewA s ((aheads (ks.map (freeOf t))).headD []))) :: aheads (ks.map (freeOf t))) (back t (k :: ks))
    cases e : back t ks with
    | nil =>
      rw [e] at ih
      generalize aheads (ks.map (freeOf t)) = ds at ih
      cases ih
    | cons n r =>
      have e2 : back t (k :: ks) = costs t k n :: n :: r := by
        show (match back t ks with | [] => [] | n :: r => costs t k n :: n :: r) = _
        rw [e]
      rw [e2]
      rw [e] at ih
      refine Likes.cons (by simpa using hk) ?_ (costs_len _ _ _) ?_ ih
      · refine like_costs fun s hs => ?_
        generalize aheads (ks.map (freeOf t)) = ds at ih
        cases ih with
        | nil => exact cost_end hs
        | cons hd hl hlen _ _ =>
          rw [cost_of hl hlen hs hd]
          unfold fewA
          rw [List.headD_cons, if_neg hd]
      · intro s c hc
        obtain ⟨s1, h1, h2⟩ := List.mem_map.mp hc
        obtain ⟨e1, e2⟩ := Prod.mk.inj h2
        subst e1
        exact e2.symm

theorem choices_ne {last : Option Nat} {d : List (Nat × Nat)} (h : d ≠ []) : choices last d ≠ [] := by
  unfold choices
  simpa using h
theorem best_is {last : Option Nat} {d : List (Nat × Nat)} (h : d ≠ []) : ∃ c, (best last d, c) ∈ d ∧ minP (choices last d) = (c + stepC last (best last d), best last d) ∧ ∀ s' c', (s', c') ∈ d → lexLe (c + stepC last (best last d), best last d) (c' + stepC last s', s') := by
  have H := minP_is (choices last d) (choices_ne h)
  obtain ⟨⟨s, c⟩, h1, h2⟩ := List.mem_map.mp H.mem
  have e : best last d = s := by
    unfold best
    rw [← h2]
  rw [e]
  refine ⟨c, h1, h2.symm, fun s' c' h' => ?_⟩
  have := H.le (c' + stepC last s', s') (List.mem_map.mpr ⟨(s', c'), h', rfl⟩)
  rw [← h2] at this
  exact this

theorem find_first {p : Nat → Bool} {n s : Nat} (hs : s < n) (hp : p s = true) (hm : ∀ j, j < s → p j = false) : (List.range n).find? p = some s := by
  rw [List.find?_range_eq_some]
  refine ⟨hp, List.mem_range.mpr hs, fun j hj => by rw [hm j hj]; rfl⟩

theorem pick_best {last : Option Nat} {d : List (Nat × Nat)} {C : List (Option Nat)} {c : Nat} (h : Like d C) (hc : (best last d, c) ∈ d) (hm : ∀ s' c', (s', c') ∈ d → lexLe (c + stepC last (best last d), best last d) (c' + stepC last s', s')) :
    pick last C (c + stepC last (best last d)) = some (best last d) := by
  have e := (h.iff _ _).mp hc
  unfold pick
  refine find_first (List.getElem?_eq_some_iff.mp e).1 ?_ fun j hj => ?_
  · rw [List.getD_eq_getElem?_getD, e]
    show (c + stepC last (best last d) == c + stepC last (best last d)) = true
    simp
  · rw [List.getD_eq_getElem?_getD]
    cases ej : C[j]? with
    | none => rfl
    | some o =>
      cases o with
      | none => rfl
      | some x =>
        show (x + stepC last j == c + stepC last (best last d)) = false
        have := hm j x ((h.iff _ _).mpr ej)
        unfold lexLe at this
        simp only [beq_eq_false_iff_ne, ne_eq]
        simp only at this
        omega

/-- the least sum of the choices -/
def leastC (last : Option Nat) (d : List (Nat × Nat)) : Nat := (minP (choices last d)).1
theorem leastC_few {s : Nat} {d : List (Nat × Nat)} (h : d ≠ []) : leastC (some s) d = fewA s d := by
  unfold fewA
  rw [if_neg h]
  have H := minP_is (choices (some s) d) (choices_ne h)
  refine IsMin.unique (l := d.map fun x => x.2 + stepC (some s) x.1) ⟨?_, ?_⟩ (minL_is _ (by simpa using h))
  · obtain ⟨x, h1, h2⟩ := List.mem_map.mp H.mem
    refine List.mem_map.mpr ⟨x, h1, ?_⟩
    unfold leastC
    rw [← h2]
  · intro a ha
    obtain ⟨x, h1, rfl⟩ := List.mem_map.mp ha
    have := H.le (x.2 + stepC (some s) x.1, x.1) (List.mem_map.mpr ⟨x, h1, rfl⟩)
    unfold lexLe at this
    unfold leastC
    simp only at this
    omega

theorem walk_row (t : Taken) : ∀ (ds : List (List (Nat × Nat))) (Cs : List (List (Option Nat))) (last : Option Nat), Likes t ds Cs → ds ≠ [] → walk last (leastC last (ds.headD [])) Cs = rowOf last ds
  | [], _, _, _, h => absurd rfl h
  | d :: ds, Cs, last, h, _ => by
    cases h with
    | @cons d0 C ds0 Cs hd hl hlen hf hr =>
      obtain ⟨c, h1, h2, h3⟩ := best_is (last := last) hd
      have e1 : leastC last d = c + stepC last (best last d) := by
        unfold leastC
        rw [h2]
      rw [List.headD_cons, e1]
      have hp := pick_best hl h1 h3
      cases hr with
      | nil =>
        show (match pick last C (c + stepC last (best last d)) with | none => [] | some s => s :: walk (some s) _ [ends t]) = rowOf last [d]
        rw [hp]
        rfl
      | @cons d2 C2 ds2 Cs2 hd2 hl2 hlen2 hf2 hr2 =>
        have ih := walk_row t (d2 :: ds2) (C2 :: Cs2) (some (best last d)) (Likes.cons hd2 hl2 hlen2 hf2 hr2) (by simp)
        show (match pick last C (c + stepC last (best last d)) with | none => [] | some s => s :: walk (some s) (c + stepC last (best last d) - stepC last s) (C2 :: Cs2)) = rowOf last (d :: d2 :: ds2)
        rw [hp]
        show best last d :: walk (some (best last d)) (c + stepC last (best last d) - stepC last (best last d)) (C2 :: Cs2) = best last d :: rowOf (some (best last d)) (d2 :: ds2)
        have e2 := hf _ _ h1
        rw [List.headD_cons, ← leastC_few hd2] at e2
        rw [Nat.add_sub_cancel, e2]
        rw [List.headD_cons] at ih
        rw [ih]

theorem rowOf_changes (t : Taken) : ∀ (ds : List (List (Nat × Nat))) (Cs : List (List (Option Nat))) (last : Option Nat), Likes t ds Cs → ds ≠ [] → (match last with | none => changes (rowOf last ds) | some s => changes (s :: rowOf last ds)) = leastC last (ds.headD [])
  | [], _, _, _, h => absurd rfl h
  | d :: ds, Cs, last, h, _ => by
    cases h with
    | @cons d0 C ds0 Cs hd hl hlen hf hr =>
      obtain ⟨c, h1, h2, h3⟩ := best_is (last := last) hd
      have e1 : leastC last d = c + stepC last (best last d) := by
        unfold leastC
        rw [h2]
      rw [List.headD_cons, e1]
      have e3 : changes (best last d :: rowOf (some (best last d)) ds) = c := by
        cases hr with
        | nil => 
          have := hf _ _ h1
          exact this.symm
        | @cons d2 C2 ds2 Cs2 hd2 hl2 hlen2 hf2 hr2 =>
          have ih := rowOf_changes t (d2 :: ds2) (C2 :: Cs2) (some (best last d)) (Likes.cons hd2 hl2 hlen2 hf2 hr2) (by simp)
          have e2 := hf _ _ h1
          rw [List.headD_cons, ← leastC_few hd2] at e2
          rw [List.headD_cons] at ih
          rw [e2]
          exact ih
      cases last with
      | none =>
        show changes (best none d :: rowOf (some (best none d)) ds) = c + 0
        rw [e3]
        rfl
      | some s =>
        show (if s = best (some s) d then 0 else 1) + changes (best (some s) d :: rowOf (some (best (some s) d)) ds) = c + stepC (some s) (best (some s) d)
        rw [e3]
        unfold stepC
        by_cases hs : s = best (some s) d
        · rw [if_pos hs, if_pos (.inr (by rw [← hs]))]
          omega
        · rw [if_neg hs, if_neg (by rintro (q | q); cases q; exact hs (Option.some.inj q))]
          omega

theorem rowOf_len : ∀ (ds : List (List (Nat × Nat))) (last : Option Nat), (rowOf last ds).length = ds.length
  | [], _ => rfl
  | d :: ds, last => by
    show (rowOf _ ds).length + 1 = ds.length + 1
    rw [rowOf_len ds]
theorem aheads_len : ∀ (fs : List (List Nat)), (aheads fs).length = fs.length
  | [] => rfl
  | f :: fs => by
    show (aheads fs).length + 1 = fs.length + 1
    rw [aheads_len fs]
theorem rowOf_mem : ∀ (fs : List (List Nat)) (last : Option Nat) (i s : Nat), (∀ f ∈ fs, f ≠ []) → (rowOf last (aheads fs))[i]? = some s → ∃ f, fs[i]? = some f ∧ s ∈ f
  | [], _, i, s, _, h => by cases h
  | f :: fs, last, i, s, hne, h => by
    have hf : f ≠ [] := hne f List.mem_cons_self
    have hd : (f.map fun s => (s, fewA s ((aheads fs).headD []))) ≠ [] := by simpa using hf
    cases i with
    | zero =>
      have e : best last (f.map fun s => (s, fewA s ((aheads fs).headD []))) = s := Option.some.inj h
      obtain ⟨c, h1, _, _⟩ := best_is (last := last) hd
      rw [e] at h1
      obtain ⟨s1, h3, h4⟩ := List.mem_map.mp h1
      have e1 : s1 = s := (Prod.mk.inj h4).1
      subst e1
      exact ⟨f, rfl, h3⟩
    | succ i =>
      obtain ⟨g, h1, h2⟩ := rowOf_mem fs _ i s (fun g hg => hne g (List.mem_cons_of_mem _ hg)) h
      exact ⟨g, h1, h2⟩

theorem parts_len (x y : Nat) : (parts x y).length = y - x := by simp [parts]
/-- **the fewest changes**: the program's row is the specification's -/
theorem fewest_eq {t : Taken} {x y : Nat} (hxy : x < y) (h : ∀ k ∈ parts x y, freeOf t k ≠ []) :
    fewest t x y = some (changes (rowOf none (aheads ((parts x y).map (freeOf t)))), rowOf none (aheads ((parts x y).map (freeOf t)))) := by
  have L := back_likes t (parts x y) h
  have hne : aheads ((parts x y).map (freeOf t)) ≠ [] := by
    intro e
    have := congrArg List.length e
    rw [aheads_len, List.length_map, parts_len] at this
    simp at this
    omega
  have w := walk_row t _ _ none L hne
  have ch := rowOf_changes t _ _ none L hne
  unfold fewest
  generalize aheads ((parts x y).map (freeOf t)) = ds at *
  generalize back t (parts x y) = Bs at *
  cases L with
  | nil => exact absurd rfl hne
  | @cons d C ds Cs hd hl hlen hf hr =>
    obtain ⟨m, h1, ⟨s0, hs0⟩, h3⟩ := least_of hl hd
    have e : m = leastC none d := by
      obtain ⟨c, g1, g2, g3⟩ := best_is (last := none) hd
      have e1 : leastC none d = c + 0 := by
        unfold leastC
        rw [g2]
        rfl
      have a1 := h3 _ _ g1
      have a2 := g3 _ _ hs0
      unfold lexLe at a2
      have z1 : stepC none (best none d) = 0 := rfl
      have z2 : stepC none s0 = 0 := rfl
      rw [z1, z2] at a2
      simp only at a2
      omega
    dsimp only
    rw [List.headD_cons, h1]
    rw [List.headD_cons, ← e] at w ch
    show some (m, walk none m (C :: Cs)) = some (changes (rowOf none (d :: ds)), rowOf none (d :: ds))
    rw [w, show changes (rowOf none (d :: ds)) = m from ch]
end Ts

end
section
/-! Mathematics, part C: seated at once. -/
namespace Ts
open Ks326
def key (x : Told) : Nat × Nat := (x.2.1, x.1)
def tolds (l : List Way) : List Told := l.zipIdx.map fun x => (x.2, x.1)
theorem insert_perm (x : Told) : ∀ (l : List Told), (insert x l).Perm (x :: l)
  | [] => List.Perm.refl _
  | y :: l => by
    unfold Ks326.insert
    split
    · exact List.Perm.refl _
    · exact ((insert_perm x l).cons y).trans (List.Perm.swap x y l)
theorem insert_pair (x : Told) : ∀ (l : List Told), l.Pairwise (fun a b => lexLe (key a) (key b)) → (insert x l).Pairwise (fun a b => lexLe (key a) (key b))
  | [], _ => List.pairwise_singleton _ _
  | y :: l, h => by
    have h' := (List.pairwise_cons).mp h
    unfold Ks326.insert
    by_cases c : x.2.1 < y.2.1 ∨ (x.2.1 = y.2.1 ∧ x.1 < y.1)
    · rw [if_pos c]
      have hxy : lexLe (key x) (key y) := by unfold lexLe key; simp only; omega
      refine List.pairwise_cons.mpr ⟨fun z hz => ?_, h⟩
      rcases List.mem_cons.mp hz with (rfl | hz)
      · exact hxy
      · exact lexLe_trans hxy (h'.1 z hz)
    · rw [if_neg c]
      have hyx : lexLe (key y) (key x) := by unfold lexLe key; simp only; omega
      refine List.pairwise_cons.mpr ⟨fun z hz => ?_, insert_pair x l h'.2⟩
      rcases List.mem_cons.mp ((insert_perm x l).mem_iff.mp hz) with rfl | hz
      · exact hyx
      · exact h'.1 z hz
theorem inserts_perm : ∀ (l acc : List Told), (l.foldl (fun s x => insert x s) acc).Perm (l ++ acc)
  | [], acc => List.Perm.refl _
  | x :: l, acc => by
    rw [List.foldl_cons]
    refine (inserts_perm l _).trans ?_
    refine (List.Perm.append_left l (insert_perm x acc)).trans ?_
    exact List.perm_middle
theorem inserts_pair : ∀ (l acc : List Told), acc.Pairwise (fun a b => lexLe (key a) (key b)) → (l.foldl (fun s x => insert x s) acc).Pairwise (fun a b => lexLe (key a) (key b))
  | [], _, h => h
  | x :: l, acc, h => by
    rw [List.foldl_cons]
    exact inserts_pair l _ (insert_pair x acc h)
theorem sorted_perm (l : List Way) : (sorted l).Perm (tolds l) := by
  have := inserts_perm (tolds l) []
  rw [List.append_nil] at this
  exact this
theorem sorted_pair (l : List Way) : (sorted l).Pairwise (fun a b => lexLe (key a) (key b)) := inserts_pair _ _ List.Pairwise.nil

/-! ### The program's order -/
def orderOf (l : List Way) : List (Nat × Nat) := (sorted l).map key
def keysOf (l : List Way) : List (Nat × Nat) := l.zipIdx.map fun x => (x.1.1, x.2)
theorem orderOf_perm (l : List Way) : (orderOf l).Perm (keysOf l) := by
  have h := (sorted_perm l).map key
  have e : (tolds l).map key = keysOf l := by
    unfold tolds keysOf
    rw [List.map_map]
    rfl
  rw [e] at h
  exact h
theorem orderOf_pair (l : List Way) : (orderOf l).Pairwise lexLe := List.pairwise_map.mpr (sorted_pair l)
theorem perm_unique : ∀ {l m : List (Nat × Nat)}, l.Perm m → l.Pairwise lexLe → m.Pairwise lexLe → l = m
  | [], m, h, _, _ => (List.nil_perm.mp h).symm
  | x :: l, [], h, _, _ => absurd (List.perm_nil.mp h) (by simp)
  | x :: l, y :: m, h, h1, h2 => by
    have p1 := List.pairwise_cons.mp h1
    have p2 := List.pairwise_cons.mp h2
    have e : x = y := by
      have a : x ∈ y :: m := h.mem_iff.mp List.mem_cons_self
      have b : y ∈ x :: l := h.mem_iff.mpr List.mem_cons_self
      rcases List.mem_cons.mp a with a | a
      · exact a
      · rcases List.mem_cons.mp b with b | b
        · exact b.symm
        · exact lexLe_anti (p1.1 y b) (p2.1 x a)
    subst e
    rw [perm_unique (List.perm_cons x |>.mp h) p1.2 p2.2]

/-! ### The program's seats -/
/-- the least seat that is left by f, or the one behind all -/
def leftSeat : List Nat → Nat → Nat
  | [], _ => 0
  | x :: l, f => if x ≤ f then 0 else leftSeat l f + 1
theorem leftSeat_spec : ∀ (g : List Nat) (f : Nat), (leftSeat g f ≤ g.length) ∧ (∀ x, g[leftSeat g f]? = some x → x ≤ f) ∧ ∀ j x, j < leftSeat g f → g[j]? = some x → f < x
  | [], f => ⟨Nat.le_refl _, by simp, fun j x h => by simp [leftSeat] at h⟩
  | y :: l, f => by
    obtain ⟨h1, h2, h3⟩ := leftSeat_spec l f
    unfold leftSeat
    by_cases c : y ≤ f
    · rw [if_pos c]
      exact ⟨Nat.zero_le _, fun x h => by have : y = x := Option.some.inj h; omega, fun j x h => by omega⟩
    · rw [if_neg c]
      refine ⟨by simpa using h1, fun x h => h2 x h, fun j x hj h => ?_⟩
      cases j with
      | zero =>
        have : y = x := Option.some.inj h
        omega
      | succ j => exact h3 j x (by omega) h
/-- where each gets out, when one more sits on seat s -/
def outs (g : List Nat) (s e : Nat) : List Nat := (if s = g.length then g ++ [0] else g).set s e
theorem outs_get (g : List Nat) {s : Nat} (e : Nat) (h : s ≤ g.length) (j : Nat) : (outs g s e)[j]? = if j = s then some e else g[j]? := by
  unfold outs
  by_cases c : s = g.length
  · rw [if_pos c]
    by_cases d : j = s
    · rw [if_pos d, d, List.getElem?_set_self (by rw [List.length_append]; simp; omega)]
    · rw [if_neg d, List.getElem?_set_ne (fun q => d q.symm)]
      by_cases q : j < g.length
      · rw [List.getElem?_append_left q]
      · rw [List.getElem?_eq_none (by simp; omega), List.getElem?_eq_none (by omega)]
  · rw [if_neg c]
    by_cases d : j = s
    · rw [if_pos d, d, List.getElem?_set_self (by omega)]
    · rw [if_neg d, List.getElem?_set_ne (fun q => d q.symm)]
theorem outs_len (g : List Nat) {s : Nat} (e : Nat) : (outs g s e).length = if s = g.length then g.length + 1 else g.length := by
  unfold outs
  split <;> simp
def stepSeat (ways : List Way) (st : List Nat × List Nat) (p : Nat × Nat) : List Nat × List Nat :=
  (outs st.1 (leftSeat st.1 p.1) ((ways.getD p.2 (0, 0)).2), st.2.set p.2 (leftSeat st.1 p.1))
def seatsAtOnce (ways : List Way) : List Nat := ((orderOf ways).foldl (stepSeat ways) ([], List.replicate ways.length 0)).2

/-- between two turns -/
structure Gave (n : Nat) (had : List (Told × Nat)) (rest : List Told) (g : List Nat) : Prop where
  lt : ∀ h ∈ had, h.2 < n ∧ ∃ e, g[h.2]? = some e ∧ h.1.2.2 ≤ e
  ex : ∀ s e, g[s]? = some e → ∃ h ∈ had, h.2 = s ∧ h.1.2.2 = e
  before : ∀ h ∈ had, ∀ x ∈ rest, h.1.2.1 ≤ x.2.1
  apart : had.Pairwise fun h h' => h.2 = h'.2 → meet h.1.2 h'.1.2 = false

theorem cover_len : ∀ (n : Nat) (l : List Nat), (∀ s, s < n → s ∈ l) → n ≤ l.length
  | 0, _, _ => Nat.zero_le _
  | n + 1, l, h => by
    have hn := h n (by omega)
    have := cover_len n (l.erase n) fun s hs => (List.mem_erase_of_ne (by omega)).mpr (h s (by omega))
    rw [List.length_erase_of_mem hn] at this
    have : 0 < l.length := List.length_pos_of_mem hn
    omega

theorem give_step {n : Nat} {had : List (Told × Nat)} {x : Told} {rest : List Told} {g : List Nat} (G : Gave n had (x :: rest) g) (hx : x.2.1 < x.2.2)
    (pw : (x :: rest).Pairwise (fun a b => lexLe (key a) (key b))) (cap : (had.filter fun h => on x.2.1 h.1.2).length < n) :
    leastSeat n had x.2 = some (leftSeat g x.2.1) ∧ Gave n (had ++ [(x, leftSeat g x.2.1)]) rest (outs g (leftSeat g x.2.1) x.2.2) := by
  obtain ⟨s1, s2, s3⟩ := leftSeat_spec g x.2.1
  generalize hs : leftSeat g x.2.1 = s at *
  have onx : ∀ j e, j < s → g[j]? = some e → ∃ h ∈ had, h.2 = j ∧ on x.2.1 h.1.2 = true := by
    intro j e hj he
    obtain ⟨h, hh, a, b⟩ := G.ex j e he
    have c := G.before h hh x List.mem_cons_self
    have d := s3 j e hj he
    refine ⟨h, hh, a, ?_⟩
    unfold on
    simp only [decide_eq_true_eq, Bool.and_eq_true]
    omega
  have hsn : s < n := by
    by_cases c : s < n
    · exact c
    · exfalso
      have : n ≤ ((had.filter fun h => on x.2.1 h.1.2).map (·.2)).length := by
        refine cover_len n _ fun j hj => ?_
        have hj2 : j < g.length := by omega
        obtain ⟨h, hh, a, b⟩ := onx j g[j] (by omega) (List.getElem?_eq_getElem hj2)
        exact List.mem_map.mpr ⟨h, List.mem_filter.mpr ⟨hh, b⟩, a⟩
      rw [List.length_map] at this
      omega
  have nomeet : ∀ h ∈ had, h.2 = s → meet h.1.2 x.2 = false := by
    intro h hh e
    obtain ⟨_, z, hz, hle⟩ := G.lt h hh
    rw [e] at hz
    have := s2 z hz
    unfold meet
    simp only [Bool.and_eq_false_iff, decide_eq_false_iff_not]
    omega
  refine ⟨?_, ?_, ?_, ?_, ?_⟩
  · unfold leastSeat
    refine find_first hsn ?_ fun j hj => ?_
    · rw [List.all_eq_true]
      intro h hh
      by_cases e : h.2 = s
      · rw [nomeet h hh e]
        simp
      · simp [e]
    · rw [List.all_eq_false]
      have hj2 : j < g.length := by omega
      obtain ⟨h, hh, a, b⟩ := onx j g[j] hj (List.getElem?_eq_getElem hj2)
      refine ⟨h, hh, ?_⟩
      unfold on at b
      simp only [Bool.and_eq_true, decide_eq_true_eq] at b
      unfold meet
      simp [a]
      omega
  · intro h hh
    rcases List.mem_append.mp hh with hh | hh
    · obtain ⟨a, z, hz, hle⟩ := G.lt h hh
      refine ⟨a, ?_⟩
      rw [outs_get g _ s1]
      by_cases e : h.2 = s
      · rw [if_pos e]
        rw [e] at hz
        have := s2 z hz
        exact ⟨_, rfl, by omega⟩
      · rw [if_neg e]
        exact ⟨z, hz, hle⟩
    · rw [List.mem_singleton] at hh
      subst hh
      refine ⟨hsn, x.2.2, ?_, Nat.le_refl _⟩
      rw [outs_get g _ s1, if_pos rfl]
  · intro j e he
    rw [outs_get g _ s1] at he
    by_cases c : j = s
    · rw [if_pos c] at he
      exact ⟨(x, s), List.mem_append_right _ List.mem_cons_self, c.symm, Option.some.inj he⟩
    · rw [if_neg c] at he
      obtain ⟨h, hh, a, b⟩ := G.ex j e he
      exact ⟨h, List.mem_append_left _ hh, a, b⟩
  · intro h hh y hy
    rcases List.mem_append.mp hh with hh | hh
    · exact G.before h hh y (List.mem_cons_of_mem _ hy)
    · rw [List.mem_singleton] at hh
      subst hh
      have := (List.pairwise_cons.mp pw).1 y hy
      unfold lexLe key at this
      simp only at this ⊢
      omega
  · refine List.pairwise_append.mpr ⟨G.apart, List.pairwise_singleton _ _, fun h hh h' hh' => ?_⟩
    rw [List.mem_singleton] at hh'
    subst hh'
    exact nomeet h hh

/-- the seats by places -/
def placed (n : Nat) (had : List (Told × Nat)) : List Nat := (List.range n).map fun i => match had.find? fun x => x.1.1 == i with
  | some x => x.2
  | none => 0
theorem placed_nil (n : Nat) : placed n [] = List.replicate n 0 := by
  unfold placed
  refine (List.map_congr_left (g := fun _ => 0) (fun a _ => rfl)).trans ?_
  rw [List.map_const', List.length_range]
theorem find_none_of {had : List (Told × Nat)} {i : Nat} (h : i ∉ had.map fun y => y.1.1) : (had.find? fun y => y.1.1 == i) = none := by
  refine List.find?_eq_none.mpr fun y hy e => h ?_
  exact List.mem_map.mpr ⟨y, hy, eq_of_beq e⟩
theorem placed_snoc (n : Nat) {had : List (Told × Nat)} {x : Told} {s : Nat} (hx : x.1 ∉ had.map fun y => y.1.1) : placed n (had ++ [(x, s)]) = (placed n had).set x.1 s := by
  refine List.ext_getElem? fun i => ?_
  unfold placed
  by_cases hi : i < n
  · by_cases c : i = x.1
    · subst c
      rw [List.getElem?_set_self (by simpa using hi), List.getElem?_map, List.getElem?_range hi]
      dsimp only [Option.map_some]
      rw [List.find?_append, find_none_of hx]
      simp
    · rw [List.getElem?_set_ne (fun q => c q.symm), List.getElem?_map, List.getElem?_range hi, List.getElem?_map, List.getElem?_range hi]
      dsimp only [Option.map_some]
      rw [List.find?_append]
      cases e : had.find? fun y => y.1.1 == i with
      | some z => rfl
      | none =>
        have : (x.1 == i) = false := by
          simp only [beq_eq_false_iff_ne, ne_eq]
          exact fun q => c q.symm
        simp [this]
  · rw [List.getElem?_eq_none (by simp; omega), List.getElem?_eq_none (by simp; omega)]

theorem load_sorted (l : List Way) (k : Nat) : ((sorted l).filter fun x => on k x.2).length = load l k := by
  have h := ((sorted_perm l).filter fun x => on k x.2).length_eq
  rw [h]
  unfold tolds load
  rw [List.filter_map, List.length_map]
  have e : ∀ (l : List Way) (n : Nat), ((l.zipIdx n).filter ((fun x : Told => on k x.2) ∘ fun x : Way × Nat => (x.2, x.1))).length = (l.filter (on k)).length := by
    intro l
    induction l with
    | nil => intro n; rfl
    | cons w l ih =>
      intro n
      rw [List.zipIdx_cons, List.filter_cons, List.filter_cons]
      by_cases c : on k w = true
      · rw [if_pos (by exact c), if_pos c, List.length_cons, List.length_cons, ih]
      · rw [if_neg (by exact c), if_neg c, ih]
  exact e l 0

theorem tolds_nodup (l : List Way) : ((tolds l).map (·.1)).Nodup := by
  have e : (tolds l).map (·.1) = List.range l.length := by
    unfold tolds
    rw [List.map_map]
    show l.zipIdx.map (·.2) = _
    rw [List.zipIdx_map_snd]
    exact (List.range_eq_range' ..).symm
  rw [e]
  exact List.nodup_range
theorem told_way {l : List Way} {x : Told} (h : x ∈ sorted l) : l[x.1]? = some x.2 := by
  have := (sorted_perm l).mem_iff.mp h
  obtain ⟨⟨w, i⟩, h1, rfl⟩ := List.mem_map.mp this
  exact (List.mem_zipIdx_iff_getElem?).mp h1

/-- the two loops beside one another -/
theorem gives {n : Nat} {l : List Way} (hw : ∀ w ∈ l, w.1 < w.2) (hl : ∀ k, load l k ≤ n) : ∀ (rest : List Told) (had : List (Told × Nat)) (g : List Nat),
    had.map (·.1) ++ rest = sorted l → Gave n had rest g →
    ∃ had', give n had rest = some had' ∧ had'.map (·.1) = sorted l ∧ (∃ g', Gave n had' [] g') ∧ ((rest.map key).foldl (stepSeat l) (g, placed l.length had)).2 = placed l.length had'
  | [], had, g, e, G => ⟨had, rfl, by rw [List.append_nil] at e; exact e, ⟨g, G⟩, rfl⟩
  | x :: rest, had, g, e, G => by
    have hxm : x ∈ sorted l := by rw [← e]; exact List.mem_append_right _ List.mem_cons_self
    have hxl := told_way hxm
    have hx : x.2.1 < x.2.2 := hw _ (List.mem_of_getElem? hxl)
    have pw0 := sorted_pair l
    rw [← e] at pw0
    have pw := (List.pairwise_append.mp pw0).2.1
    have cap : (had.filter fun h => on x.2.1 h.1.2).length < n := by
      have h1 := load_sorted l x.2.1
      have h2 := hl x.2.1
      rw [← e, List.filter_append, List.length_append, List.filter_map, List.length_map] at h1
      have h3 : 0 < ((x :: rest).filter fun y => on x.2.1 y.2).length := by
        refine List.length_pos_of_mem (a := x) (List.mem_filter.mpr ⟨List.mem_cons_self, ?_⟩)
        unfold on
        simp only [decide_eq_true_eq, Bool.and_eq_true]
        omega
      have h4 : (had.filter fun h => on x.2.1 h.1.2).length = (List.filter ((fun y : Told => on x.2.1 y.2) ∘ fun y : Told × Nat => y.1) had).length := rfl
      omega
    obtain ⟨h1, h2⟩ := give_step G hx pw cap
    have nd : ((sorted l).map (·.1)).Nodup := ((sorted_perm l).map (·.1)).nodup_iff.mpr (tolds_nodup l)
    rw [← e, List.map_append, List.map_map, List.map_cons] at nd
    have hnew : x.1 ∉ had.map fun y => y.1.1 := by
      intro hm
      exact (List.nodup_append.mp nd).2.2 _ hm _ List.mem_cons_self rfl
    obtain ⟨had', g1, g2, g3, g4⟩ := gives hw hl rest (had ++ [(x, leftSeat g x.2.1)]) (outs g (leftSeat g x.2.1) x.2.2) (by rw [List.map_append, List.append_assoc]; exact e) h2
    refine ⟨had', ?_, g2, g3, ?_⟩
    · show (match leastSeat n had x.2 with | none => none | some s => give n (had ++ [(x, s)]) rest) = some had'
      rw [h1]
      exact g1
    · rw [List.map_cons, List.foldl_cons]
      have es : stepSeat l (g, placed l.length had) (key x) = (outs g (leftSeat g x.2.1) x.2.2, placed l.length (had ++ [(x, leftSeat g x.2.1)])) := by
        unfold stepSeat
        rw [placed_snoc _ hnew]
        have : (l.getD (key x).2 (0, 0)).2 = x.2.2 := by
          show (l.getD x.1 (0, 0)).2 = _
          rw [List.getD_eq_getElem?_getD, hxl]
          rfl
        rw [this]
        rfl
      rw [es]
      exact g4

structure Seated (n : Nat) (l : List Way) (s : List Nat) : Prop where
  len : s.length = l.length
  lt : ∀ x ∈ s, x < n
  apart : ∀ (i j : Nat) v w q, i ≠ j → l[i]? = some v → l[j]? = some w → s[i]? = some q → s[j]? = some q → meet v w = false

theorem meet_comm (v w : Way) : meet v w = meet w v := by
  unfold meet
  exact Bool.and_comm _ _
theorem pairwise_get {α : Type} {R : α → α → Prop} {l : List α} (h : l.Pairwise R) {i j : Nat} {a b : α} (hij : i < j) (ha : l[i]? = some a) (hb : l[j]? = some b) : R a b := by
  obtain ⟨h1, e1⟩ := List.getElem?_eq_some_iff.mp ha
  obtain ⟨h2, e2⟩ := List.getElem?_eq_some_iff.mp hb
  have := List.pairwise_iff_getElem.mp h i j h1 h2 hij
  rw [e1, e2] at this
  exact this
/-- **seated at once**: the program's seats are the specification's -/
theorem seated_eq {n : Nat} {l : List Way} (hw : ∀ w ∈ l, w.1 < w.2) (hl : ∀ k, load l k ≤ n) : seated n l = some (seatsAtOnce l) ∧ Seated n l (seatsAtOnce l) := by
  obtain ⟨had', g1, g2, ⟨g', g3⟩, g4⟩ := gives hw hl (sorted l) [] [] rfl ⟨by simp, by simp, by simp, List.Pairwise.nil⟩
  have e : seatsAtOnce l = placed l.length had' := by
    rw [← g4, placed_nil]
    rfl
  have e2 : seated n l = some (placed l.length had') := by
    unfold seated
    rw [g1]
    rfl
  have nd : (had'.map fun y => y.1.1).Nodup := by
    have h := ((sorted_perm l).map (·.1)).nodup_iff.mpr (tolds_nodup l)
    rw [← g2, List.map_map] at h
    exact h
  have at_ : ∀ i w, l[i]? = some w → ∃ h ∈ had', h.1 = (i, w) ∧ (placed l.length had')[i]? = some h.2 := by
    intro i w hi
    have h1 : (i, w) ∈ sorted l := by
      refine (sorted_perm l).mem_iff.mpr (List.mem_map.mpr ⟨(w, i), ?_, rfl⟩)
      exact (List.mem_zipIdx_iff_getElem?).mpr hi
    rw [← g2] at h1
    obtain ⟨h, hh, eh⟩ := List.mem_map.mp h1
    refine ⟨h, hh, eh, ?_⟩
    unfold placed
    rw [List.getElem?_map, List.getElem?_range (List.getElem?_eq_some_iff.mp hi).1]
    dsimp only [Option.map_some]
    cases ef : had'.find? fun y => y.1.1 == i with
    | none =>
      have := List.find?_eq_none.mp ef h hh
      rw [eh] at this
      simp at this
    | some z =>
      have hz := List.mem_of_find?_eq_some ef
      have ez : z.1.1 = i := by
        have q := List.find?_some ef
        exact eq_of_beq q
      have : z = h := by
        obtain ⟨a, ha⟩ := List.getElem?_of_mem hz
        obtain ⟨b, hb⟩ := List.getElem?_of_mem hh
        have e1 : (had'.map fun y => y.1.1)[a]? = some i := by rw [List.getElem?_map, ha, ← ez]; rfl
        have e2 : (had'.map fun y => y.1.1)[b]? = some i := by rw [List.getElem?_map, hb]; show some h.1.1 = some i; rw [eh]
        have hab : a = b := by
          rw [List.nodup_iff_pairwise_ne] at nd
          rcases Nat.lt_trichotomy a b with c | c | c
          · exact absurd rfl (pairwise_get nd c e1 e2)
          · exact c
          · exact absurd rfl (pairwise_get nd c e2 e1)
        subst hab
        exact Option.some.inj (ha.symm.trans hb)
      rw [this]
  refine ⟨by rw [e2, e], ?_⟩
  rw [e]
  refine ⟨by simp [placed], fun x hx => ?_, ?_⟩
  · obtain ⟨i, hi⟩ := List.getElem?_of_mem hx
    have hil : i < l.length := by
      have := (List.getElem?_eq_some_iff.mp hi).1
      simpa [placed] using this
    obtain ⟨h, hh, _, hp⟩ := at_ i l[i] (List.getElem?_eq_getElem hil)
    rw [hi] at hp
    rw [Option.some.inj hp]
    exact (g3.lt h hh).1
  · intro i j v w q hij hv hw' hqi hqj
    obtain ⟨h, hh, eh, hp⟩ := at_ i v hv
    obtain ⟨h', hh', eh', hp'⟩ := at_ j w hw'
    have es : h.2 = h'.2 := by
      rw [hqi] at hp
      rw [hqj] at hp'
      rw [← Option.some.inj hp, ← Option.some.inj hp']
    obtain ⟨a, ha⟩ := List.getElem?_of_mem hh
    obtain ⟨b, hb⟩ := List.getElem?_of_mem hh'
    rcases Nat.lt_trichotomy a b with c | c | c
    · have := pairwise_get g3.apart c ha hb es
      rw [eh, eh'] at this
      exact this
    · subst c
      have : h = h' := Option.some.inj (ha.symm.trans hb)
      rw [this, eh'] at eh
      exact absurd (Prod.mk.inj eh).1.symm hij
    · have := pairwise_get g3.apart c hb ha es.symm
      rw [eh, eh', meet_comm] at this
      exact this
end Ts

end
section
/-! Mathematics, part D: the train, its bookings, and the calls. -/
namespace Ts
open Ks325 Ks326 Ks327
/-! ### The program's train -/
structure Bk where
  fr : Nat
  to_ : Nat
  row : List Nat
  can : Bool
structure Tr where
  stops : Nat
  seats : Nat
  bks : List Bk
def Bk.out (b : Bk) : Option Booking := if b.can then none else some ⟨b.fr, b.to_, b.row⟩
def Bk.bk (b : Bk) : Booking := ⟨b.fr, b.to_, b.row⟩
def Tr.abs (t : Tr) : Abs := { stops := t.stops, seats := t.seats, bookings := t.bks.map Bk.out }
def absO : Option Tr → Abs
  | none => {}
  | some t => t.abs
/-- those that are not cancelled -/
def live (l : List Bk) : List Bk := l.filter fun b => !b.can
theorem fm_some {α : Type} (b : α) (l : List (Option α)) : (some b :: l).filterMap id = b :: l.filterMap id := rfl
theorem fm_none {α : Type} (l : List (Option α)) : (none :: l).filterMap id = l.filterMap id := rfl
theorem held_abs (t : Tr) : held t.abs = (live t.bks).map Bk.bk := by
  unfold held Tr.abs live
  induction t.bks with
  | nil => rfl
  | cons b l ih =>
    dsimp only at ih ⊢
    rw [List.map_cons, List.filter_cons]
    cases e : b.can
    · have e1 : b.out = some b.bk := by unfold Bk.out Bk.bk; rw [e]; rfl
      rw [e1, fm_some, ih]
      rfl
    · have e1 : b.out = none := by unfold Bk.out; rw [e]; rfl
      rw [e1, fm_none, ih]
      rfl

def hasPart (b : Booking) (k : Nat) : Bool := decide (b.from_ ≤ k) && decide (k < b.to_)
def takenOn (l : List Booking) (k : Nat) : List Nat := (l.filter fun b => hasPart b k).map fun b => b.seats.getD (k - b.from_) 0
def freeOn (n : Nat) (l : List Booking) (k : Nat) : List Nat := (List.range n).filter fun s => !(takenOn l k).contains s

/-- a booking as it should be -/
structure BkOk (stops seats : Nat) (b : Booking) : Prop where
  lt : b.from_ < b.to_
  stop : b.to_ < stops
  len : b.seats.length = b.to_ - b.from_
  seat : ∀ s ∈ b.seats, s < seats
/-- the train as it should be -/
structure Ok (a : Abs) : Prop where
  pos : 0 < a.seats
  st2 : 2 ≤ a.stops
  st17 : a.stops ≤ 17
  se12 : a.seats ≤ 12
  len : a.bookings.length ≤ 40
  wf : ∀ b ∈ held a, BkOk a.stops a.seats b
  apart : Apart (held a)

theorem sits_iff {stops seats : Nat} {b : Booking} (h : BkOk stops seats b) (s k : Nat) : SitsOn b s k ↔ hasPart b k = true ∧ b.seats.getD (k - b.from_) 0 = s := by
  unfold SitsOn hasPart
  rw [Bool.and_eq_true, decide_eq_true_eq, decide_eq_true_eq, List.getD_eq_getElem?_getD]
  have := h.len
  have := h.lt
  constructor
  · rintro ⟨h1, h2⟩
    have := (List.getElem?_eq_some_iff.mp h2).1
    exact ⟨⟨h1, by omega⟩, by rw [h2]; rfl⟩
  · rintro ⟨⟨h1, h2⟩, h3⟩
    refine ⟨h1, ?_⟩
    have hk : k - b.from_ < b.seats.length := by omega
    rw [List.getElem?_eq_getElem hk] at h3 ⊢
    exact congrArg some h3
theorem mem_taken {stops seats : Nat} {l : List Booking} (h : ∀ b ∈ l, BkOk stops seats b) (s k : Nat) : s ∈ takenOn l k ↔ ∃ b ∈ l, SitsOn b s k := by
  unfold takenOn
  rw [List.mem_map]
  constructor
  · rintro ⟨b, hb, e⟩
    have := List.mem_filter.mp hb
    exact ⟨b, this.1, (sits_iff (h b this.1) s k).mpr ⟨this.2, e⟩⟩
  · rintro ⟨b, hb, e⟩
    have := (sits_iff (h b hb) s k).mp e
    exact ⟨b, List.mem_filter.mpr ⟨hb, this.1⟩, this.2⟩
theorem freeOn_eq {a : Abs} (h : Ok a) (k : Nat) : freeOn a.seats (held a) k = freeOf (taken a) k := by
  unfold freeOn freeOf
  rw [taken_len]
  refine List.filter_congr fun s hs => ?_
  have hs' := List.mem_range.mp hs
  have e1 := free_iff h.apart k s
  have e2 := mem_taken h.wf s k
  rw [Bool.eq_iff_iff, e1, ← e2]
  simp [hs']
theorem free_mem {a : Abs} (h : Ok a) (k s : Nat) : s ∈ freeOn a.seats (held a) k ↔ s < a.seats ∧ ¬ ∃ b ∈ held a, SitsOn b s k := by
  unfold freeOn
  rw [List.mem_filter, List.mem_range, ← mem_taken h.wf s k]
  simp
theorem someFree_iff {a : Abs} (h : Ok a) (k : Nat) : someFree (taken a) k = true ↔ freeOn a.seats (held a) k ≠ [] := by
  rw [freeOn_eq h]
  unfold someFree freeOf
  rw [List.any_eq_true]
  constructor
  · rintro ⟨s, h1, h2⟩ e
    have : s ∈ (List.range (taken a).length).filter (free (taken a) k) := List.mem_filter.mpr ⟨h1, h2⟩
    rw [e] at this
    cases this
  · intro e
    obtain ⟨s, hs⟩ := List.exists_mem_of_ne_nil _ e
    have := List.mem_filter.mp hs
    exact ⟨s, this.1, this.2⟩
/-- the first part that is full -/
def fullPart (a : Abs) (x y : Nat) : Option Nat := (parts x y).find? fun k => (freeOn a.seats (held a) k).isEmpty
theorem full_eq {a : Abs} (h : Ok a) (x y : Nat) : full a x y = fullPart a x y := by
  unfold full fullPart
  have e : (fun k => !someFree (taken a) k) = fun k => (freeOn a.seats (held a) k).isEmpty := by
    funext k
    rw [Bool.eq_iff_iff, Bool.not_eq_true', ← Bool.not_eq_true, someFree_iff h]
    simp
  rw [e]

/-! ### Counting -/
theorem nodup_len : ∀ (n : Nat) (l : List Nat), l.Nodup → (∀ x ∈ l, x < n) → l.length ≤ n
  | 0, l, _, h => by
    cases l with
    | nil => exact Nat.le_refl _
    | cons x l => exact absurd (h x List.mem_cons_self) (by omega)
  | n + 1, l, nd, h => by
    by_cases hn : n ∈ l
    · have := nodup_len n (l.erase n) (nd.erase n) fun x hx => by
        have h1 := h x (List.mem_of_mem_erase hx)
        have h2 : x ≠ n := by
          rintro rfl
          exact (List.Nodup.not_mem_erase nd) hx
        omega
      rw [List.length_erase_of_mem hn] at this
      omega
    · have := nodup_len n l nd fun x hx => by
        have h1 := h x hx
        have h2 : x ≠ n := fun q => hn (q ▸ hx)
        omega
      omega
theorem takenOn_nodup {stops seats : Nat} : ∀ {l : List Booking}, (∀ b ∈ l, BkOk stops seats b) → Apart l → ∀ k, (takenOn l k).Nodup
  | [], _, _, k => List.Pairwise.nil
  | b :: l, h, hp, k => by
    have hp' := (List.pairwise_cons).mp hp
    have hl : ∀ b ∈ l, BkOk stops seats b := fun c hc => h c (List.mem_cons_of_mem _ hc)
    have ih := takenOn_nodup hl hp'.2 k
    have hb := h b List.mem_cons_self
    unfold takenOn at ih ⊢
    rw [List.filter_cons]
    by_cases c : hasPart b k = true
    · rw [if_pos c, List.map_cons]
      refine List.nodup_cons.mpr ⟨fun hm => ?_, ih⟩
      obtain ⟨c', hc', hs⟩ := (mem_taken hl _ k).mp hm
      exact hp'.1 c' hc' _ k ⟨(sits_iff hb _ k).mpr ⟨c, rfl⟩, hs⟩
    · rw [if_neg c]
      exact ih
theorem takenOn_lt {stops seats : Nat} {l : List Booking} (h : ∀ b ∈ l, BkOk stops seats b) (k : Nat) : ∀ x ∈ takenOn l k, x < seats := by
  intro x hx
  obtain ⟨b, hb, hs⟩ := (mem_taken h x k).mp hx
  exact (h b hb).seat x (List.mem_of_getElem? hs.2)
theorem load_taken (l : List Booking) (k : Nat) : load (waysOf l) k = (takenOn l k).length := by
  unfold load waysOf takenOn
  rw [List.filter_map, List.length_map, List.length_map]
  rfl
theorem load_le {a : Abs} (h : Ok a) (k : Nat) : load (waysOf (held a)) k ≤ a.seats := by
  rw [load_taken]
  exact nodup_len _ _ (takenOn_nodup h.wf h.apart k) (takenOn_lt h.wf k)
theorem mem_parts {x y k : Nat} : k ∈ parts x y ↔ x ≤ k ∧ k < y := by
  unfold parts
  rw [List.mem_map]
  constructor
  · rintro ⟨j, hj, rfl⟩
    have := List.mem_range.mp hj
    omega
  · rintro ⟨h1, h2⟩
    exact ⟨k - x, List.mem_range.mpr (by omega), by omega⟩
theorem load_new {a : Abs} (h : Ok a) {x y : Nat} (hf : ∀ k ∈ parts x y, freeOn a.seats (held a) k ≠ []) (k : Nat) : load (waysOf (held a ++ [⟨x, y, []⟩])) k ≤ a.seats := by
  have e : load (waysOf (held a ++ [⟨x, y, []⟩])) k = load (waysOf (held a)) k + (if x ≤ k ∧ k < y then 1 else 0) := by
    unfold load waysOf
    rw [List.map_append, List.filter_append, List.length_append]
    congr 1
    show ((([(x, y)] : List Way).filter (on k)).length) = _
    rw [List.filter_cons, List.filter_nil]
    have : on k (x, y) = true ↔ x ≤ k ∧ k < y := by
      unfold on
      simp
    by_cases c : x ≤ k ∧ k < y
    · rw [if_pos (this.mpr c), if_pos c]
      rfl
    · rw [if_neg (fun q => c (this.mp q)), if_neg c]
      rfl
  rw [e]
  by_cases c : x ≤ k ∧ k < y
  · rw [if_pos c, load_taken]
    obtain ⟨s, hs⟩ := List.exists_mem_of_ne_nil _ (hf k (mem_parts.mpr c))
    have hs' := (free_mem h k s).mp hs
    rw [← mem_taken h.wf s k] at hs'
    have := nodup_len a.seats (s :: takenOn (held a) k) (List.nodup_cons.mpr ⟨hs'.2, takenOn_nodup h.wf h.apart k⟩) fun z hz => by
      rcases List.mem_cons.mp hz with (rfl | hz)
      · exact hs'.1
      · exact takenOn_lt h.wf k z hz
    simpa using this
  · rw [if_neg c]
    exact load_le h k

/-! ### Seated anew -/
def reseat : List Bk → List Nat → List Bk
  | [], _ => []
  | b :: l, ss => if b.can then b :: reseat l ss else match ss with
    | [] => b :: reseat l []
    | s :: ss => { b with row := List.replicate (b.to_ - b.fr) s } :: reseat l ss
def oneOf (b : Booking) (s : Nat) : Booking := { b with seats := List.replicate (b.to_ - b.from_) s }
theorem oneEach_zip : ∀ (l : List Booking) (s : List Nat), s.length = l.length → oneEach l s = List.zipWith oneOf l s := by
  have aux : ∀ (l : List Booking) (s pre : List Nat), s.length = l.length → ((l.zipIdx pre.length).map fun x => oneOf x.1 ((pre ++ s).getD x.2 0)) = List.zipWith oneOf l s := by
    intro l
    induction l with
    | nil =>
      intro s pre h
      cases s <;> rfl
    | cons b l ih =>
      intro s pre h
      cases s with
      | nil => simp at h
      | cons v s =>
        rw [List.zipIdx_cons, List.map_cons, List.zipWith_cons_cons]
        have e1 : (pre ++ v :: s).getD pre.length 0 = v := by
          rw [List.getD_eq_getElem?_getD, List.getElem?_append_right (Nat.le_refl _)]
          simp
        dsimp only
        rw [e1]
        have e2 : pre ++ v :: s = (pre ++ [v]) ++ s := by simp
        have ih' := ih s (pre ++ [v]) (by simpa using h)
        rw [e2]
        rw [List.length_append] at ih'
        rw [show pre.length + 1 = pre.length + [v].length from rfl, ih']
  intro l s h
  exact aux l s [] h
theorem putBack_held : ∀ (bs : List (Option Booking)) (n : List Booking), n.length = (bs.filterMap id).length → (putBack bs n).filterMap id = n
  | [], n, h => by
    cases n with
    | nil => rfl
    | cons x n => simp at h
  | none :: bs, n, h => by
    show (none :: putBack bs n).filterMap id = n
    rw [fm_none]
    exact putBack_held bs n h
  | some b :: bs, [], h => by
    rw [fm_some] at h
    simp at h
  | some b :: bs, c :: n, h => by
    show (some c :: putBack bs n).filterMap id = c :: n
    rw [fm_some, putBack_held bs n]
    rw [fm_some] at h
    simpa using h
theorem putBack_len : ∀ (bs : List (Option Booking)) (n : List Booking), (putBack bs n).length = bs.length
  | [], _ => rfl
  | none :: bs, n => congrArg (· + 1) (putBack_len bs n)
  | some _ :: bs, [] => congrArg (· + 1) (putBack_len bs [])
  | some _ :: bs, _ :: n => congrArg (· + 1) (putBack_len bs n)
theorem reseat_out : ∀ (l : List Bk) (s : List Nat), s.length = (live l).length → (reseat l s).map Bk.out = putBack (l.map Bk.out) (List.zipWith oneOf ((live l).map Bk.bk) s)
  | [], _, _ => rfl
  | b :: l, s, h => by
    unfold live at h ⊢
    rw [List.filter_cons] at h ⊢
    unfold reseat
    cases e : b.can
    · rw [e] at h
      have e1 : b.out = some b.bk := by unfold Bk.out Bk.bk; rw [e]; rfl
      cases s with
      | nil => simp at h
      | cons v s =>
        have ih := reseat_out l s (by simpa [live] using h)
        unfold live at ih
        simp only [Bool.not_false, if_true, List.map_cons, List.zipWith_cons_cons, e1, putBack]
        simp [Bk.out, oneOf, Bk.bk]
        exact ih
    · rw [e] at h
      have e1 : b.out = none := by unfold Bk.out; rw [e]; rfl
      have ih := reseat_out l s (by simpa [live] using h)
      unfold live at ih
      simp only [if_true, List.map_cons, e1]
      simp [putBack, ih]
theorem waysOf_len (l : List Booking) : (waysOf l).length = l.length := by simp [waysOf]

theorem zip_get {l : List Booking} {s : List Nat} {i : Nat} {c : Booking} (h : (List.zipWith oneOf l s)[i]? = some c) : ∃ b v, l[i]? = some b ∧ s[i]? = some v ∧ c = oneOf b v := by
  rw [List.getElem?_zipWith] at h
  cases e1 : l[i]? with
  | none => rw [e1] at h; simp at h
  | some b =>
    cases e2 : s[i]? with
    | none => rw [e1, e2] at h; simp at h
    | some v =>
      rw [e1, e2] at h
      exact ⟨b, v, rfl, rfl, (Option.some.inj h).symm⟩
theorem sits_one {b : Booking} {v s k : Nat} (h : SitsOn (oneOf b v) s k) : v = s ∧ b.from_ ≤ k ∧ k < b.to_ := by
  obtain ⟨h1, h2⟩ := h
  have h2' : (List.replicate (b.to_ - b.from_) v)[k - b.from_]? = some s := h2
  have h1' : b.from_ ≤ k := h1
  obtain ⟨h3, h4⟩ := List.getElem?_eq_some_iff.mp h2'
  rw [List.length_replicate] at h3
  rw [List.getElem_replicate] at h4
  exact ⟨h4, h1', by omega⟩
/-- seated at once they are as they should be -/
theorem seated_ok {stops n : Nat} {l : List Booking} {s : List Nat} (hl : ∀ b ∈ l, b.from_ < b.to_ ∧ b.to_ < stops) (S : Seated n (waysOf l) s) :
    (∀ b ∈ List.zipWith oneOf l s, BkOk stops n b) ∧ Apart (List.zipWith oneOf l s) := by
  constructor
  · intro c hc
    obtain ⟨i, hi⟩ := List.getElem?_of_mem hc
    obtain ⟨b, v, h1, h2, rfl⟩ := zip_get hi
    have hb := hl b (List.mem_of_getElem? h1)
    refine ⟨hb.1, hb.2, List.length_replicate, fun z hz => ?_⟩
    have : z = v := (List.mem_replicate.mp hz).2
    rw [this]
    exact S.lt v (List.mem_of_getElem? h2)
  · refine List.pairwise_iff_getElem.mpr fun i j hi hj hij z k => ?_
    rintro ⟨h1, h2⟩
    obtain ⟨b, v, b1, b2, e1⟩ := zip_get (List.getElem?_eq_getElem hi)
    obtain ⟨c, w, c1, c2, e2⟩ := zip_get (List.getElem?_eq_getElem hj)
    rw [e1] at h1
    rw [e2] at h2
    obtain ⟨rfl, b3, b4⟩ := sits_one h1
    obtain ⟨e3, c3, c4⟩ := sits_one h2
    rw [e3] at c2
    have := S.apart i j (b.from_, b.to_) (c.from_, c.to_) v (by omega) (by unfold waysOf; rw [List.getElem?_map, b1]; rfl) (by unfold waysOf; rw [List.getElem?_map, c1]; rfl) b2 c2
    unfold meet at this
    simp only [Bool.and_eq_false_iff, decide_eq_false_iff_not] at this
    omega
end Ts

end
section
/-! Mathematics, part E: each call, by the train as it should be. -/
namespace Ts
open Ks325 Ks326 Ks327
theorem on_of {a : Abs} (h : Ok a) : a.on = true := by
  unfold Abs.on
  have := h.pos
  simp
  omega
theorem find_none_all {α : Type} {p : α → Bool} {l : List α} (h : l.find? p = none) : ∀ x ∈ l, p x = false := fun x hx => by
  have := List.find?_eq_none.mp h x hx
  simpa using this
theorem apart_snoc {l : List Booking} {b : Booking} (h : Apart l) (hb : ∀ s k, SitsOn b s k → ¬ ∃ c ∈ l, SitsOn c s k) : Apart (l ++ [b]) := by
  refine List.pairwise_append.mpr ⟨h, List.pairwise_singleton _ _, fun c hc d hd s k => ?_⟩
  rw [List.mem_singleton] at hd
  subst hd
  rintro ⟨h1, h2⟩
  exact hb s k h2 ⟨c, hc, h1⟩
theorem held_snoc (a : Abs) (b : Booking) : held { a with bookings := a.bookings ++ [some b] } = held a ++ [b] := by
  unfold held
  rw [List.filterMap_append]
  rfl

def newRow (a : Abs) (x y : Nat) : List Nat := rowOf none (aheads ((parts x y).map (freeOn a.seats (held a))))
theorem map_free {a : Abs} (h : Ok a) (ks : List Nat) : ks.map (freeOn a.seats (held a)) = ks.map (freeOf (taken a)) := List.map_congr_left fun k _ => freeOn_eq h k
theorem fullPart_none {a : Abs} {x y : Nat} (hf : fullPart a x y = none) : ∀ k ∈ parts x y, freeOn a.seats (held a) k ≠ [] := fun k hk e => by
  have := find_none_all hf k hk
  rw [e] at this
  cases this
theorem book0 {a : Abs} (h : Ok a) {x y : Nat} (hw : okWay a x y = true) (hl : a.bookings.length < 40) (hf : fullPart a x y = none) :
    act a (.book x y 0) = ({ a with bookings := a.bookings ++ [some ⟨x, y, newRow a x y⟩] }, { ret := a.bookings.length, out := [changes (newRow a x y)] }) ∧
    Ok { a with bookings := a.bookings ++ [some ⟨x, y, newRow a x y⟩] } ∧ (newRow a x y).length = y - x := by
  have hw' : x < y ∧ y < a.stops := by
    unfold okWay at hw
    simpa using hw
  have hfr := fullPart_none hf
  have hfr' : ∀ k ∈ parts x y, freeOf (taken a) k ≠ [] := fun k hk => by
    rw [← freeOn_eq h]
    exact hfr k hk
  have hr : (newRow a x y).length = y - x := by
    unfold newRow
    rw [rowOf_len, aheads_len, List.length_map, parts_len]
  have hmem : ∀ i s, (newRow a x y)[i]? = some s → s ∈ freeOn a.seats (held a) (x + i) := by
    intro i s hi
    obtain ⟨f, h1, h2⟩ := rowOf_mem _ _ i s (fun f hf => by
      obtain ⟨k, hk, rfl⟩ := List.mem_map.mp hf
      exact hfr k hk) hi
    rw [List.getElem?_map] at h1
    have hil : i < y - x := by
      have := (List.getElem?_eq_some_iff.mp hi).1
      omega
    have e : (parts x y)[i]? = some (x + i) := by
      unfold parts
      rw [List.getElem?_map, List.getElem?_range hil]
      rfl
    rw [e] at h1
    have : freeOn a.seats (held a) (x + i) = f := Option.some.inj h1
    rw [this]
    exact h2
  refine ⟨?_, ?_, hr⟩
  · unfold act
    dsimp only
    rw [if_neg (by rw [on_of h]; simp), if_neg (by rw [hw]; simp), if_neg (by unfold BOOKINGS; omega), full_eq h, hf]
    dsimp only
    rw [if_pos rfl, fewest_eq hw'.1 hfr', ← map_free h]
    rfl
  · refine ⟨h.pos, h.st2, h.st17, h.se12, ?_, ?_, ?_⟩
    · show (a.bookings ++ [some _]).length ≤ 40
      rw [List.length_append]
      simp
      omega
    · rw [held_snoc]
      intro b hb
      rcases List.mem_append.mp hb with (hb | hb)
      · exact h.wf b hb
      · rw [List.mem_singleton] at hb
        subst hb
        refine ⟨hw'.1, hw'.2, hr, fun s hs => ?_⟩
        obtain ⟨i, hi⟩ := List.getElem?_of_mem hs
        exact ((free_mem h _ _).mp (hmem i s hi)).1
    · rw [held_snoc]
      refine apart_snoc h.apart fun s k hs => ?_
      obtain ⟨h1, h2⟩ := hs
      have h1' : x ≤ k := h1
      have := ((free_mem h _ _).mp (hmem _ _ h2)).2
      rw [show x + (k - x) = k by omega] at this
      exact this

theorem held_put {a : Abs} {bs : List (Option Booking)} {n : List Booking} (h : n.length = (bs.filterMap id).length) : held { a with bookings := putBack bs n } = n := putBack_held bs n h
theorem zip_len {l : List Booking} {s : List Nat} (h : s.length = l.length) : (List.zipWith oneOf l s).length = l.length := by
  rw [List.length_zipWith]
  omega

theorem book1 {a : Abs} (h : Ok a) {x y : Nat} (hw : okWay a x y = true) (hl : a.bookings.length < 40) (hf : fullPart a x y = none) :
    act a (.book x y 1) = ({ a with bookings := putBack (a.bookings ++ [some ⟨x, y, []⟩]) (List.zipWith oneOf (held a ++ [(⟨x, y, []⟩ : Booking)]) (seatsAtOnce (waysOf (held a ++ [(⟨x, y, []⟩ : Booking)])))) }, { ret := a.bookings.length, out := [0] }) ∧
    Ok { a with bookings := putBack (a.bookings ++ [some ⟨x, y, []⟩]) (List.zipWith oneOf (held a ++ [(⟨x, y, []⟩ : Booking)]) (seatsAtOnce (waysOf (held a ++ [(⟨x, y, []⟩ : Booking)])))) } ∧
    (seatsAtOnce (waysOf (held a ++ [(⟨x, y, []⟩ : Booking)]))).length = (held a).length + 1 := by
  have hw' : x < y ∧ y < a.stops := by
    unfold okWay at hw
    simpa using hw
  have hfr := fullPart_none hf
  have hways : ∀ b ∈ held a ++ [(⟨x, y, []⟩ : Booking)], b.from_ < b.to_ ∧ b.to_ < a.stops := by
    intro b hb
    rcases List.mem_append.mp hb with (hb | hb)
    · exact ⟨(h.wf b hb).lt, (h.wf b hb).stop⟩
    · rw [List.mem_singleton] at hb
      subst hb
      exact hw'
  have hww : ∀ w ∈ waysOf (held a ++ [(⟨x, y, []⟩ : Booking)]), w.1 < w.2 := by
    intro w hw
    obtain ⟨b, hb, rfl⟩ := List.mem_map.mp hw
    exact (hways b hb).1
  obtain ⟨e1, S⟩ := seated_eq hww (load_new h hfr)
  have hlen : (seatsAtOnce (waysOf (held a ++ [(⟨x, y, []⟩ : Booking)]))).length = (held a ++ [(⟨x, y, []⟩ : Booking)]).length := by
    rw [S.len, waysOf_len]
  refine ⟨?_, ?_, by rw [hlen]; simp⟩
  · unfold act
    dsimp only
    rw [if_neg (by rw [on_of h]; simp), if_neg (by rw [hw]; simp), if_neg (by unfold BOOKINGS; omega), full_eq h, hf]
    dsimp only
    rw [if_neg (by decide), e1]
    dsimp only
    rw [oneEach_zip _ _ hlen]
  · have hh : (List.zipWith oneOf (held a ++ [(⟨x, y, []⟩ : Booking)]) (seatsAtOnce (waysOf (held a ++ [(⟨x, y, []⟩ : Booking)])))).length = ((a.bookings ++ [some (⟨x, y, []⟩ : Booking)]).filterMap id).length := by
      rw [zip_len hlen, List.filterMap_append]
      rfl
    obtain ⟨o1, o2⟩ := seated_ok hways S
    refine ⟨h.pos, h.st2, h.st17, h.se12, ?_, ?_, ?_⟩
    · show (putBack _ _).length ≤ 40
      rw [putBack_len, List.length_append]
      simp
      omega
    · rw [held_put hh]
      exact o1
    · rw [held_put hh]
      exact o2

theorem anew_ok {a : Abs} (h : Ok a) :
    act a .anew = ({ a with bookings := putBack a.bookings (List.zipWith oneOf (held a) (seatsAtOnce (waysOf (held a)))) }, Ks327.no (changesOf (held a))) ∧
    Ok { a with bookings := putBack a.bookings (List.zipWith oneOf (held a) (seatsAtOnce (waysOf (held a)))) } ∧ (seatsAtOnce (waysOf (held a))).length = (held a).length := by
  have hways : ∀ b ∈ held a, b.from_ < b.to_ ∧ b.to_ < a.stops := fun b hb => ⟨(h.wf b hb).lt, (h.wf b hb).stop⟩
  have hww : ∀ w ∈ waysOf (held a), w.1 < w.2 := by
    intro w hw
    obtain ⟨b, hb, rfl⟩ := List.mem_map.mp hw
    exact (hways b hb).1
  obtain ⟨e1, S⟩ := seated_eq hww (load_le h)
  have hlen : (seatsAtOnce (waysOf (held a))).length = (held a).length := by
    rw [S.len, waysOf_len]
  refine ⟨?_, ?_, hlen⟩
  · unfold act
    dsimp only
    rw [if_neg (by rw [on_of h]; simp), e1]
    dsimp only
    rw [oneEach_zip _ _ hlen]
  · have hh : (List.zipWith oneOf (held a) (seatsAtOnce (waysOf (held a)))).length = (a.bookings.filterMap id).length := zip_len hlen
    obtain ⟨o1, o2⟩ := seated_ok hways S
    refine ⟨h.pos, h.st2, h.st17, h.se12, ?_, ?_, ?_⟩
    · show (putBack _ _).length ≤ 40
      rw [putBack_len]
      exact h.len
    · rw [held_put hh]
      exact o1
    · rw [held_put hh]
      exact o2

theorem book_61 {a : Abs} (h : a.on = false) (x y how : Nat) : act a (.book x y how) = (a, Ks327.no (-61)) := by
  unfold act
  dsimp only
  rw [if_pos h]
theorem book_22 {a : Abs} (h : Ok a) {x y how : Nat} (hw : okWay a x y = false ∨ 1 < how) : act a (.book x y how) = (a, Ks327.no (-22)) := by
  unfold act
  dsimp only
  rw [if_neg (by rw [on_of h]; simp), if_pos hw]
theorem book_12 {a : Abs} (h : Ok a) {x y how : Nat} (hw : okWay a x y = true) (hh : how ≤ 1) (hl : 40 ≤ a.bookings.length) : act a (.book x y how) = (a, Ks327.no (-12)) := by
  unfold act
  dsimp only
  rw [if_neg (by rw [on_of h]; simp), if_neg (by rw [hw]; simp; omega), if_pos (by unfold BOOKINGS; exact hl)]
theorem book_full {a : Abs} (h : Ok a) {x y how k : Nat} (hw : okWay a x y = true) (hh : how ≤ 1) (hl : a.bookings.length < 40) (hf : fullPart a x y = some k) : act a (.book x y how) = (a, Ks327.no (-1000 - (k : Int))) := by
  unfold act
  dsimp only
  rw [if_neg (by rw [on_of h]; simp), if_neg (by rw [hw]; simp; omega), if_neg (by unfold BOOKINGS; omega), full_eq h, hf]

theorem begin_ok {a : Abs} {n s : Nat} (h1 : 2 ≤ n) (h2 : n ≤ 17) (h3 : 1 ≤ s) (h4 : s ≤ 12) : act a (.begin n s) = (({ stops := n, seats := s } : Abs), Ks327.no 0) ∧ Ok ({ stops := n, seats := s } : Abs) := by
  refine ⟨?_, h3, h1, h2, h4, Nat.zero_le _, fun b hb => ?_, List.Pairwise.nil⟩
  · unfold act
    dsimp only
    rw [if_neg]
    unfold Ks325.PARTS Ks325.SEATS
    omega
  · cases hb
theorem begin_22 {a : Abs} {n s : Nat} (h : n < 2 ∨ 17 < n ∨ s < 1 ∨ 12 < s) : act a (.begin n s) = (a, Ks327.no (-22)) := by
  unfold act
  dsimp only
  rw [if_pos]
  unfold Ks325.PARTS Ks325.SEATS
  omega

theorem cancel_none {a : Abs} {i : Nat} (h : a.bookings.getD i none = none) : act a (.cancel i) = (a, Ks327.no (-2)) := by
  unfold act
  dsimp only
  rw [h]
theorem row_none {a : Abs} {i : Nat} (h : a.bookings.getD i none = none) : act a (.row i) = (a, Ks327.no (-2)) := by
  unfold act
  dsimp only
  rw [h]
theorem row_some {a : Abs} {i : Nat} {b : Booking} (h : a.bookings.getD i none = some b) : act a (.row i) = (a, { ret := b.seats.length, out := b.from_ :: b.seats }) := by
  unfold act
  dsimp only
  rw [h]
theorem set_held_len : ∀ (l : List (Option Booking)) (i : Nat) (b : Booking), l[i]? = some (some b) → ((l.set i none).filterMap id).length + 1 = (l.filterMap id).length ∧ ((l.set i none).filterMap id).Sublist (l.filterMap id)
  | [], i, b, h => by cases h
  | o :: l, 0, b, h => by
    have e : o = some b := Option.some.inj h
    subst e
    exact ⟨rfl, List.sublist_cons_self _ _⟩
  | none :: l, i + 1, b, h => set_held_len l i b h
  | some c :: l, i + 1, b, h => by
    obtain ⟨h1, h2⟩ := set_held_len l i b h
    refine ⟨?_, ?_⟩
    · show (((some c) :: l.set i none).filterMap id).length + 1 = _
      rw [fm_some, fm_some, List.length_cons, List.length_cons, h1]
    · show (((some c) :: l.set i none).filterMap id).Sublist _
      rw [fm_some, fm_some]
      exact h2.cons_cons c
theorem cancel_some {a : Abs} (h : Ok a) {i : Nat} {b : Booking} (hi : a.bookings[i]? = some (some b)) :
    act a (.cancel i) = ({ a with bookings := a.bookings.set i none }, Ks327.no ((held { a with bookings := a.bookings.set i none }).length : Nat)) ∧ Ok { a with bookings := a.bookings.set i none } := by
  obtain ⟨h1, h2⟩ := set_held_len a.bookings i b hi
  have e : (held a).length - 1 = (held { a with bookings := a.bookings.set i none }).length := by
    unfold held
    dsimp only
    omega
  refine ⟨?_, h.pos, h.st2, h.st17, h.se12, ?_, ?_, ?_⟩
  · unfold act
    dsimp only
    rw [List.getD_eq_getElem?_getD, hi]
    dsimp only [Option.getD_some]
    rw [e]
  · show (a.bookings.set i none).length ≤ 40
    rw [List.length_set]
    exact h.len
  · intro c hc
    exact h.wf c (h2.mem hc)
  · exact List.Pairwise.sublist h2 h.apart

/-! ### Changes -/
theorem changes_rep (v : Nat) : ∀ n, changes (List.replicate n v) = 0
  | 0 => rfl
  | 1 => rfl
  | n + 2 => by
    show (if v = v then 0 else 1) + changes (List.replicate (n + 1) v) = 0
    rw [changes_rep v (n + 1), if_pos rfl]
def pairSum : List Nat → List Nat
  | x :: y :: l => stepC (some x) y :: pairSum (y :: l)
  | _ => []
theorem changes_sum : ∀ (r : List Nat), (pairSum r).sum = changes r
  | [] => rfl
  | [_] => rfl
  | x :: y :: l => by
    show (stepC (some x) y :: pairSum (y :: l)).sum = (if x = y then 0 else 1) + changes (y :: l)
    rw [List.sum_cons, changes_sum (y :: l)]
    congr 1
    unfold stepC
    by_cases c : x = y
    · rw [if_pos c, if_pos (.inr (by rw [c]))]
    · rw [if_neg c, if_neg (by rintro (q | q); cases q; exact c (Option.some.inj q))]
theorem pairSum_len : ∀ (r : List Nat), (pairSum r).length = r.length - 1
  | [] => rfl
  | [_] => rfl
  | x :: y :: l => by
    show (pairSum (y :: l)).length + 1 = _
    rw [pairSum_len (y :: l)]
    rfl
theorem pairSum_get : ∀ (r : List Nat) (j x y : Nat), r[j]? = some x → r[j + 1]? = some y → (pairSum r)[j]? = some (stepC (some x) y)
  | [], j, x, y, h, _ => by cases h
  | [a], j, x, y, _, h => by simp at h
  | a :: b :: l, 0, x, y, h, h' => by
    have e1 : a = x := Option.some.inj h
    have e2 : b = y := Option.some.inj h'
    subst e1 e2
    rfl
  | a :: b :: l, j + 1, x, y, h, h' => pairSum_get (b :: l) j x y h h'

/-! ### Free, who, state -/
theorem free_call {a : Abs} (h : Ok a) {x y : Nat} (hw : okWay a x y = true) :
    act a (.free x y) = (a, { ret := ((List.range a.seats).filter fun s => (parts x y).all fun k => (freeOn a.seats (held a) k).contains s).length, out := (List.range a.seats).filter fun s => (parts x y).all fun k => (freeOn a.seats (held a) k).contains s }) := by
  have e : ((List.range a.seats).filter fun s => (parts x y).all fun k => Ks325.free (taken a) k s) = (List.range a.seats).filter fun s => (parts x y).all fun k => (freeOn a.seats (held a) k).contains s := by
    refine List.filter_congr fun s hs => ?_
    congr 1
    funext k
    rw [freeOn_eq h, Bool.eq_iff_iff, List.contains_iff_mem]
    unfold freeOf
    rw [List.mem_filter, taken_len]
    simp [hs]
  unfold act
  dsimp only
  rw [if_neg (by rw [on_of h]; simp), if_neg (by rw [hw]; simp)]
  rw [e]
theorem free_22 {a : Abs} (h : Ok a) {x y : Nat} (hw : okWay a x y = false) : act a (.free x y) = (a, Ks327.no (-22)) := by
  unfold act
  dsimp only
  rw [if_neg (by rw [on_of h]; simp), if_pos hw]
theorem state_ok {a : Abs} (h : Ok a) : act a .state = (a, { ret := (held a).length, out := [a.bookings.length, changesOf (held a)] }) := by
  unfold act
  dsimp only
  rw [if_neg (by rw [on_of h]; simp)]
theorem on_none : ({} : Abs).on = false := rfl
/-- who sits there -/
def whoOf (a : Abs) (s k : Nat) : Option Nat := (List.range a.bookings.length).find? fun i => match a.bookings.getD i none with
      | none => false
      | some b => hasPart b k && b.seats.getD (k - b.from_) 99 == s
theorem who_ok (a : Abs) {s k : Nat} (h : s < a.seats) (hk : k + 1 < a.stops) : act a (.who s k) = (a, Ks327.no (match whoOf a s k with | some i => (i : Int) | none => -6)) := by
  unfold act
  dsimp only
  rw [if_neg (by omega)]
  show (match whoOf a s k with | some i => (a, Ks327.no i) | none => (a, Ks327.no (-6))) = _
  cases whoOf a s k <;> rfl
theorem who_2 (a : Abs) {s k : Nat} (h : a.seats ≤ s ∨ a.stops ≤ k + 1) : act a (.who s k) = (a, Ks327.no (-2)) := by
  unfold act
  dsimp only
  rw [if_pos h]
end Ts

end
section
/-! Mathematics, part F: the flat list of calls. -/
namespace Ts
open Ks327
def need : List Nat := [2, 3, 1, 1, 0, 2, 2, 0]
def Rest (r : List Int) (cs : List (List (List Int))) : Prop := ∃ f, PyFlat.calls PyKs327.shape f r = some cs
theorem rest_nil {cs : List (List (List Int))} (h : Rest [] cs) : cs = [] := by
  obtain ⟨f, h⟩ := h
  cases f <;> exact (Option.some.inj h).symm
theorem shape_some {p : Int} {x : Nat × Nat} (h : PyKs327.shape p = some x) : ∃ k : Nat, p = (k : Int) ∧ k < 8 ∧ x = (need.getD k 0, 0) := by
  unfold PyKs327.shape at h
  repeat' split at h
  all_goals first
    | (cases h; done)
    | (cases h; subst_vars; first | exact ⟨0, rfl, by decide, rfl⟩ | exact ⟨1, rfl, by decide, rfl⟩ | exact ⟨2, rfl, by decide, rfl⟩ | exact ⟨3, rfl, by decide, rfl⟩ | exact ⟨4, rfl, by decide, rfl⟩ | exact ⟨5, rfl, by decide, rfl⟩ | exact ⟨6, rfl, by decide, rfl⟩ | exact ⟨7, rfl, by decide, rfl⟩)
theorem rest_cons {p : Int} {r : List Int} {cs : List (List (List Int))} (h : Rest (p :: r) cs) :
    ∃ (k : Nat) (cs' : List (List (List Int))), p = (k : Int) ∧ k < 8 ∧ need.getD k 0 ≤ r.length ∧ cs = [p :: r.take (need.getD k 0)] :: cs' ∧ Rest (r.drop (need.getD k 0)) cs' := by
  obtain ⟨f, h⟩ := h
  cases f with
  | zero => cases h
  | succ f =>
    have h' : (match PyFlat.call PyKs327.shape (p :: r) with
      | none => none
      | some (c, t) => match PyFlat.calls PyKs327.shape f t with
        | none => none
        | some cs => some (c :: cs)) = some cs := h
    have e0 : PyFlat.call PyKs327.shape (p :: r) = (match PyKs327.shape p with
      | none => none
      | some (n, k) => if r.length < n then none else match PyFlat.rows k (r.drop n) with
        | none => none
        | some (xs, t) => some ((p :: r.take n) :: xs, t)) := rfl
    rw [e0] at h'
    cases es : PyKs327.shape p with
    | none => rw [es] at h'; cases h'
    | some x =>
      obtain ⟨k, e1, e2, e3⟩ := shape_some es
      subst e3
      rw [es] at h'
      by_cases hl : r.length < need.getD k 0
      · simp only [if_pos hl] at h'
        cases h'
      · simp only [if_neg hl, PyFlat.rows] at h'
        cases ec : PyFlat.calls PyKs327.shape f (r.drop (need.getD k 0)) with
        | none => rw [ec] at h'; cases h'
        | some cs' =>
          rw [ec] at h'
          exact ⟨k, cs', e1, e2, by omega, (Option.some.inj h').symm, f, ec⟩
theorem whole_id (c : List (List Int)) : PyKs327.whole c = c := by
  unfold PyKs327.whole
  split <;> rfl
theorem answers_of {l : List Int} (h : PyKs327.answers_asked l = true) : ∃ cs, Rest l cs ∧ PyKs327.answers l = PyFlat.told (PyFlat.played Ks327Neutral.step Ks327Neutral.start cs) ∧ cs.length ≤ 5000 := by
  unfold PyKs327.answers_asked PyKs327.answers PyKs327.calls at *
  cases e : PyFlat.calls PyKs327.shape l.length l with
  | none => rw [e] at h; cases h
  | some cs =>
    rw [e] at h
    have em : cs.map PyKs327.whole = cs := by
      rw [List.map_congr_left (g := id) (fun c _ => whole_id c), List.map_id]
    dsimp only at h
    rw [em] at h
    refine ⟨cs, ⟨_, e⟩, ?_, ?_⟩
    · dsimp only
      rw [em]
    · rw [Bool.and_eq_true] at h
      have := h.1
      unfold PyFlat.atMost at this
      exact of_decide_eq_true this
theorem told_cons (a : List Int) (l : List (List Int)) : PyFlat.told (a :: l) = (a.length : Int) :: a ++ PyFlat.told l := rfl
theorem played_cons {S : Type} (step : S → List (List Int) → S × List Int) (s : S) (c : List (List Int)) (cs : List (List (List Int))) : PyFlat.played step s (c :: cs) = (step s c).2 :: PyFlat.played step (step s c).1 cs := rfl
def callOf (k : Nat) (n : List Int) : Ks327.Call := match k with
  | 0 => .begin (n.getD 0 0).toNat (n.getD 1 0).toNat
  | 1 => .book (n.getD 0 0).toNat (n.getD 1 0).toNat (n.getD 2 0).toNat
  | 2 => .cancel (n.getD 0 0).toNat
  | 3 => .row (n.getD 0 0).toNat
  | 4 => .anew
  | 5 => .free (n.getD 0 0).toNat (n.getD 1 0).toNat
  | 6 => .who (n.getD 0 0).toNat (n.getD 1 0).toNat
  | _ => .state
theorem step_of (s : Abs) {k : Nat} (hk : k < 8) (n : List Int) : Ks327Neutral.step s [(k : Int) :: n] = Ks327Neutral.sa (act s (callOf k n)) := by
  match k, hk with
  | 0, _ => rfl
  | 1, _ => rfl
  | 2, _ => rfl
  | 3, _ => rfl
  | 4, _ => rfl
  | 5, _ => rfl
  | 6, _ => rfl
  | 7, _ => rfl
end Ts

end
section
/-! Rules of my own over the layer: min and sorted of pairs of ints; list(reversed(..)); enumerate(.., start=..). -/
set_option Elab.async false
set_option maxRecDepth 100000
set_option maxHeartbeats 2000000
namespace Ts
open PySem PySem.Spec PyProof.Rows L2
/-! ### min, the comparison by the heap -/
section
variable {prog : Program} {w : World} {A : Around} {R : Result → Shared → Prop} {I : Addr} {fp wr : List Addr} {n : Nat} {P : Nat → Value → Prop} {St : Nat → Heap → Prop} {G : Heap → Prop}
def CmpG (prog : Program) (w : World) (A : Around) (G : Heap → Prop) (P : Nat → Value → Prop) (bt : Nat → Nat → Bool) : Prop :=
  ∀ i j vi vj (s : Shared) (Q : Value → Shared → Prop) (E : Value → Shared → Prop), G s.heap → P i vi → P j vj → Q (.bool (bt i j)) s → wpAny (model prog w) A (richCompare .Lt vi vj) Q E s
/-- the turns behind the first one: the list at L holds the best so far, twice -/
theorem minLoop (W : Walks prog w A.in1 I fp wr n P St) (bt : Nat → Nat → Bool) (cmp : CmpG prog w A.in1 G P bt) (L : Addr) (off : L ∉ fp)
    (keep : ∀ h h', G h → (∀ b o, b ∉ wr → b ≠ L → h.get? b = some o → h'.get? b = some o) → G h') :
    ∀ (m j : Nat) (u : Shared) (best : Value) (ep : Nat), n - (j + 1) = m → j + 1 ≤ n → G u.heap → St (j + 1) u.heap → P (argBest bt j) best →
    u.heap.get? L = some { cls := .type "list", dict := none, data := .seq #[best, best] ep, slots := #[] } →
    (∀ v h' tk, P (argBest bt (n - 1)) v → (∀ b o, b ∉ wr → b ≠ L → u.heap.get? b = some o → h'.get? b = some o) → R (.ok (.ret v)) { u with heap := h', toks := tk }) →
    codeAny (model prog w) A (.builtin "min.loop" ⟨[.ref I, .none, .ref L], []⟩) R u
  | 0, j, u, best, ep, hm, hj, g, st, hb, hL, fin => by
    have last : j + 1 = n := by omega
    have offw : L ∉ wr := fun q => off (W.sub _ q)
    refine codeAny_builtin F.entry_min_loop ?_; rw [Around.under_plainId F.plain_min_loop _]
    show wpAny _ A.in1 (seqItems? (.ref L) >>= _) _ _ u; refine wpAny_bind (wpAny_seqItems hL rfl ?_)
    show wpAny _ A.in1 (tryCatch (pyNext (.ref I)) _ >>= _) _ _ u; refine wpAny_bind (wpAny_tryCatch (W.done u _ _ (last ▸ st) fun h1 tk k1 => ?_))
    show wpAny _ A.in1 (updateSeq L (fun _ => #[]) >>= _) _ _ _; refine wpAny_bind (wpAny_updateSeq (k1 L _ offw hL) rfl (wpAny_bind (wpAny_letGo (wpAny_pure (fin best _ tk (by rw [← last]; exact hb) fun b o h3 h4 e => ?_)))))
    exact (Heap.get?_update_other _ _ (Ne.symm h4)).trans (k1 b o h3 e)
  | m + 1, j, u, best, ep, hm, hj, g, st, hb, hL, fin => by
    have more : j + 1 < n := by omega
    have offw : L ∉ wr := fun q => off (W.sub _ q)
    have nm : (toString "min" ++ toString ".loop" : String) = "min.loop" := by decide
    refine codeAny_builtin F.entry_min_loop ?_; rw [Around.under_plainId F.plain_min_loop _]
    show wpAny _ A.in1 (seqItems? (.ref L) >>= _) _ _ u; refine wpAny_bind (wpAny_seqItems hL rfl ?_)
    show wpAny _ A.in1 (tryCatch (pyNext (.ref I)) _ >>= _) _ _ u; refine wpAny_bind (wpAny_tryCatch (W.item (j + 1) u _ _ more st fun v h1 tk hv st1 k1 => ?_))
    have g1 : G h1 := keep _ _ g fun b o h3 _ e => k1 b o h3 e
    have hL1 := k1 L _ offw hL
    show wpAny _ A.in1 (tryCatch (holding [v, v] (richCompare .Lt v best >>= _)) _ >>= _) _ _ _; refine wpAny_bind (wpAny_tryCatch (wpAny_holding (wpAny_bind (cmp (j + 1) (argBest bt j) v best _ _ _ g1 hv hb ?_))))
    refine wpAny_bind (wpAny_holding (wpAny_truthy_bool (wpAny_bind (wpAny_letGo (wpAny_pure ?_)))))
    cases lt : bt (j + 1) (argBest bt j) with
    | false =>
      simp only [Bool.false_eq_true, if_false]; refine wpAny_bind (wpAny_letGo ?_); rw [nm]
      have hb' : P (argBest bt (j + 1)) best := by simp only [argBest, lt, Bool.false_eq_true, if_false]; exact hb
      exact wpAny_pure ⟨plainId_quiet F.plain_min_loop _, minLoop W bt cmp L off keep m (j + 1) _ best ep (by omega) more g1 st1 hb' hL1 fun v2 h2 tk2 p2 k2 => fin v2 h2 tk2 p2 fun b o h3 h4 e => k2 b o h3 h4 (k1 b o h3 e)⟩
    | true =>
      simp only [if_true]; refine wpAny_bind (wpAny_updateSeq hL1 rfl (wpAny_bind (wpAny_letGo ?_))); rw [nm]
      have hb' : P (argBest bt (j + 1)) v := by simp only [argBest, lt, if_true]; exact hv
      have st2 := W.frame _ _ (h1.update L (Obj.mapSeq fun _ => #[v, v])) st1 fun b h3 o e => (Heap.get?_update_other _ _ (fun q : L = b => off (q ▸ h3))).trans e
      have g2 : G (h1.update L (Obj.mapSeq fun _ => #[v, v])) := keep _ _ g1 fun b o _ h4 e => (Heap.get?_update_other _ _ (Ne.symm h4)).trans e
      exact wpAny_pure ⟨plainId_quiet F.plain_min_loop _, minLoop W bt cmp L off keep m (j + 1) _ v _ (by omega) more g2 st2 hb' (Heap.get?_update_self _ hL1 rfl) fun v2 h2 tk2 p2 k2 => fin v2 h2 tk2 p2 fun b o h3 h4 e => k2 b o h3 h4 ((Heap.get?_update_other _ _ (Ne.symm h4)).trans (k1 b o h3 e))⟩

/-- the first turn: the list at L is still empty -/
theorem minFirst (W : Walks prog w A.in1 I fp wr n P St) (bt : Nat → Nat → Bool) (cmp : CmpG prog w A.in1 G P bt) (L : Addr) (off : L ∉ fp)
    (keep : ∀ h h', G h → (∀ b o, b ∉ wr → b ≠ L → h.get? b = some o → h'.get? b = some o) → G h') (some1 : 0 < n) {u : Shared} {ep : Nat} (g : G u.heap) (st : St 0 u.heap)
    (hL : u.heap.get? L = some { cls := .type "list", dict := none, data := .seq #[] ep, slots := #[] })
    (fin : ∀ v h' tk, P (argBest bt (n - 1)) v → (∀ b o, b ∉ wr → b ≠ L → u.heap.get? b = some o → h'.get? b = some o) → R (.ok (.ret v)) { u with heap := h', toks := tk }) :
    codeAny (model prog w) A (.builtin "min.loop" ⟨[.ref I, .none, .ref L], []⟩) R u := by
  have offw : L ∉ wr := fun q => off (W.sub _ q)
  have nm : (toString "min" ++ toString ".loop" : String) = "min.loop" := by decide
  refine codeAny_builtin F.entry_min_loop ?_; rw [Around.under_plainId F.plain_min_loop _]
  show wpAny _ A.in1 (seqItems? (.ref L) >>= _) _ _ u; refine wpAny_bind (wpAny_seqItems hL rfl ?_)
  show wpAny _ A.in1 (tryCatch (pyNext (.ref I)) _ >>= _) _ _ u; refine wpAny_bind (wpAny_tryCatch (W.item 0 u _ _ some1 st fun v h1 tk hv st1 k1 => ?_))
  have g1 : G h1 := keep _ _ g fun b o h3 _ e => k1 b o h3 e
  have hL1 := k1 L _ offw hL
  show wpAny _ A.in1 (updateSeq L (fun _ => #[v, v]) >>= _) _ _ _; refine wpAny_bind (wpAny_updateSeq hL1 rfl ?_); rw [nm]
  have st2 := W.frame _ _ (h1.update L (Obj.mapSeq fun _ => #[v, v])) st1 fun b h3 o e => (Heap.get?_update_other _ _ (fun q : L = b => off (q ▸ h3))).trans e
  have g2 : G (h1.update L (Obj.mapSeq fun _ => #[v, v])) := keep _ _ g1 fun b o _ h4 e => (Heap.get?_update_other _ _ (Ne.symm h4)).trans e
  exact wpAny_pure ⟨plainId_quiet F.plain_min_loop _, minLoop W bt cmp L off keep _ 0 _ v _ rfl some1 g2 st2 hv (Heap.get?_update_self _ hL1 rfl) fun v2 h2 tk2 p2 k2 => fin v2 h2 tk2 p2 fun b o h3 h4 e => k2 b o h3 h4 ((Heap.get?_update_other _ _ (Ne.symm h4)).trans (k1 b o h3 e))⟩
end
section
variable {prog : Program} {w : World} {A : Around} {E : Value → Shared → Prop} {s : Shared} {G : Heap → Prop}
/-- min(x), x walked, two items compared where the heap keeps G -/
theorem minCall {x : Value} {Q : Value → Shared → Prop}
    (walks : wpAny (model prog w) A.in1 (pyIter x) (fun it u => ∃ I fp wr n P St bt, it = .ref I ∧ Walks prog w A.in1 I fp wr n P St ∧ St 0 u.heap ∧ (∀ b ∈ fp, b < u.heap.objs.size) ∧ 0 < n ∧ CmpG prog w A.in1 G P bt ∧ G u.heap ∧
      (∀ h h', G h → (∀ b o, b ∉ wr → b ≠ u.heap.objs.size → h.get? b = some o → h'.get? b = some o) → G h') ∧
      ∀ v h' tk, P (argBest bt (n - 1)) v → (∀ b o, b ∉ wr → u.heap.get? b = some o → h'.get? b = some o) → Q v { u with heap := h', toks := tk }) E s) : wpAny (model prog w) A (call (.builtin "min") [x]) Q E s := by
  have bp : Builtin.Builtins.bindParams "min" ["key", "default"] 0 ⟨[], []⟩ = pure [none, none] := rfl
  have nm : (toString "min" ++ toString ".loop" : String) = "min.loop" := by decide
  refine call_function_tree F.kind_min F.plain_min F.entry_min (F.args_min1 _) ?_; show wpAny _ A.in1 (Builtin.Builtins.bindParams "min" ["key", "default"] 0 ⟨[], []⟩ >>= _) _ _ s; refine wpAny_bind (wpAny_of_eq bp (wpAny_bind (wpAny_pure ?_)))
  refine wpAny_bind (wpAny_mono walks (fun it u hu => ?_) fun _ _ z => z)
  obtain ⟨I, fp, wr, n, P, St, bt, rfl, W, st, old, hn, cmp, g, keep, fin⟩ := hu
  refine wpAny_bind (wpAny_newObj_type ?_); rw [nm]
  have off : u.heap.objs.size ∉ fp := fun q => Nat.lt_irrefl _ (old _ q)
  have push : ∀ b o, u.heap.get? b = some o → (u.heap.push { cls := .type "list", data := .seq #[] }).get? b = some o := fun b o e => Heap.get?_push_of_some _ e
  refine wpAny_pure ⟨plainId_quiet F.plain_min_loop _, minFirst W bt cmp u.heap.objs.size off keep hn (keep _ _ g fun b o _ _ e => push b o e) (W.frame _ _ _ st fun b _ o e => push b o e) (Heap.get?_push_size _ rfl) fun v h2 tk p2 k2 => ?_⟩
  exact fin v h2 tk p2 fun b o h3 e => k2 b o h3 (Nat.ne_of_lt (Heap.lt_size e)) (push b o e)
end
/-- the order of pairs -/
def leI (p q : Int × Int) : Prop := p.1 < q.1 ∨ (p.1 = q.1 ∧ p.2 ≤ q.2)
def pL (p : Int × Int) : List Int := [p.1, p.2]
theorem lexLt_pair (p q : Int × Int) : HT.lexLt (pL p) (pL q) = true ↔ ¬ leI q p := by
  unfold pL leI
  rw [HT.lexLt_cons]
  by_cases c : p.1 = q.1
  · rw [if_pos c, HT.lexLt_cons]
    by_cases d : p.2 = q.2
    · rw [if_pos d, HT.lexLt_nil_nil]
      constructor
      · intro h; cases h
      · intro h; exfalso; omega
    · rw [if_neg d, decide_eq_true_eq]
      omega
  · rw [if_neg c, decide_eq_true_eq]
    omega
theorem leI_refl (p : Int × Int) : leI p p := .inr ⟨rfl, Int.le_refl _⟩
theorem leI_trans {p q r : Int × Int} (a : leI p q) (b : leI q r) : leI p r := by unfold leI at *; omega
theorem leI_total (p q : Int × Int) : leI p q ∨ leI q p := by unfold leI; omega
theorem argBest_pair (val : Nat → Int × Int) : ∀ k, argBest (fun i j => HT.lexLt (pL (val i)) (pL (val j))) k ≤ k ∧ ∀ j, j ≤ k → leI (val (argBest (fun i j => HT.lexLt (pL (val i)) (pL (val j))) k)) (val j)
  | 0 => ⟨Nat.le_refl _, fun j hj => by
    have : j = 0 := by omega
    subst this
    exact leI_refl _⟩
  | k + 1 => by
    obtain ⟨h1, h2⟩ := argBest_pair val k
    unfold argBest
    cases c : HT.lexLt (pL (val (k + 1))) (pL (val (argBest (fun i j => HT.lexLt (pL (val i)) (pL (val j))) k))) with
    | true =>
      have c' := (lexLt_pair _ _).mp c
      simp only [if_true]
      refine And.intro (Nat.le_refl _) fun j hj => ?_
      by_cases e : j = k + 1
      · rw [e]; exact leI_refl _
      · exact leI_trans ((leI_total _ _).resolve_left c') (h2 j (by omega))
    | false =>
      simp only [if_false, Bool.false_eq_true]
      refine And.intro (by omega) fun j hj => ?_
      by_cases e : j = k + 1
      · rw [e]
        by_cases d : leI (val (argBest (fun i j => HT.lexLt (pL (val i)) (pL (val j))) k)) (val (k + 1))
        · exact d
        · have := (lexLt_pair _ _).mpr d
          rw [c] at this
          cases this
      · exact h2 j (by omega)
/-- min(xs) of a list of pairs of ints: zs the pairs with their addresses -/
def rMinT (K : PySem.W.Frag) : List V → Hp → VK → Prop := fun vs H Q => ∃ (a : Addr) (zs : List (Addr × Int × Int)), vs = [V.ref a] ∧ SqL K H a (zs.map fun z => V.ref z.1) ∧ (∀ z ∈ zs, SqT K H z.1 [.int z.2.1, .int z.2.2]) ∧ zs ≠ [] ∧
  ∀ z ∈ zs, (∀ y ∈ zs, leI z.2 y.2) → Q (.ref z.1) H
theorem vals_refs : ∀ {zs : List (Addr × Int × Int)} {us : List Value}, Vals (zs.map fun z => V.ref z.1) us → us = zs.map fun z => Value.ref z.1
  | [], _, r => by cases r; rfl
  | z :: zs, _, r => by
    cases r with
    | cons a b =>
      have e : _ = Value.ref z.1 := a
      rw [List.map_cons, ← vals_refs b, e]
theorem cr_minT {X : Cx} (hc : X.calm = true) (hu : X.A.units + 1 < cLine) : CallR X (.builtin "min") (rMinT X.K) := by
  intro pins s σ H vs us Q I r h
  obtain ⟨a, zs, rfl, hs, hz, hne, q⟩ := h
  obtain ⟨its, rv, hl, _⟩ := I.list hs
  rw [Vals.ref1 r]
  have hits := vals_refs rv
  subst hits
  have hn : 0 < zs.length := List.length_pos_iff.mpr hne
  refine minCall (G := fun h => ∀ z ∈ zs, ∃ items : Array Value, IsTup h z.1 items ∧ IntsAre items.toList (pL z.2)) ?_
  have hlI := hl.isList
  refine wpAny_pyIter_list hlI ?_
  have tup : ∀ z ∈ zs, ∃ items : Array Value, IsTup s.heap z.1 items ∧ IntsAre items.toList (pL z.2) := fun z hm => by
    obtain ⟨its, r2, t2, _⟩ := I.tuple (hz z hm)
    exact ⟨its.toArray, t2, by simpa using intsAre_of (ns := pL z.2) r2⟩
  have ltz : ∀ z ∈ zs, z.1 < s.heap.objs.size := fun z hm => by
    obtain ⟨items, ⟨o, ho, _⟩, _⟩ := tup z hm
    exact Heap.lt_size ho
  have hla : a < s.heap.objs.size := hl.lt
  refine ⟨_, _, _, _, _, _, fun i j => HT.lexLt (pL ((zs.getD i (0, 0, 0)).2)) (pL ((zs.getD j (0, 0, 0)).2)), rfl,
    Walks.list (A := X.A.in1) (I.ok.hd hc) s.heap.objs.size a (Nat.ne_of_lt hla) (zs.map fun z => Value.ref z.1).toArray, ⟨⟨_, Heap.get?_push_size _ rfl, rfl, rfl⟩, ?_⟩, ?_, ?_, ?_, ?_, ?_, ?_⟩
  · exact hlI.push _
  · intro b hb
    rw [Heap.size_push]
    have : b = s.heap.objs.size ∨ b = a := by simpa using hb
    rcases this with e | e
    · rw [e]; exact Nat.lt_succ_self (_)
    · rw [e]; exact Nat.lt_succ_of_lt hla
  · simpa using hn
  · intro i j vi vj s1 Q1 E1 g hi hj hq
    have hi' : (zs.map fun z => Value.ref z.1)[i]? = some vi := by simpa using hi
    have hj' : (zs.map fun z => Value.ref z.1)[j]? = some vj := by simpa using hj
    rw [List.getElem?_map] at hi' hj'
    cases ei : zs[i]? with
    | none => rw [ei] at hi'; cases hi'
    | some zi =>
      cases ej : zs[j]? with
      | none => rw [ej] at hj'; cases hj'
      | some zj =>
        rw [ei] at hi'
        rw [ej] at hj'
        have e1 : Value.ref zi.1 = vi := Option.some.inj hi'
        have e2 : Value.ref zj.1 = vj := Option.some.inj hj'
        subst e1 e2
        obtain ⟨it1, t1, n1⟩ := g zi (List.mem_of_getElem? ei)
        obtain ⟨it2, t2, n2⟩ := g zj (List.mem_of_getElem? ej)
        have d1 : zs.getD i (0, 0, 0) = zi := by rw [List.getD_eq_getElem?_getD, ei]; rfl
        have d2 : zs.getD j (0, 0, 0) = zj := by rw [List.getD_eq_getElem?_getD, ej]; rfl
        dsimp only at hq
        rw [d1, d2] at hq
        exact HT.lt_tupInts (A := X.A.in1) t1 t2 n1 n2 (by show X.A.units + 1 < cLine; exact hu) hq
  · intro z hm
    obtain ⟨items, ⟨o, ho, hc'⟩, hi⟩ := tup z hm
    exact ⟨items, ⟨o, Heap.get?_push_of_some _ ho, hc'⟩, hi⟩
  · intro h h' g kp z hm
    obtain ⟨items, ⟨o, ho, hc'⟩, hi⟩ := g z hm
    have hlt := ltz z hm
    refine ⟨items, ⟨o, kp z.1 o ?_ ?_ ho, hc'⟩, hi⟩
    · intro hb
      have : z.1 = s.heap.objs.size := by simpa using hb
      exact Nat.lt_irrefl _ (this ▸ hlt)
    · show z.1 ≠ (s.heap.push _).objs.size
      rw [Heap.size_push]
      exact Nat.ne_of_lt (Nat.lt_succ_of_lt hlt)
  · intro v h' tk hP kp
    obtain ⟨h1, h2⟩ := argBest_pair (fun i => (zs.getD i (0, 0, 0)).2) (zs.length - 1)
    have hP' : (zs.map fun z => Value.ref z.1)[argBest (fun i j => HT.lexLt (pL ((zs.getD i (0, 0, 0)).2)) (pL ((zs.getD j (0, 0, 0)).2))) (zs.length - 1)]? = some v := by simpa using hP
    generalize hm : argBest (fun i j => HT.lexLt (pL ((zs.getD i (0, 0, 0)).2)) (pL ((zs.getD j (0, 0, 0)).2))) (zs.length - 1) = m at *
    have hmlt : m < zs.length := by omega
    rw [List.getElem?_map, List.getElem?_eq_getElem hmlt] at hP'
    have ev : Value.ref zs[m].1 = v := Option.some.inj hP'
    subst ev
    refine ⟨.ref zs[m].1, H, I.kept (fun b o e => ?_), rfl, q zs[m] (List.getElem_mem hmlt) fun y hy => ?_⟩
    · refine kp b o ?_ (Heap.get?_push_of_some _ e)
      intro hb
      have e2 : b = s.heap.objs.size := by simpa using hb
      have := Heap.lt_size e
      rw [e2] at this
      exact Nat.lt_irrefl _ this
    · obtain ⟨j, hj⟩ := List.getElem?_of_mem hy
      have hjl := (List.getElem?_eq_some_iff.mp hj).1
      have := h2 j (by omega)
      have d1 : zs.getD m (0, 0, 0) = zs[m] := by rw [List.getD_eq_getElem?_getD, List.getElem?_eq_getElem hmlt]; rfl
      have d2 : zs.getD j (0, 0, 0) = y := by rw [List.getD_eq_getElem?_getD, hj]; rfl
      rw [d1, d2] at this
      exact this
end Ts

end
section
/-! Rules of my own, 2: list(reversed(..)). -/
set_option Elab.async false
set_option maxRecDepth 100000
set_option maxHeartbeats 2000000
namespace Ts
open PySem PySem.Spec PyProof.Rows L2
theorem nolen_lri : typeLookup (.type "list_reverseiterator") "__len__" = pure none := by rw [typeLookup_type, builtinLookup_eq_fast]; kernel_rfl
theorem hint_lri : typeLookup (.type "list_reverseiterator") "__length_hint__" = pure (some (.builtin "list_reverseiterator.__length_hint__")) := by rw [typeLookup_type, builtinLookup_eq_fast]; kernel_rfl
section
variable {prog : Program} {w : World} {A : Around} {E : Value → Shared → Prop} {s : Shared}
variable {I : Addr} {n : Nat} {fp wr : List Addr} {P : Nat → Value → Prop} {St : Nat → Shared → Prop} {G : Array GenState → Array GenState → Prop}
/-- the empty list at L takes up what the reversing iterator at I yields -/
theorem fill_rev {R : Result → Shared → Prop} (W : WalksS prog w A.in1 I fp wr G n P St) (ty : ∀ i u, St i u → u.TypeIs (.ref I) "list_reverseiterator") (L : Addr) (ans : Value) (ep : Nat) (st : St 0 s) (off : L ∉ fp) (mem : I ∈ fp)
    (hL : s.heap.get? L = some { cls := .type "list", data := .seq #[] ep }) (hn : n ≤ sizeLine)
    (fin : ∀ u acc e, Moved (L :: wr) G s u → u.heap.get? L = some { cls := .type "list", dict := none, data := .seq acc e, slots := #[] } → ItemsOf P acc n → R (.ok (.ret ans)) u) :
    wpAny (model prog w) A.in1 (Builtin.List.listExtendWith (.ref L) (.ref I) ans)
      (fun z u => match z with | .done f => R (.ok f) u | .again c => c.quiet = true ∧ codeAny (model prog w) A c R u) (fun e u => R (.error e) u) s := by
  have neq : L ≠ I := fun q => off (q ▸ mem)
  have apart : Builtin.List.listSameRef (.ref L) (.ref I) = false := by simp [Builtin.List.listSameRef, neq]
  unfold Builtin.List.listExtendWith; refine wpAny_bind (wpAny_typeOf (ty 0 _ st) ?_); rw [if_neg (by rw [apart]; decide)]
  refine wpAny_bind (W.self 0 _ _ _ st (wpAny_bind (wpAny_holding ?_))); unfold Builtin.List.listLengthHint
  refine wpAny_bind (wpAny_specialOf (ty 0 _ st) nolen_lri ?_)
  show wpAny _ A.in1 (specialOf (Value.ref I) (Str.ofString "__length_hint__") >>= _) _ _ _; refine wpAny_bind (wpAny_specialOf (ty 0 _ st) hint_lri ?_)
  generalize name : ("list_reverseiterator.__length_hint__" : String) = nm
  wp_delta
  rw [show splitId nm = some ("list_reverseiterator", "__length_hint__") from by subst name; decide +kernel]
  subst name
  refine wpAny_bind (wpAny_isInstance (b := true) (ty 0 _ st) (by rw [isSubtype_type]; kernel_rfl) (wpAny_pure ?_)); rw [if_neg (by decide)]
  exact wpAny_pure ⟨plainId_quiet F.plain_extend_loop _, codeAny_extend_loopS W hn _ off _ n 0 _ _ _ rfl (Nat.zero_le _) st hL (ItemsOf.nil P) fin⟩
/-- list(it) of a reversing iterator -/
theorem list_of_rev {Q : Value → Shared → Prop} (W : WalksS prog w A.in1.in1 I fp wr G n P St) (ty : ∀ i u, St i u → u.TypeIs (.ref I) "list_reverseiterator") (st : St 0 s) (old : ∀ b ∈ fp, b < s.heap.objs.size) (mem : I ∈ fp) (hn : n ≤ sizeLine)
    (fin : ∀ u acc e, Moved (s.heap.objs.size :: wr) G { s with heap := s.heap.push { cls := .type "list", data := .seq #[] } } u →
      u.heap.get? s.heap.objs.size = some { cls := .type "list", dict := none, data := .seq acc e, slots := #[] } → ItemsOf P acc n → Q (.ref s.heap.objs.size) u) : wpAny (model prog w) A (call (.type "list") [.ref I]) Q E s := by
  have off : s.heap.objs.size ∉ fp := fun q => Nat.lt_irrefl _ (old _ q)
  refine callType_codes (Q₁ := fun obj u => obj = .ref s.heap.objs.size ∧ u = { s with heap := s.heap.push { cls := .type "list", data := .seq #[] } }) F.called_list (F.typeCall_list_1 _) F.entry_list_init (code_list_new _ ⟨rfl, rfl⟩) fun obj u hu => ?_
  obtain ⟨rfl, rfl⟩ := hu
  have new : (s.heap.push { cls := .type "list", data := .seq #[] }).get? s.heap.objs.size = some { cls := .type "list", data := .seq #[] } := Heap.get?_push_size _ rfl
  refine ⟨⟨_, new, rfl⟩, F.args_list_init_2 _ _, ?_⟩
  show wpAny _ A.in1.in1 (do let was ← Builtin.List.listItems (.ref s.heap.objs.size); Builtin.List.listUpdate (.ref s.heap.objs.size) (fun _ => #[]); letGo was.toList.reverse; Builtin.List.listExtendWith (.ref s.heap.objs.size) (.ref I) .none) _ _ _
  refine wpAny_bind ?_; unfold Builtin.List.listItems; refine wpAny_bind (wpAny_seqItems new rfl (wpAny_pure ?_))
  show wpAny _ A.in1.in1 (updateSeq s.heap.objs.size (fun _ => #[]) >>= fun _ => letGo (#[] : Array Value).toList.reverse >>= fun _ => Builtin.List.listExtendWith (.ref s.heap.objs.size) (.ref I) .none) _ _ _
  refine wpAny_bind (wpAny_updateSeq new rfl (wpAny_bind (wpAny_letGo ?_)))
  have kept : ∀ b o, b ≠ s.heap.objs.size → (s.heap.push { cls := .type "list", data := .seq #[] }).get? b = some o → ((s.heap.push { cls := .type "list", data := .seq #[] }).update s.heap.objs.size (Obj.mapSeq (fun _ => (#[] : Array Value)))).get? b = some o :=
    fun b o q e => (Heap.get?_update_other _ _ (Ne.symm q)).trans e
  have st1 := W.frame 0 s (s.heap.push { cls := .type "list", data := .seq #[] }) s.toks st (Nat.le_refl _) fun b _ o e => Heap.get?_push_of_some _ e
  refine fill_rev W ty s.heap.objs.size .none _ (W.frame 0 _ _ s.toks st1 (Nat.le_refl _) fun b q o e => kept b o (fun z => off (z ▸ q)) e) off mem (Heap.get?_update_self (Obj.mapSeq (fun _ => (#[] : Array Value))) new rfl) hn fun u acc e mv he it => ⟨rfl, fin u acc e ?_ he it⟩
  exact Moved.trans W.gtrans ((Moved.refl W.grefl).then_heap (Nat.le_refl _) fun b o q e => kept b o (fun z => q (z ▸ List.mem_cons_self)) e) mv
end
/-- list(reversed(e)) -/
def tLRev (K : PySem.W.Frag) (ta : TA) : TE := fun σ H Q => ta σ H fun vs H1 => ∃ (a : Addr) (xs : List V), vs = [.ref a] ∧ SqL K H1 a xs ∧ ∀ l, H1 l = none → Q (.ref l) (upd H1 l (.lst xs.reverse))
theorem items_rev {its : List Value} {acc : Array Value} (h : ItemsOf (fun i v => its.toArray[its.toArray.size - 1 - i]? = some v) acc its.toArray.size) : acc.toList = its.reverse := by
  obtain ⟨h1, h2⟩ := h
  refine List.ext_getElem? fun i => ?_
  have hs : its.toArray.size = its.length := by simp
  by_cases hi : i < its.length
  · rw [List.getElem?_reverse hi]
    have ha : i < acc.size := by rw [h1, hs]; exact hi
    have e := h2 i acc[i] (by first | exact Array.getElem?_eq_getElem ha | omega)
    rw [Array.getElem?_toList, Array.getElem?_eq_getElem ha, ← e]
    simp
  · rw [List.getElem?_eq_none (by rw [Array.length_toList, h1, hs]; omega), List.getElem?_eq_none (by rw [List.length_reverse]; omega)]
theorem vals_rev : ∀ {xs : List V} {us : List Value}, Vals xs us → Vals xs.reverse us.reverse
  | _, _, .nil => .nil
  | _, _, .cons r t => by
    simp only [List.reverse_cons]
    exact (vals_rev t).append (.cons r .nil)
theorem pe_listRev {X : Cx} {e : Expr} {ta : TA} {p p2 pos pos2 : Pos} (hc : X.calm = true) (hg : Gl X "list") (hm : X.mg "list" = none) (hg2 : Gl X "reversed") (hm2 : X.mg "reversed" = none) (ha : PA X [e] ta)
    (hs : starEach [e] X.env = [(false, eval e X.env)] := by rfl) (hs2 : starEach [Expr.Call (.Name "reversed" p2) [e] [] pos2] X.env = [(false, eval (Expr.Call (.Name "reversed" p2) [e] [] pos2) X.env)] := by rfl) :
    PE X (.Call (.Name "list" p) [.Call (.Name "reversed" p2) [e] [] pos2] [] pos) (tLRev X.K ta) := by
  intro pins s σ H Q I h
  refine wpAny_Call_Name_kw (ld_blt I hg hm PyProof.Rows.boot_list ?_)
  refine PyProof.Rows.callWith_type1 ?_ hs2 rfl
  rw [hs2]
  show wpAny _ _ (spliced ((false, eval (Expr.Call (.Name "reversed" p2) [e] [] pos2) X.env) :: backTo pos [])) _ _ s
  refine Calls.spliced_cons ?_
  refine Call_ (ld_blt I hg2 hm2 boot_reversed5 (PyProof.Rows.callWith_type1 (thn (ha pos2 pins s σ H _ I h) fun us s1 ⟨vs, H1, I1, r1, q1⟩ => ?_) hs rfl))
  obtain ⟨a, xs, ev, hq, q⟩ := q1
  subst ev
  rw [Vals.ref1 r1]
  obtain ⟨its, rv, p', hz⟩ := I1.list hq
  refine call_reversed_list p'.isList ?_
  refine Calls.spliced_nil ?_
  have hla : a < s1.heap.objs.size := p'.lt
  have W := (Walks.listRev (prog := X.prog) (w := X.w) (A := X.A.in1.in1) (I1.ok.hd hc) s1.heap.objs.size a (Nat.ne_of_lt hla) its.toArray).toS
  have hlen := rv.length
  refine list_of_rev W (fun i s st => ?_) ?_ ?_ (by simp) (by simp only [List.size_toArray]; rw [← hlen]; exact hz) (fun s' acc' c' hm' hS' hacc => ?_)
  · exact (show s.heap.IsRevIter s1.heap.objs.size a _ from st.2.1).typeIs
  · refine ⟨Nat.zero_le _, ⟨_, Heap.get?_push_size _ rfl, rfl, ?_⟩, p'.isList.push _⟩
    show Data.fields #[.ref a, rawInt ((its.toArray.size : Int) - 1)] = _
    have e0 : (its.toArray.size : Int) - 1 - ((0 : Nat) : Int) = (its.toArray.size : Int) - 1 := by omega
    rw [e0]
  · intro b hb
    rw [Heap.size_push]
    have : b = s1.heap.objs.size ∨ b = a := by simpa using hb
    rcases this with e1 | e1
    · rw [e1]; exact Nat.lt_succ_self _
    · rw [e1]; exact Nat.lt_succ_of_lt hla
  · rw [Moved.eq_with hm']
    have hz1 : (s1.heap.push (revObj a ((its.toArray.size : Int) - 1))).objs.size = s1.heap.objs.size + 1 := Heap.size_push ..
    have kp : ∀ b o, s1.heap.get? b = some o → s'.heap.get? b = some o := fun b o eb => by
      have hb := Heap.lt_size eb
      refine hm'.heap b o ?_ (Heap.get?_push_of_some _ (Heap.get?_push_of_some _ eb))
      intro hmem
      have : b = (s1.heap.push (revObj a ((its.toArray.size : Int) - 1))).objs.size ∨ b = s1.heap.objs.size := by simpa using hmem
      rcases this with e1 | e1
      · rw [hz1] at e1
        rw [e1] at hb
        exact absurd hb (Nat.not_lt_of_lt (Nat.lt_succ_self _))
      · rw [e1] at hb
        exact Nat.lt_irrefl _ hb
    have hS2 : s'.heap.get? (s1.heap.objs.size + 1) = some { cls := .type "list", dict := none, data := .seq acc' c', slots := #[] } := by
      rw [← hz1]
      exact hS'
    have hfr : s1.heap.objs.size ≤ s1.heap.objs.size + 1 := Nat.le_succ _
    have ea := items_rev hacc
    refine ⟨.ref (s1.heap.objs.size + 1), upd H1 (s1.heap.objs.size + 1) (.lst xs.reverse), ?_, ?_, q _ (I1.hok.fresh hfr)⟩
    · refine I1.laid kp hfr ⟨by rw [List.length_reverse]; exact hz, its.reverse, c', vals_rev rv, ?_⟩
      rw [hS2, ← ea]
    · show Value.ref _ = Value.ref _
      rw [hz1]
end Ts

end
section
/-! Rules of my own, 3: sorted of a list of pairs of ints. -/
set_option Elab.async false
set_option maxRecDepth 100000
set_option maxHeartbeats 2000000
namespace Ts
open PySem PySem.Spec PyProof.Rows L2
open PyProof.Rows.G
theorem perm_map_inv {α β : Type} {f : α → β} : ∀ {l m : List β}, l.Perm m → ∀ zs : List α, m = zs.map f → ∃ zs' : List α, zs'.Perm zs ∧ l = zs'.map f := by
  intro l m h
  induction h with
  | nil =>
    intro zs e
    cases zs with
    | nil => exact ⟨[], .nil, rfl⟩
    | cons z zs => cases e
  | cons x h ih =>
    intro zs e
    cases zs with
    | nil => cases e
    | cons z zs =>
      rw [List.map_cons] at e
      injection e with e1 e2
      obtain ⟨zs', p, q⟩ := ih zs e2
      exact ⟨z :: zs', p.cons z, by rw [List.map_cons, e1, q]⟩
  | swap x y l =>
    intro zs e
    cases zs with
    | nil => cases e
    | cons z zs =>
      cases zs with
      | nil => cases e
      | cons z2 zs =>
        rw [List.map_cons, List.map_cons] at e
        injection e with e1 e2
        injection e2 with e2 e3
        exact ⟨z2 :: z :: zs, .swap z z2 zs, by rw [List.map_cons, List.map_cons, e1, e2, e3]⟩
  | trans h1 h2 ih1 ih2 =>
    intro zs e
    obtain ⟨zs2, p2, q2⟩ := ih2 zs e
    obtain ⟨zs1, p1, q1⟩ := ih1 zs2 q2
    exact ⟨zs1, p1.trans p2, q1⟩
def rSortedT (K : PySem.W.Frag) : List V → Hp → VK → Prop := fun vs H Q => ∃ (a : Addr) (zs : List (Addr × Int × Int)), vs = [V.ref a] ∧ SqL K H a (zs.map fun z => V.ref z.1) ∧ (∀ z ∈ zs, SqT K H z.1 [.int z.2.1, .int z.2.2]) ∧
  ∀ (zs' : List (Addr × Int × Int)) (p : Addr), zs'.Perm zs → zs'.Pairwise (fun x y => leI x.2 y.2) → H p = none → Q (.ref p) (upd H p (.lst (zs'.map fun z => V.ref z.1)))
def shI : Nat → Bool := fun _ => false
theorem pair_items {i j : Int} {us : List Value} (h : Vals [V.int i, V.int j] us) : ∃ t u, us = [Value.int i t, Value.int j u] := Vals.int2 h
theorem tupKey_pair {h : Heap} {a : Addr} {items : Array Value} {p : Int × Int} {t u : Tok} (ht : IsTup h a items) (hi : items.toList = [Value.int p.1 t, Value.int p.2 u]) : tupKeyC h shI (.ref a) = some [Sum.inl p.1, Sum.inl p.2] := by
  obtain ⟨o, ho, hc, n0, hd⟩ := ht
  have e1 : isTupObj h (.ref a) = true := by simp [isTupObj, hc, ho]
  unfold tupKeyC
  rw [if_pos e1]
  unfold tupKey
  dsimp only
  rw [ho]
  dsimp only
  rw [hd]
  dsimp only
  rw [hi]
  rfl
theorem le_of_keys {p q : Int × Int} (h : PyProof.Rows.lexLt itemOrd [Sum.inl q.1, Sum.inl q.2] [Sum.inl p.1, Sum.inl p.2] = false) : leI p q := by
  obtain ⟨h1, h2⟩ := lex_false.mp h
  have h1' : ¬ q.1 < p.1 := of_decide_eq_false (show decide (q.1 < p.1) = false from h1)
  rcases h2 with h2 | h2
  · have : p.1 < q.1 := of_decide_eq_true (show decide (p.1 < q.1) = true from h2)
    exact .inl this
  · obtain ⟨h3, _⟩ := lex_false.mp h2
    have h3' : ¬ q.2 < p.2 := of_decide_eq_false (show decide (q.2 < p.2) = false from h3)
    unfold leI
    omega
theorem cr_sortedT {X : Cx} : CallR X (.builtin "sorted") (rSortedT X.K) := by
  intro pins s σ H vs us Q I r h
  obtain ⟨a, zs, rfl, hs, hz, q⟩ := h
  obtain ⟨its, rv, hl, hlen⟩ := I.list hs
  rw [Vals.ref1 r]
  have hits := vals_refs rv
  subst hits
  have tup : ∀ z ∈ zs, ∃ items t u, IsTup s.heap z.1 items ∧ items.toList = [Value.int z.2.1 t, Value.int z.2.2 u] := fun z hm => by
    obtain ⟨its, r2, t2, _⟩ := I.tuple (hz z hm)
    obtain ⟨t, u, e⟩ := pair_items r2
    exact ⟨its.toArray, t, u, t2, by simpa using e⟩
  have keys : ∀ z ∈ zs, tupKeyC s.heap shI (.ref z.1) = some [Sum.inl z.2.1, Sum.inl z.2.2] := fun z hm => by
    obtain ⟨items, t, u, h1, h2⟩ := tup z hm
    exact tupKey_pair h1 h2
  have ht : ∀ l : List (Addr × Int × Int), (∀ z ∈ l, z ∈ zs) → ∃ fs, TupsOf s.heap shI (l.map fun z => Value.ref z.1) fs := by
    intro l
    induction l with
    | nil => intro _; exact ⟨[], .nil⟩
    | cons z l ih =>
      intro hm
      obtain ⟨fs, h1⟩ := ih fun y hy => hm y (List.mem_cons_of_mem _ hy)
      obtain ⟨items, t, u, ⟨o, ho, hc, n, hd⟩, h2⟩ := tup z (hm z List.mem_cons_self)
      refine ⟨Value.int z.2.1 t :: fs, .cons ⟨z.1, o, items, n, rfl, ho, hc, hd, ?_, fun _ => ⟨_, _, rfl⟩, fun e => by cases e⟩ h1⟩
      rw [← Array.getElem?_toList, h2]
      rfl
  obtain ⟨fs, htu⟩ := ht zs fun z hz => hz
  have hlen2 : (zs.map fun z => Value.ref z.1).length ≤ sizeLine := by
    rw [List.length_map] at hlen ⊢
    exact hlen
  refine sorted_tups hl.isList htu (fun v hv => ?_) hlen2 fun st' hp hsrt _ => ?_
  · obtain ⟨z, hm, rfl⟩ := List.mem_map.mp hv
    exact ⟨_, keys z hm⟩
  · have hp' : (arrOf st').toList.Perm (zs.map fun z => (Value.ref z.1, Value.ref z.1)) := by
      have := hp.toList
      rw [pairsOf_toList] at this
      have e : (zs.map fun z => Value.ref z.1).zip (zs.map fun z => Value.ref z.1) = zs.map fun z => (Value.ref z.1, Value.ref z.1) := by
        rw [List.zip_map']
      rw [e] at this
      exact this
    obtain ⟨zs', p1, p2⟩ := perm_map_inv hp' zs rfl
    have hlz : zs'.length = zs.length := p1.length_eq
    have hasz : (arrOf st').size = zs'.length := by rw [← Array.length_toList, p2, List.length_map]
    have hKK : ∀ i z, zs'[i]? = some z → KK (tupKindC s.heap shI) (arrOf st') i = [Sum.inl z.2.1, Sum.inl z.2.2] := by
      intro i z hi
      have e : (arrOf st')[i]? = some (Value.ref z.1, Value.ref z.1) := by
        rw [← Array.getElem?_toList, p2, List.getElem?_map, hi]
        rfl
      unfold KK
      rw [e]
      dsimp only
      show (tupKeyC s.heap shI (Value.ref z.1)).getD [] = _
      rw [keys z (p1.mem_iff.mp (List.mem_of_getElem? hi))]
      rfl
    have pw : zs'.Pairwise fun x y => leI x.2 y.2 := by
      refine List.pairwise_iff_getElem.mpr fun i j hi hj hij => ?_
      have h1 := hsrt i j (Nat.le_of_lt hij) (by rw [pairsOf_size, List.length_map]; omega)
      rw [hKK i zs'[i] (List.getElem?_eq_getElem hi), hKK j zs'[j] (List.getElem?_eq_getElem hj)] at h1
      exact le_of_keys h1
    obtain ⟨ep, he'⟩ := PyProof.Rows.sortedAll_at s.heap (zs.map fun z => Value.ref z.1) ((arrOf st').map (·.2))
    refine ⟨.ref _, upd H (s.heap.objs.size + 1) (.lst (zs'.map fun z => V.ref z.1)), I.laid (t' := s.toks) (fun _ _ => PyProof.Rows.sortedAll_old) (Nat.le_succ _) ⟨?_, ((arrOf st').map (·.2)).toList, ep, ?_, ?_⟩, rfl, q zs' _ p1 pw (I.hok.fresh (Nat.le_succ _))⟩
    · rw [List.length_map] at hlen ⊢
      omega
    · rw [Array.toList_map, p2, List.map_map]
      show Vals (zs'.map fun z => V.ref z.1) (zs'.map fun z => Value.ref z.1)
      have va : ∀ l : List (Addr × Int × Int), Vals (l.map fun z => V.ref z.1) (l.map fun z => Value.ref z.1) := by
        intro l
        induction l with
        | nil => exact .nil
        | cons z l ih => exact .cons rfl ih
      exact va zs'
    · rw [he']
end Ts

end
section
/-! Rules of my own, 4: enumerate(xs, start=n). -/
set_option Elab.async false
set_option maxRecDepth 100000
set_option maxHeartbeats 2000000
namespace Ts
open PySem PySem.Spec PyProof.Rows L2
open PySem.AutoSeq1 (wpAny_loadPart')
section
variable {prog : Program} {w : World} {A : Around} {E : Value → Shared → Prop} {s : Shared}
theorem typeCall_enumS (a b : Value) : checkTypeCall "enumerate" ⟨[a], [("start", b)]⟩ = pure () := by kernel_rfl
theorem newCall_enumS (a b : Value) : checkBuiltinCall "enumerate.__new__" ⟨[.type "enumerate", a], [("start", b)]⟩ = pure () := by kernel_rfl
theorem args_initS (o a b : Value) : argsOk "object.__init__" ⟨[o, a], [("start", b)]⟩ := by unfold argsOk; kernel_rfl
/-- a call of a built-in type with keywords: __new__, then object.__init__ -/
theorem callTypeKw {T made : String} {Bn : Builtin} {args : List Value} {kw : List (Str × Value)} {S : PySem.Spec} {Q : Value → Shared → Prop} (ft : TypeCalled T made "object.__init__") (other : (some made != some "object.__new__") = true)
    (ok1 : checkTypeCall T ⟨args, kw⟩ = pure ()) (ok2 : checkBuiltinCall made ⟨.type T :: args, kw⟩ = pure ()) (ok3 : ∀ obj, argsOk "object.__init__" ⟨obj :: args, kw⟩) (ent : entryFor table made = some Bn) (meets : Meets (Bn ⟨.type T :: args, kw⟩) S)
    (init : ∀ obj, Meets (Builtin.«object.__init__» ⟨obj :: args, kw⟩) fun _ R u => u.TypeIs obj T ∧ R (.ok (.ret .none)) u)
    (h : S A.in1 (wants (fun obj u => u.TypeIs obj T ∧ Q obj u) E) s) : wpAny (model prog w) A (call (.type T) args kw) Q E s := by
  obtain ⟨c, tl, mro1⟩ := ft.mro
  have made1 := ft.made; have sub1 := ft.sub; have no1 := ft.notType; have can1 := ft.canCreate
  refine wpAny_call (codeAny_of_tree ?_); show wpAny _ _ (callAny (.type T) _) _ _ _
  refine wpAny_pure ⟨Code.quiet_builtin _ (by decide +kernel), codeAny_builtin F.entry_type_call ?_⟩; rw [Around.under_plain (weight_type_call_type T args kw) (units_type_call_type T args kw)]
  repeat (any_goals (first | assumption | wp_step))
  refine codeAny_mono (codeAny_call_builtin ft.plain ent (wpAny_of_eq ok2 (meets prog w A.in1 _ s h))) fun r u hr => ?_
  match r, hr with
  | .error e, hr => exact hr
  | .ok .next, hr => exact hr.elim
  | .ok .brk, hr => exact hr.elim
  | .ok .cont, hr => exact hr.elim
  | .ok (.ret obj), hr =>
    obtain ⟨isT, hq⟩ := hr
    have look1 := ft.init.lookup; have bind1 := ft.init.bind obj
    repeat (any_goals (first | assumption | wp_step))
    refine codeAny_mono (codeAny_call_builtin ft.init.plain F.entry_object_init (ft.init.check _ _ _ _ _ _ _ _ isT (ok3 obj) (init obj prog w A.in1 (wants (fun z u2 => z = .none ∧ Q obj u2) E) u ⟨isT, rfl, hq⟩))) fun r2 u2 hr2 => ?_
    match r2, hr2 with
    | .error e, hr2 => exact hr2
    | .ok .next, hr2 => exact hr2.elim
    | .ok .brk, hr2 => exact hr2.elim
    | .ok .cont, hr2 => exact hr2.elim
    | .ok (.ret z), hr2 =>
      obtain ⟨rfl, hq2⟩ := hr2
      repeat (any_goals (first | assumption | wp_step))
theorem init_kw {T made : String} {obj a : Value} {kw : List (Str × Value)} (look1 : typeLookup (.type T) "__init__" = pure (some (.builtin "object.__init__"))) (made1 : Bind.madeBy (.type T) = pure (some made)) (other : (some made != some "object.__new__") = true) :
    Meets (Builtin.«object.__init__» ⟨[obj, a], kw⟩) fun _ R u => u.TypeIs obj T ∧ R (.ok (.ret .none)) u :=
  .of_wp fun prog w A R u ⟨isT, hq⟩ => by
    repeat (any_goals (first | assumption | wp_step))
    exact ⟨_, rfl, hq⟩
theorem meets_enumS (l : Addr) (items : Array Value) (ep : Nat) (dct : Option Addr) (sl : Array (Option Value)) (k : Int) (t : Tok) (lo : 0 ≤ k) (hi : k < 2 ^ 62) :
    Meets (Builtin.«enumerate.__new__» ⟨[.type "enumerate", .ref l], [("start", .int k t)]⟩) (fun _ R u => u.heap.get? l = some { cls := .type "list", dict := dct, data := .seq items ep, slots := sl } ∧
      R (.ok (.ret (.ref (u.heap.push { cls := .type "list_iterator", data := .fields #[.ref l, .int 0 0] }).objs.size)))
        { u with heap := (u.heap.push { cls := .type "list_iterator", data := .fields #[.ref l, .int 0 0] }).push { cls := .type "enumerate", data := .fields #[.none, .bool false, .ref u.heap.objs.size, rawInt k, .none, .none] } }) :=
  .of_wp fun prog w A R ⟨h0, g0, d0, t0, o0⟩ ⟨there, fin⟩ => by
    have sub1 := sub_enumerate
    have fits : (!Builtin.SmallTypes.fitsIndex k) = false := by
      unfold Builtin.SmallTypes.fitsIndex
      rw [decide_eq_true (by omega), decide_eq_true (by omega)]
      rfl
    have isL : Heap.IsList (Shared.heap ⟨h0, g0, d0, t0, o0⟩) l items := ⟨_, there, rfl, ep, rfl⟩
    wp_walk using wpAny_loadPart' there
    refine wpAny_stack_any (fun st => wpAny_pure ?_)
    split
    · rename_i c _ _ _ _ _
      cases (c == Value.type "enumerate") <;> (wp_walk using wpAny_loadPart' there, wpAny_pyIter_list isL; exact ⟨_, rfl, fin⟩)
    · wp_walk using wpAny_loadPart' there, wpAny_pyIter_list isL; exact ⟨_, rfl, fin⟩
theorem call_enumS {l : Addr} {items : Array Value} {k : Int} {t : Tok} {Q : Value → Shared → Prop} (isL : s.heap.IsList l items) (lo : 0 ≤ k) (hi : k < 2 ^ 62)
    (fin : ∀ h1, IsEnum h1 (s.heap.objs.size + 1) s.heap.objs.size k .none → h1.IsListIter s.heap.objs.size l 0 → (∀ b o, s.heap.get? b = some o → h1.get? b = some o) → Q (.ref (s.heap.objs.size + 1)) { s with heap := h1 }) :
    wpAny (model prog w) A (call (.type "enumerate") [.ref l] [("start", .int k t)]) Q E s := by
  obtain ⟨⟨c, dct, dt, sl⟩, there, hc, ep, hd⟩ := isL
  obtain rfl : c = .type "list" := hc
  obtain rfl : dt = .seq items ep := hd
  refine callTypeKw F.called_enumerate (by decide) (typeCall_enumS _ _) (newCall_enumS _ _) (fun o => args_initS o _ _) F.entry_enumerate_new (meets_enumS l items ep dct sl k t lo hi) (fun o => init_kw F.called_enumerate.init.lookup F.called_enumerate.made (by decide)) ⟨there, ?_⟩
  have sz : (s.heap.push { cls := .type "list_iterator", data := .fields #[.ref l, .int 0 0] }).objs.size = s.heap.objs.size + 1 := Heap.size_push ..
  have at1 := Heap.get?_push_size (s.heap.push { cls := .type "list_iterator", data := .fields #[.ref l, .int 0 0] }) (o := { cls := .type "enumerate", data := .fields #[.none, .bool false, .ref s.heap.objs.size, rawInt k, .none, .none] }) rfl
  show _ ∧ _
  rw [sz] at at1 ⊢
  exact ⟨⟨_, at1, rfl⟩, fin _ at1 ⟨_, Heap.get?_push_of_some _ (Heap.get?_push_size _ rfl), rfl, rfl⟩ fun b o e => Heap.get?_push_of_some _ (Heap.get?_push_of_some _ e)⟩
end
/-- a drawing from an iterator, its turns counted from lo -/
theorem draws_shift {prog : Program} {w : World} {A : Around} {it : Addr} {fp : List Addr} {n : Nat} {P : Nat → Value → Prop} {St : Nat → Heap → Prop} (D : Draws prog w A it fp n P St) (lo : Nat) :
    Draws prog w A it fp (lo + n) (fun i v => P (i - lo) v) (fun i h => lo ≤ i ∧ St (i - lo) h) where
  live := fun i h q => D.live _ h q.2
  frame := fun i h h1 q k => ⟨q.1, D.frame _ h h1 q.2 k⟩
  item := fun i u Q E lt q fin => D.item (i - lo) u Q E (by omega) q.2 fun x h1 tk hp st sb => fin x h1 tk hp ⟨by omega, by rw [show i + 1 - lo = i - lo + 1 by omega]; exact st⟩ sb
  done := fun u Q E q fin => D.done u Q E (by have := q.2; rw [Nat.add_sub_cancel_left] at this; exact this) fin
/-- the list at a as it stands at each turn, each item in a new pair, counted from lo -/
def ItS (K : PySem.W.Frag) (a : Addr) (lo : Nat) : It where
  go := fun i H => ∃ (xs : List V) (x : V), SqL K H a xs ∧ xs[i]? = some x
  yld := fun i H v H1 => ∃ T x, v = .ref T ∧ H T = none ∧ H1 = upd H T (.tup [.int ((lo + i : Nat) : Int), x]) ∧ ∀ xs, SqL K H a xs → xs[i]? = some x
  stop := fun i H => ∃ xs : List V, SqL K H a xs ∧ xs.length ≤ i
theorem two_mem {b e it : Addr} (h : b ∈ [e, it]) : b = e ∨ b = it := by simpa using h
theorem turn_enumS {P : Program} {w : World} {K : PySem.W.Frag} {elts : List Expr} {kk : Nat} {tpos : Pos} (a e it : Addr) (lo : Nat) :
    Turn P w K (.Tuple elts kk tpos) (ItS K a lo) [e, it] e (fun i h => (∃ old, IsEnum h e it ((lo + i : Nat) : Int) old) ∧ h.IsListIter it a i ∧ e ≠ it ∧ a ≠ it ∧ e ≠ a) where
  mem := List.mem_cons_self
  obj := fun i h ⟨⟨old, he⟩, ⟨o, ho, hc, hd⟩, _⟩ b hb => by
    rcases two_mem hb with rfl | rfl
    · exact ⟨_, he, fun v q => nomatch q⟩
    · exact ⟨o, ho, fun v q => by rw [hd] at q; cases q⟩
  keep := fun i h h1 ⟨⟨old, he⟩, li, ne⟩ k => ⟨⟨old, k e List.mem_cons_self _ he⟩, li.at fun o q => k it (List.mem_cons_of_mem _ List.mem_cons_self) o q, ne⟩
  item := by
    rintro X rfl rfl rfl calm i pins u σ H E I fp ⟨⟨old, he⟩, li, ne, nai, nea⟩ ⟨xs, x, sq, hx⟩
    obtain ⟨its, rv, pl, _⟩ := I.list sq
    obtain ⟨v, hv, rel⟩ := rv.get hx
    have D := draws_shift (Draws.list (prog := X.prog) (w := X.w) (A := X.A.in1) (I.ok.hd calm) it a nai its.toArray) lo
    have lt : i < its.length := (List.getElem?_eq_some_iff.mp hv).1
    have eold : e < u.heap.objs.size := Heap.lt_size he
    have iold : it < u.heap.objs.size := let ⟨_, q, _⟩ := li; Heap.lt_size q
    refine wpAny_pyNext_enum_itemD D he ⟨Nat.le_add_right _ _, by rw [Nat.add_sub_cancel_left]; exact ⟨li, pl.isList⟩⟩ (by simp only [List.size_toArray]; omega) ne (by intro q; rcases two_mem q with q | q; exact ne q; exact nea q) fun y h1 tk hy out st1 tup _ kp => ?_
    have ey : y = v := by
      have q : its.toArray[lo + i - lo]? = some y := hy
      rw [Nat.add_sub_cancel_left] at q
      exact Option.some.inj (q.symm.trans (by simpa using hv))
    subst ey
    have li1 : h1.IsListIter it a (i + 1) := by
      have q := st1.2.1
      rw [show lo + i + 1 - lo = i + 1 by omega] at q
      exact q
    refine ⟨_, rfl, wpAny_letOwnedTupleGo_enum (s := { u with heap := h1, toks := tk + 1 }) out fun h2 he2 sb => ?_⟩
    have tup2 := (sb.2 _ (Nat.ne_of_gt eold)).trans tup
    have laid : ObjOk X.prog X.w (upd H u.heap.objs.size (.tup [.int ((lo + i : Nat) : Int), x])) h2 u.heap.objs.size (.tup [.int ((lo + i : Nat) : Int), x]) :=
      ⟨by show 2 ≤ sizeLine; decide, [.int ((lo + i : Nat) : Int) tk, y], .cons ⟨_, rfl⟩ (.cons rel .nil), ⟨_, tup2, rfl, _, rfl⟩⟩
    have I1 := I.turnedNew (t' := tk + 1) (ch := [e, it]) (h' := h2) (fun b o nb q => (sb.2 b fun z => nb (z ▸ List.mem_cons_self)).trans (kp b o (fun z => nb (z ▸ List.mem_cons_self)) (fun z => nb (z ▸ List.mem_cons_of_mem _ List.mem_cons_self)) q)) fp (Nat.le_refl _) laid
    refine ⟨.ref u.heap.objs.size, _, I1, rfl, ⟨_, x, rfl, I.hok.fresh (Nat.le_refl _), rfl, fun ys sq2 => by rw [I.list_inj sq2 sq]; exact hx⟩, ⟨⟨y, ?_⟩, li1.at fun o q => (sb.2 it (Ne.symm ne)).trans q, ne, nai, nea⟩, fun b hb => ?_⟩
    · rw [show ((lo + (i + 1) : Nat) : Int) = ((lo + i : Nat) : Int) + 1 by omega]
      exact he2
    · have old1 : b < u.heap.objs.size := by
        rcases two_mem hb with rfl | rfl
        · exact eold
        · exact iold
      rw [upd_ne (Nat.ne_of_lt old1)]
      exact (fp b hb).1
  done := by
    rintro X rfl rfl rfl calm i pins u σ H E I fp ⟨⟨old, he⟩, li, ne, nai, nea⟩ ⟨xs, sq, hx⟩
    obtain ⟨its, rv, pl, _⟩ := I.list sq
    obtain ⟨f0, f1, f2, f3, f4, f5⟩ := fp it (List.mem_cons_of_mem _ List.mem_cons_self)
    have len := rv.length
    have D := (Draws.list (prog := X.prog) (w := X.w) (A := X.A.in1) (I.ok.hd calm) it a nai its.toArray)
    by_cases c : i = its.length
    · exact wpAny_pyNext_enum_endD D he (by simp only [List.size_toArray]; rw [← c]; exact ⟨li, pl.isList⟩) fun h1 eb => ⟨rfl, I.turned (t' := u.toks) (fun b o nb q => eb b o nb q) f0 f1 f3 f4 f5⟩
    · exact wpAny_pyNext_enum_endD (n := i) (fp := [it, a]) (P := fun _ _ => False) (St := fun j h => i ≤ j ∧ h.IsListIter it a j ∧ h.IsList a its.toArray)
        ⟨fun j h q => let ⟨_, ⟨o, e1, _⟩, _⟩ := q; ⟨o, e1⟩, fun j h h1 q k => ⟨q.1, q.2.1.at fun o z => k it List.mem_cons_self o z, q.2.2.at fun o z => k a (List.mem_cons_of_mem _ List.mem_cons_self) o z⟩,
          fun j u2 Q E lt q _ => absurd q.1 (by omega), fun u2 Q E q fin => wpAny_nextOf_list_end (I.ok.hd calm) q.2.1 q.2.2 (by simp; omega) fin⟩
        he ⟨Nat.le_refl _, li, pl.isList⟩ fun h1 eb => ⟨rfl, I.turned (t' := u.toks) (fun b o nb q => eb b o nb q) f0 f1 f3 f4 f5⟩
  self := fun A i u Q E ⟨⟨_, he⟩, _⟩ fin => wpAny_pyIter_enum he fin
def iEnumS (K : PySem.W.Frag) (ta : TA) (tb : TE) : TI := fun σ H R => ta σ H fun vs H1 => tb σ H1 fun y H2 => ∃ (a : Addr) (xs : List V) (lo : Nat), vs = [.ref a] ∧ y = .int (lo : Int) ∧ lo < 2 ^ 62 ∧ SqL K H2 a xs ∧ R (ItS K a lo) H2
section
variable {M : Model} {A : Around} {E : Value → Shared → Prop} {u : Shared} {env : Env}
theorem callWith_typeKw {pos : Pos} {T : String} {e : Expr} {rest : List Expr} {kws : List Keyword} {Q : Value → Shared → Prop} (one : backTo pos (starEach (e :: rest) env) = (false, eval e env) :: backTo pos (starEach rest env)) (p1 : (backTo pos (starEach (e :: rest) env)).any (·.1) = false)
    (p2 : (backToKw pos (keywordEach kws env)).all (·.1.isSome) = true) (p3 : (backToKw pos (keywordEach kws env)).any (·.1.isNone) = false)
    (h : wpAny M A (spliced (backTo pos (starEach (e :: rest) env))) (fun vs u1 => wpAny M A (evalAll ((backToKw pos (keywordEach kws env)).map (·.2))) (fun ks u2 => wpAny M A (call (.type T) vs (((backToKw pos (keywordEach kws env)).filterMap (·.1)).zip ks)) Q E u2) E u1) E u) :
    wpAny M A (callWith pos (.type T) [] (backTo pos (starEach (e :: rest) env)) (backToKw pos (keywordEach kws env))) Q E u := by
  have args : wpAny M A (evalArgs (.type T) true (backTo pos (starEach (e :: rest) env)) (backToKw pos (keywordEach kws env))) (fun z u1 => wpAny M A (call (.type T) ([] ++ z.pos) z.kw) Q E u1) E u := by
    rw [one] at h ⊢
    exact evalArgs_kwB p2 h
  unfold callWith
  refine wpAny_bind (wpAny_holding (wpAny_mono args (fun z u1 hz => wpAny_bind (wpAny_standAt ?_)) fun _ _ q => q)); simp only [p1, p3, Bool.or_false]
  exact wpAny_bind (wpAny_pure (wpAny_bind (wpAny_mono hz (fun r u2 hr => wpAny_bind (wpAny_holding (wpAny_point (wpAny_pure hr)))) fun _ _ q => q)))
end
theorem pi_enumS {X : Cx} {e e2 : Expr} {ta : TA} {tb : TE} {p pos tpos kpos : Pos} {elts : List Expr} {kk : Nat} (hg : Gl X "enumerate") (hm : X.mg "enumerate" = none) (ha : PA X [e] ta) (hb : PE X e2 tb)
    (hs : starEach [e] X.env = [(false, eval e X.env)] := by rfl) :
    PI X (.Tuple elts kk tpos) (.Call (.Name "enumerate" p) [e] [⟨some "start", e2, kpos⟩] pos) (iEnumS X.K ta tb) := by
  intro pins u σ H R I h
  refine wpAny_Call_Name_kw (ld_blt I hg hm boot_enumerate ?_)
  refine callWith_typeKw (by rw [hs]; rfl) (by rw [hs]; rfl) rfl rfl (thn (ha pos pins u σ H _ I h) fun us u1 ⟨vs, H1, I1, r1, q1⟩ => ?_)
  refine kws_cons (thn (hb pins u1 σ H1 _ I1 q1) fun v u2 ⟨y, H2, I2, r2, q2⟩ => kws_nil ?_)
  obtain ⟨a, xs, lo, rfl, rfl, hi, sq, q⟩ := q2
  obtain ⟨tk, rfl⟩ := r2
  rw [Vals.ref1 r1]
  obtain ⟨its, rv, pl, _⟩ := I2.list sq
  have aold : a < u2.heap.objs.size := pl.lt
  refine call_enumS pl.isList (by omega) (by omega) fun h1 he li kp => wpAny_pyIter_enum he ?_
  refine ⟨u2.heap.objs.size + 1, [u2.heap.objs.size + 1, u2.heap.objs.size], _, _, H2, rfl, I2.kept (t' := u2.toks) kp, turn_enumS a (u2.heap.objs.size + 1) u2.heap.objs.size lo, ⟨⟨.none, he⟩, li, Nat.succ_ne_self _, Nat.ne_of_lt aold, Nat.ne_of_gt (Nat.lt_succ_of_lt aold)⟩, fun b hb => ?_, q⟩
  have young : u2.heap.objs.size ≤ b := by
    rcases two_mem hb with rfl | rfl
    · exact Nat.le_succ _
    · exact Nat.le_refl _
  exact I2.fpOk young (I2.hok.fresh young)
def nV0 (n : Nat) : V := .int (n : Int)
/-- for i, x in enumerate(xs, start=lo) -/
theorem for_enumS {K : PySem.W.Frag} {a : Addr} {lo : Nat} {xs : List V} {g : TG} {tb : TS} {D : Ends} {σ : L2.St} {H : Hp} (Pv : Nat → L2.St → Hp → Prop) (h0 : Pv 0 σ H) (hl : ∀ i σ H, i ≤ xs.length → Pv i σ H → SqL K H a xs)
    (hs : ∀ i x σ H T, xs[i]? = some x → Pv i σ H → H T = none → g (.ref T) σ (upd H T (.tup [nV0 (lo + i), x])) fun σ2 H2 => tb { D with nx := Pv (i + 1), ct := Pv (i + 1), bk := D.nx } σ2 H2) (hd : ∀ σ H, Pv xs.length σ H → D.nx σ H) :
    ∃ W : Nat → Nat → L2.St → Hp → Prop, (∃ m, W 0 m σ H) ∧ ∀ i m σ H, W i m σ H →
      ((ItS K a lo).stop i H ∧ D.nx σ H) ∨ ((ItS K a lo).go i H ∧ ∃ N : L2.St → Hp → Prop, (∀ σ' H', N σ' H' → ∃ m', m' < m ∧ W (i + 1) m' σ' H') ∧ ∀ x H', (ItS K a lo).yld i H x H' → g x σ H' fun σ2 H2 => tb { D with nx := N, ct := N, bk := D.nx } σ2 H2) := by
  refine ⟨fun i m σ H => m = xs.length - i ∧ i ≤ xs.length ∧ Pv i σ H, ⟨xs.length, by simp, Nat.zero_le _, h0⟩, ?_⟩
  rintro i m σ H ⟨rfl, hi, p⟩
  have q := hl i σ H hi p
  by_cases hlt : i < xs.length
  · refine .inr ⟨⟨xs, xs[i], q, by simp [hlt]⟩, Pv (i + 1), fun σ' H' p' => ⟨xs.length - (i + 1), by omega, rfl, hlt, p'⟩, fun x H' y => ?_⟩
    obtain ⟨T, x0, e1, e2, e3, y⟩ := y
    subst e1 e3
    exact hs i x0 σ _ T (y xs q) p e2
  · have e : i = xs.length := by omega
    subst e
    exact .inl ⟨⟨xs, q, Nat.le_refl _⟩, hd σ H p⟩
end Ts

end
section
/-! The program's heap, part 0: helpers over the layer. -/
set_option Elab.async false
set_option maxRecDepth 100000
set_option maxHeartbeats 2000000
namespace Ts
open PySem PySem.Spec PyProof.Rows L2
/-- a whole number as a value -/
def nV (n : Nat) : V := .int (n : Int)
def nvs (l : List Nat) : List V := l.map nV
theorem nvs_get {l : List Nat} {i n : Nat} (h : l[i]? = some n) : (nvs l)[i]? = some (nV n) := by
  unfold nvs
  rw [List.getElem?_map, h]
  rfl
theorem map_get {α β : Type} {f : α → β} {l : List α} {i : Nat} {x : β} (h : (l.map f)[i]? = some x) : ∃ n, l[i]? = some n ∧ x = f n := by
  rw [List.getElem?_map] at h
  cases e : l[i]? with
  | none => rw [e] at h; cases h
  | some n =>
    rw [e] at h
    exact ⟨n, rfl, (Option.some.inj h).symm⟩
theorem nvs_len (l : List Nat) : (nvs l).length = l.length := List.length_map _
theorem nvs_ints (l : List Nat) : nvs l = (l.map (fun n : Nat => (n : Int))).map V.int := by
  unfold nvs
  rw [List.map_map]
  rfl
theorem nvs_snoc (l : List Nat) (n : Nat) : nvs (l ++ [n]) = nvs l ++ [nV n] := by
  unfold nvs
  rw [List.map_append]
  rfl
theorem take_snoc {α : Type} {l : List α} {i : Nat} {x : α} (h : l[i]? = some x) : l.take (i + 1) = l.take i ++ [x] := by
  rw [List.take_add_one, h]
  rfl
theorem _root_.L2.Same.new {H : Hp} {p : Addr} {o : HO} (h : H p = none) : Same H (upd H p o) := fun b u e => by
  rw [upd_ne (ne_of_none e h)]
  exact e
theorem _root_.L2.Same.put {H H' : Hp} {p : Addr} {o : HO} (s : Same H H') (h : H p = none) : Same H (upd H' p o) := fun b u e => by
  rw [upd_ne (ne_of_none e h)]
  exact s b u e
theorem _root_.L2.Same.tup {K : PySem.W.Frag} {H H' : Hp} {a : Addr} {xs : List V} (e : Same H H') (h : SqT K H a xs) : SqT K H' a xs := by
  rcases h with (h | ⟨o, h⟩) | h
  · exact .inl (.inl (e _ _ h))
  · exact .inl (.inr ⟨o, e _ _ h⟩)
  · exact .inr h
theorem yesI {σ : L2.St} {H : Hp} {A B : Hp → Prop} (h : A H) : tYes σ H (fun b H3 => if b = true then A H3 else B H3) := by
  show (if true = true then A H else B H)
  rw [if_pos rfl]
  exact h
theorem line_lt {n : Nat} (h : n ≤ 100000) : n < sizeLine := Nat.lt_of_le_of_lt h (by decide)
theorem line_le {n : Nat} (h : n ≤ 100000) : n ≤ sizeLine := Nat.le_of_lt (line_lt h)
/-- a def of the text, as its callers want it -/
def DefOk (P : Program) (w : World) (K : PySem.W.Frag) (mg : Str → Option Value) (base : Heap) (x : Str) (ps : List Str) (k : Nat) (sp : Sp) : Prop :=
  ∃ (f : Addr) (fd : FuncData), mg x = some (.ref f) ∧ PySem.W.keepIn K (.ref f) = true ∧ Binds K fd ps [] ∧ FnOk P w K mg base CX0 k f fd ps sp
/-- a method of the class at C -/
def MethOk (P : Program) (w : World) (K : PySem.W.Frag) (mg : Str → Option Value) (base : Heap) (C : Addr) (m : Str) (ps : List Str) (k : Nat) (sp : Sp) : Prop :=
  ∃ (f : Addr) (fd : FuncData), Meth K C m f ∧ Binds K fd ps [] ∧ FnOk P w K mg base CX0 k f fd ps sp
/-- the built-ins' names are not the program's -/
structure Bl (mg : Str → Option Value) : Prop where
  sum : mg "sum" = none
  len : mg "len" = none
  range : mg "range" = none
  min : mg "min" = none
  reversed : mg "reversed" = none
  list : mg "list" = none
  enumerate : mg "enumerate" = none
  sorted : mg "sorted" = none
  zip : mg "zip" = none
end Ts

end
section
/-! The program's heap, part 1: changes. -/
set_option Elab.async false
set_option maxRecDepth 100000
set_option maxHeartbeats 2000000
namespace Ts
open PySem PySem.Spec PyProof.Rows L2
def top (i : Nat) : Stmt := PySem.Challenge.pw_trainseatsdesk_s01_answers.main.body.getD i (.Pass ⟨0, 0, 0, 0⟩)
abbrev sStep : Stmt := top 22
abbrev sCount : Stmt := top 23
def oV : Option Nat → V
  | none => .non
  | some n => nV n
/-! ### step_changes -/
def spStep : Sp := fun vs H Q _ => ∃ (last : Option Nat) (s : Nat), vs = [oV last, nV s] ∧ Q (nV (stepC last s)) H
section
variable {P : Program} {w : World} {K : PySem.W.Frag} {mg : Str → Option Value} {base : Heap}
theorem scStep : FnScope ["seat_before", "seat"] ["seat_before", "seat"] (defScope sStep) := ⟨rfl, rfl, rfl, by decide +kernel, rfl, by decide +kernel, by decide +kernel⟩
theorem ok_step {f : Addr} {fd : FuncData} (F : Fun K "step_changes" "step_changes" sStep f fd) : FnOk P w K mg base CX0 1 f fd ["seat_before", "seat"] spStep := by
  refine F.ok scStep (fun vs H Q E h => ?_) (fun cdv A outer s H vs Q E hr h => ?_)
  · obtain ⟨last, s, rfl, _⟩ := h
    rfl
  · obtain ⟨last, n, rfl, k⟩ := h
    refine ⟨_, pss_cons (ps_if (pw_or (pt_cmp (pc_isN (pv 0))) (pw_or1 (pt_cmpR op_eq (pv 0) (pv 1) (nomark _)))).pt (pss_one (ps_ret pe_int)) pss_nil) (pss_one (ps_ret pe_int)), ?_⟩
    cases last with
    | none =>
      refine ⟨_, rfl, _, rfl, ?_⟩
      exact iteT (iteT k)
    | some m =>
      refine ⟨_, rfl, _, rfl, ?_⟩
      refine iteF ⟨_, rfl, _, rfl, rfl, _, rfl, ?_⟩
      have e : decide (nV m = nV n) = decide (m = n) := by
        unfold nV
        rw [decide_eq_decide]
        constructor
        · intro q
          injection q with q
          omega
        · intro q
          rw [q]
      rw [show oV (some m) = nV m from rfl, e]
      unfold stepC at k
      by_cases c : m = n
      · rw [if_pos (.inr (by rw [c]))] at k
        rw [decide_eq_true c]
        exact iteT k
      · rw [if_neg (by rintro (q | q); cases q; exact c (Option.some.inj q))] at k
        rw [decide_eq_false c]
        exact iteF k
/-! ### count_changes -/
def spCount (K : PySem.W.Frag) : Sp := fun vs H Q _ => ∃ (a : Addr) (row : List Nat), vs = [.ref a] ∧ SqL K H a (nvs row) ∧ row.length ≤ 1000 ∧ ∀ H' : Hp, Same H H' → Q (nV (Ks325.changes row)) H'
theorem scCount : FnScope ["row", "k"] ["row"] (defScope sCount) := ⟨rfl, rfl, rfl, by decide +kernel, rfl, by decide +kernel, by decide +kernel⟩
theorem ok_count {f : Addr} {fd : FuncData} (F : Fun K "count_changes" "count_changes" sCount f fd) (B : Bl mg) (D1 : DefOk P w K mg base "step_changes" ["seat_before", "seat"] 1 spStep) :
    FnOk P w K mg base CX0 2 f fd ["row"] (spCount K) := by
  obtain ⟨f1, fd1, m1, k1, b1, G1⟩ := D1
  refine F.ok scCount (fun vs H Q E h => ?_) (fun cdv A outer s H vs Q E hr h => ?_)
  · obtain ⟨a, row, rfl, _⟩ := h
    rfl
  · obtain ⟨a, row, rfl, hS, hl, k⟩ := h
    refine ⟨_, pss_one (ps_ret (pe_callB (cr_sum rfl) rfl B.sum PyProof.Rows.boot_sum (pa_cons
      (pe_lc rfl scCount.nd (pi_range2 rfl B.range (pa_cons pe_int (pa_cons (pe_callB call_len rfl B.len PySem.boot_len (pa_cons (pv 0) pa_nil)) pa_nil)))
        (own := [("k", 1)]) (blkOk_by (by show blkC ["row", "k"] (defScope sCount) _ _ = true; decide +kernel))
        (fun _ _ _ _ _ => pg_name (i := 1) scCount.nd rfl (Or.inl rfl))
        (fun _ _ _ _ _ => pts_nil)
        (fun _ _ _ _ _ => pe_call G1 hr rfl m1 k1 b1 .nil pass0 (pa_cons (pe_ix (r := rIxL K) ix_list (pv 0) (pe_op op_sub (pv 1) pe_int) (fun _ _ => rfl)) (pa_cons (pe_ix (r := rIxL K) ix_list (pv 0) (pv 1) (fun _ _ => rfl)) pa_nil)))) pa_nil))), ?_⟩
    refine ⟨_, rfl, _, row.length, rfl, .inl ⟨_, hS, (nvs_len row).symm⟩, _, _, rfl, ⟨by decide, by decide, by omega, by omega⟩, fun D hD => ?_⟩
    have en : ((row.length : Int) - 1).toNat = (pairSum row).length := by
      rw [pairSum_len]
      omega
    rw [en]
    refine lc_range (fun i H' => H' D = some (.lst (nvs ((pairSum row).take i))) ∧ Same H H') ⟨upd_same, Same.new hD⟩ ?_ ?_
    · rintro i H' hi ⟨hD', sm⟩
      have hi2 : i + 1 < row.length := by
        rw [pairSum_len] at hi
        omega
      have e1 : row[i]? = some row[i] := List.getElem?_eq_getElem (by omega)
      have e2 : row[i + 1]? = some row[i + 1] := List.getElem?_eq_getElem hi2
      refine ⟨rfl, yesI ?_⟩
      refine ⟨_, rfl, _, rfl, _, _, rfl, rfl, a, _, _, _, rfl, rfl, sm.seq hS, at_of (j := i) (by omega) (nvs_get e1), _, rfl, _, rfl, a, _, _, _, rfl, rfl, sm.seq hS, at_of (j := i + 1) (by omega) (nvs_get e2), some row[i], row[i + 1], rfl, ?_⟩
      refine ⟨_, hD', line_lt (by rw [nvs_len, List.length_take]; omega), ?_, sm.put hD⟩
      rw [upd_same, take_snoc (pairSum_get row i _ _ e1 e2), nvs_snoc]
    · rintro H' ⟨hD', sm⟩
      rw [List.take_length] at hD'
      refine ⟨D, (pairSum row).map (fun n : Nat => (n : Int)), rfl, ?_, ?_⟩
      · rw [← nvs_ints]
        exact SqL.of hD'
      · have e : ((pairSum row).map (fun n : Nat => (n : Int))).sum = ((Ks325.changes row : Nat) : Int) := by
          rw [← changes_sum]
          generalize pairSum row = l
          induction l with
          | nil => rfl
          | cons x l ih =>
            rw [List.map_cons, List.sum_cons, List.sum_cons, ih]
            omega
        rw [e]
        exact k _ sm
end
end Ts

end
section
/-! The program's heap, part 2: the fewest changes. -/
set_option Elab.async false
set_option maxRecDepth 100000
set_option maxHeartbeats 2000000
namespace Ts
open PySem PySem.Spec PyProof.Rows L2
/-- a comprehension over the keys of a locked dict -/
theorem lc_keys {d : Addr} {o : Obj} {kvs : List (Key × V)} {g : TG} {tt : TT} {te : TE} {vs : List Nat} {σ : L2.St} {H1 : Hp} {D : Addr} {Qd : Hp → Prop} (Pv : Nat → Hp → Prop) (h0 : Pv 0 (upd H1 D (.lst []))) (hl : ∀ i H, i ≤ kvs.length → Pv i H → H d = some (.frz o (.dK kvs)))
    (hs : ∀ i k v H, kvs[i]? = some (k, v) → Pv i H → g (kV k) (wipe σ vs) H fun σ2 H2 => wipe σ2 vs = wipe σ vs ∧ tt σ2 H2 fun b H3 =>
      if b = true then te σ2 H3 fun y H4 => ∃ acc, H4 D = some (.lst acc) ∧ acc.length < sizeLine ∧ Pv (i + 1) (upd H4 D (.lst (acc ++ [y]))) else Pv (i + 1) H3) (hd : ∀ H, Pv kvs.length H → Qd H) :
    ∃ W : Nat → Nat → Hp → Prop, (∃ m, W 0 m (upd H1 D (.lst []))) ∧ ∀ i m H, W i m H →
      ((Itk d o kvs).stop i H ∧ Qd H) ∨ ((Itk d o kvs).go i H ∧ ∃ Nx : Hp → Prop, (∀ H', Nx H' → ∃ m', m' < m ∧ W (i + 1) m' H') ∧ ∀ x H', (Itk d o kvs).yld i H x H' → g x (wipe σ vs) H' fun σ2 H2 => wipe σ2 vs = wipe σ vs ∧ tt σ2 H2 fun b H3 =>
        if b = true then te σ2 H3 fun y H4 => ∃ acc, H4 D = some (.lst acc) ∧ acc.length < sizeLine ∧ Nx (upd H4 D (.lst (acc ++ [y]))) else Nx H3) := by
  refine ⟨fun i m H => m = kvs.length - i ∧ i ≤ kvs.length ∧ Pv i H, ⟨kvs.length, by simp, Nat.zero_le _, h0⟩, ?_⟩
  rintro i m H ⟨rfl, hi, p⟩
  have q := hl i H hi p
  by_cases hlt : i < kvs.length
  · refine .inr ⟨⟨q, hlt⟩, Pv (i + 1), fun H' p' => ⟨kvs.length - (i + 1), by omega, rfl, hlt, p'⟩, fun x H' y => ?_⟩
    obtain ⟨e, k, v, e1, e2⟩ := y
    subst e e2
    exact hs i k v _ e1 p
  · have e : i = kvs.length := by omega
    subst e
    exact .inl ⟨⟨q, Nat.le_refl _⟩, hd H p⟩
/-- for x in reversed(xs) -/
theorem for_rev {K : PySem.W.Frag} {a : Addr} {xs : List V} {g : TG} {tb : TS} {D : Ends} {σ : L2.St} {H : Hp} (Pv : Nat → L2.St → Hp → Prop) (h0 : Pv 0 σ H) (hl : ∀ i σ H, i ≤ xs.length → Pv i σ H → SqL K H a xs)
    (hs : ∀ i x σ H, i < xs.length → xs[xs.length - 1 - i]? = some x → Pv i σ H → g x σ H fun σ2 H2 => tb { D with nx := Pv (i + 1), ct := Pv (i + 1), bk := D.nx } σ2 H2) (hd : ∀ σ H, Pv xs.length σ H → D.nx σ H) :
    ∃ W : Nat → Nat → L2.St → Hp → Prop, (∃ m, W 0 m σ H) ∧ ∀ i m σ H, W i m σ H →
      ((Itv K a xs.length).stop i H ∧ D.nx σ H) ∨ ((Itv K a xs.length).go i H ∧ ∃ N : L2.St → Hp → Prop, (∀ σ' H', N σ' H' → ∃ m', m' < m ∧ W (i + 1) m' σ' H') ∧ ∀ x H', (Itv K a xs.length).yld i H x H' → g x σ H' fun σ2 H2 => tb { D with nx := N, ct := N, bk := D.nx } σ2 H2) := by
  refine ⟨fun i m σ H => m = xs.length - i ∧ i ≤ xs.length ∧ Pv i σ H, ⟨xs.length, by simp, Nat.zero_le _, h0⟩, ?_⟩
  rintro i m σ H ⟨rfl, hi, p⟩
  have q := hl i σ H hi p
  by_cases hlt : i < xs.length
  · have hx : xs[xs.length - 1 - i]? = some (xs[xs.length - 1 - i]'(by omega)) := List.getElem?_eq_getElem _
    refine .inr ⟨⟨hlt, xs, _, q, hx⟩, Pv (i + 1), fun σ' H' p' => ⟨xs.length - (i + 1), by omega, rfl, hlt, p'⟩, fun x H' y => ?_⟩
    obtain ⟨e, y⟩ := y
    subst e
    exact hs i x σ _ hlt (y xs q) p
  · have e : i = xs.length := by omega
    subst e
    exact .inl ⟨Nat.le_refl _, hd σ H p⟩

abbrev sFew : Stmt := top 24
abbrev sAhead : Stmt := top 25
abbrev sRow : Stmt := top 26
/-- a dict of seats and numbers -/
def kd (l : List (Nat × Nat)) : List (Key × V) := l.map fun x => (Sum.inl (x.1 : Int), nV x.2)
theorem kd_len (l : List (Nat × Nat)) : (kd l).length = l.length := List.length_map _
theorem key_inj {m n : Nat} (h : (Sum.inl (m : Int) : Key) = Sum.inl (n : Int)) : m = n := by
  injection h with h
  omega
theorem kd_val : ∀ {l : List (Nat × Nat)} {s c : Nat}, (l.map (·.1)).Nodup → (s, c) ∈ l → valV (kd l) (Sum.inl (s : Int)) = some (nV c)
  | [], _, _, _, h => by (cases h)
  | (t, e) :: l, s, c, nd, h => by
    have nd' := List.nodup_cons.mp nd
    by_cases q : t = s
    · subst q
      rcases List.mem_cons.mp h with h | h
      · obtain ⟨_, rfl⟩ := Prod.mk.inj h
        exact valV_pos rfl
      · exact absurd (List.mem_map.mpr ⟨(t, c), h, rfl⟩) nd'.1
    · rcases List.mem_cons.mp h with h | h
      · exact absurd (Prod.mk.inj h).1.symm q
      · show valV ((Sum.inl (t : Int), nV e) :: kd l) _ = _
        rw [valV_neg (fun z => q (key_inj z))]
        exact kd_val nd'.2 h
theorem kd_none : ∀ {l : List (Nat × Nat)} {s : Nat}, s ∉ l.map (·.1) → valV (kd l) (Sum.inl (s : Int)) = none
  | [], _, _ => rfl
  | (t, e) :: l, s, h => by
    rw [List.map_cons, List.mem_cons, not_or] at h
    show valV ((Sum.inl (t : Int), nV e) :: kd l) _ = _
    rw [valV_neg (fun z => h.1 (key_inj z).symm)]
    exact kd_none h.2
theorem kd_get {l : List (Nat × Nat)} {i : Nat} {k : Key} {v : V} (h : (kd l)[i]? = some (k, v)) : ∃ s c, l[i]? = some (s, c) ∧ k = Sum.inl (s : Int) ∧ v = nV c := by
  obtain ⟨⟨s, c⟩, h1, h2⟩ := map_get h
  obtain ⟨rfl, rfl⟩ := Prod.mk.inj h2
  exact ⟨s, c, h1, rfl, rfl⟩
theorem natSum (a b : Nat) : V.int ((a : Int) + (b : Int)) = nV (a + b) := by
  unfold nV
  rw [Int.natCast_add]
/-! ### fewest_ahead -/
def spFew : Sp := fun vs H Q _ => ∃ (s : Nat) (d : Addr) (l : List (Nat × Nat)), vs = [nV s, .ref d] ∧ H d = some (.dK (kd l)) ∧ (l.map (·.1)).Nodup ∧ l.length ≤ 1000 ∧ ∀ H' : Hp, Same H H' → Q (nV (fewA s l)) H'
section
variable {P : Program} {w : World} {K : PySem.W.Frag} {mg : Str → Option Value} {base : Heap}
theorem scFew : FnScope ["seat", "ahead_of_later", "later"] ["seat", "ahead_of_later"] (defScope sFew) := ⟨rfl, rfl, rfl, by decide +kernel, rfl, by decide +kernel, by decide +kernel⟩
theorem ok_few {f : Addr} {fd : FuncData} (F : Fun K "fewest_ahead" "fewest_ahead" sFew f fd) (B : Bl mg) (D1 : DefOk P w K mg base "step_changes" ["seat_before", "seat"] 1 spStep) :
    FnOk P w K mg base CX0 2 f fd ["seat", "ahead_of_later"] spFew := by
  obtain ⟨f1, fd1, m1, k1, b1, G1⟩ := D1
  refine F.ok scFew (fun vs H Q E h => ?_) (fun cdv A outer s H vs Q E hr h => ?_)
  · obtain ⟨n, d, l, rfl, _⟩ := h
    rfl
  · obtain ⟨n, d, l, rfl, hd, nd, hl, k⟩ := h
    have hu := hu_of hr
    refine ⟨_, pss_cons (ps_if (pt_cmpR op_eq (pe_callB call_lenD rfl B.len PySem.boot_len (pa_cons (pv 1) pa_nil)) pe_int (nomark _)) (pss_one (ps_ret pe_int)) pss_nil)
      (pss_one (ps_ret (pe_callB (cr_min rfl) rfl B.min PyProof.Rows.boot_min (pa_cons
        (pe_lock (pe_lc rfl scFew.nd (pi_keys (pv 1)) (own := [("later", 2)]) (blkOk_by (by show blkC ["seat", "ahead_of_later", "later"] (defScope sFew) _ _ = true; decide +kernel))
          (fun _ _ _ _ _ => pg_name (i := 2) scFew.nd rfl (Or.inl rfl))
          (fun _ _ _ _ _ => pts_nil)
          (fun _ _ _ _ _ => pe_op op_add (pe_dget hu (pv 1) (pv 2) (fun _ _ => rfl)) (pe_call G1 hr rfl m1 k1 b1 .nil pass0 (pa_cons (pv 0) (pa_cons (pv 2) pa_nil)))))) pa_nil)))), ?_⟩
    refine ⟨_, rfl, d, _, rfl, hd, rfl, _, rfl, ?_⟩
    have e0 : decide (V.int ((kd l).length : Int) = V.int 0) = decide (l = []) := by
      rw [kd_len, Bool.eq_iff_iff, decide_eq_true_eq, decide_eq_true_eq]
      constructor
      · intro q
        injection q with q
        exact List.length_eq_zero_iff.mp (by omega)
      · intro q
        rw [q]
        rfl
    rw [e0]
    by_cases c : l = []
    · rw [decide_eq_true c]
      refine iteT ?_
      have := k H (Same.refl H)
      rw [show fewA n l = 0 from if_pos c] at this
      exact this
    · rw [decide_eq_false c]
      refine iteF ⟨d, _, hd, trivial, fun od => ?_⟩
      refine ⟨_, rfl, d, od, rfl, .inl ⟨kd l, upd_same, fun D hD => ?_⟩⟩
      have hD0 : H D = none := by
        by_cases q : D = d
        · rw [q, upd_same] at hD
          cases hD
        · rw [upd_ne q] at hD
          exact hD
      have hdD : d ≠ D := fun q => by
        rw [← q, upd_same] at hD
        cases hD
      refine lc_keys (fun i H' => H' D = some (.lst (nvs ((l.map fun x => x.2 + stepC (some n) x.1).take i))) ∧ Same (upd H d (.frz od (.dK (kd l)))) H') ⟨upd_same, Same.new hD⟩ (fun i H' _ p => p.2 d _ upd_same) ?_ ?_
      · rintro i ky v H' hi ⟨hD', sm⟩
        obtain ⟨t, e, h1, rfl, rfl⟩ := kd_get hi
        have hm : (t, e) ∈ l := List.mem_of_getElem? h1
        refine ⟨rfl, yesI ?_⟩
        refine ⟨_, rfl, _, rfl, d, nV e, rfl, .inl ⟨kd l, Sum.inl (t : Int), .inr ⟨od, sm d _ upd_same⟩, rfl, (kd_val nd hm).symm⟩, _, rfl, _, rfl, some n, t, rfl, _, _, rfl, rfl, ?_⟩
        refine ⟨_, hD', line_lt (by rw [nvs_len, List.length_take, List.length_map]; omega), ?_, sm.put hD⟩
        have e2 : (l.map fun x => x.2 + stepC (some n) x.1)[i]? = some (e + stepC (some n) t) := by
          rw [List.getElem?_map, h1]
          rfl
        rw [upd_same, take_snoc e2, nvs_snoc, ← natSum]
      · rintro H' ⟨hD', sm⟩
        rw [kd_len, List.take_of_length_le (by rw [List.length_map]; exact Nat.le_refl _)] at hD'
        have hfin : Same H (upd H' d (.dK (kd l))) := fun b o e => by
          by_cases q : b = d
          · rw [q, hd] at e
            rw [q, upd_same]
            exact e
          · rw [upd_ne q]
            exact sm b o (by rw [upd_ne q]; exact e)
        refine ⟨sm d _ upd_same, D, ((l.map fun x => x.2 + stepC (some n) x.1).map (fun n : Nat => (n : Int))), rfl, ?_, ?_, fun m hm hmin => ?_⟩
        · rw [← nvs_ints]
          refine SqL.of ?_
          rw [upd_ne (Ne.symm hdD)]
          exact hD'
        · rw [List.length_map, List.length_map]
          exact List.length_pos_iff.mpr c
        · obtain ⟨m', hm', rfl⟩ := List.mem_map.mp hm
          have e3 : m' = fewA n l := by
            unfold fewA
            rw [if_neg c]
            refine IsMin.unique (l := l.map fun x => x.2 + stepC (some n) x.1) ⟨hm', fun y hy => ?_⟩ (minL_is _ (by simpa using c))
            have := hmin (y : Int) (List.mem_map.mpr ⟨y, hy, rfl⟩)
            omega
          rw [e3]
          exact k _ hfin
end
end Ts

end
section
/-! The program's heap, part 3: the fewest changes, by part. -/
set_option Elab.async false
set_option maxRecDepth 100000
set_option maxHeartbeats 2000000
namespace Ts
open PySem PySem.Spec PyProof.Rows L2
/-- lists of whole numbers at addresses -/
structure ListsAt (K : PySem.W.Frag) (H : Hp) (as : List Addr) (fs : List (List Nat)) : Prop where
  len : as.length = fs.length
  at_ : ∀ (i : Nat) (b : Addr) (f : List Nat), as[i]? = some b → fs[i]? = some f → SqL K H b (nvs f)
structure DictsAt (H : Hp) (ds : List Addr) (cs : List (List (Nat × Nat))) : Prop where
  len : ds.length = cs.length
  at_ : ∀ (i : Nat) (d : Addr) (c : List (Nat × Nat)), ds[i]? = some d → cs[i]? = some c → H d = some (.dK (kd c))
theorem DictsAt.same {H H' : Hp} {ds : List Addr} {cs : List (List (Nat × Nat))} (h : DictsAt H ds cs) (s : Same H H') : DictsAt H' ds cs := ⟨h.len, fun i d c h1 h2 => s _ _ (h.at_ i d c h1 h2)⟩
theorem DictsAt.cons {H : Hp} {ds : List Addr} {cs : List (List (Nat × Nat))} {d : Addr} {c : List (Nat × Nat)} (h : DictsAt H ds cs) (hd : H d = some (.dK (kd c))) : DictsAt H (d :: ds) (c :: cs) := by
  refine ⟨by rw [List.length_cons, List.length_cons, h.len], fun i d' c' h1 h2 => ?_⟩
  cases i with
  | zero =>
    have e1 : d = d' := Option.some.inj h1
    have e2 : c = c' := Option.some.inj h2
    subst e1 e2
    exact hd
  | succ i => exact h.at_ i d' c' h1 h2
/-- as a part's free seats are -/
def FreesOk (fs : List (List Nat)) : Prop := fs.length ≤ 100 ∧ ∀ f ∈ fs, f.Nodup ∧ f.length ≤ 100
theorem aheads_keys : ∀ {fs : List (List Nat)} {i : Nat} {c : List (Nat × Nat)}, (aheads fs)[i]? = some c → ∃ f, fs[i]? = some f ∧ c.map (·.1) = f ∧ c.length = f.length
  | [], i, c, h => by cases h
  | f :: fs, 0, c, h => by
    have e : (f.map fun s => (s, fewA s ((aheads fs).headD []))) = c := Option.some.inj h
    subst e
    refine ⟨f, rfl, ?_, List.length_map _⟩
    rw [List.map_map]
    exact List.map_id _
  | f :: fs, i + 1, c, h => by
    obtain ⟨g, h1, h2⟩ := aheads_keys (fs := fs) (i := i) h
    exact ⟨g, h1, h2⟩
theorem head_keys {fs : List (List Nat)} (h : FreesOk fs) : (((aheads fs).headD []).map (·.1)).Nodup ∧ ((aheads fs).headD []).length ≤ 100 := by
  cases fs with
  | nil => exact ⟨List.Pairwise.nil, Nat.zero_le _⟩
  | cons f fs =>
    obtain ⟨g, h1, h2, h3⟩ := aheads_keys (fs := f :: fs) (i := 0) (c := (aheads (f :: fs)).headD []) rfl
    have := h.2 g (List.mem_of_getElem? h1)
    rw [h2, h3]
    exact this
theorem FreesOk.drop {fs : List (List Nat)} (h : FreesOk fs) (k : Nat) : FreesOk (fs.drop k) := ⟨by rw [List.length_drop]; exact Nat.le_trans (Nat.sub_le _ _) h.1, fun f hf => h.2 f (List.mem_of_mem_drop hf)⟩
/-! ### changes_ahead -/
def spAhead (K : PySem.W.Frag) : Sp := fun vs H Q _ => ∃ (a : Addr) (as : List Addr) (fs : List (List Nat)), vs = [.ref a] ∧ SqL K H a (as.map V.ref) ∧ ListsAt K H as fs ∧ FreesOk fs ∧
  ∀ (H' : Hp) (p : Addr) (ds : List Addr), Same H H' → H' p = some (.lst (ds.map V.ref)) → DictsAt H' ds (aheads fs) → H p = none → Q (.ref p) H'
section
variable {P : Program} {w : World} {K : PySem.W.Frag} {mg : Str → Option Value} {base : Heap}
theorem scAhead : FnScope ["free_by_part", "from_the_end", "ahead_of_later", "free_seats", "ahead", "seat"] ["free_by_part"] (defScope sAhead) := ⟨rfl, rfl, rfl, by decide +kernel, rfl, by decide +kernel, by decide +kernel⟩
theorem ok_ahead {f : Addr} {fd : FuncData} (F : Fun K "changes_ahead" "changes_ahead" sAhead f fd) (B : Bl mg) (D1 : DefOk P w K mg base "fewest_ahead" ["seat", "ahead_of_later"] 2 spFew) :
    FnOk P w K mg base CX0 3 f fd ["free_by_part"] (spAhead K) := by
  obtain ⟨f1, fd1, m1, k1, b1, G1⟩ := D1
  refine F.ok scAhead (fun vs H Q E h => ?_) (fun cdv A outer s H vs Q E hr h => ?_)
  · obtain ⟨a, as, fs, rfl, _⟩ := h
    rfl
  · obtain ⟨a, as, fs, rfl, hS, hL, hF, k⟩ := h
    have hu := hu_of hr
    refine ⟨_, pss_cons (ps_set (i := 1) scAhead.nd rfl (Or.inl rfl) (pe_lst pa_nil))
      (pss_cons (ps_set (i := 2) scAhead.nd rfl (Or.inl rfl) pe_dnewK)
      (pss_cons (ps_for PassesOwn.never rfl (pi_reversed rfl B.reversed (pa_cons (pv 0) pa_nil)) (pg_name (i := 3) scAhead.nd rfl (Or.inl rfl))
        (pss_cons (ps_set (i := 4) scAhead.nd rfl (Or.inl rfl) pe_dnewK)
        (pss_cons (ps_for PassesOwn.never rfl (pi_list (pv 3)) (pg_name (i := 5) scAhead.nd rfl (Or.inl rfl))
          (pss_one (ps_dput hu (pv 4) (pv 5) (pe_call G1 hr rfl m1 k1 b1 .nil pass0 (pa_cons (pv 5) (pa_cons (pv 2) pa_nil))) rfl)))
        (pss_cons (ps_expr (pe_bm PySem.F.plainAttrs_list PySem.F.slot_list_append PySem.F.type_list_append mt_append (pv 1) (pa_cons (pv 4) pa_nil)))
        (pss_one (ps_set (i := 2) scAhead.nd rfl (Or.inl rfl) (pv 4)))))))
      (pss_one (ps_ret (pe_listRev rfl rfl B.list rfl B.reversed (pa_cons (pv 1) pa_nil)))))), ?_⟩
    -- from_the_end = []; ahead_of_later = {}
    refine ⟨Nat.zero_le _, fun l hl => ?_⟩
    intro q hq
    have hlq : l ≠ q := fun e => by
      rw [← e, upd_same] at hq
      cases hq
    have hq0 : H q = none := by
      rw [upd_ne (Ne.symm hlq)] at hq
      exact hq
    have sm0 : Same H (upd (upd H l (.lst [])) q (.dK [])) := (Same.new hl).put hq0
    have hn : (as.map V.ref).length = fs.length := by rw [List.length_map, hL.len]
    -- for free_seats in reversed(free_by_part)
    refine ⟨_, rfl, a, _, rfl, sm0.seq hS, for_rev (K := K) (a := a) (xs := as.map V.ref) (fun i σ H' => ∃ (v3 v4 v5 : Option V) (q : Addr) (ds : List Addr), σ = [some (.ref a), some (.ref l), some (.ref q), v3, v4, v5] ∧ Same H H' ∧
        H' l = some (.lst (ds.reverse.map V.ref)) ∧ DictsAt H' ds (aheads (fs.drop (fs.length - i))) ∧ H' q = some (.dK (kd ((aheads (fs.drop (fs.length - i))).headD []))))
      ⟨none, none, none, q, [], rfl, sm0, by rw [upd_ne hlq, upd_same]; rfl, ?_, ?_⟩ (fun i σ H' _ ⟨_, _, _, _, _, _, s5, _⟩ => s5.seq hS) ?_ ?_⟩
    · rw [Nat.sub_zero, List.drop_length]
      exact ⟨rfl, fun i d c h _ => by cases h⟩
    · rw [Nat.sub_zero, List.drop_length, upd_same]
      rfl
    · rintro i x σ H' hi hx ⟨v3, v4, v5, q, ds, rfl, sm, hl', hD, hq'⟩
      rw [hn] at hi hx
      obtain ⟨b, hb, rfl⟩ := map_get hx
      have hj : fs.length - 1 - i < fs.length := by omega
      have hfj : fs[fs.length - 1 - i]? = some fs[fs.length - 1 - i] := List.getElem?_eq_getElem hj
      have hdrop : fs.drop (fs.length - (i + 1)) = fs[fs.length - 1 - i] :: fs.drop (fs.length - i) := by
        have e1 : fs.length - (i + 1) = fs.length - 1 - i := by omega
        have e2 : fs.length - i = fs.length - 1 - i + 1 := by omega
        rw [e1, e2]
        exact List.drop_eq_getElem_cons hj
      have hbS := hL.at_ _ b _ hb hfj
      have hFk := hF.2 _ (List.mem_of_getElem? hfj)
      obtain ⟨hk1, hk2⟩ := head_keys (hF.drop (fs.length - i))
      generalize hf : fs[fs.length - 1 - i] = fr at *
      generalize hr' : (aheads (fs.drop (fs.length - i))).headD [] = later at *
      -- ahead = {}
      intro p hp
      have hpl : l ≠ p := ne_of_none hl' hp
      have hp0 : H p = none := sm.free hp
      have smp : Same H' (upd H' p (.dK [])) := Same.new hp
      -- for seat in free_seats
      refine ⟨_, rfl, b, rfl, ⟨_, smp.seq (sm.seq hbS)⟩, for_list (K := K) (a := b) (xs := nvs fr) (fun j σ H2 => ∃ v5 : Option V, σ = [some (.ref a), some (.ref l), some (.ref q), some (.ref b), some (.ref p), v5] ∧ Same H' H2 ∧
          H2 p = some (.dK (kd ((fr.take j).map fun s => (s, fewA s later)))))
        ⟨v5, rfl, smp, upd_same⟩ (fun j σ H2 _ ⟨_, _, s6, _⟩ => s6.seq (sm.seq hbS)) ?_ ?_⟩
      · rintro j y σ H2 hy ⟨v5, rfl, s6, hp2⟩
        obtain ⟨t, ht, rfl⟩ := map_get hy
        refine ⟨_, rfl, _, rfl, t, q, later, rfl, s6 _ _ hq', hk1, by omega, fun H3 s7 => ?_⟩
        have hnot : t ∉ ((fr.take j).map fun s => (s, fewA s later)).map (·.1) := by
          have em : ((fr.take j).map fun s => (s, fewA s later)).map (·.1) = fr.take j := by
            rw [List.map_map]
            exact List.map_id _
          rw [em]
          intro hm'
          obtain ⟨i1, hi1⟩ := List.getElem?_of_mem hm'
          have hi1l : i1 < j := by
            have := (List.getElem?_eq_some_iff.mp hi1).1
            rw [List.length_take] at this
            omega
          rw [List.getElem?_take_of_lt hi1l] at hi1
          have := nd_ix hFk.1 hi1 ht
          omega
        refine ⟨_, rfl, _, rfl, p, _, rfl, DPut.k (k := Sum.inl (t : Int)) (s7 _ _ hp2) (line_lt (by rw [kd_len, List.length_map, List.length_take]; omega)), ?_⟩
        refine ⟨_, rfl, (s6.trans s7).put hp, ?_⟩
        rw [upd_same, putK_new _ (kd_none hnot), take_snoc ht, List.map_append]
        unfold kd
        rw [List.map_append]
        rfl
      · rintro σ H2 ⟨v5, rfl, s6, hp2⟩
        rw [nvs_len, List.take_length] at hp2
        -- from_the_end.append(ahead); ahead_of_later = ahead
        have hl2 := s6 _ _ hl'
        refine ⟨_, rfl, .inl ⟨rfl, _, SqL.of hl2⟩, _, rfl, l, _, _, rfl, rfl, hl2, line_lt (by rw [List.length_map, List.length_reverse, hD.len, aheads_len, List.length_drop]; have := hF.1; omega), ?_⟩
        have hpl2 : p ≠ l := Ne.symm hpl
        have hah : aheads (fs.drop (fs.length - (i + 1))) = (fr.map fun s => (s, fewA s later)) :: aheads (fs.drop (fs.length - i)) := by
          rw [hdrop, ← hr']
          rfl
        have sm2 : Same H (upd H2 l (.lst (ds.reverse.map V.ref ++ [V.ref p]))) := (sm.trans s6).put hl
        refine ⟨_, rfl, _, _, _, p, p :: ds, rfl, sm2, ?_, ?_, ?_⟩
        · rw [upd_same, List.reverse_cons, List.map_append]
          rfl
        · rw [hah]
          refine DictsAt.cons ?_ (by rw [upd_ne hpl2]; exact hp2)
          refine ⟨hD.len, fun i d c h1 h2 => ?_⟩
          have h3 := s6 _ _ (hD.at_ i d c h1 h2)
          rw [upd_ne (ne_of h3 hl2 (by intro z; cases z))]
          exact h3
        · rw [hah, upd_ne hpl2]
          exact hp2
    · rintro σ H' ⟨v3, v4, v5, q, ds, rfl, sm, hl', hD, hq'⟩
      rw [hn, Nat.sub_self, List.drop_zero] at hD
      refine ⟨_, rfl, l, _, rfl, SqL.of hl', fun p hp => ?_⟩
      have smp : Same H' (upd H' p (.lst (ds.reverse.map V.ref).reverse)) := Same.new hp
      refine k _ p ds (sm.trans smp) ?_ (hD.same smp) (sm.free hp)
      rw [upd_same, ← List.map_reverse, List.reverse_reverse]
end
end Ts

end
section
/-! The program's heap, part 4: the row with the fewest changes. -/
set_option Elab.async false
set_option maxRecDepth 100000
set_option maxHeartbeats 2000000
namespace Ts
open PySem PySem.Spec PyProof.Rows L2
def lastAt (last : Option Nat) (R : List Nat) : Nat → Option Nat
  | 0 => last
  | i + 1 => R[i]?
theorem rowOf_get : ∀ {cs : List (List (Nat × Nat))} {last : Option Nat} {i : Nat} {c : List (Nat × Nat)}, cs[i]? = some c → (rowOf last cs)[i]? = some (best (lastAt last (rowOf last cs) i) c)
  | [], _, i, c, h => by cases h
  | d :: cs, last, 0, c, h => by
    have e : d = c := Option.some.inj h
    subst e
    rfl
  | d :: cs, last, i + 1, c, h => by
    have ih := rowOf_get (cs := cs) (last := some (best last d)) (i := i) (c := c) h
    show (rowOf (some (best last d)) cs)[i]? = _
    rw [ih]
    cases i with
    | zero => rfl
    | succ i => rfl
def pI (p : Nat × Nat) : Int × Int := ((p.1 : Int), (p.2 : Int))
theorem leI_nat {p q : Nat × Nat} (h : leI (pI p) (pI q)) : lexLe p q := by
  unfold leI pI at h
  unfold lexLe
  simp only at h
  omega
def spRow (K : PySem.W.Frag) : Sp := fun vs H Q _ => ∃ (a : Addr) (as : List Addr) (fs : List (List Nat)), vs = [.ref a] ∧ SqL K H a (as.map V.ref) ∧ ListsAt K H as fs ∧ FreesOk fs ∧ (∀ f ∈ fs, f ≠ []) ∧
  ∀ (H' : Hp) (p : Addr), Same H H' → H p = none → H' p = some (.lst (nvs (rowOf none (aheads fs)))) → Q (.ref p) H'
section
variable {P : Program} {w : World} {K : PySem.W.Frag} {mg : Str → Option Value} {base : Heap}
theorem scRow : FnScope ["free_by_part", "row", "seat_before", "ahead", "choices", "seat"] ["free_by_part"] (defScope sRow) := ⟨rfl, rfl, rfl, by decide +kernel, rfl, by decide +kernel, by decide +kernel⟩
theorem ok_row {f : Addr} {fd : FuncData} (F : Fun K "fewest_changes_row" "fewest_changes_row" sRow f fd) (B : Bl mg) (D1 : DefOk P w K mg base "step_changes" ["seat_before", "seat"] 1 spStep)
    (D2 : DefOk P w K mg base "changes_ahead" ["free_by_part"] 3 (spAhead K)) : FnOk P w K mg base CX0 4 f fd ["free_by_part"] (spRow K) := by
  obtain ⟨f1, fd1, m1, k1, b1, G1⟩ := D1
  obtain ⟨f2, fd2, m2, k2, b2, G2⟩ := D2
  refine F.ok scRow (fun vs H Q E h => ?_) (fun cdv A outer s H vs Q E hr h => ?_)
  · obtain ⟨a, as, fs, rfl, _⟩ := h
    rfl
  · obtain ⟨a, as, fs, rfl, hS, hL, hF, hne, k⟩ := h
    have hu := hu_of hr
    have hr1 : Room 1 _ := hr.mono (by decide)
    refine ⟨_, pss_cons (ps_set (i := 1) scRow.nd rfl (Or.inl rfl) (pe_lst pa_nil))
      (pss_cons (ps_set (i := 2) scRow.nd rfl (Or.inr rfl) pe_non)
      (pss_cons (ps_for PassesOwn.never rfl (pi_list (pe_call G2 hr rfl m2 k2 b2 .nil pass0 (pa_cons (pv 0) pa_nil))) (pg_name (i := 3) scRow.nd rfl (Or.inr rfl))
        (pss_cons (ps_lock (ps_setLc (i := 4) rfl scRow.nd rfl rfl (sw_true rfl rfl rfl rfl) (pi_keys (pv 3)) (own := [("seat", 5)])
            (blkOk_by (by show blkC ["free_by_part", "row", "seat_before", "ahead", "choices", "seat"] (defScope sRow) _ _ = true; decide +kernel))
            (fun _ _ _ _ _ => pg_name (i := 5) scRow.nd rfl (Or.inl rfl))
            (fun _ _ _ _ _ => pts_nil)
            (fun _ _ _ _ _ => pe_tup (pa_cons (pe_op op_add (pe_dget hu (pv 3) (pv 5) (fun _ _ => rfl)) (pe_call G1 hr1 rfl m1 k1 b1 .nil pass0 (pa_cons (pv 2) (pa_cons (pv 5) pa_nil)))) (pa_cons (pv 5) pa_nil)))))
        (pss_cons (ps_set (i := 2) scRow.nd rfl (Or.inr rfl) (pe_ix ix_tup (pe_callB (cr_minT rfl hu) rfl B.min PyProof.Rows.boot_min (pa_cons (pv 4) pa_nil)) pe_int (fun _ _ => rfl)))
        (pss_one (ps_expr (pe_bm PySem.F.plainAttrs_list PySem.F.slot_list_append PySem.F.type_list_append mt_append (pv 1) (pa_cons (pv 2) pa_nil)))))))
      (pss_one (ps_ret (pv 1))))), ?_⟩
    -- row = []; seat_before = None
    refine ⟨Nat.zero_le _, fun r hr0 => ?_⟩
    have sm0 : Same H (upd H r (.lst [])) := Same.new hr0
    -- for ahead in changes_ahead(free_by_part)
    refine ⟨_, rfl, a, as, fs, rfl, sm0.seq hS, ⟨hL.len, fun i b g h1 h2 => sm0.seq (hL.at_ i b g h1 h2)⟩, hF, fun H1 p ds sm1 hp hD hp0 => ?_⟩
    have smH1 : Same H H1 := sm0.trans sm1
    have hr1' : H1 r = some (.lst []) := sm1 _ _ upd_same
    have hpr : p ≠ r := fun e => by
      rw [e, upd_same] at hp0
      cases hp0
    have hpH : H p = none := by
      rw [upd_ne hpr] at hp0
      exact hp0
    generalize hcs : aheads fs = cs at *
    have hcl : ds.length = cs.length := hD.len
    have hcf : cs.length ≤ 100 := by
      rw [← hcs, aheads_len]
      exact hF.1
    have hck : ∀ (i : Nat) (c : List (Nat × Nat)), cs[i]? = some c → (c.map (·.1)).Nodup ∧ c.length ≤ 100 ∧ c ≠ [] := by
      intro i c hc
      rw [← hcs] at hc
      obtain ⟨g, h1, h2, h3⟩ := aheads_keys hc
      have hg := hF.2 g (List.mem_of_getElem? h1)
      refine ⟨by rw [h2]; exact hg.1, by rw [h3]; exact hg.2, fun e => hne g (List.mem_of_getElem? h1) ?_⟩
      rw [← h2, e]
      rfl
    generalize hR : rowOf none cs = R at *
    have hRl : R.length = cs.length := by rw [← hR, rowOf_len]
    refine ⟨p, rfl, ⟨_, SqL.of hp⟩, for_list (K := K) (a := p) (xs := ds.map V.ref) (fun i σ H' => ∃ v3 v4 v5 : Option V, σ = [some (.ref a), some (.ref r), some (oV (lastAt none R i)), v3, v4, v5] ∧
        H' r = some (.lst (nvs (R.take i))) ∧ ∀ b o, H1 b = some o → b ≠ r → H' b = some o)
      ⟨none, none, none, rfl, hr1', fun b o e _ => e⟩ (fun i σ H' _ ⟨_, _, _, _, _, kp⟩ => SqL.of (kp _ _ hp hpr)) ?_ ?_⟩
    · rintro i y σ H' hi ⟨v3, v4, v5, rfl, hr', kp⟩
      obtain ⟨d, hd, rfl⟩ := map_get hi
      have hil : i < cs.length := by
        rw [← hcl]
        exact (List.getElem?_eq_some_iff.mp hd).1
      obtain ⟨c, hc⟩ : ∃ c, cs[i]? = some c := ⟨_, List.getElem?_eq_getElem hil⟩
      have hd1 := hD.at_ i d c hd hc
      have hdr : d ≠ r := ne_of hd1 hr1' (by intro z; cases z)
      have hd' := kp _ _ hd1 hdr
      obtain ⟨nd, hc100, hcne⟩ := hck i c hc
      have hRi : R[i]? = some (best (lastAt none R i) c) := by
        rw [← hR]
        exact rowOf_get hc
      generalize hla : lastAt none R i = last at *
      -- choices = [..]
      refine ⟨d, _, hd', trivial, fun od => ?_⟩
      refine ⟨_, rfl, d, od, rfl, .inl ⟨kd c, upd_same, fun D hDn => ?_⟩⟩
      have hdD : D ≠ d := fun e => by
        rw [e, upd_same] at hDn
        cases hDn
      have hD0 : H' D = none := by
        rw [upd_ne hdD] at hDn
        exact hDn
      refine lc_keys (fun j H2 => ∃ zs : List (Addr × Int × Int), H2 D = some (.lst (zs.map fun z => V.ref z.1)) ∧ (∀ z ∈ zs, H2 z.1 = some (.tup [.int z.2.1, .int z.2.2])) ∧ zs.map (·.2) = ((choices last c).take j).map pI ∧ Same (upd H' d (.frz od (.dK (kd c)))) H2)
        ⟨[], upd_same, (fun z hz => by cases hz), rfl, Same.new hDn⟩ (fun j H2 _ ⟨_, _, _, _, sm⟩ => sm d _ upd_same) ?_ ?_
      · rintro j ky v H2 hj ⟨zs, hz1, hz2, hz3, sm⟩
        obtain ⟨t, e, h1, rfl, rfl⟩ := kd_get hj
        have hm : (t, e) ∈ c := List.mem_of_getElem? h1
        refine ⟨rfl, yesI ?_⟩
        refine ⟨_, rfl, _, rfl, d, nV e, rfl, .inl ⟨kd c, Sum.inl (t : Int), .inr ⟨od, sm d _ upd_same⟩, rfl, (kd_val nd hm).symm⟩, _, rfl, _, rfl, last, t, rfl, _, _, rfl, rfl, _, rfl, line_le (by show 2 ≤ 100000; decide), fun T hT => ?_⟩
        have hTD : D ≠ T := ne_of_none hz1 hT
        have hlz : zs.length ≤ 100 := by
          have := congrArg List.length hz3
          rw [List.length_map, List.length_map, List.length_take] at this
          have e3 : (choices last c).length = c.length := List.length_map _
          omega
        refine ⟨_, by rw [upd_ne hTD]; exact hz1, line_lt (by rw [List.length_map]; omega), zs ++ [(T, ((e : Int) + (stepC last t : Nat), (t : Int)))], ?_, ?_, ?_, ?_⟩
        · rw [upd_same, List.map_append]
          rfl
        · intro z hz
          rcases List.mem_append.mp hz with hz | hz
          · have h2 := hz2 z hz
            rw [upd_ne (ne_of h2 hz1 (by intro q; cases q)), upd_ne (ne_of_none h2 hT)]
            exact h2
          · rw [List.mem_singleton] at hz
            subst hz
            rw [upd_ne (Ne.symm hTD), upd_same]
            rfl
        · have e2 : (choices last c)[j]? = some (e + stepC last t, t) := by
            unfold choices
            rw [List.getElem?_map, h1]
            rfl
          rw [take_snoc e2, List.map_append, List.map_append, hz3]
          congr 1
        · exact (sm.trans (Same.new hT)).put hDn
      · rintro H2 ⟨zs, hz1, hz2, hz3, sm⟩
        rw [kd_len, List.take_of_length_le (by unfold choices; rw [List.length_map]; exact Nat.le_refl _)] at hz3
        refine ⟨sm d _ upd_same, ?_⟩
        -- seat_before = min(choices)[1]
        have hDd : H2 D = some (.lst (zs.map fun z => V.ref z.1)) := hz1
        have hfr := sm d _ upd_same
        have hz1' : (upd H2 d (.dK (kd c))) D = some (.lst (zs.map fun z => V.ref z.1)) := by
          rw [upd_ne hdD]
          exact hz1
        have hz2' : ∀ z ∈ zs, (upd H2 d (.dK (kd c))) z.1 = some (.tup [.int z.2.1, .int z.2.2]) := fun z hz => by
          have h2 := hz2 z hz
          rw [upd_ne (ne_of h2 hfr (by intro q; cases q))]
          exact h2
        have hzne : zs ≠ [] := fun e => by
          rw [e] at hz3
          have := congrArg List.length hz3
          rw [List.length_map, List.length_map] at this
          unfold choices at this
          rw [List.length_map] at this
          exact hcne (List.length_eq_zero_iff.mp this.symm)
        refine ⟨_, rfl, D, zs, rfl, SqL.of hz1', fun z hz => SqT.of (hz2' z hz), hzne, fun z hz hmin => ?_⟩
        have hzm : z.2 = pI (minP (choices last c)) := by
          have h1 : z.2 ∈ (choices last c).map pI := by
            rw [← hz3]
            exact List.mem_map.mpr ⟨z, hz, rfl⟩
          obtain ⟨m, hm, em⟩ := List.mem_map.mp h1
          rw [← em]
          refine congrArg pI (IsMinP.unique (l := choices last c) ⟨hm, fun y hy => ?_⟩ (minP_is _ (choices_ne hcne)))
          have h2 : pI y ∈ zs.map (·.2) := by
            rw [hz3]
            exact List.mem_map.mpr ⟨y, hy, rfl⟩
          obtain ⟨z2, hz2m, ez2⟩ := List.mem_map.mp h2
          have := hmin z2 hz2m
          rw [ez2, ← em] at this
          exact leI_nat this
        have hz22 : z.2.2 = ((best last c : Nat) : Int) := by
          rw [hzm]
          rfl
        refine ⟨z.1, _, 1, .int z.2.2, rfl, rfl, SqT.of (hz2' z hz), rfl, ?_⟩
        -- row.append(seat_before)
        have hr2 : (upd H2 d (.dK (kd c))) r = some (.lst (nvs (R.take i))) := by
          rw [upd_ne (Ne.symm hdr)]
          exact sm r _ (by rw [upd_ne (Ne.symm hdr)]; exact hr')
        refine ⟨_, rfl, .inl ⟨rfl, _, SqL.of hr2⟩, _, rfl, r, _, _, rfl, rfl, hr2, line_lt (by rw [nvs_len, List.length_take]; omega), ?_⟩
        refine ⟨some (.ref d), some (.ref D), v5, ?_, ?_, ?_⟩
        · show _ = [some (V.ref a), some (V.ref r), some (oV (R[i]?)), some (V.ref d), some (V.ref D), v5]
          rw [hRi, hz22]
          rfl
        · rw [upd_same, take_snoc hRi, nvs_snoc, hz22]
          rfl
        · intro b o hb hbr
          rw [upd_ne hbr]
          have hb' := kp b o hb hbr
          by_cases q : b = d
          · rw [q] at hb' ⊢
            rw [upd_same, ← hb']
            exact hd'.symm
          · rw [upd_ne q]
            exact sm b o (by rw [upd_ne q]; exact hb')
    · rintro σ H' ⟨v3, v4, v5, rfl, hr', kp⟩
      rw [List.length_map, hcl, ← hRl, List.take_length] at hr'
      refine ⟨_, rfl, k H' r (fun b o e => ?_) hr0 ?_⟩
      · exact kp b o (smH1 b o e) (ne_of_none e hr0)
      · exact hr'
end
end Ts

end
section
/-! The program's heap, part 5: seated at once. -/
set_option Elab.async false
set_option maxRecDepth 100000
set_option maxHeartbeats 2000000
namespace Ts
open PySem PySem.Spec PyProof.Rows L2
/-- for i, x in enumerate(xs) -/
theorem for_enum {K : PySem.W.Frag} {a : Addr} {xs : List V} {g : TG} {tb : TS} {D : Ends} {σ : L2.St} {H : Hp} (Pv : Nat → L2.St → Hp → Prop) (h0 : Pv 0 σ H) (hl : ∀ i σ H, i ≤ xs.length → Pv i σ H → SqL K H a xs)
    (hs : ∀ i x σ H T, xs[i]? = some x → Pv i σ H → H T = none → g (.ref T) σ (upd H T (.tup [nV i, x])) fun σ2 H2 => tb { D with nx := Pv (i + 1), ct := Pv (i + 1), bk := D.nx } σ2 H2) (hd : ∀ σ H, Pv xs.length σ H → D.nx σ H) :
    ∃ W : Nat → Nat → L2.St → Hp → Prop, (∃ m, W 0 m σ H) ∧ ∀ i m σ H, W i m σ H →
      ((Ite K a).stop i H ∧ D.nx σ H) ∨ ((Ite K a).go i H ∧ ∃ N : L2.St → Hp → Prop, (∀ σ' H', N σ' H' → ∃ m', m' < m ∧ W (i + 1) m' σ' H') ∧ ∀ x H', (Ite K a).yld i H x H' → g x σ H' fun σ2 H2 => tb { D with nx := N, ct := N, bk := D.nx } σ2 H2) := by
  refine ⟨fun i m σ H => m = xs.length - i ∧ i ≤ xs.length ∧ Pv i σ H, ⟨xs.length, by simp, Nat.zero_le _, h0⟩, ?_⟩
  rintro i m σ H ⟨rfl, hi, p⟩
  have q := hl i σ H hi p
  by_cases hlt : i < xs.length
  · refine .inr ⟨⟨xs, xs[i], q, by simp [hlt]⟩, Pv (i + 1), fun σ' H' p' => ⟨xs.length - (i + 1), by omega, rfl, hlt, p'⟩, fun x H' y => ?_⟩
    obtain ⟨T, x0, e1, e2, e3, y⟩ := y
    subst e1 e3
    exact hs i x0 σ _ T (y xs q) p e2
  · have e : i = xs.length := by omega
    subst e
    exact .inl ⟨⟨xs, q, Nat.le_refl _⟩, hd σ H p⟩
/-- [.. for i, x in enumerate(xs)] -/
theorem lc_enum {K : PySem.W.Frag} {a : Addr} {xs : List V} {g : TG} {tt : TT} {te : TE} {vs : List Nat} {σ : L2.St} {H1 : Hp} {D : Addr} {Qd : Hp → Prop} (Pv : Nat → Hp → Prop) (h0 : Pv 0 (upd H1 D (.lst []))) (hl : ∀ i H, i ≤ xs.length → Pv i H → SqL K H a xs)
    (hs : ∀ i x H T, xs[i]? = some x → Pv i H → H T = none → g (.ref T) (wipe σ vs) (upd H T (.tup [nV i, x])) fun σ2 H2 => wipe σ2 vs = wipe σ vs ∧ tt σ2 H2 fun b H3 =>
      if b = true then te σ2 H3 fun y H4 => ∃ acc, H4 D = some (.lst acc) ∧ acc.length < sizeLine ∧ Pv (i + 1) (upd H4 D (.lst (acc ++ [y]))) else Pv (i + 1) H3) (hd : ∀ H, Pv xs.length H → Qd H) :
    ∃ W : Nat → Nat → Hp → Prop, (∃ m, W 0 m (upd H1 D (.lst []))) ∧ ∀ i m H, W i m H →
      ((Ite K a).stop i H ∧ Qd H) ∨ ((Ite K a).go i H ∧ ∃ Nx : Hp → Prop, (∀ H', Nx H' → ∃ m', m' < m ∧ W (i + 1) m' H') ∧ ∀ x H', (Ite K a).yld i H x H' → g x (wipe σ vs) H' fun σ2 H2 => wipe σ2 vs = wipe σ vs ∧ tt σ2 H2 fun b H3 =>
        if b = true then te σ2 H3 fun y H4 => ∃ acc, H4 D = some (.lst acc) ∧ acc.length < sizeLine ∧ Nx (upd H4 D (.lst (acc ++ [y]))) else Nx H3) := by
  refine ⟨fun i m H => m = xs.length - i ∧ i ≤ xs.length ∧ Pv i H, ⟨xs.length, by simp, Nat.zero_le _, h0⟩, ?_⟩
  rintro i m H ⟨rfl, hi, p⟩
  have q := hl i H hi p
  by_cases hlt : i < xs.length
  · refine .inr ⟨⟨xs, xs[i], q, by simp [hlt]⟩, Pv (i + 1), fun H' p' => ⟨xs.length - (i + 1), by omega, rfl, hlt, p'⟩, fun x H' y => ?_⟩
    obtain ⟨T, x0, e1, e2, e3, y⟩ := y
    subst e1 e3
    exact hs i x0 _ T (y xs q) p e2
  · have e : i = xs.length := by omega
    subst e
    exact .inl ⟨⟨xs, q, Nat.le_refl _⟩, hd H p⟩
abbrev sLeft : Stmt := top 28
abbrev sOnce : Stmt := top 29
theorem leftSeat_at : ∀ {g : List Nat} {f i x : Nat}, g[i]? = some x → x ≤ f → (∀ j y, j < i → g[j]? = some y → f < y) → leftSeat g f = i
  | [], _, i, x, h, _, _ => by cases h
  | a :: g, f, 0, x, h, hx, _ => by
    have e : a = x := Option.some.inj h
    unfold leftSeat
    rw [if_pos (by omega)]
  | a :: g, f, i + 1, x, h, hx, hb => by
    have h0 := hb 0 a (by omega) rfl
    unfold leftSeat
    rw [if_neg (by omega), leftSeat_at (g := g) h hx fun j y hj hy => hb (j + 1) y (by omega) hy]
theorem leftSeat_end : ∀ {g : List Nat} {f : Nat}, (∀ (j y : Nat), g[j]? = some y → f < y) → leftSeat g f = g.length
  | [], _, _ => rfl
  | a :: g, f, hb => by
    have h0 := hb 0 a rfl
    unfold leftSeat
    rw [if_neg (by omega), leftSeat_end (g := g) fun j y hy => hb (j + 1) y hy]
    rfl
/-! ### least_seat_left -/
def spLeft (K : PySem.W.Frag) : Sp := fun vs H Q _ => ∃ (a : Addr) (g : List Nat) (f : Nat), vs = [.ref a, nV f] ∧ SqL K H a (nvs g) ∧ ∀ H' : Hp, Same H H' → Q (nV (leftSeat g f)) H'
section
variable {P : Program} {w : World} {K : PySem.W.Frag} {mg : Str → Option Value} {base : Heap}
theorem scLeft : FnScope ["gets_out", "from_stop", "seat", "stop"] ["gets_out", "from_stop"] (defScope sLeft) := ⟨rfl, rfl, rfl, by decide +kernel, rfl, by decide +kernel, by decide +kernel⟩
theorem ok_left {f : Addr} {fd : FuncData} (F : Fun K "least_seat_left" "least_seat_left" sLeft f fd) (B : Bl mg) : FnOk P w K mg base CX0 1 f fd ["gets_out", "from_stop"] (spLeft K) := by
  refine F.ok scLeft (fun vs H Q E h => ?_) (fun cdv A outer s H vs Q E hr h => ?_)
  · obtain ⟨a, g, n, rfl, _⟩ := h
    rfl
  · obtain ⟨a, g, n, rfl, hS, k⟩ := h
    refine ⟨_, pss_cons (ps_for PassesOwn.never rfl (pi_enum rfl B.enumerate (pa_cons (pv 0) pa_nil)) (pg_tup rfl (pgs_cons (pg_name (i := 2) scLeft.nd rfl (Or.inl rfl)) (pgs_cons (pg_name (i := 3) scLeft.nd rfl (Or.inl rfl)) pgs_nil)))
        (pss_one (ps_if (pt_cmpR op_le (pv 3) (pv 1) (nomark _)) (pss_one (ps_ret (pv 2))) pss_nil)))
      (pss_one (ps_ret (pe_callB call_len rfl B.len PySem.boot_len (pa_cons (pv 0) pa_nil)))), ?_⟩
    refine ⟨_, rfl, a, _, rfl, hS, for_enum (K := K) (a := a) (xs := nvs g) (fun i σ H' => (∃ v2 v3 : Option V, σ = [some (.ref a), some (nV n), v2, v3]) ∧ Same H H' ∧ ∀ j y, j < i → g[j]? = some y → n < y)
      ⟨⟨none, none, rfl⟩, Same.refl H, fun j y hj => by omega⟩ (fun i σ H' _ p => p.2.1.seq hS) ?_ ?_⟩
    · rintro i x σ H' T hx ⟨⟨v2, v3, rfl⟩, sm, hb⟩ hT
      obtain ⟨m, hm, rfl⟩ := map_get hx
      have smT : Same H (upd H' T (.tup [nV i, nV m])) := sm.trans (Same.new hT)
      refine ⟨T, _, rfl, SqT.of upd_same, rfl, _, _, rfl, _, _, rfl, rfl, ?_⟩
      refine ⟨_, rfl, _, rfl, _, _, rfl, rfl, _, rfl, ?_⟩
      refine ite2 (fun c => ?_) (fun c => ?_)
      · have c' : (m : Int) ≤ (n : Int) := of_decide_eq_true c
        refine ⟨_, rfl, ?_⟩
        have := k _ smT
        rw [leftSeat_at hm (by omega) hb] at this
        exact this
      · have c' : ¬ (m : Int) ≤ (n : Int) := fun q => c (decide_eq_true q)
        refine ⟨⟨_, _, rfl⟩, smT, fun j y hj hy => ?_⟩
        by_cases q : j = i
        · rw [q, hm] at hy
          have : m = y := Option.some.inj hy
          omega
        · exact hb j y (by omega) hy
    · rintro σ H' ⟨⟨v2, v3, rfl⟩, sm, hb⟩
      rw [nvs_len] at hb
      refine ⟨_, rfl, _, g.length, rfl, .inl ⟨_, sm.seq hS, (nvs_len g).symm⟩, ?_⟩
      have := k _ sm
      rw [leftSeat_end fun j y hy => hb j y (List.getElem?_eq_some_iff.mp hy).1 hy] at this
      exact this
end
end Ts

end
section
/-! The program's heap, part 6: seats_at_once. -/
set_option Elab.async false
set_option maxRecDepth 100000
set_option maxHeartbeats 2000000
namespace Ts
open PySem PySem.Spec PyProof.Rows L2
/-- pairs of whole numbers at addresses -/
structure PairsAt (K : PySem.W.Frag) (H : Hp) (as : List Addr) (ws : List (Nat × Nat)) : Prop where
  len : as.length = ws.length
  at_ : ∀ (i : Nat) (b : Addr) (w : Nat × Nat), as[i]? = some b → ws[i]? = some w → SqT K H b [nV w.1, nV w.2]
def spOnce (K : PySem.W.Frag) : Sp := fun vs H Q _ => ∃ (a : Addr) (as : List Addr) (ws : List (Nat × Nat)), vs = [.ref a] ∧ SqL K H a (as.map V.ref) ∧ PairsAt K H as ws ∧ ws.length ≤ 100 ∧
  ∀ (H' : Hp) (p : Addr), Same H H' → H p = none → H' p = some (.lst (nvs (seatsAtOnce ws))) → Q (.ref p) H'
theorem keysOf_get {ws : List (Nat × Nat)} {i : Nat} {w : Nat × Nat} (h : ws[i]? = some w) : (keysOf ws)[i]? = some (w.1, i) := by
  unfold keysOf
  rw [List.getElem?_map, List.getElem?_zipIdx, h]
  simp
theorem keysOf_len (ws : List (Nat × Nat)) : (keysOf ws).length = ws.length := by simp [keysOf]
theorem order_mem {ws : List (Nat × Nat)} {p : Nat × Nat} (h : p ∈ orderOf ws) : ∃ w, ws[p.2]? = some w ∧ w.1 = p.1 := by
  have h' := (orderOf_perm ws).mem_iff.mp h
  obtain ⟨⟨w, i⟩, h1, rfl⟩ := List.mem_map.mp h'
  exact ⟨w, (List.mem_zipIdx_iff_getElem?).mp h1, rfl⟩
/-- what sorted gives is the order -/
theorem order_of {ws : List (Nat × Nat)} {zs zs' : List (Addr × Int × Int)} (hz : zs.map (·.2) = (keysOf ws).map pI) (hp : zs'.Perm zs) (hs : zs'.Pairwise fun x y => leI x.2 y.2) : zs'.map (·.2) = (orderOf ws).map pI := by
  have h1 : (zs'.map (·.2)).Perm ((keysOf ws).map pI) := by
    rw [← hz]
    exact hp.map _
  obtain ⟨ks, p1, p2⟩ := perm_map_inv h1 (keysOf ws) rfl
  have h2 : (zs'.map (·.2)).Pairwise leI := List.pairwise_map.mpr hs
  rw [p2] at h2
  have h3 : ks.Pairwise lexLe := (List.pairwise_map.mp h2).imp fun h => leI_nat h
  rw [p2, perm_unique (p1.trans (orderOf_perm ws).symm) h3 (orderOf_pair ws)]
theorem foldl_take {α β : Type} {f : β → α → β} {l : List α} {i : Nat} {x : α} {b : β} (h : l[i]? = some x) : (l.take (i + 1)).foldl f b = f ((l.take i).foldl f b) x := by
  rw [take_snoc h, List.foldl_append]
  rfl
theorem step_len (ws : List (Nat × Nat)) : ∀ (l : List (Nat × Nat)) (st : List Nat × List Nat), (l.foldl (stepSeat ws) st).2.length = st.2.length ∧ (l.foldl (stepSeat ws) st).1.length ≤ st.1.length + l.length
  | [], st => ⟨rfl, Nat.le_refl _⟩
  | p :: l, st => by
    obtain ⟨h1, h2⟩ := step_len ws l (stepSeat ws st p)
    rw [List.foldl_cons]
    have e : (stepSeat ws st p).2.length = st.2.length := List.length_set
    have e2 : (stepSeat ws st p).1.length ≤ st.1.length + 1 := by
      show (outs _ _ _).length ≤ _
      rw [outs_len]
      split <;> omega
    rw [List.length_cons]
    exact ⟨h1.trans e, by omega⟩
theorem nvs_set (l : List Nat) (j n : Nat) : (nvs l).set j (nV n) = nvs (l.set j n) := by
  unfold nvs
  rw [List.map_set]
section
variable {P : Program} {w : World} {K : PySem.W.Frag} {mg : Str → Option Value} {base : Heap}
theorem scOnce : FnScope ["ways", "by_beginning", "seats", "gets_out", "from_stop", "told", "seat", "way"] ["ways"] (defScope sOnce) := ⟨rfl, rfl, rfl, by decide +kernel, rfl, by decide +kernel, by decide +kernel⟩
theorem ok_once {f : Addr} {fd : FuncData} (F : Fun K "seats_at_once" "seats_at_once" sOnce f fd) (B : Bl mg) (D1 : DefOk P w K mg base "least_seat_left" ["gets_out", "from_stop"] 1 (spLeft K)) :
    FnOk P w K mg base CX0 2 f fd ["ways"] (spOnce K) := by
  obtain ⟨f1, fd1, m1, k1, b1, G1⟩ := D1
  refine F.ok scOnce (fun vs H Q E h => ?_) (fun cdv A outer s H vs Q E hr h => ?_)
  · obtain ⟨a, as, ws, rfl, _⟩ := h
    rfl
  · obtain ⟨a, as, ws, rfl, hS, hP, hlen, k⟩ := h
    refine ⟨_, pss_cons (ps_set (i := 1) scOnce.nd rfl (Or.inl rfl) (pe_callB cr_sortedT rfl B.sorted PyProof.Rows.boot_sorted (pa_cons
        (pe_lc rfl scOnce.nd (pi_enum rfl B.enumerate (pa_cons (pv 0) pa_nil)) (own := [("told", 5), ("way", 7)])
          (blkOk_by (by show blkC ["ways", "by_beginning", "seats", "gets_out", "from_stop", "told", "seat", "way"] (defScope sOnce) _ _ = true; decide +kernel))
          (g := gTup K 2 (gCons (gName 5) (gCons (gName 7) gNil)))
          (fun _ _ _ _ _ => pg_tup rfl (pgs_cons (pg_name (i := 5) scOnce.nd rfl (Or.inl rfl)) (pgs_cons (pg_name (i := 7) scOnce.nd rfl (Or.inl rfl)) pgs_nil)))
          (fun _ _ _ _ _ => pts_nil)
          (fun _ _ _ _ _ => pe_tup (pa_cons (pe_ix (r := rIxT K) ix_tup (pv 7) pe_int (fun _ _ => rfl)) (pa_cons (pv 5) pa_nil)))) pa_nil)))
      (pss_cons (ps_setLc (i := 2) rfl scOnce.nd rfl rfl (sw_true rfl rfl rfl rfl) (pi_list (pv 0)) (own := [("way", 7)])
          (blkOk_by (by show blkC ["ways", "by_beginning", "seats", "gets_out", "from_stop", "told", "seat", "way"] (defScope sOnce) _ _ = true; decide +kernel))
          (fun _ _ _ _ _ => pg_name (i := 7) scOnce.nd rfl (Or.inl rfl)) (fun _ _ _ _ _ => pts_nil) (fun _ _ _ _ _ => pe_int))
      (pss_cons (ps_set (i := 3) scOnce.nd rfl (Or.inl rfl) (pe_lst pa_nil))
      (pss_cons (ps_for PassesOwn.never rfl (pi_list (pv 1)) (pg_tup rfl (pgs_cons (pg_name (i := 4) scOnce.nd rfl (Or.inl rfl)) (pgs_cons (pg_name (i := 5) scOnce.nd rfl (Or.inl rfl)) pgs_nil)))
        (pss_cons (ps_set (i := 6) scOnce.nd rfl (Or.inl rfl) (pe_call G1 hr rfl m1 k1 b1 .nil pass0 (pa_cons (pv 3) (pa_cons (pv 4) pa_nil))))
        (pss_cons (ps_if (pt_cmpR op_eq (pv 6) (pe_callB call_len rfl B.len PySem.boot_len (pa_cons (pv 3) pa_nil)) (nomark _))
          (pss_one (ps_expr (pe_bm PySem.F.plainAttrs_list PySem.F.slot_list_append PySem.F.type_list_append mt_append (pv 3) (pa_cons pe_int pa_nil)))) pss_nil)
        (pss_cons (ps_asg (pe_ix ix_tup (pe_ix ix_list (pv 0) (pv 5) (fun _ _ => rfl)) pe_int (fun _ _ => rfl)) (pg_sub (pv 3) (pv 6) set_list))
        (pss_one (ps_asg (pv 6) (pg_sub (pv 2) (pv 5) set_list)))))))
      (pss_one (ps_ret (pv 2)))))), ?_⟩
    -- by_beginning = sorted([..])
    refine ⟨_, rfl, a, _, rfl, hS, fun D hD => ?_⟩
    refine lc_enum (K := K) (a := a) (xs := as.map V.ref) (fun i H' => ∃ zs : List (Addr × Int × Int), H' D = some (.lst (zs.map fun z => V.ref z.1)) ∧ (∀ z ∈ zs, H' z.1 = some (.tup [.int z.2.1, .int z.2.2])) ∧ zs.map (·.2) = ((keysOf ws).take i).map pI ∧ Same H H')
      ⟨[], upd_same, (fun z hz => by cases hz), rfl, Same.new hD⟩ (fun i H' _ ⟨_, _, _, _, sm⟩ => sm.seq hS) ?_ ?_
    · rintro i x H' T hx ⟨zs, hz1, hz2, hz3, sm⟩ hT
      obtain ⟨b, hb, rfl⟩ := map_get hx
      have hil : i < ws.length := by
        rw [← hP.len]
        exact (List.getElem?_eq_some_iff.mp hb).1
      have hwi : ws[i]? = some ws[i] := List.getElem?_eq_getElem hil
      have smT : Same H (upd H' T (.tup [nV i, V.ref b])) := sm.trans (Same.new hT)
      have hbt := smT.tup (hP.at_ i b _ hb hwi)
      refine ⟨T, _, rfl, SqT.of upd_same, rfl, _, _, rfl, _, _, rfl, rfl, rfl, yesI ?_⟩
      refine ⟨_, rfl, b, _, 0, nV ws[i].1, rfl, rfl, hbt, rfl, _, rfl, line_le (by show 2 ≤ 100000; decide), fun U hU => ?_⟩
      have hDT : D ≠ T := ne_of_none hz1 hT
      have hz1T : (upd H' T (.tup [nV i, V.ref b])) D = some (.lst (zs.map fun z => V.ref z.1)) := by
        rw [upd_ne hDT]
        exact hz1
      have hDU : D ≠ U := ne_of_none hz1T hU
      have hlz : zs.length ≤ 100 := by
        have := congrArg List.length hz3
        rw [List.length_map, List.length_map, List.length_take, keysOf_len] at this
        omega
      refine ⟨_, by rw [upd_ne hDU]; exact hz1T, line_lt (by rw [List.length_map]; omega), zs ++ [(U, ((ws[i].1 : Int), (i : Int)))], ?_, ?_, ?_, ?_⟩
      · rw [upd_same, List.map_append]
        rfl
      · intro z hz
        rcases List.mem_append.mp hz with hz | hz
        · have h2 := hz2 z hz
          have h3 : (upd H' T (.tup [nV i, V.ref b])) z.1 = some (.tup [.int z.2.1, .int z.2.2]) := by
            rw [upd_ne (ne_of_none h2 hT)]
            exact h2
          rw [upd_ne (ne_of h2 hz1 (by intro q; cases q)), upd_ne (ne_of_none h3 hU)]
          exact h3
        · rw [List.mem_singleton] at hz
          subst hz
          rw [upd_ne (Ne.symm hDU), upd_same]
          rfl
      · rw [take_snoc (keysOf_get hwi), List.map_append, List.map_append, hz3]
        rfl
      · exact (smT.trans (Same.new hU)).put hD
    · rintro H1 ⟨zs, hz1, hz2, hz3, sm1⟩
      rw [List.length_map, hP.len, List.take_of_length_le (by rw [keysOf_len]; exact Nat.le_refl _)] at hz3
      refine ⟨D, zs, rfl, SqL.of hz1, fun z hz => SqT.of (hz2 z hz), fun zs' p hperm hpw hp => ?_⟩
      have hord := order_of hz3 hperm hpw
      have sm2 : Same H (upd H1 p (.lst (zs'.map fun z => V.ref z.1))) := sm1.trans (Same.new hp)
      have hz2' : ∀ z ∈ zs', (upd H1 p (.lst (zs'.map fun z => V.ref z.1))) z.1 = some (.tup [.int z.2.1, .int z.2.2]) := fun z hz => by
        have h2 := hz2 z (hperm.mem_iff.mp hz)
        rw [upd_ne (ne_of_none h2 hp)]
        exact h2
      have hpp : (upd H1 p (.lst (zs'.map fun z => V.ref z.1))) p = some (.lst (zs'.map fun z => V.ref z.1)) := upd_same
      generalize hH2 : upd H1 p (.lst (zs'.map fun z => V.ref z.1)) = H2 at *
      -- seats = [0 for way in ways]
      refine ⟨_, rfl, a, rfl, ⟨_, sm2.seq hS⟩, fun t ht => ?_⟩
      refine lc_list (K := K) (a := a) (xs := as.map V.ref) (fun i H' => H' t = some (.lst (nvs (List.replicate i 0))) ∧ Same H2 H') ⟨upd_same, Same.new ht⟩ (fun i H' _ q => q.2.seq (sm2.seq hS)) ?_ ?_
      · rintro i x H' hx ⟨ht', sm⟩
        have hil : i < as.length := by
          have := (List.getElem?_eq_some_iff.mp hx).1
          rw [List.length_map] at this
          exact this
        refine ⟨rfl, yesI ?_⟩
        refine ⟨_, ht', line_lt (by rw [nvs_len, List.length_replicate]; have := hP.len; omega), ?_, sm.put ht⟩
        rw [upd_same, List.replicate_succ', nvs_snoc]
        rfl
      · rintro H3 ⟨ht3, sm3⟩
        rw [List.length_map, hP.len] at ht3
        -- gets_out = []
        refine ⟨Nat.zero_le _, fun g hg => ?_⟩
        have htg : t ≠ g := ne_of_none ht3 hg
        have sm4 : Same H2 (upd H3 g (.lst [])) := sm3.trans (Same.new hg)
        have ht0 : H t = none := sm2.free ht
        have hg0 : H g = none := (sm2.trans sm3).free hg
        have ht2 : H2 t = none := ht
        have hg2 : H2 g = none := sm3.free hg
        -- for from_stop, told in by_beginning
        refine ⟨_, rfl, p, rfl, ⟨_, SqL.of (sm4 _ _ hpp)⟩, for_list (K := K) (a := p) (xs := zs'.map fun z => V.ref z.1) (fun i σ H' => ∃ v4 v5 v6 v7 : Option V, σ = [some (.ref a), some (.ref p), some (.ref t), some (.ref g), v4, v5, v6, v7] ∧ Same H2 H' ∧
            H' t = some (.lst (nvs (((orderOf ws).take i).foldl (stepSeat ws) ([], List.replicate ws.length 0)).2)) ∧ H' g = some (.lst (nvs (((orderOf ws).take i).foldl (stepSeat ws) ([], List.replicate ws.length 0)).1)))
          ⟨_, _, _, _, rfl, sm4, by rw [upd_ne htg]; exact ht3, upd_same⟩ (fun i σ H' _ ⟨_, _, _, _, _, q, _⟩ => SqL.of (q _ _ hpp)) ?_ ?_⟩
        · rintro i y σ H' hy ⟨v4, v5, v6, v7, rfl, sm, htS, hgS⟩
          obtain ⟨z, hz, rfl⟩ := map_get hy
          have hzt := sm _ _ (hz2' z (List.mem_of_getElem? hz))
          obtain ⟨o, ho, ez⟩ : ∃ o, (orderOf ws)[i]? = some o ∧ z.2 = pI o := by
            have h1 : (zs'.map (·.2))[i]? = some z.2 := by rw [List.getElem?_map, hz]; rfl
            rw [hord] at h1
            exact map_get h1
          obtain ⟨wy, hwy, ewy⟩ := order_mem (List.mem_of_getElem? ho)
          have htl : o.2 < ws.length := (List.getElem?_eq_some_iff.mp hwy).1
          obtain ⟨by_, hby⟩ : ∃ b, as[o.2]? = some b := ⟨_, List.getElem?_eq_getElem (by rw [hP.len]; exact htl)⟩
          have hwt := hP.at_ _ _ _ hby hwy
          rw [foldl_take ho]
          obtain ⟨sl1, sl2⟩ := step_len ws ((orderOf ws).take i) ([], List.replicate ws.length 0)
          have hol : ((orderOf ws).take i).length ≤ 100 := by
            rw [List.length_take, (orderOf_perm ws).length_eq, keysOf_len]
            omega
          generalize hst : ((orderOf ws).take i).foldl (stepSeat ws) ([], List.replicate ws.length 0) = st at *
          have e1 : z.2.1 = ((o.1 : Nat) : Int) := by rw [ez]; rfl
          have e2 : z.2.2 = ((o.2 : Nat) : Int) := by rw [ez]; rfl
          rw [e1, e2] at hzt
          rw [List.length_nil, Nat.zero_add] at sl2
          rw [List.length_replicate] at sl1
          -- the pair; seat = least_seat_left(gets_out, from_stop)
          refine ⟨z.1, _, rfl, SqT.of hzt, rfl, _, _, rfl, _, _, rfl, rfl, ?_⟩
          refine ⟨_, rfl, _, rfl, g, st.1, o.1, rfl, SqL.of hgS, fun H5 sm5 => ?_⟩
          have hg5 := sm5 _ _ hgS
          have ht5 := sm5 _ _ htS
          have hls := (leftSeat_spec st.1 o.1).1
          have estep : stepSeat ws st o = (outs st.1 (leftSeat st.1 o.1) wy.2, st.2.set o.2 (leftSeat st.1 o.1)) := by
            unfold stepSeat
            rw [List.getD_eq_getElem?_getD, hwy]
            rfl
          rw [estep]
          generalize hlq : leftSeat st.1 o.1 = q at *
          have sm25 : Same H2 H5 := sm.trans sm5
          -- behind the if: gets_out is long enough
          have rest : ∀ H6 : Hp, Same H2 H6 → H6 t = some (.lst (nvs st.2)) → H6 g = some (.lst (nvs (if q = st.1.length then st.1 ++ [0] else st.1))) →
              tSeq (tAsg (tOp (rIxT K) (tOp (rIxL K) (tVar 0) (tVar 5)) (tC (.int 1))) (gSub (tVar 3) (tVar 6) rSetL)) (tAsg (tVar 6) (gSub (tVar 2) (tVar 5) rSetL))
                { nx := fun σ H' => ∃ v4 v5 v6 v7 : Option V, σ = [some (.ref a), some (.ref p), some (.ref t), some (.ref g), v4, v5, v6, v7] ∧ Same H2 H' ∧ H' t = some (.lst (nvs (st.2.set o.2 q))) ∧ H' g = some (.lst (nvs (outs st.1 q wy.2))), rt := Q }
                [some (.ref a), some (.ref p), some (.ref t), some (.ref g), some (nV o.1), some (nV o.2), some (nV q), v7] H6 := by
            intro H6 sm6 ht6 hg6
            have smA : Same H H6 := sm2.trans sm6
            have hlg : q < (if q = st.1.length then st.1 ++ [0] else st.1).length := by
              by_cases c : q = st.1.length
              · rw [if_pos c, List.length_append, List.length_singleton]
                omega
              · rw [if_neg c]
                omega
            have hix : ∀ {n j : Nat}, j < n → ixN n ((j : Nat) : Int) = some j := fun {n j} h => by
              unfold ixN
              rw [if_pos (by omega), if_pos (by omega), Int.toNat_natCast]
            refine ⟨_, rfl, _, rfl, a, _, _, _, rfl, rfl, smA.seq hS, atI_nat (j := o.2) (v := V.ref by_) (by rw [List.getElem?_map, hby]; rfl), by_, _, 1, nV wy.2, rfl, rfl, smA.tup hwt, rfl, _, rfl, _, rfl, g, _, _, q, rfl, rfl, hg6, hix (by rw [nvs_len]; exact hlg), ?_⟩
            have ht6' : (upd H6 g (.lst ((nvs (if q = st.1.length then st.1 ++ [0] else st.1)).set q (nV wy.2)))) t = some (.lst (nvs st.2)) := by
              rw [upd_ne htg]
              exact ht6
            refine ⟨_, rfl, _, rfl, _, rfl, t, _, _, o.2, rfl, rfl, ht6', hix (by rw [nvs_len, sl1]; exact htl), ?_⟩
            refine ⟨_, _, _, _, rfl, (sm6.put hg2).put ht2, ?_, ?_⟩
            · rw [upd_same, nvs_set]
            · rw [upd_ne (Ne.symm htg), upd_same, nvs_set]
              rfl
          refine ⟨_, rfl, _, rfl, _, st.1.length, rfl, .inl ⟨_, SqL.of hg5, (nvs_len st.1).symm⟩, rfl, _, rfl, ?_⟩
          have ed : decide (nV q = V.int (st.1.length : Int)) = decide (q = st.1.length) := by
            rw [decide_eq_decide]
            unfold nV
            constructor
            · intro e
              injection e with e
              omega
            · intro e
              rw [e]
          rw [ed]
          by_cases c : q = st.1.length
          · rw [decide_eq_true c]
            refine iteT ?_
            refine ⟨_, rfl, .inl ⟨rfl, _, SqL.of hg5⟩, g, _, _, rfl, rfl, hg5, line_lt (by rw [nvs_len]; omega), ?_⟩
            refine rest _ (sm25.put hg2) (by rw [upd_ne htg]; exact ht5) ?_
            rw [upd_same, if_pos c, nvs_snoc]
            rfl
          · rw [decide_eq_false c]
            refine iteF ?_
            refine rest _ sm25 ht5 ?_
            rw [if_neg c]
            exact hg5
        · rintro σ H' ⟨v4, v5, v6, v7, rfl, sm, htS, hgS⟩
          have hlz : zs'.length = (orderOf ws).length := by
            have := congrArg List.length hord
            rw [List.length_map, List.length_map] at this
            exact this
          rw [List.length_map, hlz, List.take_length] at htS
          exact ⟨_, rfl, k H' t (sm2.trans sm) ht0 htS⟩
end
end Ts

end
section
/-! The program's heap, part 7: a booking, and what a train tells of its bookings. -/
set_option Elab.async false
set_option maxRecDepth 100000
set_option maxHeartbeats 2000000
namespace Ts
open PySem PySem.Spec PyProof.Rows L2
theorem pe_fldB {X : Cx} {K : PySem.W.Frag} {e : Expr} {f : Str} {pos : Pos} {ta : TE} (he : PE X e ta) (hb : attributeBase e f X.env (eval e X.env) = eval e X.env) (hK : X.K = K := by rfl) : PE X (.Attribute e f pos) (tFld K ta f) := by
  subst hK
  exact pe_fld he hb
abbrev cBooking : Stmt := top 30
abbrev cTrain : Stmt := top 31
abbrev cDesk : Stmt := top 32
abbrev sBInit : Stmt := inClass cBooking 0
abbrev sHas : Stmt := inClass cBooking 1
abbrev sSeat : Stmt := inClass cBooking 2
abbrev sTInit : Stmt := inClass cTrain 0
abbrev sWay : Stmt := inClass cTrain 1
abbrev sLive : Stmt := inClass cTrain 3
abbrev sFree : Stmt := inClass cTrain 4
abbrev sAll : Stmt := inClass cTrain 8
/-- a booking's attributes, its row at r -/
def bkf (b : Bk) (r : Addr) : List (Str × V) := putF "cancelled" (.bl b.can) (putF "row" (.ref r) (putF "to_stop" (nV b.to_) (putF "from_stop" (nV b.fr) [])))
theorem bkf_from (b : Bk) (r : Addr) : (bkf b r).lookup ("from_stop" : Str) = some (nV b.fr) := by
  unfold bkf
  rw [lookup_putF, if_neg (by decide +kernel), lookup_putF, if_neg (by decide +kernel), lookup_putF, if_neg (by decide +kernel), lookup_putF, if_pos rfl]
theorem bkf_to (b : Bk) (r : Addr) : (bkf b r).lookup ("to_stop" : Str) = some (nV b.to_) := by
  unfold bkf
  rw [lookup_putF, if_neg (by decide +kernel), lookup_putF, if_neg (by decide +kernel), lookup_putF, if_pos rfl]
theorem bkf_row (b : Bk) (r : Addr) : (bkf b r).lookup ("row" : Str) = some (.ref r) := by
  unfold bkf
  rw [lookup_putF, if_neg (by decide +kernel), lookup_putF, if_pos rfl]
theorem bkf_can (b : Bk) (r : Addr) : (bkf b r).lookup ("cancelled" : Str) = some (.bl b.can) := by
  unfold bkf
  rw [lookup_putF, if_pos rfl]
theorem bkf_no (b : Bk) (r : Addr) {m : Str} (h1 : ¬ m = "cancelled") (h2 : ¬ m = "row") (h3 : ¬ m = "to_stop") (h4 : ¬ m = "from_stop") : (bkf b r).lookup m = none := by
  unfold bkf
  rw [lookup_putF, if_neg h1, lookup_putF, if_neg h2, lookup_putF, if_neg h3, lookup_putF, if_neg h4]
  rfl
theorem bkf_putRow (b : Bk) (r r' : Addr) (row : List Nat) : putF "row" (.ref r') (bkf b r) = bkf { b with row := row } r' := rfl
theorem bkf_putCan (b : Bk) (r : Addr) (c : Bool) : putF "cancelled" (.bl c) (bkf b r) = bkf { b with can := c } r := rfl
/-- a booking at a; its row is none of the lists at N -/
def BkAt (C : Addr) (N : List Addr) (H : Hp) (a : Addr) (b : Bk) : Prop := ∃ dx r, H a = some (.ins C dx (bkf b r)) ∧ H r = some (.lst (nvs b.row)) ∧ r ∉ N
theorem BkAt.same {C : Addr} {N : List Addr} {H H' : Hp} {a : Addr} {b : Bk} (h : BkAt C N H a b) (s : Same H H') : BkAt C N H' a b := by
  obtain ⟨dx, r, h1, h2, h3⟩ := h
  exact ⟨dx, r, s _ _ h1, s _ _ h2, h3⟩
/-- a train's attributes, its bookings at L -/
def trf (n s : Nat) (L : Addr) : List (Str × V) := putF "bookings" (.ref L) (putF "seats" (nV s) (putF "stops" (nV n) []))
theorem trf_bk (n s : Nat) (L : Addr) : (trf n s L).lookup ("bookings" : Str) = some (.ref L) := by
  unfold trf
  rw [lookup_putF, if_pos rfl]
theorem trf_seats (n s : Nat) (L : Addr) : (trf n s L).lookup ("seats" : Str) = some (nV s) := by
  unfold trf
  rw [lookup_putF, if_neg (by decide +kernel), lookup_putF, if_pos rfl]
theorem trf_stops (n s : Nat) (L : Addr) : (trf n s L).lookup ("stops" : Str) = some (nV n) := by
  unfold trf
  rw [lookup_putF, if_neg (by decide +kernel), lookup_putF, if_neg (by decide +kernel), lookup_putF, if_pos rfl]
theorem trf_no (n s : Nat) (L : Addr) {m : Str} (h1 : ¬ m = "bookings") (h2 : ¬ m = "seats") (h3 : ¬ m = "stops") : (trf n s L).lookup m = none := by
  unfold trf
  rw [lookup_putF, if_neg h1, lookup_putF, if_neg h2, lookup_putF, if_neg h3]
  rfl
/-- the train T at t: its dict, its list L of bookings, these at as; no row is the list at X -/
structure TrH (CB CT : Addr) (H : Hp) (t : Addr) (T : Tr) (dx L : Addr) (as : List Addr) (X : Addr) : Prop where
  obj : H t = some (.ins CT dx (trf T.stops T.seats L))
  lst : H L = some (.lst (as.map V.ref))
  nd : as.Nodup
  bks : Paired (BkAt CB [L, X] H) as T.bks
theorem TrH.same {CB CT : Addr} {H H' : Hp} {t : Addr} {T : Tr} {dx L : Addr} {as : List Addr} {X : Addr} (h : TrH CB CT H t T dx L as X) (s : Same H H') : TrH CB CT H' t T dx L as X :=
  ⟨s _ _ h.obj, s _ _ h.lst, h.nd, Paired.mapP h.bks fun _ _ q => q.same s⟩
/-- the addresses of those that are not cancelled -/
def liveA : List Addr → List Bk → List Addr
  | a :: as, b :: bs => if b.can then liveA as bs else a :: liveA as bs
  | _, _ => []
theorem liveA_snoc : ∀ {as : List Addr} {bs : List Bk} (a : Addr) (b : Bk), as.length = bs.length → liveA (as ++ [a]) (bs ++ [b]) = liveA as bs ++ (if b.can then [] else [a])
  | [], [], a, b, _ => by
    show (if b.can then liveA [] [] else a :: liveA [] []) = [] ++ _
    cases b.can <;> rfl
  | a0 :: as, b0 :: bs, a, b, h => by
    show (if b0.can then liveA (as ++ [a]) (bs ++ [b]) else a0 :: liveA (as ++ [a]) (bs ++ [b])) = (if b0.can then liveA as bs else a0 :: liveA as bs) ++ _
    rw [liveA_snoc (as := as) (bs := bs) a b (by simpa using h)]
    cases b0.can <;> rfl
  | [], b :: bs, _, _, h => by simp at h
  | a :: as, [], _, _, h => by simp at h
theorem live_paired {G : Addr → Bk → Prop} : ∀ {as : List Addr} {bs : List Bk}, Paired G as bs → Paired G (liveA as bs) (live bs)
  | _, _, .nil => .nil
  | _, _, .cons (a := a) (b := b) (l₁ := as) (l₂ := bs) h t => by
    have ih := live_paired t
    show Paired G (if b.can then liveA as bs else a :: liveA as bs) (List.filter _ (b :: bs))
    rw [List.filter_cons]
    cases b.can
    · exact .cons h ih
    · exact ih
theorem liveA_len : ∀ (as : List Addr) (bs : List Bk), (liveA as bs).length ≤ as.length
  | [], _ => Nat.zero_le _
  | a :: as, [] => Nat.zero_le _
  | a :: as, b :: bs => by
    have ih := liveA_len as bs
    show (if b.can then liveA as bs else a :: liveA as bs).length ≤ as.length + 1
    cases b.can
    · exact Nat.succ_le_succ ih
    · exact Nat.le_succ_of_le ih
theorem liveA_sub : ∀ (as : List Addr) (bs : List Bk), (liveA as bs).Sublist as
  | [], _ => List.Sublist.slnil
  | a :: as, [] => List.nil_sublist _
  | a :: as, b :: bs => by
    have ih := liveA_sub as bs
    show (if b.can then liveA as bs else a :: liveA as bs).Sublist (a :: as)
    cases b.can
    · exact ih.cons_cons a
    · exact ih.cons a
/-! ### Booking -/
structure TxB (K : PySem.W.Frag) (C : Addr) : Prop where
  cl : Cls K C
  nf : NoAttr K C "from_stop"
  nt : NoAttr K C "to_stop"
  nr : NoAttr K C "row"
  nc : NoAttr K C "cancelled"
structure TxT (K : PySem.W.Frag) (C : Addr) : Prop where
  cl : Cls K C
  ns : NoAttr K C "stops"
  ne : NoAttr K C "seats"
  nb : NoAttr K C "bookings"
def spBInit (C : Addr) : Sp := fun vs H Q _ => ∃ (p dx : Addr) (x y : Nat), vs = [.ref p, nV x, nV y] ∧ H p = some (.ins C dx []) ∧ ∀ (H' : Hp) (r : Addr), H r = none → H' p = some (.ins C dx (bkf ⟨x, y, [], false⟩ r)) → H' r = some (.lst []) → (∀ b o, H b = some o → b ≠ p → H' b = some o) → Q .non H'
def spHas (C : Addr) : Sp := fun vs H Q _ => ∃ (a : Addr) (N : List Addr) (b : Bk) (k : Nat), vs = [.ref a, nV k] ∧ BkAt C N H a b ∧ Q (.bl (hasPart b.bk k)) H
def spSeat (C : Addr) : Sp := fun vs H Q _ => ∃ (a : Addr) (N : List Addr) (b : Bk) (k s : Nat), vs = [.ref a, nV k] ∧ BkAt C N H a b ∧ b.fr ≤ k ∧ b.row[k - b.fr]? = some s ∧ Q (nV s) H
section
variable {P : Program} {w : World} {K : PySem.W.Frag} {mg : Str → Option Value} {base : Heap}
theorem scBInit : FnScope ["self", "from_stop", "to_stop"] ["self", "from_stop", "to_stop"] (defScope sBInit) := ⟨rfl, rfl, rfl, by decide +kernel, rfl, by decide +kernel, by decide +kernel⟩
theorem ok_binit {f C : Addr} {fd : FuncData} (F : Fun K "__init__" "Booking.__init__" sBInit f fd) (T : TxB K C) : FnOk P w K mg base CX0 1 f fd ["self", "from_stop", "to_stop"] (spBInit C) := by
  refine F.ok scBInit (fun vs H Q E h => ?_) (fun cdv A outer s H vs Q E hr h => ?_)
  · obtain ⟨p, dx, x, y, rfl, _⟩ := h
    rfl
  · obtain ⟨p, dx, x, y, rfl, hp, k⟩ := h
    refine ⟨_, pss_cons (ps_fld (pv 0) (pv 1) rfl) (pss_cons (ps_fld (pv 0) (pv 2) rfl) (pss_cons (ps_fld (pv 0) (pe_lst pa_nil) rfl) (pss_one (ps_fld (pv 0) pe_bl rfl)))), ?_⟩
    refine ⟨_, rfl, _, rfl, p, C, dx, [], rfl, hp, T.cl, T.nf, (by show 0 < 1000; decide), ?_⟩
    refine ⟨_, rfl, _, rfl, p, C, dx, _, rfl, upd_same, T.cl, T.nt, (by show 1 < 1000; decide), ?_⟩
    refine ⟨Nat.zero_le _, fun r hr0 => ?_⟩
    have hpr : p ≠ r := fun e => by
      rw [← e, upd_same] at hr0
      cases hr0
    have hr1 : H r = none := by
      rw [upd_ne (Ne.symm hpr), upd_ne (Ne.symm hpr)] at hr0
      exact hr0
    refine ⟨_, rfl, p, C, dx, _, rfl, by rw [upd_ne hpr]; exact upd_same, T.cl, T.nr, (by show 2 < 1000; decide), ?_⟩
    refine ⟨_, rfl, p, C, dx, _, rfl, upd_same, T.cl, T.nc, (by show 3 < 1000; decide), ?_⟩
    refine k _ r hr1 ?_ ?_ fun b o e hb => ?_
    · rw [upd_same]
      rfl
    · rw [upd_ne (Ne.symm hpr), upd_ne (Ne.symm hpr), upd_same]
    · rw [upd_ne hb, upd_ne hb, upd_ne (ne_of_none e hr1), upd_ne hb, upd_ne hb]
      exact e
theorem scHas : FnScope ["self", "part"] ["self", "part"] (defScope sHas) := ⟨rfl, rfl, rfl, by decide +kernel, rfl, by decide +kernel, by decide +kernel⟩
theorem ok_has {f C : Addr} {fd : FuncData} (F : Fun K "has_part" "Booking.has_part" sHas f fd) (T : TxB K C) : FnOk P w K mg base CX0 1 f fd ["self", "part"] (spHas C) := by
  refine F.ok scHas (fun vs H Q E h => ?_) (fun cdv A outer s H vs Q E hr h => ?_)
  · obtain ⟨a, L, b, k, rfl, _⟩ := h
    rfl
  · obtain ⟨a, L, b, k, rfl, ⟨dx, r, h1, h2, h3⟩, q⟩ := h
    refine ⟨_, pss_one (ps_ret (pe_chain op_le op_lt (pe_fld (pv 0) rfl) (pv 1) (pe_fld (pv 0) rfl))), ?_⟩
    refine ⟨_, rfl, a, C, dx, _, _, rfl, h1, T.cl, T.nf, bkf_from b r, _, rfl, _, _, rfl, rfl, _, rfl, ?_⟩
    have e1 : decide ((b.fr : Int) ≤ (k : Int)) = decide (b.fr ≤ k) := by
      rw [decide_eq_decide]
      omega
    have e2 : decide ((k : Int) < (b.to_ : Int)) = decide (k < b.to_) := by
      rw [decide_eq_decide]
      omega
    unfold hasPart at q
    rw [e1]
    by_cases c : b.fr ≤ k
    · rw [decide_eq_true c]
      refine iteT ⟨_, rfl, a, C, dx, _, _, rfl, h1, T.cl, T.nt, bkf_to b r, _, _, rfl, rfl, ?_⟩
      have q' : Q (.bl (decide (b.fr ≤ k) && decide (k < b.to_))) H := q
      rw [decide_eq_true c, Bool.true_and] at q'
      show Q (.bl (decide ((k : Int) < (b.to_ : Int)))) H
      rw [e2]
      exact q'
    · rw [decide_eq_false c]
      refine iteF ?_
      have q' : Q (.bl (decide (b.fr ≤ k) && decide (k < b.to_))) H := q
      rw [decide_eq_false c, Bool.false_and] at q'
      exact q'
theorem scSeat : FnScope ["self", "part"] ["self", "part"] (defScope sSeat) := ⟨rfl, rfl, rfl, by decide +kernel, rfl, by decide +kernel, by decide +kernel⟩
theorem ok_seat {f C : Addr} {fd : FuncData} (F : Fun K "seat_on" "Booking.seat_on" sSeat f fd) (T : TxB K C) : FnOk P w K mg base CX0 1 f fd ["self", "part"] (spSeat C) := by
  refine F.ok scSeat (fun vs H Q E h => ?_) (fun cdv A outer s H vs Q E hr h => ?_)
  · obtain ⟨a, L, b, k, n, rfl, _⟩ := h
    rfl
  · obtain ⟨a, L, b, k, n, rfl, ⟨dx, r, h1, h2, h3⟩, hk, hn, q⟩ := h
    refine ⟨_, pss_one (ps_ret (pe_ix ix_list (pe_fld (pv 0) rfl) (pe_op op_sub (pv 1) (pe_fld (pv 0) rfl)) (fun _ _ => rfl))), ?_⟩
    exact ⟨_, rfl, a, C, dx, _, _, rfl, h1, T.cl, T.nr, bkf_row b r, _, rfl, _, rfl, a, C, dx, _, _, rfl, h1, T.cl, T.nf, bkf_from b r, _, _, rfl, rfl, r, _, _, _, rfl, rfl, SqL.of h2, at_of (j := k - b.fr) (by omega) (nvs_get hn), q⟩
end
end Ts

end
section
/-! The program's heap, part 8: what a train tells. -/
set_option Elab.async false
set_option maxRecDepth 100000
set_option maxHeartbeats 2000000
namespace Ts
open PySem PySem.Spec PyProof.Rows L2
def spTInit (C : Addr) : Sp := fun vs H Q _ => ∃ (p dx : Addr) (n m : Nat), vs = [.ref p, nV n, nV m] ∧ H p = some (.ins C dx []) ∧ ∀ (H' : Hp) (L : Addr), H L = none → H' p = some (.ins C dx (trf n m L)) → H' L = some (.lst []) → (∀ b o, H b = some o → b ≠ p → H' b = some o) → Q .non H'
def spWay (CT : Addr) : Sp := fun vs H Q _ => ∃ (t dx L : Addr) (n m x y : Nat), vs = [.ref t, nV x, nV y] ∧ H t = some (.ins CT dx (trf n m L)) ∧ Q (.bl (decide (x < y) && decide (y < n))) H
def spLive (CB CT : Addr) : Sp := fun vs H Q _ => ∃ (t : Addr) (T : Tr) (dx L : Addr) (as : List Addr) (X : Addr), vs = [.ref t] ∧ TrH CB CT H t T dx L as X ∧ as.length ≤ 100 ∧
  ∀ (H' : Hp) (p : Addr), Same H H' → H p = none → H' p = some (.lst ((liveA as T.bks).map V.ref)) → Q (.ref p) H'
/-- rows as long as the ways -/
def RowsOk (l : List Bk) : Prop := ∀ b ∈ live l, b.row.length = b.to_ - b.fr
def spFree (CB CT : Addr) : Sp := fun vs H Q _ => ∃ (t : Addr) (T : Tr) (dx L : Addr) (as : List Addr) (X : Addr) (k : Nat), vs = [.ref t, nV k] ∧ TrH CB CT H t T dx L as X ∧ as.length ≤ 100 ∧ T.seats ≤ 100 ∧ RowsOk T.bks ∧
  ∀ (H' : Hp) (p : Addr), Same H H' → H p = none → H' p = some (.lst (nvs (freeOn T.seats ((live T.bks).map Bk.bk) k))) → Q (.ref p) H'
theorem paired_len {α β : Type} {G : α → β → Prop} {l : List α} {m : List β} (h : Paired G l m) : l.length = m.length := Paired.length h
theorem inV_nat (s : Nat) (l : List Nat) : inV (nV s) (nvs l) = l.contains s := by
  unfold inV nvs
  rw [List.any_map, Bool.eq_iff_iff, List.any_eq_true, List.contains_iff_mem]
  constructor
  · rintro ⟨x, hx, e⟩
    have e' : ((x : Int) == (s : Int)) = true := e
    have : x = s := by
      have := eq_of_beq e'
      omega
    rw [← this]
    exact hx
  · intro h
    exact ⟨s, h, beq_self_eq_true ((s : Nat) : Int)⟩
theorem flat_nvs (l : List Nat) : (nvs l).all flatV = true := by
  rw [List.all_eq_true]
  intro x hx
  obtain ⟨n, _, rfl⟩ := List.mem_map.mp hx
  rfl
section
variable {P : Program} {w : World} {K : PySem.W.Frag} {mg : Str → Option Value} {base : Heap}
theorem scTInit : FnScope ["self", "stops", "seats"] ["self", "stops", "seats"] (defScope sTInit) := ⟨rfl, rfl, rfl, by decide +kernel, rfl, by decide +kernel, by decide +kernel⟩
theorem ok_tinit {f C : Addr} {fd : FuncData} (F : Fun K "__init__" "Train.__init__" sTInit f fd) (T : TxT K C) : FnOk P w K mg base CX0 1 f fd ["self", "stops", "seats"] (spTInit C) := by
  refine F.ok scTInit (fun vs H Q E h => ?_) (fun cdv A outer s H vs Q E hr h => ?_)
  · obtain ⟨p, dx, x, y, rfl, _⟩ := h
    rfl
  · obtain ⟨p, dx, x, y, rfl, hp, k⟩ := h
    refine ⟨_, pss_cons (ps_fld (pv 0) (pv 1) rfl) (pss_cons (ps_fld (pv 0) (pv 2) rfl) (pss_one (ps_fld (pv 0) (pe_lst pa_nil) rfl))), ?_⟩
    refine ⟨_, rfl, _, rfl, p, C, dx, [], rfl, hp, T.cl, T.ns, (by show 0 < 1000; decide), ?_⟩
    refine ⟨_, rfl, _, rfl, p, C, dx, _, rfl, upd_same, T.cl, T.ne, (by show 1 < 1000; decide), ?_⟩
    refine ⟨Nat.zero_le _, fun r hr0 => ?_⟩
    have hpr : p ≠ r := fun e => by
      rw [← e, upd_same] at hr0
      cases hr0
    have hr1 : H r = none := by
      rw [upd_ne (Ne.symm hpr), upd_ne (Ne.symm hpr)] at hr0
      exact hr0
    refine ⟨_, rfl, p, C, dx, _, rfl, by rw [upd_ne hpr]; exact upd_same, T.cl, T.nb, (by show 2 < 1000; decide), ?_⟩
    refine k _ r hr1 ?_ ?_ fun b o e hb => ?_
    · rw [upd_same]
      rfl
    · rw [upd_ne (Ne.symm hpr), upd_same]
    · rw [upd_ne hb, upd_ne (ne_of_none e hr1), upd_ne hb, upd_ne hb]
      exact e
theorem scWay : FnScope ["self", "from_stop", "to_stop"] ["self", "from_stop", "to_stop"] (defScope sWay) := ⟨rfl, rfl, rfl, by decide +kernel, rfl, by decide +kernel, by decide +kernel⟩
theorem ok_way {f C : Addr} {fd : FuncData} (F : Fun K "is_way" "Train.is_way" sWay f fd) (T : TxT K C) : FnOk P w K mg base CX0 1 f fd ["self", "from_stop", "to_stop"] (spWay C) := by
  refine F.ok scWay (fun vs H Q E h => ?_) (fun cdv A outer s H vs Q E hr h => ?_)
  · obtain ⟨t, dx, L, n, m, x, y, rfl, _⟩ := h
    rfl
  · obtain ⟨t, dx, L, n, m, x, y, rfl, ht, q⟩ := h
    refine ⟨_, pss_one (ps_ret (pe_chain op_lt op_lt (pv 1) (pv 2) (pe_fld (pv 0) rfl))), ?_⟩
    refine ⟨_, rfl, _, rfl, _, _, rfl, rfl, _, rfl, ?_⟩
    have e1 : decide ((x : Int) < (y : Int)) = decide (x < y) := by
      rw [decide_eq_decide]
      omega
    have e2 : decide ((y : Int) < (n : Int)) = decide (y < n) := by
      rw [decide_eq_decide]
      omega
    rw [e1]
    by_cases c : x < y
    · rw [decide_eq_true c, Bool.true_and] at q
      rw [decide_eq_true c]
      refine iteT ⟨_, rfl, t, C, dx, _, _, rfl, ht, T.cl, T.ns, trf_stops n m L, _, _, rfl, rfl, ?_⟩
      show Q (.bl (decide ((y : Int) < (n : Int)))) H
      rw [e2]
      exact q
    · rw [decide_eq_false c, Bool.false_and] at q
      rw [decide_eq_false c]
      exact iteF q
theorem scLive : FnScope ["self", "booking"] ["self"] (defScope sLive) := ⟨rfl, rfl, rfl, by decide +kernel, rfl, by decide +kernel, by decide +kernel⟩
theorem ok_live {f CB CT : Addr} {fd : FuncData} (F : Fun K "live_bookings" "Train.live_bookings" sLive f fd) (TB : TxB K CB) (TT : TxT K CT) : FnOk P w K mg base CX0 1 f fd ["self"] (spLive CB CT) := by
  refine F.ok scLive (fun vs H Q E h => ?_) (fun cdv A outer s H vs Q E hr h => ?_)
  · obtain ⟨t, T, dx, L, as, X, rfl, _⟩ := h
    rfl
  · obtain ⟨t, T, dx, L, as, X, rfl, hT, hl, k⟩ := h
    refine ⟨_, pss_one (ps_ret (pe_lc rfl scLive.nd (pi_list (pe_fld (pv 0) rfl)) (own := [("booking", 1)]) (blkOk_by (by show blkC ["self", "booking"] (defScope sLive) _ _ = true; decide +kernel))
        (fun _ _ _ _ _ => pg_name (i := 1) scLive.nd rfl (Or.inl rfl))
        (fun _ _ _ _ _ => pts_one (pt_not (pt_val (pe_fldB (K := K) (pv 1) rfl))))
        (fun _ _ _ _ _ => pv 1))), ?_⟩
    refine ⟨_, rfl, t, CT, dx, _, _, rfl, hT.obj, TT.cl, TT.nb, trf_bk _ _ _, L, rfl, ⟨_, SqL.of hT.lst⟩, fun D hD => ?_⟩
    have hbl := paired_len hT.bks
    refine lc_list (K := K) (a := L) (xs := as.map V.ref) (fun i H' => H' D = some (.lst ((liveA (as.take i) (T.bks.take i)).map V.ref)) ∧ Same H H') ⟨upd_same, Same.new hD⟩ (fun i H' _ q => SqL.of (q.2 _ _ hT.lst)) ?_ ?_
    · rintro i x H' hx ⟨hD', sm⟩
      obtain ⟨a, ha, rfl⟩ := map_get hx
      obtain ⟨b, hb, hB⟩ := paired_get hT.bks ha
      obtain ⟨dx1, r, h1, h2, h3⟩ := hB
      have hil := (List.getElem?_eq_some_iff.mp ha).1
      have el : liveA (as.take (i + 1)) (T.bks.take (i + 1)) = liveA (as.take i) (T.bks.take i) ++ (if b.can then [] else [a]) := by
        rw [take_snoc ha, take_snoc hb]
        exact liveA_snoc a b (by rw [List.length_take, List.length_take, hbl])
      refine ⟨rfl, _, rfl, a, CB, dx1, _, _, rfl, sm _ _ h1, TB.cl, TB.nc, bkf_can b r, b.can, rfl, ?_⟩
      rw [el]
      cases hc : b.can
      · refine iteT ⟨_, rfl, _, hD', line_lt ?_, ?_, sm.put hD⟩
        · rw [List.length_map]
          have := liveA_len (as.take i) (T.bks.take i)
          rw [List.length_take] at this
          omega
        · rw [upd_same, List.map_append]
          rfl
      · refine iteF ⟨?_, sm⟩
        rw [hD', List.map_append]
        simp
    · rintro H' ⟨hD', sm⟩
      rw [List.length_map, List.take_length, List.take_of_length_le (by omega)] at hD'
      exact k H' D sm hD hD'
theorem scFree : FnScope ["self", "part", "taken", "booking", "seat"] ["self", "part"] (defScope sFree) := ⟨rfl, rfl, rfl, by decide +kernel, rfl, by decide +kernel, by decide +kernel⟩
theorem ok_free {f CB CT : Addr} {fd : FuncData} (F : Fun K "free_on" "Train.free_on" sFree f fd) (B : Bl mg) (TB : TxB K CB) (TT : TxT K CT) (M1 : MethOk P w K mg base CT "live_bookings" ["self"] 1 (spLive CB CT))
    (M2 : MethOk P w K mg base CB "has_part" ["self", "part"] 1 (spHas CB)) (M3 : MethOk P w K mg base CB "seat_on" ["self", "part"] 1 (spSeat CB)) : FnOk P w K mg base CX0 2 f fd ["self", "part"] (spFree CB CT) := by
  obtain ⟨f1, fd1, m1, b1, G1⟩ := M1
  obtain ⟨f2, fd2, m2, b2, G2⟩ := M2
  obtain ⟨f3, fd3, m3, b3, G3⟩ := M3
  refine F.ok scFree (fun vs H Q E h => ?_) (fun cdv A outer s H vs Q E hr h => ?_)
  · obtain ⟨t, T, dx, L, as, X, k, rfl, _⟩ := h
    rfl
  · obtain ⟨t, T, dx, L, as, X, k, rfl, hT, hl, hs, hR, q⟩ := h
    refine ⟨_, pss_cons (ps_set (i := 2) scFree.nd rfl (Or.inr rfl) (pe_lc rfl scFree.nd (pi_list (pe_meth0 (pv 0) TT.cl m1 G1 hr b1 .nil pass0)) (own := [("booking", 3)])
          (blkOk_by (by show blkC ["self", "part", "taken", "booking", "seat"] (defScope sFree) _ _ = true; decide +kernel))
          (fun _ _ _ _ _ => pg_name (i := 3) scFree.nd rfl (Or.inl rfl))
          (fun _ _ _ _ _ => pts_one (pt_val (pe_meth (pv 3) TB.cl m2 G2 hr b2 .nil pass0 (pa_cons (pv 1) pa_nil))))
          (fun _ _ _ _ _ => pe_meth (pv 3) TB.cl m3 G3 hr b3 .nil pass0 (pa_cons (pv 1) pa_nil))))
      (pss_one (ps_ret (pe_lc rfl scFree.nd (pi_range1 rfl B.range (pa_cons (pe_fld (pv 0) rfl) pa_nil)) (own := [("seat", 4)])
          (blkOk_by (by show blkC ["self", "part", "taken", "booking", "seat"] (defScope sFree) _ _ = true; decide +kernel))
          (fun _ _ _ _ _ => pg_name (i := 4) scFree.nd rfl (Or.inl rfl))
          (fun _ _ _ _ _ => pts_one (pt_cmpR (r := rIn K true) op_notIn_seq (pv 4) (pv 2) (by with_unfolding_all rfl)))
          (fun _ _ _ _ _ => pv 4)))), ?_⟩
    -- taken = [..]
    refine ⟨_, rfl, t, dx, _, rfl, hT.obj, trf_no _ _ _ (by decide +kernel) (by decide +kernel) (by decide +kernel), t, T, dx, L, as, X, rfl, hT, hl, fun H1 p sm1 hp0 hp1 => ?_⟩
    have hLv := live_paired hT.bks
    generalize hla : liveA as T.bks = la at *
    have hlal : la.length ≤ 100 := by
      rw [← hla]
      exact Nat.le_trans (liveA_len _ _) hl
    refine ⟨p, rfl, ⟨_, SqL.of hp1⟩, fun D hD => ?_⟩
    have hDp : D ≠ p := fun e => by
      rw [e, hp1] at hD
      cases hD
    have hlen := paired_len hLv
    refine lc_list (K := K) (a := p) (xs := la.map V.ref) (fun i H' => H' D = some (.lst (nvs (takenOn (((live T.bks).take i).map Bk.bk) k))) ∧ Same H1 H') ⟨upd_same, Same.new hD⟩ (fun i H' _ z => SqL.of (z.2 _ _ hp1)) ?_ ?_
    · rintro i x H' hx ⟨hD', sm⟩
      obtain ⟨a, ha, rfl⟩ := map_get hx
      obtain ⟨b, hb, hB⟩ := paired_get hLv ha
      have hB' : BkAt CB [L, X] H' a b := (hB.same sm1).same sm
      obtain ⟨dx1, r, h1, h2, h3⟩ := id hB'
      have hil := (List.getElem?_eq_some_iff.mp ha).1
      have et : takenOn (((live T.bks).take (i + 1)).map Bk.bk) k = takenOn (((live T.bks).take i).map Bk.bk) k ++ (if hasPart b.bk k then [b.row.getD (k - b.fr) 0] else []) := by
        unfold takenOn
        rw [take_snoc hb, List.map_append, List.filter_append, List.map_append]
        congr 1
        show (List.filter _ [b.bk]).map _ = _
        rw [List.filter_cons]
        cases hasPart b.bk k <;> rfl
      refine ⟨rfl, ?_⟩
      refine ⟨_, rfl, a, dx1, _, rfl, h1, bkf_no b r (by decide +kernel) (by decide +kernel) (by decide +kernel) (by decide +kernel), _, rfl, a, [L, X], b, k, rfl, hB', _, rfl, ?_⟩
      rw [et]
      cases hh : hasPart b.bk k
      · refine iteF ⟨?_, sm⟩
        rw [hD']
        simp
      · have hh' : b.fr ≤ k ∧ k < b.to_ := by
          unfold hasPart at hh
          rw [Bool.and_eq_true, decide_eq_true_eq, decide_eq_true_eq] at hh
          exact hh
        have hrow := hR b (List.mem_of_getElem? hb)
        have hs0 : b.row[k - b.fr]? = some (b.row.getD (k - b.fr) 0) := by
          rw [List.getD_eq_getElem?_getD, List.getElem?_eq_getElem (by omega)]
          rfl
        refine iteT ⟨_, rfl, a, dx1, _, rfl, h1, bkf_no b r (by decide +kernel) (by decide +kernel) (by decide +kernel) (by decide +kernel), _, rfl, a, [L, X], b, k, _, rfl, hB', hh'.1, hs0, ?_⟩
        refine ⟨_, hD', line_lt ?_, ?_, sm.put hD⟩
        · rw [nvs_len]
          unfold takenOn
          rw [List.length_map]
          refine Nat.le_trans (List.length_filter_le _ _) ?_
          rw [List.length_map, List.length_take]
          omega
        · rw [upd_same, if_pos rfl, nvs_snoc]
    · rintro H2 ⟨hD2, sm2⟩
      rw [List.length_map, List.take_of_length_le (by omega)] at hD2
      have smA : Same H H2 := sm1.trans sm2
      -- return [seat ..]
      refine ⟨_, rfl, t, CT, dx, _, _, rfl, smA _ _ hT.obj, TT.cl, TT.ne, trf_seats _ _ _, (T.seats : Int), rfl, by omega, by omega, fun D2 hD2n => ?_⟩
      have hDD : D ≠ D2 := ne_of_none hD2 hD2n
      have hz : ((T.seats : Int)).toNat = T.seats := Int.toNat_natCast _
      rw [hz]
      refine lc_range (fun i H' => H' D2 = some (.lst (nvs (freeOn i ((live T.bks).map Bk.bk) k))) ∧ Same H2 H') ⟨upd_same, Same.new hD2n⟩ ?_ ?_
      · rintro i H' hi ⟨hD', sm⟩
        have ef : freeOn (i + 1) ((live T.bks).map Bk.bk) k = freeOn i ((live T.bks).map Bk.bk) k ++ (if !(takenOn ((live T.bks).map Bk.bk) k).contains i then [i] else []) := by
          unfold freeOn
          rw [List.range_succ, List.filter_append, List.filter_cons]
          cases !(takenOn ((live T.bks).map Bk.bk) k).contains i <;> rfl
        have e0 : V.int (0 + (i : Int)) = nV i := by
          unfold nV
          rw [Int.zero_add]
        rw [e0]
        refine ⟨rfl, ?_⟩
        refine ⟨_, rfl, _, rfl, D, _, rfl, .inl (SqL.of (sm _ _ hD2)), rfl, flat_nvs _, _, rfl, ?_⟩
        rw [inV_nat, ef]
        show if (!(takenOn ((live T.bks).map Bk.bk) k).contains i) = true then _ else _
        cases hc : !(takenOn ((live T.bks).map Bk.bk) k).contains i
        · refine iteF ⟨?_, sm⟩
          rw [hD']
          simp
        · refine iteT ⟨_, rfl, _, hD', line_lt ?_, ?_, sm.put hD2n⟩
          · rw [nvs_len]
            unfold freeOn
            refine Nat.le_trans (List.length_filter_le _ _) ?_
            rw [List.length_range]
            omega
          · rw [upd_same, if_pos rfl, nvs_snoc]
      · rintro H3 ⟨hD3, sm3⟩
        exact q H3 D2 (smA.trans sm3) (smA.free hD2n) hD3
end
end Ts

end
section
/-! The program's heap, part 9: all seated at once. -/
set_option Elab.async false
set_option maxRecDepth 100000
set_option maxHeartbeats 2000000
namespace Ts
open PySem PySem.Spec PyProof.Rows L2
/-- for x, y in zip(xs, ys), lists of one length -/
theorem for_zip {K : PySem.W.Frag} {a b : Addr} {xs ys : List V} {g : TG} {tb : TS} {D : Ends} {σ : L2.St} {H : Hp} (hlen : xs.length = ys.length) (Pv : Nat → L2.St → Hp → Prop) (h0 : Pv 0 σ H) (hl : ∀ i σ H, i ≤ xs.length → Pv i σ H → SqL K H a xs ∧ SqL K H b ys)
    (hs : ∀ i x y σ H T, xs[i]? = some x → ys[i]? = some y → Pv i σ H → H T = none → g (.ref T) σ (upd H T (.tup [x, y])) fun σ2 H2 => tb { D with nx := Pv (i + 1), ct := Pv (i + 1), bk := D.nx } σ2 H2) (hd : ∀ σ H, Pv xs.length σ H → D.nx σ H) :
    ∃ W : Nat → Nat → L2.St → Hp → Prop, (∃ m, W 0 m σ H) ∧ ∀ i m σ H, W i m σ H →
      ((Itz K a b).stop i H ∧ D.nx σ H) ∨ ((Itz K a b).go i H ∧ ∃ N : L2.St → Hp → Prop, (∀ σ' H', N σ' H' → ∃ m', m' < m ∧ W (i + 1) m' σ' H') ∧ ∀ x H', (Itz K a b).yld i H x H' → g x σ H' fun σ2 H2 => tb { D with nx := N, ct := N, bk := D.nx } σ2 H2) := by
  refine ⟨fun i m σ H => m = xs.length - i ∧ i ≤ xs.length ∧ Pv i σ H, ⟨xs.length, by simp, Nat.zero_le _, h0⟩, ?_⟩
  rintro i m σ H ⟨rfl, hi, p⟩
  obtain ⟨q1, q2⟩ := hl i σ H hi p
  by_cases hlt : i < xs.length
  · have hlt2 : i < ys.length := by omega
    refine .inr ⟨⟨xs, ys, xs[i], ys[i], q1, q2, by simp [hlt], by simp [hlt2]⟩, Pv (i + 1), fun σ' H' p' => ⟨xs.length - (i + 1), by omega, rfl, hlt, p'⟩, fun x H' y => ?_⟩
    obtain ⟨T, x0, y0, e1, e2, e3, h1, h2⟩ := y
    subst e1 e3
    exact hs i x0 y0 σ _ T (h1 xs q1) (h2 ys q2) p e2
  · have e : i = xs.length := by omega
    subst e
    exact .inl ⟨⟨xs, ys, q1, q2, .inl (Nat.le_refl _)⟩, hd σ H p⟩
theorem reseat_paired {G : Addr → Bk → Prop} : ∀ (as : List Addr) (bs : List Bk) (ss : List Nat), as.length = bs.length → ss.length = (live bs).length → (∀ (i : Nat) a b, as[i]? = some a → bs[i]? = some b → b.can = true → G a b) →
    (∀ (j : Nat) a b s, (liveA as bs)[j]? = some a → (live bs)[j]? = some b → ss[j]? = some s → G a { b with row := List.replicate (b.to_ - b.fr) s }) → Paired G as (reseat bs ss)
  | [], [], _, _, _, _, _ => .nil
  | [], b :: bs, _, h, _, _, _ => by simp at h
  | a :: as, [], _, h, _, _, _ => by simp at h
  | a :: as, b :: bs, ss, h, hl, h1, h2 => by
    have hlen : as.length = bs.length := by simpa using h
    have h1' : ∀ (i : Nat) a b, as[i]? = some a → bs[i]? = some b → b.can = true → G a b := fun i a b x y z => h1 (i + 1) a b x y z
    have e1 : live (b :: bs) = if !b.can then b :: live bs else live bs := by
      unfold live
      rw [List.filter_cons]
    have e2 : liveA (a :: as) (b :: bs) = if b.can then liveA as bs else a :: liveA as bs := rfl
    cases hc : b.can with
    | true =>
      rw [e1, hc] at hl
      have e3 : reseat (b :: bs) ss = b :: reseat bs ss := by
        show (if b.can then b :: reseat bs ss else _) = _
        rw [hc]
        rfl
      rw [e3]
      refine .cons (h1 0 a b rfl rfl hc) (reseat_paired as bs ss hlen hl h1' fun j a' b' s x y z => h2 j a' b' s ?_ ?_ z)
      · rw [e2, hc]
        exact x
      · rw [e1, hc]
        exact y
    | false =>
      rw [e1, hc] at hl
      cases ss with
      | nil => simp at hl
      | cons s ss =>
        have e3 : reseat (b :: bs) (s :: ss) = { b with row := List.replicate (b.to_ - b.fr) s } :: reseat bs ss := by
          show (if b.can then b :: reseat bs (s :: ss) else _) = _
          rw [hc]
          rfl
        rw [e3]
        have f1 : (liveA (a :: as) (b :: bs)) = a :: liveA as bs := by rw [e2, hc]; rfl
        have f2 : live (b :: bs) = b :: live bs := by rw [e1, hc]; rfl
        rw [f1, f2] at h2
        refine .cons (h2 0 a b s rfl rfl rfl) (reseat_paired as bs ss hlen (by simpa using hl) h1' fun j a' b' s' x y z => h2 (j + 1) a' b' s' x y z)
theorem mem_liveA : ∀ {as : List Addr} {bs : List Bk} {a : Addr}, a ∈ liveA as bs → ∃ (i : Nat) (b : Bk), as[i]? = some a ∧ bs[i]? = some b ∧ b.can = false
  | [], _, a, h => by cases h
  | x :: as, [], a, h => by cases h
  | x :: as, b :: bs, a, h => by
    have e2 : liveA (x :: as) (b :: bs) = if b.can then liveA as bs else x :: liveA as bs := rfl
    rw [e2] at h
    cases hc : b.can with
    | true =>
      rw [hc] at h
      obtain ⟨i, c, h1, h2, h3⟩ := mem_liveA (as := as) (bs := bs) h
      exact ⟨i + 1, c, h1, h2, h3⟩
    | false =>
      rw [hc] at h
      rcases List.mem_cons.mp h with (rfl | h)
      · exact ⟨0, b, rfl, rfl, hc⟩
      · obtain ⟨i, c, h1, h2, h3⟩ := mem_liveA (as := as) (bs := bs) h
        exact ⟨i + 1, c, h1, h2, h3⟩
def bkWays (l : List Bk) : List (Nat × Nat) := (live l).map fun b => (b.fr, b.to_)
theorem bkWays_eq (l : List Bk) : bkWays l = Ks327.waysOf ((live l).map Bk.bk) := by
  unfold bkWays Ks327.waysOf
  rw [List.map_map]
  rfl
def spAll (CB CT : Addr) : Sp := fun vs H Q _ => ∃ (t : Addr) (T : Tr) (dx L : Addr) (as : List Addr) (X : Addr), vs = [.ref t] ∧ TrH CB CT H t T dx L as X ∧ (∃ z, H X = some z) ∧ as.length ≤ 100 ∧ (∀ b ∈ live T.bks, b.fr < 100 ∧ b.to_ < 100) ∧ (seatsAtOnce (bkWays T.bks)).length = (live T.bks).length ∧
  ∀ H' : Hp, TrH CB CT H' t { T with bks := reseat T.bks (seatsAtOnce (bkWays T.bks)) } dx L as X → (∀ b o, H b = some o → b ∉ liveA as T.bks → H' b = some o) → Q .non H'
section
variable {P : Program} {w : World} {K : PySem.W.Frag} {mg : Str → Option Value} {base : Heap}
theorem scAll : FnScope ["self", "live", "seats", "booking", "seat", "part"] ["self"] (defScope sAll) := ⟨rfl, rfl, rfl, by decide +kernel, rfl, by decide +kernel, by decide +kernel⟩
theorem ok_all {f CB CT : Addr} {fd : FuncData} (F : Fun K "seat_all_at_once" "Train.seat_all_at_once" sAll f fd) (B : Bl mg) (TB : TxB K CB) (TT : TxT K CT) (M1 : MethOk P w K mg base CT "live_bookings" ["self"] 1 (spLive CB CT))
    (D1 : DefOk P w K mg base "seats_at_once" ["ways"] 2 (spOnce K)) : FnOk P w K mg base CX0 3 f fd ["self"] (spAll CB CT) := by
  obtain ⟨f1, fd1, m1, b1, G1⟩ := M1
  obtain ⟨f2, fd2, m2, k2, b2, G2⟩ := D1
  refine F.ok scAll (fun vs H Q E h => ?_) (fun cdv A outer s H vs Q E hr h => ?_)
  · obtain ⟨t, T, dx, L, as, X, rfl, _⟩ := h
    rfl
  · obtain ⟨t, T, dx, L, as, X, rfl, hT, ⟨zX, hX⟩, hl, hw, hsl, q⟩ := h
    have hr1 : Room 1 _ := hr.mono (by decide)
    refine ⟨_, pss_cons (ps_set (i := 1) scAll.nd rfl (Or.inl rfl) (pe_meth0 (pv 0) TT.cl m1 G1 hr1 b1 .nil pass0))
      (pss_cons (ps_set (i := 2) scAll.nd rfl (Or.inl rfl) (pe_call G2 hr rfl m2 k2 b2 .nil pass0 (pa_cons
        (pe_lc rfl scAll.nd (pi_list (pv 1)) (own := [("booking", 3)]) (blkOk_by (by show blkC ["self", "live", "seats", "booking", "seat", "part"] (defScope sAll) _ _ = true; decide +kernel))
          (fun _ _ _ _ _ => pg_name (i := 3) scAll.nd rfl (Or.inl rfl)) (fun _ _ _ _ _ => pts_nil)
          (fun _ _ _ _ _ => pe_tup (pa_cons (pe_fldB (K := K) (pv 3) rfl) (pa_cons (pe_fldB (K := K) (pv 3) rfl) pa_nil)))) pa_nil)))
      (pss_one (ps_for PassesOwn.never rfl (pi_zip rfl B.zip (pa_cons (pv 1) (pa_cons (pv 2) pa_nil))) (pg_tup rfl (pgs_cons (pg_name (i := 3) scAll.nd rfl (Or.inl rfl)) (pgs_cons (pg_name (i := 4) scAll.nd rfl (Or.inr rfl)) pgs_nil)))
        (pss_one (ps_fld (pv 3) (pe_lc rfl scAll.nd (pi_range2 rfl B.range (pa_cons (pe_fld (pv 3) rfl) (pa_cons (pe_fld (pv 3) rfl) pa_nil))) (own := [("part", 5)])
          (blkOk_by (by show blkC ["self", "live", "seats", "booking", "seat", "part"] (defScope sAll) _ _ = true; decide +kernel))
          (fun _ _ _ _ _ => pg_name (i := 5) scAll.nd rfl (Or.inl rfl)) (fun _ _ _ _ _ => pts_nil) (fun _ _ _ _ _ => pv 4)) rfl))))), ?_⟩
    -- live = self.live_bookings()
    refine ⟨_, rfl, t, dx, _, rfl, hT.obj, trf_no _ _ _ (by decide +kernel) (by decide +kernel) (by decide +kernel), t, T, dx, L, as, X, rfl, hT, hl, fun H1 p sm1 hp0 hp1 => ?_⟩
    have hLv := live_paired hT.bks
    have hmem : ∀ a ∈ liveA as T.bks, ∃ (i : Nat) (b : Bk), as[i]? = some a ∧ T.bks[i]? = some b ∧ b.can = false := fun a ha => mem_liveA ha
    have hlnd : (liveA as T.bks).Nodup := hT.nd.sublist (liveA_sub _ _)
    have hlal : (liveA as T.bks).length ≤ 100 := Nat.le_trans (liveA_len _ _) hl
    have hbl := paired_len hT.bks
    generalize hla : liveA as T.bks = la at *
    have hlen := paired_len hLv
    -- seats = seats_at_once([..])
    refine ⟨_, rfl, p, rfl, ⟨_, SqL.of hp1⟩, fun D hD => ?_⟩
    refine lc_list (K := K) (a := p) (xs := la.map V.ref) (fun i H' => ∃ ts : List Addr, H' D = some (.lst (ts.map V.ref)) ∧ ts.length = i ∧ (∀ (j : Nat) c v, ts[j]? = some c → (bkWays T.bks)[j]? = some v → H' c = some (.tup [nV v.1, nV v.2])) ∧ Same H1 H')
      ⟨[], upd_same, rfl, (fun j c v h => by cases h), Same.new hD⟩ (fun i H' _ ⟨_, _, _, _, z⟩ => SqL.of (z _ _ hp1)) ?_ ?_
    · rintro i x H' hx ⟨ts, hD', htl, hts, sm⟩
      obtain ⟨a, ha, rfl⟩ := map_get hx
      obtain ⟨b, hb, hB⟩ := paired_get hLv ha
      obtain ⟨dx1, r, h1, h2, h3⟩ := (hB.same sm1).same sm
      have hil := (List.getElem?_eq_some_iff.mp ha).1
      refine ⟨rfl, yesI ?_⟩
      refine ⟨_, rfl, a, CB, dx1, _, _, rfl, h1, TB.cl, TB.nf, bkf_from b r, _, rfl, a, CB, dx1, _, _, rfl, h1, TB.cl, TB.nt, bkf_to b r, line_le (by show 2 ≤ 100000; decide), fun U hU => ?_⟩
      have hDU : D ≠ U := ne_of_none hD' hU
      refine ⟨_, by rw [upd_ne hDU]; exact hD', line_lt (by rw [List.length_map]; omega), ts ++ [U], ?_, ?_, ?_, ?_⟩
      · rw [upd_same, List.map_append]
        rfl
      · rw [List.length_append, htl]
        rfl
      · intro j c v hc hv
        by_cases hj : j < ts.length
        · rw [List.getElem?_append_left hj] at hc
          have h4 := hts j c v hc hv
          rw [upd_ne (ne_of h4 hD' (by intro z; cases z)), upd_ne (ne_of_none h4 hU)]
          exact h4
        · have hj2 : j = ts.length := by
            have := (List.getElem?_eq_some_iff.mp hc).1
            rw [List.length_append, List.length_singleton] at this
            omega
          rw [hj2, List.getElem?_concat_length] at hc
          have ec : U = c := Option.some.inj hc
          subst ec
          have ev : v = (b.fr, b.to_) := by
            unfold bkWays at hv
            rw [hj2, htl, List.getElem?_map, hb] at hv
            exact (Option.some.inj hv).symm
          rw [upd_ne (Ne.symm hDU), upd_same, ev]
      · exact (sm.trans (Same.new hU)).put hD
    · rintro H2 ⟨ts, hD2, htl, hts, sm2⟩
      rw [List.length_map] at htl
      have hwl : (bkWays T.bks).length = (live T.bks).length := List.length_map _
      refine ⟨D, ts, bkWays T.bks, rfl, SqL.of hD2, ⟨by omega, fun j c v h1 h2 => SqT.of (hts j c v h1 h2)⟩, by omega, fun H3 e sm3 he0 he => ?_⟩
      have smA : Same H H3 := (sm1.trans sm2).trans sm3
      generalize hss : seatsAtOnce (bkWays T.bks) = ss at *
      have hp3 : H3 p = some (.lst (la.map V.ref)) := sm3 _ _ (sm2 _ _ hp1)
      have hinsla : ∀ a ∈ la, ∃ dx1 b r, H3 a = some (.ins CB dx1 (bkf b r)) := fun a ha => by
        obtain ⟨i, b, h1, h2, _⟩ := hmem a ha
        obtain ⟨b', h3, dx1, r, h4, _⟩ := paired_get hT.bks h1
        exact ⟨dx1, b', r, smA _ _ h4⟩
      have hpla : p ∉ la := fun h => by
        obtain ⟨dx1, b, r, h1⟩ := hinsla p h
        rw [hp3] at h1
        cases h1
      have hela : e ∉ la := fun h => by
        obtain ⟨dx1, b, r, h1⟩ := hinsla e h
        rw [he] at h1
        cases h1
      have hzl : (la.map V.ref).length = (nvs ss).length := by
        rw [List.length_map, nvs_len]
        omega
      -- for booking, seat in zip(live, seats)
      refine ⟨_, rfl, _, rfl, p, e, _, _, rfl, SqL.of hp3, SqL.of he, for_zip (K := K) (a := p) (b := e) (xs := la.map V.ref) (ys := nvs ss) hzl (fun i σ H' => (∃ v3 v4 v5 : Option V, σ = [some (.ref t), some (.ref p), some (.ref e), v3, v4, v5]) ∧
          (∀ b o, H3 b = some o → b ∉ la.take i → H' b = some o) ∧
          ∀ (j : Nat) a b s, j < i → la[j]? = some a → (live T.bks)[j]? = some b → ss[j]? = some s → ∃ dx1 r, H' a = some (.ins CB dx1 (bkf { b with row := List.replicate (b.to_ - b.fr) s } r)) ∧ H' r = some (.lst (nvs (List.replicate (b.to_ - b.fr) s))) ∧ H3 r = none)
        ⟨⟨_, _, _, rfl⟩, (fun b o h _ => h), fun j a b s h => by omega⟩ (fun i σ H' _ z => ⟨SqL.of (z.2.1 _ _ hp3 fun h => hpla (List.mem_of_mem_take h)), SqL.of (z.2.1 _ _ he fun h => hela (List.mem_of_mem_take h))⟩) ?_ ?_⟩
      · rintro i x y σ H' U hx hy ⟨⟨v3, v4, v5, rfl⟩, kp, hnew⟩ hU
        obtain ⟨a, ha, rfl⟩ := map_get hx
        obtain ⟨n, hn, rfl⟩ := map_get hy
        obtain ⟨b, hb, hB⟩ := paired_get hLv ha
        obtain ⟨dx1, r, h1, h2, h3⟩ := hB.same smA
        have hil := (List.getElem?_eq_some_iff.mp ha).1
        have hwb := hw b (List.mem_of_getElem? hb)
        have hanot : a ∉ la.take i := fun h => by
          obtain ⟨i1, hi1⟩ := List.getElem?_of_mem h
          have hi1l : i1 < i := by
            have := (List.getElem?_eq_some_iff.mp hi1).1
            rw [List.length_take] at this
            omega
          rw [List.getElem?_take_of_lt hi1l] at hi1
          have := nd_ix hlnd hi1 ha
          omega
        have ha' := kp _ _ h1 hanot
        have haU : a ≠ U := ne_of_none ha' hU
        have haU' : (upd H' U (.tup [V.ref a, nV n])) a = some (.ins CB dx1 (bkf b r)) := by
          rw [upd_ne haU]
          exact ha'
        refine ⟨U, _, rfl, SqT.of upd_same, rfl, _, _, rfl, _, _, rfl, rfl, ?_⟩
        -- booking.row = [seat for part in range(..)]
        refine ⟨_, rfl, a, CB, dx1, _, _, rfl, haU', TB.cl, TB.nf, bkf_from b r, _, rfl, a, CB, dx1, _, _, rfl, haU', TB.cl, TB.nt, bkf_to b r, _, _, rfl, ⟨by omega, by omega, by omega, by omega⟩, fun R hR => ?_⟩
        have en : (((b.to_ : Nat) : Int) - ((b.fr : Nat) : Int)).toNat = b.to_ - b.fr := by omega
        rw [en]
        refine lc_range (fun j H4 => H4 R = some (.lst (nvs (List.replicate j n))) ∧ Same (upd H' U (.tup [V.ref a, nV n])) H4) ⟨upd_same, Same.new hR⟩ ?_ ?_
        · rintro j H4 hj ⟨hR4, sm4⟩
          refine ⟨rfl, yesI ?_⟩
          refine ⟨_, rfl, _, hR4, line_lt (by rw [nvs_len, List.length_replicate]; omega), ?_, sm4.put hR⟩
          rw [upd_same, List.replicate_succ', nvs_snoc]
        · rintro H4 ⟨hR4, sm4⟩
          have ha4 := sm4 _ _ haU'
          have hRa : R ≠ a := fun z => by
            rw [z, haU'] at hR
            cases hR
          have hRU : R ≠ U := fun z => by
            rw [z, upd_same] at hR
            cases hR
          have hR' : H' R = none := by
            rw [upd_ne hRU] at hR
            exact hR
          refine ⟨_, rfl, a, CB, dx1, _, rfl, ha4, TB.cl, TB.nr, (by show 4 < 1000; decide), ?_⟩
          refine ⟨⟨_, _, _, rfl⟩, fun c o hc hcn => ?_, fun j a' b' s' hj h5 h6 h7 => ?_⟩
          · rw [take_snoc ha] at hcn
            have hca : c ≠ a := fun z => hcn (by rw [z]; simp)
            have hcn' : c ∉ la.take i := fun z => hcn (by simp [z])
            have hc' := kp c o hc hcn'
            rw [upd_ne hca]
            exact sm4 c o (by rw [upd_ne (ne_of_none hc' hU)]; exact hc')
          · by_cases hji : j = i
            · subst hji
              have ea : a = a' := Option.some.inj (ha.symm.trans h5)
              have eb : b = b' := Option.some.inj (hb.symm.trans h6)
              have es : n = s' := Option.some.inj (hn.symm.trans h7)
              subst ea eb es
              refine ⟨dx1, R, ?_, ?_, ?_⟩
              · rw [upd_same]
                rfl
              · rw [upd_ne hRa]
                exact hR4
              · cases hq : H3 R with
                | none => rfl
                | some o =>
                  exfalso
                  have hRn : R ∉ la.take j := fun h => by
                    have hm := List.mem_of_mem_take h
                    obtain ⟨i1, hi1⟩ := List.getElem?_of_mem h
                    have hi1l : i1 < j := by
                      have := (List.getElem?_eq_some_iff.mp hi1).1
                      rw [List.length_take] at this
                      omega
                    rw [List.getElem?_take_of_lt hi1l] at hi1
                    obtain ⟨b2, hb2, _⟩ := paired_get hLv hi1
                    obtain ⟨s2, hs2⟩ : ∃ s2, ss[i1]? = some s2 := ⟨_, List.getElem?_eq_getElem (by have := (List.getElem?_eq_some_iff.mp hi1).1; omega)⟩
                    obtain ⟨dx2, r2, h8, _⟩ := hnew i1 R b2 s2 hi1l hi1 hb2 hs2
                    rw [hR'] at h8
                    cases h8
                  have := kp R o hq hRn
                  rw [hR'] at this
                  cases this
            · obtain ⟨dx2, r2, h8, h9, h10⟩ := hnew j a' b' s' (by omega) h5 h6 h7
              have haa : a' ≠ a := fun z => hji (nd_ix hlnd h5 (by rw [z]; exact ha))
              have hr2a : r2 ≠ a := fun z => by
                rw [z, h1] at h10
                cases h10
              refine ⟨dx2, r2, ?_, ?_, h10⟩
              · rw [upd_ne haa]
                exact sm4 _ _ (by rw [upd_ne (ne_of_none h8 hU)]; exact h8)
              · rw [upd_ne hr2a]
                exact sm4 _ _ (by rw [upd_ne (ne_of_none h9 hU)]; exact h9)
      · rintro σ H' ⟨⟨v3, v4, v5, rfl⟩, kp, hnew⟩
        rw [List.length_map, List.take_length] at kp
        rw [List.length_map] at hnew
        have hL3 := smA _ _ hT.lst
        have hLla : L ∉ la := fun h => by
          obtain ⟨dx1, b, r, h1⟩ := hinsla L h
          rw [hL3] at h1
          cases h1
        have htla : t ∉ la := fun h => by
          obtain ⟨i, b, h1, h2, _⟩ := hmem t h
          obtain ⟨b', h3, dx1, r, h4, _⟩ := paired_get hT.bks h1
          rw [hT.obj] at h4
          injection h4 with h4
          injection h4 with h5 h6 h7
          have := congrArg (List.lookup ("row" : Str)) h7
          rw [bkf_row, trf_no _ _ _ (by decide +kernel) (by decide +kernel) (by decide +kernel)] at this
          cases this
        refine q H' ⟨kp _ _ (smA _ _ hT.obj) htla, kp _ _ hL3 hLla, hT.nd, ?_⟩ fun b o hb hbn => kp b o (smA b o hb) hbn
        refine reseat_paired as T.bks ss hbl (by rw [hsl]) ?_ ?_
        · intro i a b h1 h2 h3
          obtain ⟨b', h4, dx1, r, h5, h6, h7⟩ := paired_get hT.bks h1
          have eb : b' = b := Option.some.inj (h4.symm.trans h2)
          subst eb
          have hn1 : a ∉ la := fun h => by
            obtain ⟨i2, b2, g1, g2, g3⟩ := hmem a h
            have := nd_ix hT.nd g1 h1
            subst this
            rw [h2] at g2
            have := Option.some.inj g2
            subst this
            rw [h3] at g3
            cases g3
          have hn2 : r ∉ la := fun h => by
            obtain ⟨dx2, b2, r2, g⟩ := hinsla r h
            rw [smA _ _ h6] at g
            cases g
          exact ⟨dx1, r, kp _ _ (smA _ _ h5) hn1, kp _ _ (smA _ _ h6) hn2, h7⟩
        · intro j a b s h1 h2 h3
          rw [hla] at h1
          obtain ⟨dx1, r, g1, g2, g3⟩ := hnew j a b s (List.getElem?_eq_some_iff.mp h1).1 h1 h2 h3
          refine ⟨dx1, r, g1, g2, fun z => ?_⟩
          rcases List.mem_cons.mp z with z | z
          · rw [z, hL3] at g3
            cases g3
          · rw [List.mem_singleton] at z
            rw [z, smA _ _ hX] at g3
            cases g3
end
end Ts

end
section
/-! The program's heap, part 15: more of what a train tells. -/
set_option Elab.async false
set_option maxRecDepth 100000
set_option maxHeartbeats 2000000
namespace Ts
open PySem PySem.Spec PyProof.Rows L2
abbrev sPlace : Stmt := inClass cTrain 2
abbrev sParts : Stmt := inClass cTrain 5
abbrev sWho : Stmt := inClass cTrain 6
abbrev sChg : Stmt := inClass cTrain 7
theorem find_at {α : Type} {p : α → Bool} : ∀ {l : List α} {i : Nat} {a : α}, l[i]? = some a → p a = true → (∀ (j : Nat) b, j < i → l[j]? = some b → p b = false) → l.find? p = some a
  | [], i, a, h, _, _ => by cases h
  | x :: l, 0, a, h, hp, _ => by
    have e : x = a := Option.some.inj h
    subst e
    exact List.find?_cons_of_pos hp
  | x :: l, i + 1, a, h, hp, hb => by
    have h0 := hb 0 x (by omega) rfl
    rw [List.find?_cons_of_neg (by rw [h0]; decide)]
    exact find_at (l := l) h hp fun j b hj hl => hb (j + 1) b (by omega) hl
theorem nV_nV (m n : Nat) : decide (nV m = nV n) = decide (m = n) := by
  rw [decide_eq_decide]
  unfold nV
  constructor
  · intro q
    injection q with q
    omega
  · intro q
    rw [q]
/-- whether booking i has the seat on the part -/
def whoP (a : Ks327.Abs) (s k i : Nat) : Bool := match a.bookings.getD i none with
  | none => false
  | some b => hasPart b k && b.seats.getD (k - b.from_) 99 == s
theorem who_find (a : Ks327.Abs) (s k : Nat) : whoOf a s k = (List.range a.bookings.length).find? (whoP a s k) := rfl
theorem whoP_at {T : Tr} {s k i : Nat} {b : Bk} (hb : T.bks[i]? = some b) : whoP T.abs s k i = (!b.can && (hasPart b.bk k && b.row.getD (k - b.fr) 99 == s)) := by
  have e : T.abs.bookings.getD i none = b.out := by
    rw [(List.getD_eq_getElem?_getD)]
    show ((T.bks.map Bk.out)[i]?).getD none = _
    rw [List.getElem?_map, hb]
    rfl
  unfold whoP
  rw [e]
  unfold Bk.out
  cases b.can <;> rfl
def spPlace (CT : Addr) : Sp := fun vs H Q _ => ∃ (t dx L : Addr) (n m s k : Nat), vs = [.ref t, nV s, nV k] ∧ H t = some (.ins CT dx (trf n m L)) ∧ Q (.bl (decide (s < m) && decide (k + 1 < n))) H
def spParts (CB CT : Addr) : Sp := fun vs H Q _ => ∃ (t : Addr) (T : Tr) (dx L : Addr) (as : List Addr) (X : Addr) (x y : Nat), vs = [.ref t, nV x, nV y] ∧ TrH CB CT H t T dx L as X ∧ as.length ≤ 100 ∧ T.seats ≤ 100 ∧ RowsOk T.bks ∧ x ≤ y ∧ y ≤ 100 ∧
  ∀ (H' : Hp) (D : Addr) (ps : List Addr), Same H H' → H D = none → H' D = some (.lst (ps.map V.ref)) → ps.length = y - x → (∀ (j : Nat) p, ps[j]? = some p → H' p = some (.lst (nvs (freeOn T.seats ((live T.bks).map Bk.bk) (x + j))))) → Q (.ref D) H'
def spWho (CB CT : Addr) : Sp := fun vs H Q _ => ∃ (t : Addr) (T : Tr) (dx L : Addr) (as : List Addr) (X : Addr) (s k : Nat), vs = [.ref t, nV s, nV k] ∧ TrH CB CT H t T dx L as X ∧ as.length ≤ 100 ∧ RowsOk T.bks ∧
  ∀ H' : Hp, Same H H' → Q (oV (whoOf T.abs s k)) H'
def spChg (CB CT : Addr) : Sp := fun vs H Q _ => ∃ (t : Addr) (T : Tr) (dx L : Addr) (as : List Addr) (X : Addr), vs = [.ref t] ∧ TrH CB CT H t T dx L as X ∧ as.length ≤ 100 ∧ (∀ b ∈ live T.bks, b.row.length ≤ 1000) ∧
  ∀ H' : Hp, Same H H' → Q (nV (Ks327.changesOf (Ks327.held T.abs))) H'
theorem sum_ints (l : List Nat) : (l.map (fun n : Nat => (n : Int))).sum = ((l.sum : Nat) : Int) := by
  induction l with
  | nil => rfl
  | cons x l ih =>
    rw [List.map_cons, List.sum_cons, List.sum_cons, ih]
    omega
theorem foldl_sum : ∀ (l : List Nat) (n : Nat), l.foldl (· + ·) n = n + l.sum
  | [], n => rfl
  | x :: l, n => by
    rw [List.foldl_cons, foldl_sum l, List.sum_cons]
    omega
theorem changesOf_live (T : Tr) : Ks327.changesOf (Ks327.held T.abs) = ((live T.bks).map fun b => Ks325.changes b.row).sum := by
  unfold Ks327.changesOf
  rw [foldl_sum, Nat.zero_add, held_abs, List.map_map]
  rfl
section
variable {P : Program} {w : World} {K : PySem.W.Frag} {mg : Str → Option Value} {base : Heap}
theorem scPlace : FnScope ["self", "seat", "part"] ["self", "seat", "part"] (defScope sPlace) := ⟨rfl, rfl, rfl, by decide +kernel, rfl, by decide +kernel, by decide +kernel⟩
theorem ok_place {f C : Addr} {fd : FuncData} (F : Fun K "is_place" "Train.is_place" sPlace f fd) (T : TxT K C) : FnOk P w K mg base CX0 1 f fd ["self", "seat", "part"] (spPlace C) := by
  refine F.ok scPlace (fun vs H Q E h => ?_) (fun cdv A outer s H vs Q E hr h => ?_)
  · obtain ⟨t, dx, L, n, m, x, y, rfl, _⟩ := h
    rfl
  · obtain ⟨t, dx, L, n, m, x, y, rfl, ht, q⟩ := h
    refine ⟨_, pss_one (ps_ret (pe_and (pe_cmpR op_lt (pv 1) (pe_fld (pv 0) rfl) (nomark _)) (pe_one (pe_cmpR op_lt (pv 2) (pe_op op_sub (pe_fld (pv 0) rfl) pe_int) (nomark _))))), ?_⟩
    refine ⟨_, rfl, _, rfl, t, C, dx, _, _, rfl, ht, T.cl, T.ne, trf_seats n m L, _, _, rfl, rfl, _, rfl, ?_⟩
    have e1 : decide ((x : Int) < (m : Int)) = decide (x < m) := by
      rw [decide_eq_decide]
      omega
    have e2 : decide ((y : Int) < (n : Int) - 1) = decide (y + 1 < n) := by
      rw [decide_eq_decide]
      omega
    rw [e1]
    by_cases c : x < m
    · rw [decide_eq_true c, Bool.true_and] at q
      rw [decide_eq_true c]
      refine iteT ⟨_, rfl, _, rfl, t, C, dx, _, _, rfl, ht, T.cl, T.ns, trf_stops n m L, _, _, rfl, rfl, _, _, rfl, rfl, ?_⟩
      show Q (.bl (decide ((y : Int) < (n : Int) - 1))) H
      rw [e2]
      exact q
    · rw [decide_eq_false c, Bool.false_and] at q
      rw [decide_eq_false c]
      exact iteF q
theorem scParts : FnScope ["self", "from_stop", "to_stop", "part"] ["self", "from_stop", "to_stop"] (defScope sParts) := ⟨rfl, rfl, rfl, by decide +kernel, rfl, by decide +kernel, by decide +kernel⟩
theorem ok_parts {f CB CT : Addr} {fd : FuncData} (F : Fun K "free_by_part" "Train.free_by_part" sParts f fd) (B : Bl mg) (TT : TxT K CT) (M1 : MethOk P w K mg base CT "free_on" ["self", "part"] 2 (spFree CB CT)) :
    FnOk P w K mg base CX0 3 f fd ["self", "from_stop", "to_stop"] (spParts CB CT) := by
  obtain ⟨f2, fd2, m2, b2, G2⟩ := M1
  refine F.ok scParts (fun vs H Q E h => ?_) (fun cdv A outer s H vs Q E hr h => ?_)
  · obtain ⟨t, T, dx, L, as, X, x, y, rfl, _⟩ := h
    rfl
  · obtain ⟨t, T, dx1, L, as, X, x, y, rfl, tr, hl, hs, hR, hxy, hy, k⟩ := h
    refine ⟨_, pss_one (ps_ret (pe_lc rfl scParts.nd (pi_range2 rfl B.range (pa_cons (pv 1) (pa_cons (pv 2) pa_nil))) (own := [("part", 3)])
          (blkOk_by (by show blkC ["self", "from_stop", "to_stop", "part"] (defScope sParts) _ _ = true; decide +kernel))
          (fun _ _ _ _ _ => pg_name (i := 3) scParts.nd rfl (Or.inl rfl)) (fun _ _ _ _ _ => pts_nil)
          (fun _ _ _ _ _ => pe_meth (pv 0) TT.cl m2 G2 hr b2 .nil pass0 (pa_cons (pv 3) pa_nil)))), ?_⟩
    refine ⟨_, rfl, _, rfl, _, _, rfl, ⟨by omega, by omega, by omega, by omega⟩, fun D hDn => ?_⟩
    have eyx : (((y : Nat) : Int) - ((x : Nat) : Int)).toNat = y - x := by omega
    rw [eyx]
    refine lc_range (fun i H' => ∃ ps : List Addr, H' D = some (.lst (ps.map V.ref)) ∧ ps.length = i ∧ (∀ (j : Nat) p, ps[j]? = some p → H' p = some (.lst (nvs (freeOn T.seats ((live T.bks).map Bk.bk) (x + j))))) ∧ Same H H')
      ⟨[], upd_same, rfl, (fun j p h => by cases h), Same.new hDn⟩ ?_ ?_
    · rintro i H' hi ⟨ps, hD', hpl, hps, sm⟩
      have e0 : V.int ((x : Int) + (i : Int)) = nV (x + i) := rfl
      rw [e0]
      refine ⟨rfl, yesI ?_⟩
      refine ⟨_, rfl, t, dx1, _, rfl, sm _ _ tr.obj, trf_no _ _ _ (by decide +kernel) (by decide +kernel) (by decide +kernel), _, rfl, t, T, dx1, L, as, X, x + i, rfl, tr.same sm, hl, hs, hR, fun H4 p sm4 hp0 hp4 => ?_⟩
      have hDp : D ≠ p := ne_of_none hD' hp0
      have hD4 := sm4 _ _ hD'
      refine ⟨_, hD4, line_lt (by rw [List.length_map]; omega), ps ++ [p], ?_, ?_, ?_, ?_⟩
      · rw [upd_same, List.map_append]
        rfl
      · rw [List.length_append, hpl]
        rfl
      · intro j q hq
        by_cases hj : j < ps.length
        · rw [List.getElem?_append_left hj] at hq
          have h1 := hps j q hq
          have hqD : q ≠ D := fun z => by
            have h2 := h1
            rw [z, hD'] at h2
            injection h2 with h2
            injection h2 with h2
            cases hpsl : ps with
            | nil => rw [hpsl] at hj; simp at hj
            | cons c ps' =>
              rw [hpsl] at h2
              cases hfr : freeOn T.seats ((live T.bks).map Bk.bk) (x + j) with
              | nil => rw [hfr] at h2; cases h2
              | cons u l => rw [hfr] at h2; cases h2
          rw [upd_ne hqD]
          exact sm4 _ _ h1
        · have hj2 : j = ps.length := by
            have := (List.getElem?_eq_some_iff.mp hq).1
            rw [List.length_append, List.length_singleton] at this
            omega
          rw [hj2, List.getElem?_concat_length] at hq
          have ec : p = q := Option.some.inj hq
          subst ec
          rw [upd_ne (Ne.symm hDp), hj2, hpl]
          exact hp4
      · exact (sm.trans sm4).put hDn
    · rintro H1 ⟨ps, hD1, hpl, hps, sm1⟩
      exact k H1 D ps sm1 hDn hD1 hpl hps
theorem scWho : FnScope ["self", "seat", "part", "number", "booking"] ["self", "seat", "part"] (defScope sWho) := ⟨rfl, rfl, rfl, by decide +kernel, rfl, by decide +kernel, by decide +kernel⟩
theorem ok_who {f CB CT : Addr} {fd : FuncData} (F : Fun K "who_has" "Train.who_has" sWho f fd) (B : Bl mg) (TB : TxB K CB) (TT : TxT K CT)
    (M2 : MethOk P w K mg base CB "has_part" ["self", "part"] 1 (spHas CB)) (M3 : MethOk P w K mg base CB "seat_on" ["self", "part"] 1 (spSeat CB)) : FnOk P w K mg base CX0 2 f fd ["self", "seat", "part"] (spWho CB CT) := by
  obtain ⟨f2, fd2, m2, b2, G2⟩ := M2
  obtain ⟨f3, fd3, m3, b3, G3⟩ := M3
  refine F.ok scWho (fun vs H Q E h => ?_) (fun cdv A outer s H vs Q E hr h => ?_)
  · obtain ⟨t, T, dx, L, as, X, n, k, rfl, _⟩ := h
    rfl
  · obtain ⟨t, T, dx, L, as, X, n, k, rfl, hT, hl, hR, q⟩ := h
    refine ⟨_, pss_cons (ps_for PassesOwn.never rfl (pi_enum rfl B.enumerate (pa_cons (pe_fld (pv 0) rfl) pa_nil)) (pg_tup rfl (pgs_cons (pg_name (i := 3) scWho.nd rfl (Or.inl rfl)) (pgs_cons (pg_name (i := 4) scWho.nd rfl (Or.inl rfl)) pgs_nil)))
        (pss_one (ps_if (pw_and (pt_not (pt_val (pe_fld (pv 4) rfl))) (pw_and (pt_val (pe_meth (pv 4) TB.cl m2 G2 hr b2 .nil pass0 (pa_cons (pv 2) pa_nil)))
          (pw_and1 (pt_cmpR op_eq (pe_meth (pv 4) TB.cl m3 G3 hr b3 .nil pass0 (pa_cons (pv 2) pa_nil)) (pv 1) (nomark _))))).pt (pss_one (ps_ret (pv 3))) pss_nil)))
      (pss_one (ps_ret pe_non)), ?_⟩
    have hbl := paired_len hT.bks
    have hlen : T.abs.bookings.length = T.bks.length := List.length_map _
    refine ⟨_, rfl, t, CT, dx, _, _, rfl, hT.obj, TT.cl, TT.nb, trf_bk _ _ _, L, _, rfl, SqL.of hT.lst, for_enum (K := K) (a := L) (xs := as.map V.ref) (fun i σ H' => (∃ v3 v4 : Option V, σ = [some (.ref t), some (nV n), some (nV k), v3, v4]) ∧ Same H H' ∧ ∀ j, j < i → whoP T.abs n k j = false)
      ⟨⟨none, none, rfl⟩, Same.refl H, fun j hj => by omega⟩ (fun i σ H' _ p => SqL.of (p.2.1 _ _ hT.lst)) ?_ ?_⟩
    · rintro i x σ H' U hx ⟨⟨v3, v4, rfl⟩, sm, hno⟩ hU
      obtain ⟨a, ha, rfl⟩ := map_get hx
      obtain ⟨b, hb, hB⟩ := paired_get hT.bks ha
      have smU : Same H (upd H' U (.tup [nV i, V.ref a])) := sm.trans (Same.new hU)
      have hB' := hB.same smU
      obtain ⟨dx1, r, h1, h2, h3⟩ := id hB'
      have hil := (List.getElem?_eq_some_iff.mp hb).1
      have hw := whoP_at (s := n) (k := k) hb
      have next : whoP T.abs n k i = false → ∀ j, j < i + 1 → whoP T.abs n k j = false := fun z j hj => by
        by_cases c : j = i
        · rw [c]
          exact z
        · exact hno j (by omega)
      refine ⟨U, _, rfl, SqT.of upd_same, rfl, _, _, rfl, _, _, rfl, rfl, ?_⟩
      refine ⟨_, rfl, a, CB, dx1, _, _, rfl, h1, TB.cl, TB.nc, bkf_can b r, b.can, rfl, ?_⟩
      cases hc : b.can with
      | true =>
        rw [hc] at hw
        exact iteF (iteF ⟨⟨_, _, rfl⟩, smU, next hw⟩)
      | false =>
        rw [hc, Bool.not_false, Bool.true_and] at hw
        refine iteT ⟨_, rfl, a, dx1, _, rfl, h1, bkf_no b r (by decide +kernel) (by decide +kernel) (by decide +kernel) (by decide +kernel), _, rfl, a, [L, X], b, k, rfl, hB', _, rfl, ?_⟩
        cases hh : hasPart b.bk k with
        | false =>
          rw [hh] at hw
          exact iteF (iteF ⟨⟨_, _, rfl⟩, smU, next hw⟩)
        | true =>
          rw [hh, Bool.true_and] at hw
          have hh' : b.fr ≤ k ∧ k < b.to_ := by
            unfold hasPart at hh
            rw [Bool.and_eq_true, decide_eq_true_eq, decide_eq_true_eq] at hh
            exact hh
          have hrow := hR b (List.mem_filter.mpr ⟨List.mem_of_getElem? hb, by rw [hc]; rfl⟩)
          have hs0 : b.row[k - b.fr]? = some (b.row.getD (k - b.fr) 99) := by
            rw [List.getD_eq_getElem?_getD, List.getElem?_eq_getElem (by omega)]
            rfl
          refine iteT ⟨_, rfl, a, dx1, _, rfl, h1, bkf_no b r (by decide +kernel) (by decide +kernel) (by decide +kernel) (by decide +kernel), _, rfl, a, [L, X], b, k, _, rfl, hB', hh'.1, hs0, _, rfl, rfl, _, rfl, ?_⟩
          rw [nV_nV]
          by_cases c : b.row.getD (k - b.fr) 99 = n
          · rw [decide_eq_true c]
            rw [c, beq_self_eq_true] at hw
            refine iteT ⟨_, rfl, ?_⟩
            have e : whoOf T.abs n k = some i := by
              rw [who_find]
              refine find_at (i := i) (List.getElem?_range (by omega)) hw fun j c hj hc => ?_
              rw [List.getElem?_range (by omega)] at hc
              rw [← Option.some.inj hc]
              exact hno j hj
            have := q _ smU
            rw [e] at this
            exact this
          · rw [decide_eq_false c]
            have hw' : whoP T.abs n k i = false := by
              rw [hw]
              exact beq_eq_false_iff_ne.mpr c
            exact iteF ⟨⟨_, _, rfl⟩, smU, next hw'⟩
    · rintro σ H' ⟨⟨v3, v4, rfl⟩, sm, hno⟩
      rw [List.length_map] at hno
      have e : whoOf T.abs n k = none := by
        rw [who_find, List.find?_eq_none]
        intro j hj
        rw [List.mem_range] at hj
        rw [hno j (by omega)]
        decide
      have := q _ sm
      rw [e] at this
      exact this
theorem scChg : FnScope ["self", "booking"] ["self"] (defScope sChg) := ⟨rfl, rfl, rfl, by decide +kernel, rfl, by decide +kernel, by decide +kernel⟩
theorem ok_chg {f CB CT : Addr} {fd : FuncData} (F : Fun K "all_changes" "Train.all_changes" sChg f fd) (B : Bl mg) (TB : TxB K CB) (TT : TxT K CT) (M1 : MethOk P w K mg base CT "live_bookings" ["self"] 1 (spLive CB CT))
    (D1 : DefOk P w K mg base "count_changes" ["row"] 2 (spCount K)) : FnOk P w K mg base CX0 3 f fd ["self"] (spChg CB CT) := by
  obtain ⟨f1, fd1, m1, b1, G1⟩ := M1
  obtain ⟨f2, fd2, m2, k2, b2, G2⟩ := D1
  refine F.ok scChg (fun vs H Q E h => ?_) (fun cdv A outer s H vs Q E hr h => ?_)
  · obtain ⟨t, T, dx, L, as, X, rfl, _⟩ := h
    rfl
  · obtain ⟨t, T, dx, L, as, X, rfl, hT, hl, hR, q⟩ := h
    have hr1 : Room 1 _ := hr.mono (by decide)
    refine ⟨_, pss_one (ps_ret (pe_callB (cr_sum rfl) rfl B.sum PyProof.Rows.boot_sum (pa_cons
      (pe_lc rfl scChg.nd (pi_list (pe_meth0 (pv 0) TT.cl m1 G1 hr1 b1 .nil pass0)) (own := [("booking", 1)])
        (blkOk_by (by show blkC ["self", "booking"] (defScope sChg) _ _ = true; decide +kernel))
        (fun _ _ _ _ _ => pg_name (i := 1) scChg.nd rfl (Or.inl rfl)) (fun _ _ _ _ _ => pts_nil)
        (fun _ _ _ _ _ => pe_call G2 hr rfl m2 k2 b2 .nil pass0 (pa_cons (pe_fldB (K := K) (pv 1) rfl) pa_nil))) pa_nil))), ?_⟩
    refine ⟨_, rfl, t, dx, _, rfl, hT.obj, trf_no _ _ _ (by decide +kernel) (by decide +kernel) (by decide +kernel), t, T, dx, L, as, X, rfl, hT, hl, fun H1 p sm1 hp0 hp1 => ?_⟩
    have hLv := live_paired hT.bks
    have hlal : (liveA as T.bks).length ≤ 100 := Nat.le_trans (liveA_len _ _) hl
    generalize hla : liveA as T.bks = la at *
    have hlen := paired_len hLv
    refine ⟨p, rfl, ⟨_, SqL.of hp1⟩, fun D hD => ?_⟩
    refine lc_list (K := K) (a := p) (xs := la.map V.ref) (fun i H' => H' D = some (.lst (nvs (((live T.bks).take i).map fun b => Ks325.changes b.row))) ∧ Same H1 H') ⟨upd_same, Same.new hD⟩ (fun i H' _ z => SqL.of (z.2 _ _ hp1)) ?_ ?_
    · rintro i x H' hx ⟨hD', sm⟩
      obtain ⟨a, ha, rfl⟩ := map_get hx
      obtain ⟨b, hb, hB⟩ := paired_get hLv ha
      obtain ⟨dx1, r, h1, h2, h3⟩ := (hB.same sm1).same sm
      have hil := (List.getElem?_eq_some_iff.mp ha).1
      refine ⟨rfl, yesI ?_⟩
      refine ⟨_, rfl, a, CB, dx1, _, _, rfl, h1, TB.cl, TB.nr, bkf_row b r, r, b.row, rfl, SqL.of h2, hR b (List.mem_of_getElem? hb), fun H3 sm3 => ?_⟩
      refine ⟨_, sm3 _ _ hD', line_lt ?_, ?_, (sm.trans sm3).put hD⟩
      · rw [nvs_len, List.length_map, List.length_take]
        omega
      · rw [upd_same, take_snoc hb, List.map_append, List.map_cons, List.map_nil, nvs_snoc]
    · rintro H' ⟨hD', sm⟩
      rw [List.length_map, List.take_of_length_le (by omega)] at hD'
      refine ⟨D, ((live T.bks).map fun b => Ks325.changes b.row).map (fun n : Nat => (n : Int)), rfl, ?_, ?_⟩
      · rw [← nvs_ints]
        exact SqL.of hD'
      · rw [sum_ints, ← changesOf_live]
        exact q _ (sm1.trans sm)
end
end Ts

end
section
/-! The program's heap, part 10: the desk; begin. -/
set_option Elab.async false
set_option maxRecDepth 100000
set_option maxHeartbeats 2000000
namespace Ts
open PySem PySem.Spec PyProof.Rows L2
/-- a constant of the module -/
def CI (mg : Str → Option Value) (x : Str) (z : Int) : Prop := ∃ t, mg x = some (.int z t)
theorem pe_ci {X : Cx} {x : Str} {z : Int} {pos : Pos} (h : CI X.mg x z) (hg : Gl X x) (hd : (x == ("__debug__" : Str)) = false := by decide) : PE X (.Name x pos) (tC (.int z)) := by
  obtain ⟨t, h⟩ := h
  exact pe_glob (v := .int z) hg h ⟨t, rfl⟩ hd
structure Cs (mg : Str → Option Value) : Prop where
  ls : CI mg "LEAST_STOPS" 2
  ms : CI mg "MOST_STOPS" 17
  le : CI mg "LEAST_SEATS" 1
  me : CI mg "MOST_SEATS" 12
  mb : CI mg "MOST_BOOKINGS" 40
  wv : CI mg "WRONG_VALUE" (-22)
  nt : CI mg "NO_TRAIN" (-61)
  tm : CI mg "TOO_MANY_BOOKINGS" (-12)
  nb : CI mg "NO_SUCH" (-2)
  ny : CI mg "NOBODY" (-6)
  pf : CI mg "PART_FULL" (-1000)
  os : CI mg "OTHERS_STAY" 0
  al : CI mg "ALL_SEATED_AT_ONCE" 1
abbrev sDInit : Stmt := inClass cDesk 0
abbrev sBegin : Stmt := inClass cDesk 1
abbrev sBook : Stmt := inClass cDesk 2
abbrev sLiveB : Stmt := inClass cDesk 3
abbrev sCancel : Stmt := inClass cDesk 4
abbrev sTell : Stmt := inClass cDesk 5
abbrev sAnew : Stmt := inClass cDesk 6
abbrev sFreeD : Stmt := inClass cDesk 7
abbrev sWhoD : Stmt := inClass cDesk 8
abbrev sState : Stmt := inClass cDesk 9
structure TxD (K : PySem.W.Frag) (C : Addr) : Prop where
  cl : Cls K C
  nt : NoAttr K C "train"
def dkf (v : V) : List (Str × V) := putF "train" v []
theorem dkf_train (v : V) : (dkf v).lookup ("train" : Str) = some v := by
  unfold dkf
  rw [lookup_putF, if_pos rfl]
theorem dkf_no (v : V) {m : Str} (h : ¬ m = "train") : (dkf v).lookup m = none := by
  unfold dkf
  rw [lookup_putF, if_neg h]
  rfl
theorem dkf_put (v u : V) : putF "train" u (dkf v) = dkf u := rfl
/-- the desk at d; ow: what belongs to it -/
inductive DeskAt (CD CB CT X : Addr) (H : Hp) (d : Addr) : Option Tr → List Addr → Prop
  | none {dx : Addr} (obj : H d = some (.ins CD dx (dkf .non))) : DeskAt CD CB CT X H d none [d]
  | some {dx t dx1 L : Addr} {as : List Addr} {T : Tr} (obj : H d = some (.ins CD dx (dkf (.ref t)))) (tr : TrH CB CT H t T dx1 L as X) : DeskAt CD CB CT X H d (some T) (d :: t :: L :: as)
/-- what else there is stays; what is new in the desk is new -/
structure Frame (H H' : Hp) (ow ow' : List Addr) : Prop where
  keep : ∀ b o, H b = some o → b ∉ ow → H' b = some o
  fresh : ∀ b ∈ ow', b ∈ ow ∨ H b = none
theorem Frame.same {H H' : Hp} (s : Same H H') (ow : List Addr) : Frame H H' ow ow := ⟨fun b o e _ => s b o e, fun _ h => .inl h⟩
theorem DeskAt.same {CD CB CT X : Addr} {H H' : Hp} {d : Addr} {o : Option Tr} {ow : List Addr} (h : DeskAt CD CB CT X H d o ow) (s : Same H H') : DeskAt CD CB CT X H' d o ow := by
  cases h with
  | none obj => exact .none (s _ _ obj)
  | some obj tr => exact .some (s _ _ obj) (tr.same s)
def OkO : Option Tr → Prop
  | none => True
  | some T => Ok T.abs
def ansOf (a : Ks327.Abs) (c : Ks327.Call) : List Int := (Ks327Neutral.sa (Ks327.act a c)).2
/-- a call on the desk, by the specification -/
def spDesk (CD CB CT : Addr) (k : Nat) (c : List Nat → Ks327.Call) : Sp := fun vs H Q _ => ∃ (d X : Addr) (o : Option Tr) (ow : List Addr) (ns : List Nat), vs = .ref d :: ns.map nV ∧ ns.length = k ∧ DeskAt CD CB CT X H d o ow ∧ (∃ z, H X = some z) ∧ OkO o ∧
  ∀ (o' : Option Tr) (H' : Hp) (p : Addr) (ow' : List Addr), absO o' = (Ks327.act (absO o) (c ns)).1 → OkO o' → DeskAt CD CB CT X H' d o' ow' → Frame H H' ow ow' → H p = none → H' p = some (.lst ((ansOf (absO o) (c ns)).map V.int)) → Q (.ref p) H'
def spDInit (C : Addr) : Sp := fun vs H Q _ => ∃ (p dx : Addr), vs = [.ref p] ∧ H p = some (.ins C dx []) ∧ ∀ H' : Hp, H' p = some (.ins C dx (dkf .non)) → (∀ b o, H b = some o → b ≠ p → H' b = some o) → Q .non H'
section
variable {P : Program} {w : World} {K : PySem.W.Frag} {mg : Str → Option Value} {base : Heap}
theorem scDInit : FnScope ["self"] ["self"] (defScope sDInit) := ⟨rfl, rfl, rfl, by decide +kernel, rfl, by decide +kernel, by decide +kernel⟩
theorem ok_dinit {f C : Addr} {fd : FuncData} (F : Fun K "__init__" "Desk.__init__" sDInit f fd) (T : TxD K C) : FnOk P w K mg base CX0 1 f fd ["self"] (spDInit C) := by
  refine F.ok scDInit (fun vs H Q E h => ?_) (fun cdv A outer s H vs Q E hr h => ?_)
  · obtain ⟨p, dx, rfl, _⟩ := h
    rfl
  · obtain ⟨p, dx, rfl, hp, k⟩ := h
    refine ⟨_, pss_one (ps_fld (pv 0) pe_non rfl), ?_⟩
    refine ⟨_, rfl, p, C, dx, [], rfl, hp, T.cl, T.nt, (by show 0 < 1000; decide), ?_⟩
    exact k _ (by rw [upd_same]; rfl) fun b o e hb => by rw [upd_ne hb]; exact e
theorem scBegin : FnScope ["self", "stops", "seats"] ["self", "stops", "seats"] (defScope sBegin) := ⟨rfl, rfl, rfl, by decide +kernel, rfl, by decide +kernel, by decide +kernel⟩
theorem ok_begin {f CD CB CT fI : Addr} {fd fdI : FuncData} (F : Fun K "begin" "Desk.begin" sBegin f fd) (C : Cs mg) (TD : TxD K CD) (TT : TxT K CT) (mT : mg "Train" = some (.ref CT)) (M : Mk K CT fI) (bI : Binds K fdI ["self", "stops", "seats"] [])
    (GI : FnOk P w K mg base CX0 1 fI fdI ["self", "stops", "seats"] (spTInit CT)) : FnOk P w K mg base CX0 3 f fd ["self", "stops", "seats"] (spDesk CD CB CT 2 fun ns => .begin (ns.getD 0 0) (ns.getD 1 0)) := by
  refine F.ok scBegin (fun vs H Q E h => ?_) (fun cdv A outer s H vs Q E hr h => ?_)
  · obtain ⟨d, X, o, ow, ns, rfl, hn, _⟩ := h
    simp [hn]
  · obtain ⟨d, X, o, ow, ns, rfl, hn, hD, ⟨zX, hX⟩, hO, k⟩ := h
    obtain ⟨n, m, rfl⟩ : ∃ n m, ns = [n, m] := by
      match ns, hn with
      | [n, m], _ => exact ⟨n, m, rfl⟩
    refine ⟨_, pss_cons (ps_if (pw_or (pt_not (pt_chain op_le op_le (pe_ci C.ls (by rfl)) (pv 1) (pe_ci C.ms (by rfl)))) (pw_or1 (pt_not (pt_chain op_le op_le (pe_ci C.le (by rfl)) (pv 2) (pe_ci C.me (by rfl)))))).pt
        (pss_one (ps_ret (pe_lst (pa_cons (pe_ci C.wv (by rfl)) pa_nil)))) pss_nil)
      (pss_cons (ps_fld (pv 0) (pe_make M GI hr rfl mT bI .nil pass0 (pa_cons (pv 1) (pa_cons (pv 2) pa_nil))) rfl) (pss_one (ps_ret (pe_lst (pa_cons pe_int pa_nil))))), ?_⟩
    have bad : (n < 2 ∨ 17 < n ∨ m < 1 ∨ 12 < m) → ∀ p, H p = none → Q (.ref p) (upd H p (.lst [.int (-22)])) := fun h p hp => by
      have e := begin_22 (a := absO o) h
      refine k o _ p ow ?_ hO (hD.same (Same.new hp)) (Frame.same (Same.new hp) ow) hp ?_
      · show _ = (Ks327.act (absO o) (.begin n m)).1
        rw [e]
      · show _ = some (HO.lst ((Ks327Neutral.sa (Ks327.act (absO o) (.begin n m))).2.map V.int))
        rw [e, upd_same]
        rfl
    have good : (2 ≤ n ∧ n ≤ 17) → (1 ≤ m ∧ m ≤ 12) → (tSeq (sFld K (tVar 0) (tMake CT (spTInit CT) [] E0 (tCons (tVar 1) (tCons (tVar 2) tNil))) "train") (tRet (tLst (tCons (tC (.int 0)) tNil)))) { nx := fun _ H' => Q .non H', rt := Q } [some (.ref d), some (nV n), some (nV m)] H := fun h1 h2 => by
      obtain ⟨e, hok⟩ := begin_ok (a := absO o) h1.1 h1.2 h2.1 h2.2
      refine ⟨_, rfl, _, rfl, ?_⟩
      intro x dx nx ndx nex
      refine ⟨x, dx, n, m, rfl, upd_same, fun H1 L hL hx hL1 kp => ⟨rfl, ?_⟩⟩
      have sm : Same H H1 := Same.made nx ndx kp
      have hLH : H L = none := by
        by_cases q : L = x
        · rw [q]; exact nx
        · rw [upd_ne q] at hL
          by_cases q2 : L = dx
          · rw [q2]; exact ndx
          · rw [upd_ne q2] at hL
            exact hL
      obtain ⟨dxd, v, hdo⟩ : ∃ dxd v, H d = some (.ins CD dxd (dkf v)) := by
        cases hD with
        | none obj => exact ⟨_, _, obj⟩
        | some obj tr => exact ⟨_, _, obj⟩
      have hd1 := sm _ _ hdo
      have hxd : x ≠ d := fun q => by
        rw [q, hdo] at nx
        cases nx
      have hLd : L ≠ d := fun q => by
        rw [q, hdo] at hLH
        cases hLH
      refine ⟨_, rfl, d, CD, dxd, _, rfl, hd1, TD.cl, TD.nt, (by show 1 < 1000; decide), ?_⟩
      rw [dkf_put]
      refine ⟨by show 1 ≤ sizeLine; decide, fun p hp => ?_⟩
      have sm2 : Same (upd H1 d (.ins CD dxd (dkf (.ref x)))) (upd (upd H1 d (.ins CD dxd (dkf (.ref x)))) p (.lst [.int 0])) := Same.new hp
      have hdow : d ∈ ow := by
        cases hD with
        | none obj => exact List.mem_cons_self
        | some obj tr => exact List.mem_cons_self
      have hpH : H p = none := by
        cases q : H p with
        | none => rfl
        | some o =>
          have q1 := sm _ _ q
          by_cases q2 : p = d
          · rw [q2, upd_same] at hp
            cases hp
          · rw [upd_ne q2, q1] at hp
            cases hp
      refine k (some ⟨n, m, []⟩) _ p [d, x, L] ?_ hok (.some (dx1 := dx) (sm2 _ _ upd_same) ⟨sm2 _ _ ?_, sm2 _ _ ?_, List.Pairwise.nil, .nil⟩) ⟨fun b o e hb => sm2 _ _ ?_, fun b hb => ?_⟩ hpH ?_
      · show _ = (Ks327.act (absO o) (.begin n m)).1
        rw [e]
        rfl
      · rw [upd_ne hxd]
        exact hx
      · rw [upd_ne hLd]
        exact hL1
      · rw [upd_ne (show b ≠ d from fun q => hb (by rw [q]; exact hdow))]
        exact sm _ _ e
      · rcases List.mem_cons.mp hb with (rfl | hb)
        · exact .inl hdow
        · rcases List.mem_cons.mp hb with (rfl | hb)
          · exact .inr nx
          · rw [List.mem_singleton] at hb
            subst hb
            exact .inr hLH
      · show _ = some (HO.lst ((Ks327Neutral.sa (Ks327.act (absO o) (.begin n m))).2.map V.int))
        rw [e, upd_same]
        rfl
    have i1 : decide ((2 : Int) ≤ (n : Int)) = decide (2 ≤ n) := by rw [decide_eq_decide]; omega
    have i2 : decide ((n : Int) ≤ (17 : Int)) = decide (n ≤ 17) := by rw [decide_eq_decide]; omega
    have i3 : decide ((1 : Int) ≤ (m : Int)) = decide (1 ≤ m) := by rw [decide_eq_decide]; omega
    have i4 : decide ((m : Int) ≤ (12 : Int)) = decide (m ≤ 12) := by rw [decide_eq_decide]; omega
    have stop : ∀ h : n < 2 ∨ 17 < n ∨ m < 1 ∨ 12 < m, (1 ≤ sizeLine ∧ ∀ p, H p = none → Q (.ref p) (upd H p (.lst [.int (-22)]))) := fun h => ⟨by decide, bad h⟩
    refine ⟨_, rfl, _, _, rfl, rfl, _, rfl, ?_⟩
    rw [i1]
    by_cases c1 : 2 ≤ n
    · rw [decide_eq_true c1]
      refine iteT ⟨_, _, rfl, rfl, _, rfl, ?_⟩
      rw [i2]
      by_cases c2 : n ≤ 17
      · rw [decide_eq_true c2]
        refine iteF ⟨_, rfl, _, _, rfl, rfl, _, rfl, ?_⟩
        rw [i3]
        by_cases c3 : 1 ≤ m
        · rw [decide_eq_true c3]
          refine iteT ⟨_, _, rfl, rfl, _, rfl, ?_⟩
          rw [i4]
          by_cases c4 : m ≤ 12
          · rw [decide_eq_true c4]
            exact iteF (good ⟨c1, c2⟩ ⟨c3, c4⟩)
          · rw [decide_eq_false c4]
            exact iteT (stop (by omega))
        · rw [decide_eq_false c3]
          refine iteF ⟨_, rfl, ?_⟩
          exact iteT (stop (by omega))
      · rw [decide_eq_false c2]
        refine iteT ?_
        exact iteT (stop (by omega))
    · rw [decide_eq_false c1]
      refine iteF ⟨_, rfl, ?_⟩
      refine iteT ?_
      exact iteT (stop (by omega))
end
end Ts

end
section
/-! The program's heap, part 11: live_booking, cancel, row. -/
set_option Elab.async false
set_option maxRecDepth 100000
set_option maxHeartbeats 2000000
namespace Ts
open PySem PySem.Spec PyProof.Rows L2
theorem paired_of_get {α β : Type} {G : α → β → Prop} : ∀ {l : List α} {m : List β}, l.length = m.length → (∀ (i : Nat) a b, l[i]? = some a → m[i]? = some b → G a b) → Paired G l m
  | [], [], _, _ => .nil
  | [], _ :: _, h, _ => by (simp at h)
  | _ :: _, [], h, _ => by (simp at h)
  | a :: l, b :: m, h, g => .cons (g 0 a b rfl rfl) (paired_of_get (by simpa using h) fun i a b x y => g (i + 1) a b x y)
theorem abs_get (T : Tr) (i : Nat) : T.abs.bookings[i]? = T.bks[i]?.map Bk.out := by
  show (T.bks.map Bk.out)[i]? = _
  rw [List.getElem?_map]
theorem Ok.len40 {T : Tr} (h : Ok T.abs) : T.bks.length ≤ 40 := by
  have := h.len
  rwa [show T.abs.bookings.length = T.bks.length from List.length_map _] at this
theorem out_live {b : Bk} (h : b.can = false) : b.out = some b.bk := by
  unfold Bk.out
  rw [h]
  rfl
theorem out_can {b : Bk} (h : b.can = true) : b.out = none := by
  unfold Bk.out
  rw [h]
  rfl
theorem live_held (T : Tr) : (live T.bks).length = (Ks327.held T.abs).length := by
  rw [held_abs, List.length_map]
theorem mem_live {T : Tr} {i : Nat} {b : Bk} (h : T.bks[i]? = some b) (hc : b.can = false) : b ∈ live T.bks := List.mem_filter.mpr ⟨List.mem_of_getElem? h, by rw [hc]; rfl⟩
theorem wf_live {T : Tr} (h : Ok T.abs) {b : Bk} (hb : b ∈ live T.bks) : BkOk T.stops T.seats b.bk := by
  refine h.wf b.bk ?_
  rw [held_abs]
  exact List.mem_map.mpr ⟨b, hb, rfl⟩
theorem RowsOk.of {T : Tr} (h : Ok T.abs) : RowsOk T.bks := fun b hb => (wf_live h hb).len
def spLiveB (CD CB CT : Addr) : Sp := fun vs H Q _ => ∃ (d : Addr) (i : Nat), vs = [.ref d, nV i] ∧ ((∃ dx, H d = some (.ins CD dx (dkf .non)) ∧ Q .non H) ∨ ∃ (dx t : Addr) (T : Tr) (dx1 L : Addr) (as : List Addr) (X : Addr), H d = some (.ins CD dx (dkf (.ref t))) ∧ TrH CB CT H t T dx1 L as X ∧ as.length ≤ 100 ∧
  (T.abs.bookings.getD i none = none → Q .non H) ∧ ∀ a b, as[i]? = some a → T.bks[i]? = some b → b.can = false → Q (.ref a) H)
section
variable {P : Program} {w : World} {K : PySem.W.Frag} {mg : Str → Option Value} {base : Heap}
theorem scLiveB : FnScope ["self", "number", "booking"] ["self", "number"] (defScope sLiveB) := ⟨rfl, rfl, rfl, by decide +kernel, rfl, by decide +kernel, by decide +kernel⟩
theorem ok_liveB {f CD CB CT : Addr} {fd : FuncData} (F : Fun K "live_booking" "Desk.live_booking" sLiveB f fd) (B : Bl mg) (TD : TxD K CD) (TB : TxB K CB) (TT : TxT K CT) : FnOk P w K mg base CX0 1 f fd ["self", "number"] (spLiveB CD CB CT) := by
  refine F.ok scLiveB (fun vs H Q E h => ?_) (fun cdv A outer s H vs Q E hr h => ?_)
  · obtain ⟨d, i, rfl, _⟩ := h
    rfl
  · obtain ⟨d, i, rfl, h⟩ := h
    refine ⟨_, pss_cons (ps_if (pw_or (pt_cmp (pc_isN (pe_fld (pv 0) rfl))) (pw_or1 (pt_cmpR op_ge (pv 1) (pe_callB call_len (by rfl) B.len PySem.boot_len (pa_cons (pe_fld (pe_fld (pv 0) rfl) rfl) pa_nil)) (nomark _)))).pt (pss_one (ps_ret pe_non)) pss_nil)
      (pss_cons (ps_set (i := 2) scLiveB.nd rfl (Or.inl rfl) (pe_ix ix_list (pe_fld (pe_fld (pv 0) rfl) rfl) (pv 1) (fun _ _ => rfl)))
      (pss_one (ps_ret (pe_ifExp (pt_val (pe_fld (pv 2) rfl)) pe_non (pv 2))))), ?_⟩
    rcases h with ⟨dx, hd, q⟩ | ⟨dx, t, T, dx1, L, as, X, hd, hT, hl, q1, q2⟩
    · refine ⟨_, rfl, d, CD, dx, _, _, rfl, hd, TD.cl, TD.nt, dkf_train _, _, rfl, ?_⟩
      exact iteT (iteT q)
    · refine ⟨_, rfl, d, CD, dx, _, _, rfl, hd, TD.cl, TD.nt, dkf_train _, _, rfl, ?_⟩
      refine iteF ⟨_, rfl, _, rfl, d, CD, dx, _, _, rfl, hd, TD.cl, TD.nt, dkf_train _, t, CT, dx1, _, _, rfl, hT.obj, TT.cl, TT.nb, trf_bk _ _ _, _, as.length, rfl, .inl ⟨_, SqL.of hT.lst, (List.length_map _).symm⟩, _, _, rfl, rfl, _, rfl, ?_⟩
      have hbl := paired_len hT.bks
      have ei : decide ((as.length : Int) ≤ (i : Int)) = decide (as.length ≤ i) := by rw [decide_eq_decide]; omega
      rw [ei]
      by_cases c : as.length ≤ i
      · rw [decide_eq_true c]
        refine iteT (q1 ?_)
        rw [List.getD_eq_getElem?_getD, abs_get, List.getElem?_eq_none (by omega)]
        rfl
      · rw [decide_eq_false c]
        have ha : as[i]? = some (as[i]'(by omega)) := List.getElem?_eq_getElem _
        obtain ⟨b, hb, hB⟩ := paired_get hT.bks ha
        obtain ⟨dx2, r, h1, h2, h3⟩ := id hB
        refine iteF ⟨_, rfl, d, CD, dx, _, _, rfl, hd, TD.cl, TD.nt, dkf_train _, t, CT, dx1, _, _, rfl, hT.obj, TT.cl, TT.nb, trf_bk _ _ _, _, rfl, L, _, _, _, rfl, rfl, SqL.of hT.lst, atI_nat (j := i) (v := V.ref _) (by rw [List.getElem?_map, ha]; rfl), ?_⟩
        refine ⟨_, rfl, _, CB, dx2, _, _, rfl, h1, TB.cl, TB.nc, bkf_can b r, _, rfl, ?_⟩
        cases hc : b.can
        · exact iteF ⟨_, rfl, q2 _ b ha hb hc⟩
        · refine iteT (q1 ?_)
          rw [List.getD_eq_getElem?_getD, abs_get, hb]
          show (some b.out).getD none = none
          rw [out_can hc]
          rfl
theorem scTell : FnScope ["self", "number", "booking"] ["self", "number"] (defScope sTell) := ⟨rfl, rfl, rfl, by decide +kernel, rfl, by decide +kernel, by decide +kernel⟩
theorem ok_tell {f CD CB CT : Addr} {fd : FuncData} (F : Fun K "tell_row" "Desk.tell_row" sTell f fd) (B : Bl mg) (C : Cs mg) (TD : TxD K CD) (TB : TxB K CB) (M1 : MethOk P w K mg base CD "live_booking" ["self", "number"] 1 (spLiveB CD CB CT)) :
    FnOk P w K mg base CX0 2 f fd ["self", "number"] (spDesk CD CB CT 1 fun ns => .row (ns.getD 0 0)) := by
  obtain ⟨f1, fd1, m1, b1, G1⟩ := M1
  refine F.ok scTell (fun vs H Q E h => ?_) (fun cdv A outer s H vs Q E hr h => ?_)
  · obtain ⟨d, X, o, ow, ns, rfl, hn, _⟩ := h
    simp [hn]
  · obtain ⟨d, X, o, ow, ns, rfl, hn, hD, ⟨zX, hX⟩, hO, k⟩ := h
    obtain ⟨i, rfl⟩ : ∃ i, ns = [i] := by
      match ns, hn with
      | [i], _ => exact ⟨i, rfl⟩
    refine ⟨_, pss_cons (ps_set (i := 2) scTell.nd rfl (Or.inl rfl) (pe_meth (pv 0) TD.cl m1 G1 hr b1 .nil pass0 (pa_cons (pv 1) pa_nil)))
      (pss_cons (ps_if (pt_cmp (pc_isN (pv 2))) (pss_one (ps_ret (pe_lst (pa_cons (pe_ci C.nb (by rfl)) pa_nil)))) pss_nil)
      (pss_one (ps_ret (pe_op op_cat (pe_lst (pa_cons (pe_callB call_len rfl B.len PySem.boot_len (pa_cons (pe_fld (pv 2) rfl) pa_nil)) (pa_cons (pe_fld (pv 2) rfl) pa_nil))) (pe_fld (pv 2) rfl))))), ?_⟩
    have no : (absO o).bookings.getD i none = none → (tSeq (tIfS (tB (tIsN (tVar 2))) (tRet (tLst (tCons (tC (.int (-2))) tNil))) tNext) (tRet (tOp rCat (tLst (tCons (tCB (fun xs H Q => ∃ x n, xs = [x] ∧ LenV K x H n ∧ Q (.int n) H) (tCons (tFld K (tVar 2) "row") tNil)) (tCons (tFld K (tVar 2) "from_stop") tNil))) (tFld K (tVar 2) "row")))) { nx := fun _ H' => Q .non H', rt := Q } [some (.ref d), some (nV i), some .non] H := fun h => by
      refine ⟨_, rfl, _, rfl, ?_⟩
      refine iteT ⟨by show 1 ≤ sizeLine; decide, fun p hp => ?_⟩
      have e := row_none h
      refine k o _ p ow ?_ hO (hD.same (Same.new hp)) (Frame.same (Same.new hp) ow) hp ?_
      · show _ = (Ks327.act (absO o) (.row i)).1
        rw [e]
      · show _ = some (HO.lst ((Ks327Neutral.sa (Ks327.act (absO o) (.row i))).2.map V.int))
        rw [e, upd_same]
        rfl
    cases hD with
    | none obj =>
      refine ⟨_, rfl, d, _, _, rfl, obj, dkf_no _ (by decide +kernel), _, rfl, d, i, rfl, .inl ⟨_, obj, ?_⟩⟩
      exact no rfl
    | @some dx t dx1 L as T obj tr =>
      have hl40 := Ok.len40 hO
      have hbl := paired_len tr.bks
      refine ⟨_, rfl, d, _, _, rfl, obj, dkf_no _ (by decide +kernel), _, rfl, d, i, rfl, .inr ⟨_, t, T, dx1, L, as, X, obj, tr, by omega, no, fun a b ha hb hc => ?_⟩⟩
      obtain ⟨b', hb', dx2, r, h1, h2, h3⟩ := paired_get tr.bks ha
      have eb : b' = b := Option.some.inj (hb'.symm.trans hb)
      subst eb
      have hwf := wf_live hO (mem_live hb hc)
      have hst := hO.st17
      have hrl : b'.row.length ≤ 17 := by
        have h4 := hwf.len
        have h5 := hwf.stop
        have h6 : T.abs.stops = T.stops := rfl
        have h7 : b'.bk.seats = b'.row := rfl
        have h8 : b'.bk.to_ = b'.to_ := rfl
        rw [h7] at h4
        omega
      refine ⟨_, rfl, _, rfl, ?_⟩
      refine iteF ⟨_, rfl, a, CB, dx2, _, _, rfl, h1, TB.cl, TB.nr, bkf_row b' r, _, b'.row.length, rfl, .inl ⟨_, SqL.of h2, (nvs_len _).symm⟩, _, rfl, a, CB, dx2, _, _, rfl, h1, TB.cl, TB.nf, bkf_from b' r, by show 2 ≤ sizeLine; decide, fun q hq => ?_⟩
      have smq : Same H (upd H q (.lst [nV b'.row.length, nV b'.fr])) := Same.new hq
      refine ⟨_, rfl, a, CB, dx2, _, _, rfl, smq _ _ h1, TB.cl, TB.nr, bkf_row b' r, q, r, _, _, rfl, rfl, upd_same, smq _ _ h2, ?_, fun p hp => ?_⟩
      · rw [nvs_len]
        show 2 + _ ≤ _
        exact line_le (by omega)
      · have sm2 := smq.trans (Same.new (o := .lst ([nV b'.row.length, nV b'.fr] ++ nvs b'.row)) hp)
        have hg : T.abs.bookings.getD i none = some b'.bk := by
          rw [List.getD_eq_getElem?_getD, abs_get, hb]
          show (some b'.out).getD none = _
          rw [out_live hc]
          rfl
        have e := row_some hg
        refine k (some T) _ p _ ?_ hO (.some (sm2 _ _ obj) (tr.same sm2)) (Frame.same sm2 _) (smq.free hp) ?_
        · show _ = (Ks327.act T.abs (.row i)).1
          rw [e]
          rfl
        · show _ = some (HO.lst ((Ks327Neutral.sa (Ks327.act T.abs (.row i))).2.map V.int))
          rw [e, upd_same]
          show _ = some (HO.lst (V.int (b'.row.length : Int) :: (Ks327Neutral.ints (b'.fr :: b'.row)).map V.int))
          unfold Ks327Neutral.ints
          rw [List.map_cons, List.map_cons, List.map_map]
          rfl
theorem scCancel : FnScope ["self", "number", "booking"] ["self", "number"] (defScope sCancel) := ⟨rfl, rfl, rfl, by decide +kernel, rfl, by decide +kernel, by decide +kernel⟩
theorem ok_cancel {f CD CB CT : Addr} {fd : FuncData} (F : Fun K "cancel" "Desk.cancel" sCancel f fd) (B : Bl mg) (C : Cs mg) (TD : TxD K CD) (TB : TxB K CB) (TT : TxT K CT) (M1 : MethOk P w K mg base CD "live_booking" ["self", "number"] 1 (spLiveB CD CB CT))
    (M2 : MethOk P w K mg base CT "live_bookings" ["self"] 1 (spLive CB CT)) : FnOk P w K mg base CX0 2 f fd ["self", "number"] (spDesk CD CB CT 1 fun ns => .cancel (ns.getD 0 0)) := by
  obtain ⟨f1, fd1, m1, b1, G1⟩ := M1
  obtain ⟨f2, fd2, m2, b2, G2⟩ := M2
  refine F.ok scCancel (fun vs H Q E h => ?_) (fun cdv A outer s H vs Q E hr h => ?_)
  · obtain ⟨d, X, o, ow, ns, rfl, hn, _⟩ := h
    simp [hn]
  · obtain ⟨d, X, o, ow, ns, rfl, hn, hD, ⟨zX, hX⟩, hO, k⟩ := h
    obtain ⟨i, rfl⟩ : ∃ i, ns = [i] := by
      match ns, hn with
      | [i], _ => exact ⟨i, rfl⟩
    refine ⟨_, pss_cons (ps_set (i := 2) scCancel.nd rfl (Or.inl rfl) (pe_meth (pv 0) TD.cl m1 G1 hr b1 .nil pass0 (pa_cons (pv 1) pa_nil)))
      (pss_cons (ps_if (pt_cmp (pc_isN (pv 2))) (pss_one (ps_ret (pe_lst (pa_cons (pe_ci C.nb (by rfl)) pa_nil)))) pss_nil)
      (pss_cons (ps_fld (pv 2) pe_bl rfl)
      (pss_one (ps_ret (pe_lst (pa_cons (pe_callB call_len rfl B.len PySem.boot_len (pa_cons (pe_meth0 (pe_fld (pv 0) rfl) TT.cl m2 G2 hr b2 .nil pass0) pa_nil)) pa_nil)))))), ?_⟩
    have no : (absO o).bookings.getD i none = none → ∀ p, H p = none → Q (.ref p) (upd H p (.lst [.int (-2)])) := fun h p hp => by
      have e := cancel_none h
      refine k o _ p ow ?_ hO (hD.same (Same.new hp)) (Frame.same (Same.new hp) ow) hp ?_
      · show _ = (Ks327.act (absO o) (.cancel i)).1
        rw [e]
      · show _ = some (HO.lst ((Ks327Neutral.sa (Ks327.act (absO o) (.cancel i))).2.map V.int))
        rw [e, upd_same]
        rfl
    cases hD with
    | none obj =>
      refine ⟨_, rfl, d, _, _, rfl, obj, dkf_no _ (by decide +kernel), _, rfl, d, i, rfl, .inl ⟨_, obj, ?_⟩⟩
      exact ⟨_, rfl, _, rfl, iteT ⟨by show 1 ≤ sizeLine; decide, no rfl⟩⟩
    | @some dx t dx1 L as T obj tr =>
      have hl40 := Ok.len40 hO
      have hbl := paired_len tr.bks
      refine ⟨_, rfl, d, _, _, rfl, obj, dkf_no _ (by decide +kernel), _, rfl, d, i, rfl, .inr ⟨_, t, T, dx1, L, as, X, obj, tr, by omega, fun h => ⟨_, rfl, _, rfl, iteT ⟨by show 1 ≤ sizeLine; decide, no h⟩⟩, fun a b ha hb hc => ?_⟩⟩
      obtain ⟨b', hb', dx2, r, h1, h2, h3⟩ := paired_get tr.bks ha
      have eb : b' = b := Option.some.inj (hb'.symm.trans hb)
      subst eb
      refine ⟨_, rfl, _, rfl, iteF ⟨_, rfl, a, CB, dx2, _, rfl, h1, TB.cl, TB.nc, (by show 4 < 1000; decide), ?_⟩⟩
      rw [bkf_putCan]
      -- the heap behind it
      have hga : T.abs.bookings[i]? = some (some b'.bk) := by
        rw [abs_get, hb]
        show some b'.out = _
        rw [out_live hc]
      obtain ⟨e, hok⟩ := cancel_some hO hga
      have hset : ({ T with bks := T.bks.set i { b' with can := true } } : Tr).abs = { T.abs with bookings := T.abs.bookings.set i none } := by
        show ({ stops := T.stops, seats := T.seats, bookings := (T.bks.set i { b' with can := true }).map Bk.out } : Ks327.Abs) = { stops := T.stops, seats := T.seats, bookings := (T.bks.map Bk.out).set i none }
        rw [List.map_set]
        rfl
      have hda : d ≠ a := fun q => by
        rw [q, h1] at obj
        injection obj with obj
        injection obj with q1 q2 q3
        have := congrArg (List.lookup ("row" : Str)) q3
        rw [bkf_row, dkf_no _ (by decide +kernel)] at this
        cases this
      have hta : t ≠ a := fun q => by
        have q0 := tr.obj
        rw [q, h1] at q0
        injection q0 with q0
        injection q0 with q1 q2 q3
        have := congrArg (List.lookup ("row" : Str)) q3
        rw [bkf_row, trf_no _ _ _ (by decide +kernel) (by decide +kernel) (by decide +kernel)] at this
        cases this
      have hLa : L ≠ a := ne_of tr.lst h1 (by intro z; cases z)
      have tr2 : TrH CB CT (upd H a (.ins CB dx2 (bkf { b' with can := true } r))) t { T with bks := T.bks.set i { b' with can := true } } dx1 L as X := by
        refine ⟨by rw [upd_ne hta]; exact tr.obj, by rw [upd_ne hLa]; exact tr.lst, tr.nd, paired_of_get (by rw [List.length_set]; exact hbl) fun j a' c ha' hc' => ?_⟩
        by_cases hji : j = i
        · subst hji
          have ea : a = a' := Option.some.inj (ha.symm.trans ha')
          subst ea
          rw [List.getElem?_set_self (List.getElem?_eq_some_iff.mp hb).1] at hc'
          have ec := Option.some.inj hc'
          subst ec
          exact ⟨dx2, r, upd_same, by rw [upd_ne (ne_of h2 h1 (by intro z; cases z))]; exact h2, h3⟩
        · rw [List.getElem?_set_ne (fun q => hji q.symm)] at hc'
          obtain ⟨c2, hc2, dx3, r3, g1, g2, g3⟩ := paired_get tr.bks ha'
          have ec : c2 = c := Option.some.inj (hc2.symm.trans hc')
          subst ec
          have haa : a' ≠ a := fun q => hji (nd_ix tr.nd ha' (by rw [q]; exact ha))
          exact ⟨dx3, r3, by rw [upd_ne haa]; exact g1, by rw [upd_ne (ne_of g2 h1 (by intro z; cases z))]; exact g2, g3⟩
      have obj2 : (upd H a (.ins CB dx2 (bkf { b' with can := true } r))) d = some (.ins CD dx (dkf (.ref t))) := by
        rw [upd_ne hda]
        exact obj
      generalize hH2 : upd H a (.ins CB dx2 (bkf { b' with can := true } r)) = H2 at *
      refine ⟨_, rfl, d, CD, dx, _, _, rfl, obj2, TD.cl, TD.nt, dkf_train _, t, dx1, _, rfl, tr2.obj, trf_no _ _ _ (by decide +kernel) (by decide +kernel) (by decide +kernel), t, _, dx1, L, as, X, rfl, tr2, by omega, fun H3 p sm3 hp0 hp3 => ?_⟩
      refine ⟨_, _, rfl, .inl ⟨_, SqL.of hp3, rfl⟩, by show 1 ≤ sizeLine; decide, fun q hq => ?_⟩
      have sm4 : Same H2 (upd H3 q (.lst [V.int (((liveA as (T.bks.set i { b' with can := true })).map V.ref).length : Int)])) := sm3.trans (Same.new hq)
      have hq2 : H2 q = none := sm3.free hq
      have hqH : H q = none := by
        by_cases z : q = a
        · rw [z, ← hH2, upd_same] at hq2
          cases hq2
        · rw [← hH2, upd_ne z] at hq2
          exact hq2
      have halen : (liveA as (T.bks.set i { b' with can := true })).length = (Ks327.held ({ T with bks := T.bks.set i { b' with can := true } } : Tr).abs).length := by
        rw [← live_held]
        exact paired_len (live_paired tr2.bks)
      refine k (some { T with bks := T.bks.set i { b' with can := true } }) _ q (d :: t :: L :: as) ?_ ?_ (.some (sm4 _ _ obj2) (tr2.same sm4)) ⟨fun c o' hc' hn => sm4 _ _ ?_, fun c hc' => .inl hc'⟩ hqH ?_
      · show _ = (Ks327.act T.abs (.cancel i)).1
        rw [e]
        exact hset
      · show Ok _
        rw [hset]
        exact hok
      · rw [← hH2, upd_ne (fun z => hn (by rw [z]; exact List.mem_cons_of_mem _ (List.mem_cons_of_mem _ (List.mem_cons_of_mem _ (List.mem_of_getElem? ha)))))]
        exact hc'
      · show _ = some (HO.lst ((Ks327Neutral.sa (Ks327.act T.abs (.cancel i))).2.map V.int))
        rw [e, upd_same, ← hset, ← halen, List.length_map]
        rfl
end
end Ts

end
section
/-! The program's heap, part 12: book. -/
set_option Elab.async false
set_option maxRecDepth 100000
set_option maxHeartbeats 3900000
namespace Ts
open PySem PySem.Spec PyProof.Rows L2
open Ks325 (parts)
theorem parts_get {x y i : Nat} (h : i < y - x) : (parts x y)[i]? = some (x + i) := by
  unfold parts
  rw [List.getElem?_map, List.getElem?_range h]
  rfl
theorem full_at {a : Ks327.Abs} {x y i : Nat} (hi : i < y - x) (h1 : freeOn a.seats (Ks327.held a) (x + i) = []) (h2 : ∀ j, j < i → freeOn a.seats (Ks327.held a) (x + j) ≠ []) : fullPart a x y = some (x + i) := by
  unfold fullPart
  refine find_at (parts_get hi) (by rw [h1]; rfl) fun j b hj hb => ?_
  rw [parts_get (by omega)] at hb
  have e : x + j = b := Option.some.inj hb
  subst e
  have := h2 j hj
  cases q : freeOn a.seats (Ks327.held a) (x + j) with
  | nil => exact absurd q this
  | cons z l => rfl
theorem full_none {a : Ks327.Abs} {x y : Nat} (h2 : ∀ j, j < y - x → freeOn a.seats (Ks327.held a) (x + j) ≠ []) : fullPart a x y = none := by
  unfold fullPart
  refine List.find?_eq_none.mpr fun b hb => ?_
  obtain ⟨j, hj⟩ := (List.getElem?_of_mem hb)
  have hjl := (List.getElem?_eq_some_iff.mp hj).1
  rw [Ts.parts_len] at hjl
  rw [parts_get hjl] at hj
  have e : x + j = b := Option.some.inj hj
  subst e
  have := h2 j hjl
  cases q : freeOn a.seats (Ks327.held a) (x + j) with
  | nil => exact absurd q this
  | cons z l => simp
theorem reseat_get : ∀ {bs : List Bk} {ss : List Nat} {i : Nat} {b : Bk}, bs[i]? = some b → b.can = false → ss.length = (live bs).length → ∃ s, (reseat bs ss)[i]? = some { b with row := List.replicate (b.to_ - b.fr) s }
  | [], _, i, b, h, _, _ => by cases h
  | c :: bs, ss, i, b, h, hb, hl => by
    have e1 : live (c :: bs) = if !c.can then c :: live bs else live bs := by
      unfold live
      rw [List.filter_cons]
    cases hc : c.can with
    | true =>
      rw [e1, hc] at hl
      have e3 : reseat (c :: bs) ss = c :: reseat bs ss := by
        show (if c.can then c :: reseat bs ss else _) = _
        rw [hc]
        rfl
      rw [e3]
      cases i with
      | zero =>
        have e : c = b := Option.some.inj h
        rw [e, hb] at hc
        cases hc
      | succ i => exact reseat_get (bs := bs) h hb hl
    | false =>
      rw [e1, hc] at hl
      cases ss with
      | nil => simp at hl
      | cons s ss =>
        have e3 : reseat (c :: bs) (s :: ss) = { c with row := List.replicate (c.to_ - c.fr) s } :: reseat bs ss := by
          show (if c.can then c :: reseat bs (s :: ss) else _) = _
          rw [hc]
          rfl
        rw [e3]
        cases i with
        | zero =>
          have e : c = b := Option.some.inj h
          subst e
          exact ⟨s, rfl⟩
        | succ i => exact reseat_get (bs := bs) h hb (by simpa using hl)
theorem live_snoc (l : List Bk) {b : Bk} (h : b.can = false) : live (l ++ [b]) = live l ++ [b] := by
  unfold live
  rw [List.filter_append, List.filter_cons, h]
  rfl
theorem absSnoc (T : Tr) {b : Bk} (h : b.can = false) : ({ T with bks := T.bks ++ [b] } : Tr).abs = { T.abs with bookings := T.abs.bookings ++ [some b.bk] } := by
  show ({ stops := T.stops, seats := T.seats, bookings := (T.bks ++ [b]).map Bk.out } : Ks327.Abs) = { stops := T.stops, seats := T.seats, bookings := T.bks.map Bk.out ++ [some b.bk] }
  rw [List.map_append, List.map_cons, out_live h]
  rfl
theorem paired_snoc {α β : Type} {G : α → β → Prop} {l : List α} {m : List β} {a : α} {b : β} (h : Paired G l m) (g : G a b) : Paired G (l ++ [a]) (m ++ [b]) := Paired.snoc h g
section
variable {P : Program} {w : World} {K : PySem.W.Frag} {mg : Str → Option Value} {base : Heap}
theorem scBook : FnScope ["self", "from_stop", "to_stop", "how", "train", "number", "free_by_part", "part", "free_seats", "booking"] ["self", "from_stop", "to_stop", "how"] (defScope sBook) := ⟨rfl, rfl, rfl, by decide +kernel, rfl, by decide +kernel, by decide +kernel⟩
theorem ok_book {f CD CB CT fI : Addr} {fd fdI : FuncData} (F : Fun K "book" "Desk.book" sBook f fd) (B : Bl mg) (C : Cs mg) (TD : TxD K CD) (TB : TxB K CB) (TT : TxT K CT)
    (M1 : MethOk P w K mg base CT "is_way" ["self", "from_stop", "to_stop"] 1 (spWay CT)) (M2 : MethOk P w K mg base CT "free_by_part" ["self", "from_stop", "to_stop"] 3 (spParts CB CT)) (M3 : MethOk P w K mg base CT "seat_all_at_once" ["self"] 3 (spAll CB CT))
    (D1 : DefOk P w K mg base "fewest_changes_row" ["free_by_part"] 4 (spRow K)) (D2 : DefOk P w K mg base "count_changes" ["row"] 2 (spCount K))
    (mB : mg "Booking" = some (.ref CB)) (MB : Mk K CB fI) (bI : Binds K fdI ["self", "from_stop", "to_stop"] []) (GI : FnOk P w K mg base CX0 1 fI fdI ["self", "from_stop", "to_stop"] (spBInit CB)) :
    FnOk P w K mg base CX0 5 f fd ["self", "from_stop", "to_stop", "how"] (spDesk CD CB CT 3 fun ns => .book (ns.getD 0 0) (ns.getD 1 0) (ns.getD 2 0)) := by
  obtain ⟨f1, fd1, m1, b1, G1⟩ := M1
  obtain ⟨f2, fd2, m2, b2, G2⟩ := M2
  obtain ⟨f3, fd3, m3, b3, G3⟩ := M3
  obtain ⟨f4, fd4, m4, k4, b4, G4⟩ := D1
  obtain ⟨f5, fd5, m5, k5, b5, G5⟩ := D2
  refine F.ok scBook (fun vs H Q E h => ?_) (fun cdv A outer s H vs Q E hr h => ?_)
  · obtain ⟨d, X, o, ow, ns, rfl, hn, _⟩ := h
    simp [hn]
  · obtain ⟨d, X, o, ow, ns, rfl, hn, hD, ⟨zX, hX⟩, hO, k⟩ := h
    obtain ⟨x, y, how, rfl⟩ : ∃ x y how, ns = [x, y, how] := by
      match ns, hn with
      | [x, y, how], _ => exact ⟨x, y, how, rfl⟩
    have hr1 : Room 1 _ := hr.mono (by decide)
    have hr2 : Room 2 _ := hr.mono (by decide)
    have hr3 : Room 3 _ := hr.mono (by decide)
    refine ⟨_, pss_cons (ps_set (i := 4) scBook.nd rfl (Or.inl rfl) (pe_fld (pv 0) rfl))
      (pss_cons (ps_if (pt_cmp (pc_isN (pv 4))) (pss_one (ps_ret (pe_lst (pa_cons (pe_ci C.nt (by rfl)) pa_nil)))) pss_nil)
      (pss_cons (ps_if (pw_or (pt_not (pt_val (pe_meth (pv 4) TT.cl m1 G1 hr1 b1 .nil pass0 (pa_cons (pv 1) (pa_cons (pv 2) pa_nil))))) (pw_or1 (pt_cmpR op_gt (pv 3) (pe_ci C.al (by rfl)) (nomark _)))).pt (pss_one (ps_ret (pe_lst (pa_cons (pe_ci C.wv (by rfl)) pa_nil)))) pss_nil)
      (pss_cons (ps_set (i := 5) scBook.nd rfl (Or.inl rfl) (pe_callB call_len (by rfl) B.len PySem.boot_len (pa_cons (pe_fld (pv 4) rfl) pa_nil)))
      (pss_cons (ps_if (pt_cmpR op_eq (pv 5) (pe_ci C.mb (by rfl)) (nomark _)) (pss_one (ps_ret (pe_lst (pa_cons (pe_ci C.tm (by rfl)) pa_nil)))) pss_nil)
      (pss_cons (ps_set (i := 6) scBook.nd rfl (Or.inl rfl) (pe_meth (pv 4) TT.cl m2 G2 hr3 b2 .nil pass0 (pa_cons (pv 1) (pa_cons (pv 2) pa_nil))))
      (pss_cons (ps_for PassesOwn.never rfl (pi_enumS rfl B.enumerate (pa_cons (pv 6) pa_nil) (pv 1)) (pg_tup rfl (pgs_cons (pg_name (i := 7) scBook.nd rfl (Or.inl rfl)) (pgs_cons (pg_name (i := 8) scBook.nd rfl (Or.inl rfl)) pgs_nil)))
          (pss_one (ps_if (pt_cmpR op_eq (pe_callB call_len (by rfl) B.len PySem.boot_len (pa_cons (pv 8) pa_nil)) pe_int (nomark _)) (pss_one (ps_ret (pe_lst (pa_cons (pe_op op_sub (pe_ci C.pf (by rfl)) (pv 7)) pa_nil)))) pss_nil)))
      (pss_cons (ps_set (i := 9) scBook.nd rfl (Or.inl rfl) (pe_make MB GI hr2 rfl mB bI .nil pass0 (pa_cons (pv 1) (pa_cons (pv 2) pa_nil))))
      (pss_cons (ps_expr (pe_bm PySem.F.plainAttrs_list PySem.F.slot_list_append PySem.F.type_list_append mt_append (pe_fld (pv 4) rfl) (pa_cons (pv 9) pa_nil)))
      (pss_cons (ps_if (pt_cmpR op_eq (pv 3) (pe_ci C.os (by rfl)) (nomark _)) (pss_one (ps_fld (pv 9) (pe_call G4 hr rfl m4 k4 b4 .nil pass0 (pa_cons (pv 6) pa_nil)) rfl)) (pss_one (ps_expr (pe_meth0 (pv 4) TT.cl m3 G3 hr3 b3 .nil pass0))))
      (pss_one (ps_ret (pe_lst (pa_cons (pv 5) (pa_cons (pe_call G5 hr2 rfl m5 k5 b5 .nil pass0 (pa_cons (pe_fld (pv 9) rfl) pa_nil)) pa_nil)))))))))))))), ?_⟩
    have refuse : ∀ (z : Int) (H2 : Hp), Same H H2 → Ks327.act (absO o) (.book x y how) = (absO o, Ks327.no z) → ∀ p, H2 p = none → Q (.ref p) (upd H2 p (.lst [.int z])) := fun z H2 sm e p hp => by
      have sm2 := sm.trans (Same.new (o := .lst [.int z]) hp)
      refine k o _ p ow ?_ hO (hD.same sm2) (Frame.same sm2 ow) (sm.free hp) ?_
      · show _ = (Ks327.act (absO o) (.book x y how)).1
        rw [e]
      · show _ = some (HO.lst ((Ks327Neutral.sa (Ks327.act (absO o) (.book x y how))).2.map V.int))
        rw [e, upd_same]
        rfl
    cases hD with
    | none obj =>
      refine ⟨_, rfl, d, CD, _, _, _, rfl, obj, TD.cl, TD.nt, dkf_train _, ?_⟩
      exact ⟨_, rfl, _, rfl, iteT ⟨by show 1 ≤ sizeLine; decide, refuse _ H (Same.refl H) (book_61 on_none x y how)⟩⟩
    | @some dx t dx1 L as T obj tr =>
      have hOk : Ok T.abs := hO
      have hl40 := Ok.len40 hOk
      have hbl := paired_len tr.bks
      have hst17 : T.stops ≤ 17 := hOk.st17
      have hse12 : T.seats ≤ 12 := hOk.se12
      have hblen : T.abs.bookings.length = T.bks.length := List.length_map _
      refine ⟨_, rfl, d, CD, _, _, _, rfl, obj, TD.cl, TD.nt, dkf_train _, ?_⟩
      refine ⟨_, rfl, _, rfl, iteF ?_⟩
      refine ⟨_, rfl, t, dx1, _, rfl, tr.obj, trf_no _ _ _ (by decide +kernel) (by decide +kernel) (by decide +kernel), _, rfl, _, rfl, t, dx1, L, T.stops, T.seats, x, y, rfl, tr.obj, _, rfl, ?_⟩
      have hway : Ks327.okWay T.abs x y = (decide (x < y) && decide (y < T.stops)) := rfl
      cases hc1 : (decide (x < y) && decide (y < T.stops)) with
      | false =>
        refine iteT ?_
        exact iteT ⟨by show 1 ≤ sizeLine; decide, refuse _ H (Same.refl H) (book_22 hOk (.inl (hway.trans hc1)))⟩
      | true =>
        have hw2 : x < y ∧ y < T.stops := by
          rw [Bool.and_eq_true, decide_eq_true_eq, decide_eq_true_eq] at hc1
          exact hc1
        have hokw : Ks327.okWay T.abs x y = true := hway.trans hc1
        refine iteF ⟨_, rfl, _, _, rfl, rfl, _, rfl, ?_⟩
        have eh : decide ((1 : Int) < (how : Int)) = decide (1 < how) := by rw [decide_eq_decide]; omega
        rw [eh]
        by_cases hh : 1 < how
        · rw [decide_eq_true hh]
          exact iteT ⟨by show 1 ≤ sizeLine; decide, refuse _ H (Same.refl H) (book_22 hOk (.inr hh))⟩
        · rw [decide_eq_false hh]
          refine iteF ?_
          -- number = len(train.bookings)
          refine ⟨_, rfl, t, CT, dx1, _, _, rfl, tr.obj, TT.cl, TT.nb, trf_bk _ _ _, _, as.length, rfl, .inl ⟨_, SqL.of tr.lst, (List.length_map _).symm⟩, ?_⟩
          refine ⟨_, rfl, rfl, _, rfl, ?_⟩
          have en : decide (V.int (as.length : Int) = V.int 40) = decide (as.length = 40) := by
            rw [decide_eq_decide]
            constructor
            · intro q
              injection q with q
              omega
            · intro q
              rw [q]
              rfl
          rw [en]
          by_cases h40 : as.length = 40
          · rw [decide_eq_true h40]
            exact iteT ⟨by show 1 ≤ sizeLine; decide, refuse _ H (Same.refl H) (book_12 hOk hokw (by omega) (by omega))⟩
          · rw [decide_eq_false h40]
            refine iteF ?_
            have hlt40 : T.abs.bookings.length < 40 := by omega
            have eheld : (live T.bks).map Bk.bk = Ks327.held T.abs := (held_abs T).symm
            -- free_by_part = [..]
            refine ⟨_, rfl, t, dx1, _, rfl, tr.obj, trf_no _ _ _ (by decide +kernel) (by decide +kernel) (by decide +kernel), _, rfl, _, rfl, t, T, dx1, L, as, X, x, y, rfl, tr, by omega, by omega, RowsOk.of hOk, by omega, by omega, fun H1 D ps sm1 hDn hD1 hpl hps => ?_⟩
            · rw [eheld] at hps
              -- for part, free_seats in enumerate(..)
              have hpsl : (ps.map V.ref).length = y - x := by rw [List.length_map]; exact hpl
              refine ⟨_, rfl, _, rfl, D, _, x, rfl, rfl, by omega, SqL.of hD1, for_enumS (K := K) (a := D) (lo := x) (xs := ps.map V.ref) (fun i σ H' => (∃ v7 v8 : Option V, σ = [some (.ref d), some (nV x), some (nV y), some (nV how), some (.ref t), some (nV as.length), some (.ref D), v7, v8, none]) ∧ Same H1 H' ∧ ∀ j, j < i → freeOn T.seats (Ks327.held T.abs) (x + j) ≠ [])
                ⟨⟨_, _, rfl⟩, Same.refl H1, fun j hj => by omega⟩ (fun i σ H' _ z => SqL.of (z.2.1 _ _ hD1)) ?_ ?_⟩
              · rintro i z σ H' U hz ⟨⟨v7, v8, rfl⟩, sm, hne⟩ hU
                obtain ⟨p, hp, rfl⟩ := map_get hz
                have hil : i < y - x := by
                  rw [← hpl]
                  exact (List.getElem?_eq_some_iff.mp hp).1
                have smU : Same H1 (upd H' U (.tup [nV0 (x + i), V.ref p])) := sm.trans (Same.new hU)
                have hpU := smU _ _ (hps i p hp)
                refine ⟨U, _, rfl, SqT.of upd_same, rfl, _, _, rfl, _, _, rfl, rfl, ?_⟩
                refine ⟨_, rfl, _, _, rfl, .inl ⟨_, SqL.of hpU, rfl⟩, rfl, _, rfl, ?_⟩
                have ez : decide (V.int (((nvs (freeOn T.seats (Ks327.held T.abs) (x + i))).length : Nat) : Int) = V.int 0) = decide (freeOn T.seats (Ks327.held T.abs) (x + i) = []) := by
                  rw [decide_eq_decide, nvs_len]
                  constructor
                  · intro q
                    injection q with q
                    exact List.length_eq_zero_iff.mp (by omega)
                  · intro q
                    rw [q]
                    rfl
                rw [ez]
                by_cases hf : freeOn T.seats (Ks327.held T.abs) (x + i) = []
                · rw [decide_eq_true hf]
                  refine iteT ⟨_, rfl, _, _, rfl, rfl, by show 1 ≤ sizeLine; decide, fun q hq => ?_⟩
                  have hfull : fullPart T.abs x y = some (x + i) := full_at hil hf hne
                  exact refuse _ _ (sm1.trans smU) (book_full hOk hokw (by omega) hlt40 hfull) q hq
                · rw [decide_eq_false hf]
                  refine iteF ⟨⟨_, _, rfl⟩, smU, fun j hj => ?_⟩
                  by_cases hji : j = i
                  · rw [hji]
                    exact hf
                  · exact hne j (by omega)
              · rintro σ H2 ⟨⟨v7, v8, rfl⟩, sm2, hne⟩
                rw [hpsl] at hne
                have hfull : fullPart T.abs x y = none := full_none hne
                have smA : Same H H2 := sm1.trans sm2
                -- booking = Booking(from_stop, to_stop)
                refine ⟨_, rfl, _, rfl, ?_⟩
                intro bx dxb nbx ndxb nex
                refine ⟨bx, dxb, x, y, rfl, upd_same, fun H3 r hr0 hb3 hrr kp3 => ⟨rfl, ?_⟩⟩
                have sm3 : Same H2 H3 := Same.made nbx ndxb kp3
                have smB : Same H H3 := smA.trans sm3
                have tr3 := tr.same smB
                have hrH : H2 r = none := by
                  by_cases q : r = bx
                  · rw [q]; exact nbx
                  · rw [upd_ne q] at hr0
                    by_cases q2 : r = dxb
                    · rw [q2]; exact ndxb
                    · rw [upd_ne q2] at hr0
                      exact hr0
                have hrL : r ≠ L := fun q => by
                  rw [q, smA _ _ tr.lst] at hrH
                  cases hrH
                have hrN : r ∉ [L, X] := fun q => by
                  rcases List.mem_cons.mp q with q | q
                  · exact hrL q
                  · rw [List.mem_singleton] at q
                    rw [q, smA _ _ hX] at hrH
                    cases hrH
                have hbL : bx ≠ L := fun q => by
                  rw [q, smA _ _ tr.lst] at nbx
                  cases nbx
                have hbxas : bx ∉ as := fun h => by
                  obtain ⟨j, hj⟩ := List.getElem?_of_mem h
                  obtain ⟨b0, _, dx0, r0, h1, _⟩ := paired_get tr.bks hj
                  rw [smA _ _ h1] at nbx
                  cases nbx
                -- train.bookings.append(booking)
                refine ⟨_, rfl, t, CT, dx1, _, _, rfl, tr3.obj, TT.cl, TT.nb, trf_bk _ _ _, .inl ⟨rfl, _, SqL.of tr3.lst⟩, _, rfl, L, _, _, rfl, rfl, tr3.lst, line_lt (by rw [List.length_map]; omega), ?_⟩
                have hLt : L ≠ t := fun q => by
                  have h1 := tr.lst
                  rw [q, tr.obj] at h1
                  cases h1
                have hLd : L ≠ d := fun q => by
                  have h1 := tr.lst
                  rw [q, obj] at h1
                  cases h1
                have eapp : as.map V.ref ++ [V.ref bx] = (as ++ [bx]).map V.ref := by rw [List.map_append]; rfl
                have bkL : ∀ {a : Addr} {b : Bk}, BkAt CB [L, X] H3 a b → BkAt CB [L, X] (upd H3 L (.lst (as.map V.ref ++ [V.ref bx]))) a b := fun {a b} ⟨dx0, r0, h1, h2, h3⟩ => by
                  have haL : a ≠ L := fun q => by
                    rw [q, tr3.lst] at h1
                    cases h1
                  exact ⟨dx0, r0, by rw [upd_ne haL]; exact h1, by rw [upd_ne (fun z => h3 (by rw [z]; exact List.mem_cons_self))]; exact h2, h3⟩
                have tr4 : TrH CB CT (upd H3 L (.lst (as.map V.ref ++ [V.ref bx]))) t { T with bks := T.bks ++ [⟨x, y, [], false⟩] } dx1 L (as ++ [bx]) X :=
                  ⟨by rw [upd_ne (Ne.symm hLt)]; exact tr3.obj, by rw [upd_same, eapp], nd_snoc tr.nd hbxas, paired_snoc (Paired.mapP tr3.bks fun _ _ q => bkL q) ⟨dxb, r, by rw [upd_ne hbL]; exact hb3, by rw [upd_ne hrL]; exact hrr, hrN⟩⟩
                have hb4 : (upd H3 L (.lst (as.map V.ref ++ [V.ref bx]))) bx = some (.ins CB dxb (bkf ⟨x, y, [], false⟩ r)) := by
                  rw [upd_ne hbL]
                  exact hb3
                have hd4 : (upd H3 L (.lst (as.map V.ref ++ [V.ref bx]))) d = some (.ins CD dx (dkf (.ref t))) := by
                  rw [upd_ne (Ne.symm hLd)]
                  exact smB _ _ obj
                have hDL : D ≠ L := fun q => by
                  rw [q, tr.lst] at hDn
                  cases hDn
                have hD4 : (upd H3 L (.lst (as.map V.ref ++ [V.ref bx]))) D = some (.lst (ps.map V.ref)) := by
                  rw [upd_ne hDL]
                  exact sm3 _ _ (sm2 _ _ hD1)
                have hps4 : ∀ (j : Nat) p, ps[j]? = some p → (upd H3 L (.lst (as.map V.ref ++ [V.ref bx]))) p = some (.lst (nvs (freeOn T.seats (Ks327.held T.abs) (x + j)))) := fun j p hp => by
                  have h1 := hps j p hp
                  have hpL : p ≠ L := fun q => by
                    have hjl : j < y - x := by
                      rw [← hpl]
                      exact (List.getElem?_eq_some_iff.mp hp).1
                    have h2 := h1
                    rw [q, sm1 _ _ tr.lst] at h2
                    injection h2 with h2
                    injection h2 with h2
                    cases hfr : freeOn T.seats (Ks327.held T.abs) (x + j) with
                    | nil => exact hne j hjl hfr
                    | cons u l =>
                      rw [hfr] at h2
                      cases has : as with
                      | nil => rw [has] at h2; cases h2
                      | cons c as' => rw [has] at h2; cases h2
                  rw [upd_ne hpL]
                  exact sm3 _ _ (sm2 _ _ h1)
                have kp4 : ∀ b o, H b = some o → b ≠ L → (upd H3 L (.lst (as.map V.ref ++ [V.ref bx]))) b = some o := fun b o e hb => by
                  rw [upd_ne hb]
                  exact smB _ _ e
                have fr4 : ∀ b, (upd H3 L (.lst (as.map V.ref ++ [V.ref bx]))) b = none → H b = none := fun b hb => by
                  cases q : H b with
                  | none => rfl
                  | some o =>
                    by_cases z : b = L
                    · rw [z, upd_same] at hb
                      cases hb
                    · rw [kp4 b o q z] at hb
                      cases hb
                have hbxH : H bx = none := smA.free nbx
                have hdb : d ≠ bx := fun q => by
                  rw [← q, obj] at hbxH
                  cases hbxH
                have htb : t ≠ bx := fun q => by
                  rw [← q, tr.obj] at hbxH
                  cases hbxH
                have hX4 : ∃ z, (upd H3 L (.lst (as.map V.ref ++ [V.ref bx]))) X = some z := by
                  by_cases z : X = L
                  · exact ⟨_, by rw [z, upd_same]⟩
                  · exact ⟨_, kp4 X zX hX z⟩
                generalize hH4 : upd H3 L (.lst (as.map V.ref ++ [V.ref bx])) = H4 at *
                have elen : as.length = T.abs.bookings.length := by omega
                refine ⟨_, rfl, rfl, _, rfl, ?_⟩
                have ehow : decide (nV how = V.int 0) = decide (how = 0) := by
                  rw [decide_eq_decide]
                  unfold nV
                  constructor
                  · intro q
                    injection q with q
                    omega
                  · intro q
                    rw [q]
                    rfl
                rw [ehow]
                have owsub : ∀ b, b ∈ d :: t :: L :: (as ++ [bx]) → b ∈ d :: t :: L :: as ∨ H b = none := fun b hb => by
                  rcases List.mem_cons.mp hb with (rfl | hb)
                  · exact .inl List.mem_cons_self
                  · rcases List.mem_cons.mp hb with (rfl | hb)
                    · exact .inl (List.mem_cons_of_mem _ List.mem_cons_self)
                    · rcases List.mem_cons.mp hb with (rfl | hb)
                      · exact .inl (List.mem_cons_of_mem _ (List.mem_cons_of_mem _ List.mem_cons_self))
                      · rcases List.mem_append.mp hb with (hb | hb)
                        · exact .inl (List.mem_cons_of_mem _ (List.mem_cons_of_mem _ (List.mem_cons_of_mem _ hb)))
                        · rw [List.mem_singleton] at hb
                          subst hb
                          exact .inr hbxH
                have nL : ∀ b, b ∉ d :: t :: L :: as → b ≠ L := fun b hb q => hb (by rw [q]; exact List.mem_cons_of_mem _ (List.mem_cons_of_mem _ List.mem_cons_self))
                by_cases h0 : how = 0
                · rw [decide_eq_true h0]
                  -- booking.row = fewest_changes_row(free_by_part)
                  have efs : (parts x y).map (freeOn T.abs.seats (Ks327.held T.abs)) = (parts x y).map (freeOn T.seats (Ks327.held T.abs)) := rfl
                  obtain ⟨eact, hok, hrlen⟩ := book0 hOk hokw hlt40 hfull
                  have hfget : ∀ (j : Nat) g, ((parts x y).map (freeOn T.seats (Ks327.held T.abs)))[j]? = some g → j < y - x ∧ g = freeOn T.seats (Ks327.held T.abs) (x + j) := fun j g hg => by
                    have hjl := (List.getElem?_eq_some_iff.mp hg).1
                    rw [List.length_map, Ts.parts_len] at hjl
                    rw [List.getElem?_map, parts_get hjl] at hg
                    exact ⟨hjl, (Option.some.inj hg).symm⟩
                  refine iteT ⟨_, rfl, D, ps, (parts x y).map (freeOn T.seats (Ks327.held T.abs)), rfl, SqL.of hD4, ⟨by rw [List.length_map, Ts.parts_len]; exact hpl, fun j p g hp hg => ?_⟩, ⟨by rw [List.length_map, Ts.parts_len]; omega, fun g hg => ?_⟩, fun g hg => ?_, fun H5 p5 sm5 hp50 hp5 => ?_⟩
                  · rw [(hfget j g hg).2]
                    exact SqL.of (hps4 j p hp)
                  · obtain ⟨q, _, rfl⟩ := List.mem_map.mp hg
                    unfold freeOn
                    refine ⟨List.nodup_range.sublist (List.filter_sublist), Nat.le_trans (List.length_filter_le _ _) ?_⟩
                    rw [List.length_range]
                    omega
                  · obtain ⟨j, hj⟩ := List.getElem?_of_mem hg
                    obtain ⟨hjl, e⟩ := hfget j g hj
                    rw [e]
                    exact hne j hjl
                  · have erow : rowOf none (aheads ((parts x y).map (freeOn T.seats (Ks327.held T.abs)))) = newRow T.abs x y := rfl
                    rw [erow] at hp5
                    generalize hrow : newRow T.abs x y = row at *
                    refine ⟨_, rfl, bx, CB, dxb, _, rfl, sm5 _ _ hb4, TB.cl, TB.nr, (by show 4 < 1000; decide), ?_⟩
                    rw [bkf_putRow ⟨x, y, [], false⟩ r p5 row]
                    have hp5bx : p5 ≠ bx := fun q => by
                      rw [q, hb4] at hp50
                      cases hp50
                    have hp5N : p5 ∉ [L, X] := fun q => by
                      rcases List.mem_cons.mp q with q | q
                      · rw [q, tr4.lst] at hp50
                        cases hp50
                      · rw [List.mem_singleton] at q
                        obtain ⟨z4, hz4⟩ := hX4
                        rw [q, hz4] at hp50
                        cases hp50
                    have hp5L : p5 ≠ L := fun q => by
                      rw [q, tr4.lst] at hp50
                      cases hp50
                    -- return [number, count_changes(booking.row)]
                    refine ⟨_, rfl, _, rfl, bx, CB, dxb, _, _, rfl, upd_same, TB.cl, TB.nr, bkf_row _ _, p5, row, rfl, SqL.of (by rw [upd_ne hp5bx]; exact hp5), by omega, fun H7 sm7 => ⟨by show 2 ≤ sizeLine; decide, fun p hp => ?_⟩⟩
                    have sm8 := sm7.trans (Same.new (o := .lst [V.int (as.length : Int), nV (Ks325.changes row)]) hp)
                    have hpH : H p = none := by
                      have h1 := sm7.free hp
                      by_cases z : p = bx
                      · rw [z, upd_same] at h1
                        cases h1
                      · rw [upd_ne z] at h1
                        exact fr4 p (sm5.free h1)
                    have tr6 : TrH CB CT (upd H5 bx (.ins CB dxb (bkf ⟨x, y, row, false⟩ p5))) t { T with bks := T.bks ++ [⟨x, y, row, false⟩] } dx1 L (as ++ [bx]) X := by
                      refine ⟨by rw [upd_ne htb]; exact sm5 _ _ tr4.obj, by rw [upd_ne (Ne.symm hbL)]; exact sm5 _ _ tr4.lst, tr4.nd, paired_of_get (by rw [List.length_append, List.length_append, hbl]; rfl) fun j a b ha hb => ?_⟩
                      by_cases hj : j < as.length
                      · rw [List.getElem?_append_left hj] at ha
                        rw [List.getElem?_append_left (by omega)] at hb
                        obtain ⟨b2, hb2, dx2, r2, g1, g2, g3⟩ := paired_get tr4.bks (i := j) (a := a) (by rw [List.getElem?_append_left hj]; exact ha)
                        have eb : b2 = b := by
                          have h9 : (T.bks ++ [(⟨x, y, [], false⟩ : Bk)])[j]? = some b2 := hb2
                          rw [List.getElem?_append_left (by omega), hb] at h9
                          exact (Option.some.inj h9).symm
                        subst eb
                        have hab : a ≠ bx := fun q => hbxas (by rw [← q]; exact List.mem_of_getElem? ha)
                        have hr2b : r2 ≠ bx := fun q => by
                          rw [q, hb4] at g2
                          cases g2
                        exact ⟨dx2, r2, by rw [upd_ne hab]; exact sm5 _ _ g1, by rw [upd_ne hr2b]; exact sm5 _ _ g2, g3⟩
                      · have hj2 : j = as.length := by
                          have := (List.getElem?_eq_some_iff.mp ha).1
                          rw [List.length_append, List.length_singleton] at this
                          omega
                        rw [hj2, List.getElem?_concat_length] at ha
                        have ea : bx = a := Option.some.inj ha
                        subst ea
                        rw [hj2, hbl, List.getElem?_concat_length] at hb
                        have eb := Option.some.inj hb
                        subst eb
                        exact ⟨dxb, p5, upd_same, by rw [upd_ne hp5bx]; exact hp5, hp5N⟩
                    have eabs := absSnoc T (b := ⟨x, y, row, false⟩) rfl
                    refine k (some { T with bks := T.bks ++ [⟨x, y, row, false⟩] }) _ p (d :: t :: L :: (as ++ [bx])) ?_ ?_ (.some (sm8 _ _ (by rw [upd_ne hdb]; exact sm5 _ _ hd4)) (tr6.same sm8)) ⟨fun b o e hb => sm8 _ _ ?_, owsub⟩ hpH ?_
                    · show _ = (Ks327.act T.abs (.book x y how)).1
                      rw [h0, eact]
                      exact eabs
                    · show Ok _
                      rw [eabs]
                      exact hok
                    · rw [upd_ne (show b ≠ bx from fun q => by rw [q, hbxH] at e; cases e)]
                      exact sm5 _ _ (kp4 b o e (nL b hb))
                    · show _ = some (HO.lst ((Ks327Neutral.sa (Ks327.act T.abs (.book x y how))).2.map V.int))
                      rw [h0, eact, upd_same, elen]
                      rfl
                · rw [decide_eq_false h0]
                  have h1 : how = 1 := by omega
                  obtain ⟨eact, hok, hslen⟩ := book1 hOk hokw hlt40 hfull
                  -- train.seat_all_at_once()
                  have elv : live (T.bks ++ [(⟨x, y, [], false⟩ : Bk)]) = live T.bks ++ [⟨x, y, [], false⟩] := live_snoc T.bks rfl
                  have ebk : (live (T.bks ++ [(⟨x, y, [], false⟩ : Bk)])).map Bk.bk = Ks327.held T.abs ++ [⟨x, y, []⟩] := by
                    rw [elv, List.map_append, eheld]
                    rfl
                  have ewy : bkWays (T.bks ++ [(⟨x, y, [], false⟩ : Bk)]) = Ks327.waysOf (Ks327.held T.abs ++ [⟨x, y, []⟩]) := by rw [bkWays_eq, ebk]
                  have hsl2 : (seatsAtOnce (bkWays (T.bks ++ [(⟨x, y, [], false⟩ : Bk)]))).length = (live (T.bks ++ [(⟨x, y, [], false⟩ : Bk)])).length := by
                    rw [ewy, hslen, elv, List.length_append, ← live_held]
                    rfl
                  refine iteF ⟨_, rfl, t, dx1, _, rfl, tr4.obj, trf_no _ _ _ (by decide +kernel) (by decide +kernel) (by decide +kernel), t, _, dx1, L, as ++ [bx], X, rfl, tr4, hX4, by rw [List.length_append, List.length_singleton]; omega, fun b hb => ?_, hsl2, fun H5 tr5 kp5 => ?_⟩
                  · have hb' : b ∈ live T.bks ++ [(⟨x, y, [], false⟩ : Bk)] := by rw [← elv]; exact hb
                    rcases List.mem_append.mp hb' with hb' | hb'
                    · have hwf := wf_live hOk hb'
                      have g1 : b.fr < b.to_ := hwf.lt
                      have g2 : b.to_ < T.stops := hwf.stop
                      omega
                    · rw [List.mem_singleton] at hb'
                      subst hb'
                      show x < 100 ∧ y < 100
                      omega
                  · obtain ⟨sn, hsn⟩ := reseat_get (bs := T.bks ++ [(⟨x, y, [], false⟩ : Bk)]) (ss := seatsAtOnce (bkWays (T.bks ++ [(⟨x, y, [], false⟩ : Bk)]))) (i := T.bks.length) (b := ⟨x, y, [], false⟩) List.getElem?_concat_length rfl hsl2
                    obtain ⟨bn, hbn, dx5, r5, g1, g2, g3⟩ := paired_get tr5.bks (i := as.length) (a := bx) List.getElem?_concat_length
                    have ebn : bn = ⟨x, y, List.replicate (y - x) sn, false⟩ := by
                      have h9 : (reseat (T.bks ++ [(⟨x, y, [], false⟩ : Bk)]) (seatsAtOnce (bkWays (T.bks ++ [(⟨x, y, [], false⟩ : Bk)]))))[as.length]? = some bn := hbn
                      rw [hbl, hsn] at h9
                      exact (Option.some.inj h9).symm
                    subst ebn
                    -- return [number, count_changes(booking.row)]
                    refine ⟨_, rfl, _, rfl, bx, CB, dx5, _, _, rfl, g1, TB.cl, TB.nr, bkf_row _ _, r5, List.replicate (y - x) sn, rfl, SqL.of g2, by rw [List.length_replicate]; omega, fun H7 sm7 => ⟨by show 2 ≤ sizeLine; decide, fun p hp => ?_⟩⟩
                    rw [changes_rep]
                    have sm8 := sm7.trans (Same.new (o := .lst [V.int (as.length : Int), nV 0]) hp)
                    have bow : ∀ b, b ∉ d :: t :: L :: as → H b ≠ none → b ∉ liveA (as ++ [bx]) (T.bks ++ [(⟨x, y, [], false⟩ : Bk)]) := fun b hb hn hm => by
                      have hm2 := (liveA_sub _ _).mem hm
                      rcases List.mem_append.mp hm2 with hm2 | hm2
                      · exact hb (List.mem_cons_of_mem _ (List.mem_cons_of_mem _ (List.mem_cons_of_mem _ hm2)))
                      · rw [List.mem_singleton] at hm2
                        rw [hm2] at hn
                        exact hn hbxH
                    have insla : ∀ a ∈ liveA (as ++ [bx]) (T.bks ++ [(⟨x, y, [], false⟩ : Bk)]), ∃ dx0 b0 r0, H4 a = some (.ins CB dx0 (bkf b0 r0)) := fun a ha => by
                      obtain ⟨j, hj⟩ := List.getElem?_of_mem ((liveA_sub _ _).mem ha)
                      obtain ⟨b0, _, dx0, r0, q1, _⟩ := paired_get tr4.bks hj
                      exact ⟨dx0, b0, r0, q1⟩
                    have hdla : d ∉ liveA (as ++ [bx]) (T.bks ++ [(⟨x, y, [], false⟩ : Bk)]) := fun hm => by
                      obtain ⟨dx0, b0, r0, q⟩ := insla d hm
                      rw [hd4] at q
                      injection q with q
                      injection q with q1 q2 q3
                      have := congrArg (List.lookup ("row" : Str)) q3
                      rw [bkf_row, dkf_no _ (by decide +kernel)] at this
                      cases this
                    have hd5 := kp5 _ _ hd4 hdla
                    have hpH : H p = none := by
                      cases q : H p with
                      | none => rfl
                      | some o =>
                        exfalso
                        have hpL2 : ∀ z, H5 p = some z → False := fun z hz => by
                          rw [sm7 _ _ hz] at hp
                          cases hp
                        by_cases z : p = L
                        · rw [z] at hpL2
                          exact hpL2 _ tr5.lst
                        · have q4 := kp4 p o q z
                          by_cases hm : p ∈ liveA (as ++ [bx]) (T.bks ++ [(⟨x, y, [], false⟩ : Bk)])
                          · obtain ⟨j, hj⟩ := List.getElem?_of_mem ((liveA_sub _ _).mem hm)
                            obtain ⟨b0, _, dx0, r0, q1, _⟩ := paired_get tr5.bks hj
                            exact hpL2 _ q1
                          · exact hpL2 _ (kp5 _ _ q4 hm)
                    have eabs : (⟨T.stops, T.seats, reseat (T.bks ++ [(⟨x, y, [], false⟩ : Bk)]) (seatsAtOnce (bkWays (T.bks ++ [(⟨x, y, [], false⟩ : Bk)])))⟩ : Tr).abs = { T.abs with bookings := Ks327.putBack (T.abs.bookings ++ [some ⟨x, y, []⟩]) (List.zipWith oneOf (Ks327.held T.abs ++ [⟨x, y, []⟩]) (seatsAtOnce (Ks327.waysOf (Ks327.held T.abs ++ [⟨x, y, []⟩])))) } := by
                      show ({ stops := T.stops, seats := T.seats, bookings := (reseat (T.bks ++ [(⟨x, y, [], false⟩ : Bk)]) (seatsAtOnce (bkWays (T.bks ++ [(⟨x, y, [], false⟩ : Bk)])))).map Bk.out } : Ks327.Abs) = { stops := T.stops, seats := T.seats, bookings := Ks327.putBack (T.bks.map Bk.out ++ [some ⟨x, y, []⟩]) _ }
                      rw [reseat_out _ _ hsl2, ebk, ewy, List.map_append]
                      rfl
                    refine k (some ⟨T.stops, T.seats, reseat (T.bks ++ [(⟨x, y, [], false⟩ : Bk)]) (seatsAtOnce (bkWays (T.bks ++ [(⟨x, y, [], false⟩ : Bk)])))⟩) _ p (d :: t :: L :: (as ++ [bx])) ?_ ?_ (.some (sm8 _ _ hd5) (tr5.same sm8)) ⟨fun b o e hb => sm8 _ _ ?_, owsub⟩ hpH ?_
                    · show _ = (Ks327.act T.abs (.book x y how)).1
                      rw [h1, eact]
                      exact eabs
                    · show Ok _
                      rw [eabs]
                      exact hok
                    · exact kp5 _ _ (kp4 b o e (nL b hb)) (bow b hb (by rw [e]; intro z; cases z))
                    · show _ = some (HO.lst ((Ks327Neutral.sa (Ks327.act T.abs (.book x y how))).2.map V.int))
                      rw [h1, eact, upd_same, elen]
                      rfl
end
end Ts

end
section
/-! The program's heap, part 16: anew, free, who, state. -/
set_option Elab.async false
set_option maxRecDepth 100000
set_option maxHeartbeats 3900000
namespace Ts
open PySem PySem.Spec PyProof.Rows L2
open Ks325 (parts)
abbrev sThru : Stmt := top 27
theorem anew_61 {a : Ks327.Abs} (h : a.on = false) : Ks327.act a .anew = (a, Ks327.no (-61)) := by
  unfold Ks327.act
  dsimp only
  rw [if_pos h]
theorem free_61 {a : Ks327.Abs} (h : a.on = false) (x y : Nat) : Ks327.act a (.free x y) = (a, Ks327.no (-61)) := by
  unfold Ks327.act
  dsimp only
  rw [if_pos h]
theorem state_61 {a : Ks327.Abs} (h : a.on = false) : Ks327.act a .state = (a, Ks327.no (-61)) := by
  unfold Ks327.act
  dsimp only
  rw [if_pos h]
/-- the seats that are in each of the lists -/
def thru (f0 : List Nat) (fs : List (List Nat)) : List Nat := f0.filter fun s => fs.all fun f => f.contains s
theorem thru_nil (f0 : List Nat) : thru f0 [] = f0 := List.filter_eq_self.mpr fun _ _ => rfl
theorem thru_snoc (f0 : List Nat) (fs : List (List Nat)) (f : List Nat) : (thru f0 fs).filter (fun s => f.contains s) = thru f0 (fs ++ [f]) := by
  unfold thru
  rw [List.filter_filter]
  refine List.filter_congr fun s _ => ?_
  rw [List.all_append]
  show (f.contains s && _) = (_ && (f.contains s && true))
  rw [Bool.and_true, Bool.and_comm]
theorem thru_len (f0 : List Nat) (fs : List (List Nat)) : (thru f0 fs).length ≤ f0.length := List.length_filter_le _ _
theorem thru_free (T : Tr) {x y : Nat} (h : x < y) : thru (freeOn T.seats (Ks327.held T.abs) (x + 0)) ((parts x y).map (freeOn T.seats (Ks327.held T.abs))) = (List.range T.abs.seats).filter fun s => (parts x y).all fun k => (freeOn T.abs.seats (Ks327.held T.abs) k).contains s := by
  unfold thru
  have e1 : freeOn T.seats (Ks327.held T.abs) (x + 0) = (List.range T.seats).filter fun s => (freeOn T.seats (Ks327.held T.abs) (x + 0)).contains s := by
    conv => lhs; unfold freeOn
    refine List.filter_congr fun s hs => ?_
    unfold freeOn
    rw [Bool.eq_iff_iff, List.contains_iff_mem, List.mem_filter]
    exact ⟨fun z => ⟨hs, z⟩, fun z => z.2⟩
  rw [e1, List.filter_filter]
  refine List.filter_congr fun s hs => ?_
  rw [List.all_map]
  show ((parts x y).all (fun k => (freeOn T.seats (Ks327.held T.abs) k).contains s) && (freeOn T.seats (Ks327.held T.abs) (x + 0)).contains s) = (parts x y).all fun k => (freeOn T.seats (Ks327.held T.abs) k).contains s
  cases q : (parts x y).all fun k => (freeOn T.seats (Ks327.held T.abs) k).contains s with
  | false => rfl
  | true =>
    rw [List.all_eq_true.mp q (x + 0) (List.mem_of_getElem? (parts_get (by omega)))]
    rfl
def spThru (K : PySem.W.Frag) : Sp := fun vs H Q _ => ∃ (a : Addr) (ps : List Addr) (fs : List (List Nat)) (f0 : List Nat), vs = [.ref a] ∧ SqL K H a (ps.map V.ref) ∧ ListsAt K H ps fs ∧ fs[0]? = some f0 ∧ f0.length ≤ 100 ∧
  ∀ (H' : Hp) (p : Addr), Same H H' → H p = none → H' p = some (.lst (nvs (thru f0 fs))) → Q (.ref p) H'
section
variable {P : Program} {w : World} {K : PySem.W.Frag} {mg : Str → Option Value} {base : Heap}
theorem scThru : FnScope ["free_by_part", "free_so_far", "free_seats", "seat"] ["free_by_part"] (defScope sThru) := ⟨rfl, rfl, rfl, by decide +kernel, rfl, by decide +kernel, by decide +kernel⟩
theorem ok_thru {f : Addr} {fd : FuncData} (F : Fun K "free_all_the_way" "free_all_the_way" sThru f fd) : FnOk P w K mg base CX0 1 f fd ["free_by_part"] (spThru K) := by
  refine F.ok scThru (fun vs H Q E h => ?_) (fun cdv A outer s H vs Q E hr h => ?_)
  · obtain ⟨a, ps, fs, f0, rfl, _⟩ := h
    rfl
  · obtain ⟨a, ps, fs, f0, rfl, hS, hL, h0, hf0, k⟩ := h
    refine ⟨_, pss_cons (ps_set (i := 1) scThru.nd rfl (Or.inl rfl) (pe_ix ix_list (pv 0) pe_int (fun _ _ => rfl)))
      (pss_cons (ps_for PassesOwn.never rfl (pi_list (pv 0)) (pg_name (i := 2) scThru.nd rfl (Or.inr rfl))
        (pss_one (ps_setLc (i := 1) rfl scThru.nd rfl rfl (sw_true rfl rfl rfl rfl) (pi_list (pv 1)) (own := [("seat", 3)])
            (blkOk_by (by show blkC ["free_by_part", "free_so_far", "free_seats", "seat"] (defScope sThru) _ _ = true; decide +kernel))
            (fun _ _ _ _ _ => pg_name (i := 3) scThru.nd rfl (Or.inl rfl))
            (fun _ _ _ _ _ => pts_one (pt_cmpR (r := rIn K false) op_in_seq (pv 3) (pv 2) (by with_unfolding_all rfl)))
            (fun _ _ _ _ _ => pv 3))))
      (pss_one (ps_ret (pv 1)))), ?_⟩
    have hlen := hL.len
    have hl0 : 0 < fs.length := (List.getElem?_eq_some_iff.mp h0).1
    obtain ⟨p0, hp0⟩ : ∃ p0, ps[0]? = some p0 := ⟨_, List.getElem?_eq_getElem (by omega)⟩
    refine ⟨_, rfl, a, _, _, _, rfl, rfl, hS, at_of (j := 0) (v := V.ref p0) rfl (by rw [List.getElem?_map, hp0]; rfl), ?_⟩
    refine ⟨_, rfl, a, rfl, ⟨_, hS⟩, for_list (K := K) (a := a) (xs := ps.map V.ref) (fun i σ H' => ∃ (p : Addr) (v2 v3 : Option V), σ = [some (.ref a), some (.ref p), v2, v3] ∧ SqL K H' p (nvs (thru f0 (fs.take i))) ∧ Same H H' ∧ (i ≠ 0 → H p = none ∧ H' p = some (.lst (nvs (thru f0 (fs.take i))))))
      ⟨p0, none, none, rfl, by rw [List.take_zero, thru_nil]; exact hL.at_ 0 p0 f0 hp0 h0, Same.refl H, fun z => absurd rfl z⟩ (fun i σ H' _ ⟨_, _, _, _, _, sm, _⟩ => sm.seq hS) ?_ ?_⟩
    · rintro i y σ H' hi ⟨p, v2, v3, rfl, hp, sm, _⟩
      obtain ⟨c, hc, rfl⟩ := map_get hi
      have hil := (List.getElem?_eq_some_iff.mp hc).1
      obtain ⟨g, hg⟩ : ∃ g, fs[i]? = some g := ⟨_, List.getElem?_eq_getElem (by omega)⟩
      have hcg := hL.at_ i c g hc hg
      have hcur := thru_len f0 (fs.take i)
      have esn := thru_snoc f0 (fs.take i) g
      rw [← take_snoc hg] at esn
      generalize hcu : thru f0 (fs.take i) = cur at *
      refine ⟨_, rfl, p, rfl, ⟨_, hp⟩, fun D hD => ?_⟩
      refine lc_list (K := K) (a := p) (xs := nvs cur) (fun j H2 => H2 D = some (.lst (nvs ((cur.take j).filter fun s => g.contains s))) ∧ Same H' H2) ⟨upd_same, Same.new hD⟩ (fun j H2 _ z => z.2.seq hp) ?_ ?_
      · rintro j x H2 hx ⟨hD2, sm2⟩
        obtain ⟨n, hn, rfl⟩ := map_get hx
        have hjl := (List.getElem?_eq_some_iff.mp hn).1
        have ef : (cur.take (j + 1)).filter (fun s => g.contains s) = (cur.take j).filter (fun s => g.contains s) ++ (if g.contains n then [n] else []) := by
          rw [take_snoc hn, List.filter_append, List.filter_cons]
          rfl
        refine ⟨rfl, ?_⟩
        refine ⟨_, rfl, _, rfl, c, _, rfl, .inl (sm2.seq (sm.seq hcg)), rfl, flat_nvs _, _, rfl, ?_⟩
        rw [inV_nat, ef]
        show if (g.contains n) = true then _ else _
        cases hcn : g.contains n
        · refine iteF ⟨?_, sm2⟩
          rw [hD2]
          simp
        · refine iteT ⟨_, rfl, _, hD2, line_lt ?_, ?_, sm2.put hD⟩
          · rw [nvs_len]
            refine Nat.le_trans (List.length_filter_le _ _) ?_
            rw [List.length_take]
            omega
          · rw [upd_same, if_pos rfl, nvs_snoc]
      · rintro H3 ⟨hD3, sm3⟩
        rw [nvs_len, List.take_length, esn] at hD3
        exact ⟨D, _, _, rfl, SqL.of hD3, sm.trans sm3, fun _ => ⟨sm.free hD, hD3⟩⟩
    · rintro σ H' ⟨p, v2, v3, rfl, hp, sm, hz⟩
      rw [List.length_map] at hz
      obtain ⟨h1, h2⟩ := hz (by omega)
      rw [List.take_of_length_le (by omega)] at h2
      exact ⟨_, rfl, k H' p sm h1 h2⟩
/-! ### anew -/
theorem scAnew : FnScope ["self", "train", "changes_before"] ["self"] (defScope sAnew) := ⟨rfl, rfl, rfl, by decide +kernel, rfl, by decide +kernel, by decide +kernel⟩
theorem ok_anew {f CD CB CT : Addr} {fd : FuncData} (F : Fun K "anew" "Desk.anew" sAnew f fd) (C : Cs mg) (TD : TxD K CD) (TT : TxT K CT)
    (M1 : MethOk P w K mg base CT "all_changes" ["self"] 3 (spChg CB CT)) (M2 : MethOk P w K mg base CT "seat_all_at_once" ["self"] 3 (spAll CB CT)) :
    FnOk P w K mg base CX0 4 f fd ["self"] (spDesk CD CB CT 0 fun _ => .anew) := by
  obtain ⟨f1, fd1, m1, b1, G1⟩ := M1
  obtain ⟨f2, fd2, m2, b2, G2⟩ := M2
  refine F.ok scAnew (fun vs H Q E h => ?_) (fun cdv A outer s H vs Q E hr h => ?_)
  · obtain ⟨d, X, o, ow, ns, rfl, hn, _⟩ := h
    simp [hn]
  · obtain ⟨d, X, o, ow, ns, rfl, hn, hD, ⟨zX, hX⟩, hO, k⟩ := h
    obtain rfl : ns = [] := List.length_eq_zero_iff.mp hn
    refine ⟨_, pss_cons (ps_set (i := 1) scAnew.nd rfl (Or.inl rfl) (pe_fld (pv 0) rfl))
      (pss_cons (ps_if (pt_cmp (pc_isN (pv 1))) (pss_one (ps_ret (pe_lst (pa_cons (pe_ci C.nt (by rfl)) pa_nil)))) pss_nil)
      (pss_cons (ps_set (i := 2) scAnew.nd rfl (Or.inl rfl) (pe_meth0 (pv 1) TT.cl m1 G1 hr b1 .nil pass0))
      (pss_cons (ps_expr (pe_meth0 (pv 1) TT.cl m2 G2 hr b2 .nil pass0))
      (pss_one (ps_ret (pe_lst (pa_cons (pv 2) pa_nil))))))), ?_⟩
    cases hD with
    | none obj =>
      refine ⟨_, rfl, d, CD, _, _, _, rfl, obj, TD.cl, TD.nt, dkf_train _, ?_⟩
      refine ⟨_, rfl, _, rfl, iteT ⟨by show 1 ≤ sizeLine; decide, fun p hp => ?_⟩⟩
      have e := anew_61 on_none
      refine k none _ p _ ?_ hO (.none (Same.new hp _ _ obj)) (Frame.same (Same.new hp) _) hp ?_
      · show _ = (Ks327.act {} .anew).1
        rw [e]
        rfl
      · show _ = some (HO.lst ((Ks327Neutral.sa (Ks327.act {} .anew)).2.map V.int))
        rw [e, upd_same]
        rfl
    | @some dx t dx1 L as T obj tr =>
      have hOk : Ok T.abs := hO
      have hl40 := Ok.len40 hOk
      have hbl := paired_len tr.bks
      have hst17 : T.stops ≤ 17 := hOk.st17
      obtain ⟨eact, hok, hslen⟩ := anew_ok hOk
      have hwb : ∀ b ∈ live T.bks, b.fr < b.to_ ∧ b.to_ < T.stops ∧ b.row.length = b.to_ - b.fr := fun b hb => by
        have hwf := wf_live hOk hb
        exact ⟨hwf.lt, hwf.stop, hwf.len⟩
      refine ⟨_, rfl, d, CD, _, _, _, rfl, obj, TD.cl, TD.nt, dkf_train _, ?_⟩
      refine ⟨_, rfl, _, rfl, iteF ?_⟩
      -- changes_before = train.all_changes()
      refine ⟨_, rfl, t, dx1, _, rfl, tr.obj, trf_no _ _ _ (by decide +kernel) (by decide +kernel) (by decide +kernel), t, T, dx1, L, as, X, rfl, tr, by omega, fun b hb => ?_, fun H1 sm1 => ?_⟩
      · obtain ⟨g1, g2, g3⟩ := hwb b hb
        omega
      have tr1 := tr.same sm1
      have ewy : bkWays T.bks = Ks327.waysOf (Ks327.held T.abs) := by rw [bkWays_eq, held_abs]
      have hsl2 : (seatsAtOnce (bkWays T.bks)).length = (live T.bks).length := by rw [ewy, hslen, live_held]
      have insla : ∀ a ∈ liveA as T.bks, ∃ dx0 b0 r0, H1 a = some (.ins CB dx0 (bkf b0 r0)) := fun a ha => by
        obtain ⟨j, hj⟩ := List.getElem?_of_mem ((liveA_sub _ _).mem ha)
        obtain ⟨b0, _, dx0, r0, q1, _⟩ := paired_get tr1.bks hj
        exact ⟨dx0, b0, r0, q1⟩
      have hd1 := sm1 _ _ obj
      have hdla : d ∉ liveA as T.bks := fun hm => by
        obtain ⟨dx0, b0, r0, q⟩ := insla d hm
        rw [hd1] at q
        injection q with q
        injection q with q1 q2 q3
        have := congrArg (List.lookup ("row" : Str)) q3
        rw [bkf_row, dkf_no _ (by decide +kernel)] at this
        cases this
      -- train.seat_all_at_once()
      refine ⟨_, rfl, t, dx1, _, rfl, tr1.obj, trf_no _ _ _ (by decide +kernel) (by decide +kernel) (by decide +kernel), t, T, dx1, L, as, X, rfl, tr1, ⟨zX, sm1 _ _ hX⟩, by omega, fun b hb => ?_, hsl2, fun H2 tr2 kp2 => ?_⟩
      · obtain ⟨g1, g2, g3⟩ := hwb b hb
        omega
      refine ⟨_, rfl, by show 1 ≤ sizeLine; decide, fun p hp => ?_⟩
      have sm3 := Same.new (o := .lst [nV (Ks327.changesOf (Ks327.held T.abs))]) hp
      have hpH : H p = none := by
        cases q : H p with
        | none => rfl
        | some o =>
          exfalso
          by_cases hm : p ∈ liveA as T.bks
          · obtain ⟨j, hj⟩ := List.getElem?_of_mem ((liveA_sub _ _).mem hm)
            obtain ⟨b0, _, dx0, r0, q1, _⟩ := paired_get tr2.bks hj
            rw [hp] at q1
            cases q1
          · have q1 := kp2 _ _ (sm1 _ _ q) hm
            rw [hp] at q1
            cases q1
      have eabs : (⟨T.stops, T.seats, reseat T.bks (seatsAtOnce (bkWays T.bks))⟩ : Tr).abs = { T.abs with bookings := Ks327.putBack T.abs.bookings (List.zipWith oneOf (Ks327.held T.abs) (seatsAtOnce (Ks327.waysOf (Ks327.held T.abs)))) } := by
        show ({ stops := T.stops, seats := T.seats, bookings := (reseat T.bks (seatsAtOnce (bkWays T.bks))).map Bk.out } : Ks327.Abs) = { stops := T.stops, seats := T.seats, bookings := Ks327.putBack (T.bks.map Bk.out) _ }
        rw [reseat_out _ _ hsl2, ewy, held_abs]
      refine k (some ⟨T.stops, T.seats, reseat T.bks (seatsAtOnce (bkWays T.bks))⟩) _ p (d :: t :: L :: as) ?_ ?_ (.some (sm3 _ _ (kp2 _ _ hd1 hdla)) (tr2.same sm3)) ⟨fun b o e hb => sm3 _ _ (kp2 _ _ (sm1 _ _ e) fun hm => hb ?_), fun b hb => .inl hb⟩ hpH ?_
      · show _ = (Ks327.act T.abs .anew).1
        rw [eact]
        exact eabs
      · show Ok _
        rw [eabs]
        exact hok
      · exact List.mem_cons_of_mem _ (List.mem_cons_of_mem _ (List.mem_cons_of_mem _ ((liveA_sub _ _).mem hm)))
      · show _ = some (HO.lst ((Ks327Neutral.sa (Ks327.act T.abs .anew)).2.map V.int))
        rw [eact, upd_same]
        rfl
/-! ### free -/
theorem scFreeD : FnScope ["self", "from_stop", "to_stop", "train", "seats"] ["self", "from_stop", "to_stop"] (defScope sFreeD) := ⟨rfl, rfl, rfl, by decide +kernel, rfl, by decide +kernel, by decide +kernel⟩
theorem ok_freeD {f CD CB CT : Addr} {fd : FuncData} (F : Fun K "free" "Desk.free" sFreeD f fd) (B : Bl mg) (C : Cs mg) (TD : TxD K CD) (TT : TxT K CT)
    (M1 : MethOk P w K mg base CT "is_way" ["self", "from_stop", "to_stop"] 1 (spWay CT)) (M2 : MethOk P w K mg base CT "free_by_part" ["self", "from_stop", "to_stop"] 3 (spParts CB CT))
    (D1 : DefOk P w K mg base "free_all_the_way" ["free_by_part"] 1 (spThru K)) :
    FnOk P w K mg base CX0 4 f fd ["self", "from_stop", "to_stop"] (spDesk CD CB CT 2 fun ns => .free (ns.getD 0 0) (ns.getD 1 0)) := by
  obtain ⟨f1, fd1, m1, b1, G1⟩ := M1
  obtain ⟨f2, fd2, m2, b2, G2⟩ := M2
  obtain ⟨f3, fd3, m3, k3, b3, G3⟩ := D1
  refine F.ok scFreeD (fun vs H Q E h => ?_) (fun cdv A outer s H vs Q E hr h => ?_)
  · obtain ⟨d, X, o, ow, ns, rfl, hn, _⟩ := h
    simp [hn]
  · obtain ⟨d, X, o, ow, ns, rfl, hn, hD, ⟨zX, hX⟩, hO, k⟩ := h
    obtain ⟨x, y, rfl⟩ : ∃ x y, ns = [x, y] := by
      match ns, hn with
      | [x, y], _ => exact ⟨x, y, rfl⟩
    have hr1 : Room 1 _ := hr.mono (by decide)
    refine ⟨_, pss_cons (ps_set (i := 3) scFreeD.nd rfl (Or.inl rfl) (pe_fld (pv 0) rfl))
      (pss_cons (ps_if (pt_cmp (pc_isN (pv 3))) (pss_one (ps_ret (pe_lst (pa_cons (pe_ci C.nt (by rfl)) pa_nil)))) pss_nil)
      (pss_cons (ps_if (pt_not (pt_val (pe_meth (pv 3) TT.cl m1 G1 hr1 b1 .nil pass0 (pa_cons (pv 1) (pa_cons (pv 2) pa_nil))))) (pss_one (ps_ret (pe_lst (pa_cons (pe_ci C.wv (by rfl)) pa_nil)))) pss_nil)
      (pss_cons (ps_set (i := 4) scFreeD.nd rfl (Or.inl rfl) (pe_call G3 hr1 rfl m3 k3 b3 .nil pass0 (pa_cons (pe_meth (pv 3) TT.cl m2 G2 hr b2 .nil pass0 (pa_cons (pv 1) (pa_cons (pv 2) pa_nil))) pa_nil)))
      (pss_one (ps_ret (pe_op op_cat (pe_lst (pa_cons (pe_callB call_len rfl B.len PySem.boot_len (pa_cons (pv 4) pa_nil)) pa_nil)) (pv 4))))))), ?_⟩
    have refuse : ∀ (z : Int) (H2 : Hp), Same H H2 → Ks327.act (absO o) (.free x y) = (absO o, Ks327.no z) → ∀ p, H2 p = none → Q (.ref p) (upd H2 p (.lst [.int z])) := fun z H2 sm e p hp => by
      have sm2 := sm.trans (Same.new (o := .lst [.int z]) hp)
      refine k o _ p ow ?_ hO (hD.same sm2) (Frame.same sm2 ow) (sm.free hp) ?_
      · show _ = (Ks327.act (absO o) (.free x y)).1
        rw [e]
      · show _ = some (HO.lst ((Ks327Neutral.sa (Ks327.act (absO o) (.free x y))).2.map V.int))
        rw [e, upd_same]
        rfl
    cases hD with
    | none obj =>
      refine ⟨_, rfl, d, CD, _, _, _, rfl, obj, TD.cl, TD.nt, dkf_train _, ?_⟩
      exact ⟨_, rfl, _, rfl, iteT ⟨by show 1 ≤ sizeLine; decide, refuse _ H (Same.refl H) (free_61 on_none x y)⟩⟩
    | @some dx t dx1 L as T obj tr =>
      have hOk : Ok T.abs := hO
      have hl40 := Ok.len40 hOk
      have hbl := paired_len tr.bks
      have hst17 : T.stops ≤ 17 := hOk.st17
      have hse12 : T.seats ≤ 12 := hOk.se12
      refine ⟨_, rfl, d, CD, _, _, _, rfl, obj, TD.cl, TD.nt, dkf_train _, ?_⟩
      refine ⟨_, rfl, _, rfl, iteF ?_⟩
      refine ⟨_, rfl, t, dx1, _, rfl, tr.obj, trf_no _ _ _ (by decide +kernel) (by decide +kernel) (by decide +kernel), _, rfl, _, rfl, t, dx1, L, T.stops, T.seats, x, y, rfl, tr.obj, _, rfl, ?_⟩
      have hway : Ks327.okWay T.abs x y = (decide (x < y) && decide (y < T.stops)) := rfl
      cases hc1 : (decide (x < y) && decide (y < T.stops)) with
      | false => exact iteT ⟨by show 1 ≤ sizeLine; decide, refuse _ H (Same.refl H) (free_22 hOk (hway.trans hc1))⟩
      | true =>
        have hw2 : x < y ∧ y < T.stops := by
          rw [Bool.and_eq_true, decide_eq_true_eq, decide_eq_true_eq] at hc1
          exact hc1
        have hokw : Ks327.okWay T.abs x y = true := hway.trans hc1
        have eheld : (live T.bks).map Bk.bk = Ks327.held T.abs := (held_abs T).symm
        refine iteF ?_
        -- train.free_by_part(from_stop, to_stop)
        refine ⟨_, rfl, t, dx1, _, rfl, tr.obj, trf_no _ _ _ (by decide +kernel) (by decide +kernel) (by decide +kernel), _, rfl, _, rfl, t, T, dx1, L, as, X, x, y, rfl, tr, by omega, by omega, RowsOk.of hOk, by omega, by omega, fun H1 D ps sm1 hDn hD1 hpl hps => ?_⟩
        rw [eheld] at hps
        have hfl : ∀ k, (freeOn T.seats (Ks327.held T.abs) k).length ≤ 100 := fun k => by
          unfold freeOn
          refine Nat.le_trans (List.length_filter_le _ _) ?_
          rw [List.length_range]
          omega
        have hget : ∀ (j : Nat), j < y - x → ((parts x y).map (freeOn T.seats (Ks327.held T.abs)))[j]? = some (freeOn T.seats (Ks327.held T.abs) (x + j)) := fun j hj => by
          rw [List.getElem?_map, parts_get hj]
          rfl
        -- free_all_the_way(..)
        refine ⟨D, ps, (parts x y).map (freeOn T.seats (Ks327.held T.abs)), freeOn T.seats (Ks327.held T.abs) (x + 0), rfl, SqL.of hD1, ⟨by rw [List.length_map, Ts.parts_len]; exact hpl, fun j p g hp hg => ?_⟩, hget 0 (by omega), hfl _, fun H2 p2 sm2 hp20 hp2 => ?_⟩
        · have hjl : j < y - x := by
            rw [← hpl]
            exact (List.getElem?_eq_some_iff.mp hp).1
          rw [hget j hjl] at hg
          rw [← Option.some.inj hg]
          exact SqL.of (hps j p hp)
        have eth := thru_free T (by omega : x < y)
        have eact := free_call hOk hokw
        rw [← eth] at eact
        have htl := thru_len (freeOn T.seats (Ks327.held T.abs) (x + 0)) ((parts x y).map (freeOn T.seats (Ks327.held T.abs)))
        have hf0 := hfl (x + 0)
        generalize hth : thru (freeOn T.seats (Ks327.held T.abs) (x + 0)) ((parts x y).map (freeOn T.seats (Ks327.held T.abs))) = th at *
        have smA := sm1.trans sm2
        -- return [len(seats)] + seats
        refine ⟨_, rfl, _, th.length, rfl, .inl ⟨_, SqL.of hp2, (nvs_len _).symm⟩, by show 1 ≤ sizeLine; decide, fun q hq => ?_⟩
        have smq : Same H2 (upd H2 q (.lst [nV th.length])) := Same.new hq
        refine ⟨_, rfl, q, p2, _, _, rfl, rfl, upd_same, smq _ _ hp2, ?_, fun p hp => ?_⟩
        · rw [nvs_len]
          show 1 + _ ≤ _
          exact line_le (by omega)
        · have sm3 := (smA.trans smq).trans (Same.new (o := .lst ([nV th.length] ++ nvs th)) hp)
          refine k (some T) _ p _ ?_ hO (.some (sm3 _ _ obj) (tr.same sm3)) (Frame.same sm3 _) ((smA.trans smq).free hp) ?_
          · show _ = (Ks327.act T.abs (.free x y)).1
            rw [eact]
            rfl
          · show _ = some (HO.lst ((Ks327Neutral.sa (Ks327.act T.abs (.free x y))).2.map V.int))
            rw [eact, upd_same]
            show _ = some (HO.lst (V.int (th.length : Int) :: (Ks327Neutral.ints th).map V.int))
            unfold Ks327Neutral.ints
            rw [List.map_map]
            rfl
/-! ### who -/
theorem scWhoD : FnScope ["self", "seat", "part", "number"] ["self", "seat", "part"] (defScope sWhoD) := ⟨rfl, rfl, rfl, by decide +kernel, rfl, by decide +kernel, by decide +kernel⟩
theorem ok_whoD {f CD CB CT : Addr} {fd : FuncData} (F : Fun K "who" "Desk.who" sWhoD f fd) (C : Cs mg) (TD : TxD K CD) (TT : TxT K CT)
    (M1 : MethOk P w K mg base CT "is_place" ["self", "seat", "part"] 1 (spPlace CT)) (M2 : MethOk P w K mg base CT "who_has" ["self", "seat", "part"] 2 (spWho CB CT)) :
    FnOk P w K mg base CX0 3 f fd ["self", "seat", "part"] (spDesk CD CB CT 2 fun ns => .who (ns.getD 0 0) (ns.getD 1 0)) := by
  obtain ⟨f1, fd1, m1, b1, G1⟩ := M1
  obtain ⟨f2, fd2, m2, b2, G2⟩ := M2
  refine F.ok scWhoD (fun vs H Q E h => ?_) (fun cdv A outer s H vs Q E hr h => ?_)
  · obtain ⟨d, X, o, ow, ns, rfl, hn, _⟩ := h
    simp [hn]
  · obtain ⟨d, X, o, ow, ns, rfl, hn, hD, ⟨zX, hX⟩, hO, k⟩ := h
    obtain ⟨x, y, rfl⟩ : ∃ x y, ns = [x, y] := by
      match ns, hn with
      | [x, y], _ => exact ⟨x, y, rfl⟩
    have hr1 : Room 1 _ := hr.mono (by decide)
    refine ⟨_, pss_cons (ps_if (pw_or (pt_cmp (pc_isN (pe_fld (pv 0) rfl))) (pw_or1 (pt_not (pt_val (pe_meth (pe_fld (pv 0) rfl) TT.cl m1 G1 hr1 b1 .nil pass0 (pa_cons (pv 1) (pa_cons (pv 2) pa_nil))))))).pt (pss_one (ps_ret (pe_lst (pa_cons (pe_ci C.nb (by rfl)) pa_nil)))) pss_nil)
      (pss_cons (ps_set (i := 3) scWhoD.nd rfl (Or.inl rfl) (pe_meth (pe_fld (pv 0) rfl) TT.cl m2 G2 hr b2 .nil pass0 (pa_cons (pv 1) (pa_cons (pv 2) pa_nil))))
      (pss_one (ps_ret (pe_lst (pa_cons (pe_ifExp (pt_cmp (pc_isN (pv 3))) (pe_ci C.ny (by rfl)) (pv 3)) pa_nil))))), ?_⟩
    have tell : ∀ (z : Int) (H2 : Hp), Same H H2 → Ks327.act (absO o) (.who x y) = (absO o, Ks327.no z) → ∀ p, H2 p = none → Q (.ref p) (upd H2 p (.lst [.int z])) := fun z H2 sm e p hp => by
      have sm2 := sm.trans (Same.new (o := .lst [.int z]) hp)
      refine k o _ p ow ?_ hO (hD.same sm2) (Frame.same sm2 ow) (sm.free hp) ?_
      · show _ = (Ks327.act (absO o) (.who x y)).1
        rw [e]
      · show _ = some (HO.lst ((Ks327Neutral.sa (Ks327.act (absO o) (.who x y))).2.map V.int))
        rw [e, upd_same]
        rfl
    cases hD with
    | none obj =>
      refine ⟨_, rfl, d, CD, _, _, _, rfl, obj, TD.cl, TD.nt, dkf_train _, _, rfl, ?_⟩
      exact iteT (iteT ⟨by show 1 ≤ sizeLine; decide, tell _ H (Same.refl H) (who_2 _ (.inl (Nat.zero_le _)))⟩)
    | @some dx t dx1 L as T obj tr =>
      have hOk : Ok T.abs := hO
      have hl40 := Ok.len40 hOk
      have hbl := paired_len tr.bks
      refine ⟨_, rfl, d, CD, _, _, _, rfl, obj, TD.cl, TD.nt, dkf_train _, _, rfl, ?_⟩
      refine iteF ⟨_, rfl, d, CD, dx, _, _, rfl, obj, TD.cl, TD.nt, dkf_train _, t, dx1, _, rfl, tr.obj, trf_no _ _ _ (by decide +kernel) (by decide +kernel) (by decide +kernel), _, rfl, _, rfl, t, dx1, L, T.stops, T.seats, x, y, rfl, tr.obj, _, rfl, ?_⟩
      cases hc1 : (decide (x < T.seats) && decide (y + 1 < T.stops)) with
      | false =>
        have hno : T.abs.seats ≤ x ∨ T.abs.stops ≤ y + 1 := by
          show T.seats ≤ x ∨ T.stops ≤ y + 1
          rcases Bool.and_eq_false_iff.mp hc1 with z | z
          · have := of_decide_eq_false z
            omega
          · have := of_decide_eq_false z
            omega
        exact iteT ⟨by show 1 ≤ sizeLine; decide, tell _ H (Same.refl H) (who_2 _ hno)⟩
      | true =>
        have hw2 : x < T.seats ∧ y + 1 < T.stops := by
          rw [Bool.and_eq_true, decide_eq_true_eq, decide_eq_true_eq] at hc1
          exact hc1
        have eact := who_ok T.abs (s := x) (k := y) hw2.1 hw2.2
        refine iteF ⟨_, rfl, d, CD, dx, _, _, rfl, obj, TD.cl, TD.nt, dkf_train _, t, dx1, _, rfl, tr.obj, trf_no _ _ _ (by decide +kernel) (by decide +kernel) (by decide +kernel), _, rfl, _, rfl, t, T, dx1, L, as, X, x, y, rfl, tr, by omega, RowsOk.of hOk, fun H1 sm1 => ?_⟩
        cases hwo : whoOf T.abs x y with
        | none =>
          rw [hwo] at eact
          exact ⟨_, rfl, _, rfl, iteT ⟨by show 1 ≤ sizeLine; decide, tell _ H1 sm1 eact⟩⟩
        | some i =>
          rw [hwo] at eact
          exact ⟨_, rfl, _, rfl, iteF ⟨_, rfl, by show 1 ≤ sizeLine; decide, tell _ H1 sm1 eact⟩⟩
/-! ### state -/
theorem scState : FnScope ["self", "train"] ["self"] (defScope sState) := ⟨rfl, rfl, rfl, by decide +kernel, rfl, by decide +kernel, by decide +kernel⟩
theorem ok_state {f CD CB CT : Addr} {fd : FuncData} (F : Fun K "state" "Desk.state" sState f fd) (B : Bl mg) (C : Cs mg) (TD : TxD K CD) (TT : TxT K CT)
    (M1 : MethOk P w K mg base CT "live_bookings" ["self"] 1 (spLive CB CT)) (M2 : MethOk P w K mg base CT "all_changes" ["self"] 3 (spChg CB CT)) :
    FnOk P w K mg base CX0 4 f fd ["self"] (spDesk CD CB CT 0 fun _ => .state) := by
  obtain ⟨f1, fd1, m1, b1, G1⟩ := M1
  obtain ⟨f2, fd2, m2, b2, G2⟩ := M2
  refine F.ok scState (fun vs H Q E h => ?_) (fun cdv A outer s H vs Q E hr h => ?_)
  · obtain ⟨d, X, o, ow, ns, rfl, hn, _⟩ := h
    simp [hn]
  · obtain ⟨d, X, o, ow, ns, rfl, hn, hD, ⟨zX, hX⟩, hO, k⟩ := h
    obtain rfl : ns = [] := List.length_eq_zero_iff.mp hn
    have hr1 : Room 1 _ := hr.mono (by decide)
    refine ⟨_, pss_cons (ps_set (i := 1) scState.nd rfl (Or.inl rfl) (pe_fld (pv 0) rfl))
      (pss_cons (ps_if (pt_cmp (pc_isN (pv 1))) (pss_one (ps_ret (pe_lst (pa_cons (pe_ci C.nt (by rfl)) pa_nil)))) pss_nil)
      (pss_one (ps_ret (pe_lst (pa_cons (pe_callB call_len (by rfl) B.len PySem.boot_len (pa_cons (pe_meth0 (pv 1) TT.cl m1 G1 hr1 b1 .nil pass0) pa_nil))
        (pa_cons (pe_callB call_len (by rfl) B.len PySem.boot_len (pa_cons (pe_fld (pv 1) rfl) pa_nil))
        (pa_cons (pe_meth0 (pv 1) TT.cl m2 G2 hr b2 .nil pass0) pa_nil))))))), ?_⟩
    cases hD with
    | none obj =>
      refine ⟨_, rfl, d, CD, _, _, _, rfl, obj, TD.cl, TD.nt, dkf_train _, ?_⟩
      refine ⟨_, rfl, _, rfl, iteT ⟨by show 1 ≤ sizeLine; decide, fun p hp => ?_⟩⟩
      have e := state_61 on_none
      refine k none _ p _ ?_ hO (.none (Same.new hp _ _ obj)) (Frame.same (Same.new hp) _) hp ?_
      · show _ = (Ks327.act {} .state).1
        rw [e]
        rfl
      · show _ = some (HO.lst ((Ks327Neutral.sa (Ks327.act {} .state)).2.map V.int))
        rw [e, upd_same]
        rfl
    | @some dx t dx1 L as T obj tr =>
      have hOk : Ok T.abs := hO
      have hl40 := Ok.len40 hOk
      have hbl := paired_len tr.bks
      have hst17 : T.stops ≤ 17 := hOk.st17
      have eact := state_ok hOk
      have hlb : T.abs.bookings.length = as.length := by
        rw [hbl]
        exact List.length_map _
      have hla : (liveA as T.bks).length = (Ks327.held T.abs).length := by
        rw [← live_held]
        exact paired_len (live_paired tr.bks)
      refine ⟨_, rfl, d, CD, _, _, _, rfl, obj, TD.cl, TD.nt, dkf_train _, ?_⟩
      refine ⟨_, rfl, _, rfl, iteF ?_⟩
      refine ⟨_, rfl, t, dx1, _, rfl, tr.obj, trf_no _ _ _ (by decide +kernel) (by decide +kernel) (by decide +kernel), t, T, dx1, L, as, X, rfl, tr, by omega, fun H1 p1 sm1 hp10 hp1 => ?_⟩
      have tr1 := tr.same sm1
      refine ⟨_, (liveA as T.bks).length, rfl, .inl ⟨_, SqL.of hp1, (List.length_map _).symm⟩, ?_⟩
      refine ⟨_, rfl, t, CT, dx1, _, _, rfl, tr1.obj, TT.cl, TT.nb, trf_bk _ _ _, _, as.length, rfl, .inl ⟨_, SqL.of tr1.lst, (List.length_map _).symm⟩, ?_⟩
      refine ⟨_, rfl, t, dx1, _, rfl, tr1.obj, trf_no _ _ _ (by decide +kernel) (by decide +kernel) (by decide +kernel), t, T, dx1, L, as, X, rfl, tr1, by omega, fun b hb => ?_, fun H2 sm2 => ⟨by show 3 ≤ sizeLine; decide, fun p hp => ?_⟩⟩
      · have hwf := wf_live hOk hb
        have g1 : b.to_ < T.stops := hwf.stop
        have g2 : b.row.length = b.to_ - b.fr := hwf.len
        omega
      have smA := sm1.trans sm2
      have sm3 := smA.trans (Same.new (o := .lst [V.int ((liveA as T.bks).length : Int), V.int (as.length : Int), nV (Ks327.changesOf (Ks327.held T.abs))]) hp)
      refine k (some T) _ p _ ?_ hO (.some (sm3 _ _ obj) (tr.same sm3)) (Frame.same sm3 _) (smA.free hp) ?_
      · show _ = (Ks327.act T.abs .state).1
        rw [eact]
        rfl
      · show _ = some (HO.lst ((Ks327Neutral.sa (Ks327.act T.abs .state)).2.map V.int))
        rw [eact, upd_same, hla, ← hlb]
        rfl
end
end Ts

end
section
/-! The program's heap, part 13: the whole line of calls. -/
set_option Elab.async false
set_option maxRecDepth 100000
set_option maxHeartbeats 3900000
namespace Ts
open PySem PySem.Spec PyProof.Rows L2
abbrev sCall : Stmt := top 33
abbrev sAns : Stmt := top 34
theorem runs_played : ∀ (l : List (List (List Int))) (s : Ks327.Abs), Ks327Neutral.runs s l = PyFlat.played Ks327Neutral.step s l
  | [], _ => rfl
  | c :: l, s => by
    show (Ks327Neutral.step s c).2 :: Ks327Neutral.runs (Ks327Neutral.step s c).1 l = (Ks327Neutral.step s c).2 :: _
    rw [runs_played l]
theorem told_len : ∀ (l : List (List Int)), (PyFlat.told l).length = (l.map List.length).foldl (· + ·) 0 + l.length
  | [] => rfl
  | a :: l => by
    rw [told_cons, List.length_append, List.length_cons, told_len l, List.map_cons, List.foldl_cons, foldl_add _ (0 + a.length), List.length_cons]
    omega
theorem played_len {S : Type} (step : S → List (List Int) → S × List Int) : ∀ (l : List (List (List Int))) (s : S), (PyFlat.played step s l).length = l.length
  | [], _ => rfl
  | c :: l, s => by
    rw [played_cons, List.length_cons, List.length_cons, played_len step l]
theorem answers_len {l : List Int} (h : PyKs327.answers_asked l = true) : (PyKs327.answers l).length < 1100000 := by
  have h0 := h
  unfold PyKs327.answers_asked PyKs327.calls at h0
  unfold PyKs327.answers PyKs327.calls
  cases e : PyFlat.calls PyKs327.shape l.length l with
  | none => rw [e] at h0; cases h0
  | some cs =>
    rw [e] at h0
    have em : cs.map PyKs327.whole = cs := by
      rw [List.map_congr_left (g := id) (fun c _ => whole_id c), List.map_id]
    dsimp only at h0 ⊢
    rw [em] at h0 ⊢
    rw [Bool.and_eq_true] at h0
    obtain ⟨h1, h2⟩ := h0
    unfold PyFlat.atMost at h1
    have h1' := of_decide_eq_true h1
    unfold Ks327Neutral.asked at h2
    rw [Bool.and_eq_true] at h2
    have h3 := of_decide_eq_true h2.2
    unfold Ks327Neutral.f at h3
    rw [runs_played] at h3
    rw [told_len, played_len]
    omega
/-- a call on the desk, by its number -/
def spAnswer (K : PySem.W.Frag) (CD CB CT : Addr) : Sp := fun vs H Q _ => ∃ (d X : Addr) (o : Option Tr) (ow : List Addr) (k : Nat) (l : Addr) (nn : List Nat), vs = [.ref d, nV k, .ref l] ∧ k < 8 ∧ nn.length = need.getD k 0 ∧ SqL K H l (nvs nn) ∧ DeskAt CD CB CT X H d o ow ∧ (∃ z, H X = some z) ∧ OkO o ∧
  ∀ (o' : Option Tr) (H' : Hp) (p : Addr) (ow' : List Addr), absO o' = (Ks327.act (absO o) (callOf k (nn.map fun n : Nat => (n : Int)))).1 → OkO o' → DeskAt CD CB CT X H' d o' ow' → Frame H H' ow ow' → H p = none → H' p = some (.lst ((ansOf (absO o) (callOf k (nn.map fun n : Nat => (n : Int)))).map V.int)) → Q (.ref p) H'
def spAns (K : PySem.W.Frag) : Sp := fun vs H Q _ => ∃ (a : Addr) (ns : List Int), vs = [.ref a] ∧ SqL K H a (ns.map V.int) ∧ ns.length ≤ 30000 ∧ (∀ z ∈ ns, 0 ≤ z) ∧ PyKs327.answers_asked ns = true ∧ ∀ (H' : Hp) (p : Addr), H' p = some (.lst ((PyKs327.answers ns).map V.int)) → Q (.ref p) H'
theorem SqL.keep1 {K : PySem.W.Frag} {H H' : Hp} {a : Addr} {xs : List V} (f : ∀ o, H a = some o → H' a = some o) (h : SqL K H a xs) : SqL K H' a xs := by
  rcases h with (h | ⟨o, h⟩) | h
  · exact .inl (.inl (f _ h))
  · exact .inl (.inr ⟨o, f _ h⟩)
  · exact .inr h
theorem cut_nat (xs : List V) {i j : Nat} (hi : i ≤ xs.length) (hj : j ≤ xs.length) : cutV xs (some (i : Int)) (some (j : Int)) = (xs.drop i).take (j - i) := by
  unfold cutV
  rw [HT.sIx_nat, HT.sIx_nat, Nat.min_eq_left hi, Nat.min_eq_left hj]
theorem toNats {l : List Int} (h : ∀ z ∈ l, 0 ≤ z) : (l.map Int.toNat).map (fun n : Nat => (n : Int)) = l := by
  rw [List.map_map]
  refine (List.map_congr_left (g := id) fun z hz => ?_).trans (List.map_id l)
  show ((z.toNat : Nat) : Int) = z
  exact Int.toNat_of_nonneg (h z hz)
section
variable {P : Program} {w : World} {K : PySem.W.Frag} {mg : Str → Option Value} {base : Heap}
theorem scAns : FnScope ["calls", "desk", "answered", "place", "call", "behind", "answer"] ["calls"] (defScope sAns) := ⟨rfl, rfl, rfl, by decide +kernel, rfl, by decide +kernel, by decide +kernel⟩
theorem ok_ans {f CD CB CT fI nb : Addr} {fd fdI : FuncData} (F : Fun K "answers" "answers" sAns f fd) (B : Bl mg) (D1 : DefOk P w K mg base "answer_call" ["desk", "call", "numbers"] 6 (spAnswer K CD CB CT))
    (mD : mg "Desk" = some (.ref CD)) (MD : Mk K CD fI) (bI : Binds K fdI ["self"] []) (GI : FnOk P w K mg base CX0 1 fI fdI ["self"] (spDInit CD)) (mN : mg "NUMBERS_BEHIND" = some (.ref nb)) (hN : ∀ H : Hp, SqT K H nb (nvs need)) :
    FnOk P w K mg base CX0 7 f fd ["calls"] (spAns K) := by
  obtain ⟨f1, fd1, m1, k1, b1, G1⟩ := D1
  refine F.ok scAns (fun vs H Q E h => ?_) (fun cdv A outer s H vs Q E hr h => ?_)
  · obtain ⟨a, ns, rfl, _⟩ := h
    rfl
  · obtain ⟨a, ns, rfl, hS, hlen, hpos, hask, k⟩ := h
    have hr2 : Room 2 _ := hr.mono (by decide)
    refine ⟨_, pss_cons (ps_set (i := 1) scAns.nd rfl (Or.inl rfl) (pe_make0 MD GI hr2 rfl mD bI .nil pass0))
      (pss_cons (ps_set (i := 2) scAns.nd rfl (Or.inl rfl) (pe_lst pa_nil))
      (pss_cons (ps_set (i := 3) scAns.nd rfl (Or.inl rfl) pe_int)
      (pss_cons (ps_while PassesOwn.never (pt_cmpR op_lt (pv 3) (pe_callB call_len (by rfl) B.len PySem.boot_len (pa_cons (pv 0) pa_nil)) (nomark _))
        (pss_cons (ps_set (i := 4) scAns.nd rfl (Or.inl rfl) (pe_ix ix_list (pv 0) (pv 3) (fun _ _ => rfl)))
        (pss_cons (ps_set (i := 5) scAns.nd rfl (Or.inl rfl) (pe_op op_add (pe_op op_add (pv 3) pe_int) (pe_ix ix_tup (pe_glob (v := .ref nb) (by rfl) mN rfl) (pv 4) (fun _ _ => rfl))))
        (pss_cons (ps_set (i := 6) scAns.nd rfl (Or.inl rfl) (pe_call G1 hr rfl m1 k1 b1 .nil pass0 (pa_cons (pv 1) (pa_cons (pv 4) (pa_cons (pe_slice sl_list (pv 0) (po_some (pe_op op_add (pv 3) pe_int)) (po_some (pv 5))) pa_nil)))))
        (pss_cons (ps_expr (pe_bm PySem.F.plainAttrs_list PySem.F.slot_list_append PySem.F.type_list_append mt_append (pv 2) (pa_cons (pe_callB call_len (by rfl) B.len PySem.boot_len (pa_cons (pv 6) pa_nil)) pa_nil)))
        (pss_cons (ps_expr (pe_bm PySem.F.plainAttrs_list PySem.F.slot_list_extend PySem.F.type_list_extend mt_extend (pv 2) (pa_cons (pv 6) pa_nil)))
        (pss_one (ps_set (i := 3) scAns.nd rfl (Or.inl rfl) (pv 5)))))))))
      (pss_one (ps_ret (pv 2)))))), ?_⟩
    obtain ⟨cs0, hR0, hA0, _⟩ := answers_of hask
    have hAl := answers_len hask
    -- desk = Desk(); answered = []; place = 0
    intro d dxd nd ndx nex
    refine ⟨d, dxd, rfl, upd_same, fun H1 hd1 kp1 => ⟨rfl, ?_⟩⟩
    have sm1 : Same H H1 := Same.made nd ndx kp1
    refine ⟨Nat.zero_le _, fun q hq => ?_⟩
    have sm2 : Same H (upd H1 q (.lst [])) := sm1.trans (Same.new hq)
    have hqd : q ≠ d := fun z => by
      rw [z, hd1] at hq
      cases hq
    refine while_by (fun σ H' => ∃ (place : Nat) (done : List Int) (o : Option Tr) (ow : List Addr) (cs : List (List (List Int))) (v4 v5 v6 : Option V), σ = [some (.ref a), some (.ref d), some (.ref q), some (nV place), v4, v5, v6] ∧ place ≤ ns.length ∧ Rest (ns.drop place) cs ∧
        PyKs327.answers ns = done ++ PyFlat.told (PyFlat.played Ks327Neutral.step (absO o) cs) ∧ H' q = some (.lst (done.map V.int)) ∧ DeskAt CD CB CT q H' d o ow ∧ OkO o ∧ q ∉ ow ∧ (∀ z, H a = some z → H' a = some z ∧ a ∉ ow))
      (fun σ _ => match (σ[3]? : Option (Option V)) with | some (some (V.int z)) => ns.length - z.toNat | _ => 0) ?_ ?_ ?_
    · refine ⟨0, [], none, [d], cs0, none, none, none, rfl, Nat.zero_le _, hR0, ?_, upd_same, .none (by rw [upd_ne (Ne.symm hqd)]; exact hd1), trivial, ?_, fun z hz => ⟨sm2 _ _ hz, ?_⟩⟩
      · rw [hA0]
        rfl
      · intro h
        rw [List.mem_singleton] at h
        exact hqd h
      · intro h
        rw [List.mem_singleton] at h
        rw [h, nd] at hz
        cases hz
    · rintro σ H' ⟨place, done, o, ow, cs, v4, v5, v6, rfl, hpl, hR, hA, hq', hD, hO, hqo, ha⟩
      have hS' : SqL K H' a (ns.map V.int) := SqL.keep1 (fun z hz => (ha z hz).1) hS
      refine ⟨_, rfl, _, rfl, _, ns.length, rfl, .inl ⟨_, hS', (List.length_map _).symm⟩, _, _, rfl, rfl, _, rfl, ?_⟩
      have elt : decide ((place : Int) < (ns.length : Int)) = decide (place < ns.length) := by rw [decide_eq_decide]; omega
      rw [elt]
      by_cases hlt : place < ns.length
      · rw [decide_eq_true hlt]
        refine iteT ?_
        have hdrop : ns.drop place = ns[place] :: ns.drop (place + 1) := List.drop_eq_getElem_cons hlt
        rw [hdrop] at hR
        obtain ⟨kk, cs', ek, hk8, hneed, ecs, hR'⟩ := rest_cons hR
        have hge : ns[place]? = some ((kk : Nat) : Int) := by
          rw [List.getElem?_eq_getElem hlt, ek]
        rw [List.length_drop] at hneed
        -- call = calls[place]
        refine ⟨_, rfl, _, rfl, a, _, _, _, rfl, rfl, hS', atI_nat (j := place) (v := nV kk) (by rw [List.getElem?_map, hge]; rfl), ?_⟩
        -- behind
        have hngt : need[kk]? = some (need.getD kk 0) := by
          rw [List.getD_eq_getElem?_getD, List.getElem?_eq_getElem (by exact hk8)]
          rfl
        refine ⟨_, rfl, _, _, rfl, rfl, _, rfl, nb, _, _, _, rfl, rfl, hN H', atI_nat (j := kk) (nvs_get hngt), _, _, rfl, rfl, ?_⟩
        have ebeh : V.int ((place : Int) + 1 + ((need.getD kk 0 : Nat) : Int)) = nV (place + 1 + need.getD kk 0) := by
          unfold nV
          congr 1
        -- answer = answer_call(..)
        refine ⟨_, rfl, _, rfl, _, rfl, _, rfl, _, _, rfl, rfl, _, rfl, _, rfl, _, rfl, a, _, rfl, hS', fun l hl => ?_⟩
        have hnn : cutV (ns.map V.int) (some ((place : Int) + 1)) (some ((place : Int) + 1 + ((need.getD kk 0 : Nat) : Int))) = nvs (((ns.drop (place + 1)).take (need.getD kk 0)).map Int.toNat) := by
          have e1 : (place : Int) + 1 = ((place + 1 : Nat) : Int) := by omega
          have e2 : (place : Int) + 1 + ((need.getD kk 0 : Nat) : Int) = ((place + 1 + need.getD kk 0 : Nat) : Int) := by omega
          rw [e2, e1, cut_nat _ (by rw [List.length_map]; omega) (by rw [List.length_map]; omega), nvs_ints, toNats fun z hz => hpos z (List.mem_of_mem_drop (List.mem_of_mem_take hz))]
          rw [← List.map_drop, ← List.map_take]
          congr 2
          omega
        rw [hnn]
        have hback : (((ns.drop (place + 1)).take (need.getD kk 0)).map Int.toNat).map (fun n : Nat => (n : Int)) = (ns.drop (place + 1)).take (need.getD kk 0) := toNats fun z hz => hpos z (List.mem_of_mem_drop (List.mem_of_mem_take hz))
        have sml : Same H' (upd H' l (.lst (nvs (((ns.drop (place + 1)).take (need.getD kk 0)).map Int.toNat)))) := Same.new hl
        refine ⟨d, q, o, ow, kk, l, _, rfl, hk8, ?_, SqL.of upd_same, hD.same sml, ⟨_, sml _ _ hq'⟩, hO, fun o' H3 p ow' e1 ok' hD' fr hp0 hp3 => ?_⟩
        · rw [List.length_map, List.length_take, List.length_drop]
          omega
        · rw [hback] at e1 hp3
          have hql : q ∉ ow := hqo
          have hq3 : H3 q = some (.lst (done.map V.int)) := fr.keep _ _ (sml _ _ hq') hqo
          have hpq : q ≠ p := ne_of_none (sml _ _ hq') hp0
          have estep : Ks327Neutral.step (absO o) [ns[place] :: (ns.drop (place + 1)).take (need.getD kk 0)] = Ks327Neutral.sa (Ks327.act (absO o) (callOf kk ((ns.drop (place + 1)).take (need.getD kk 0)))) := by
            rw [ek]
            exact step_of _ hk8 _
          have hA' : PyKs327.answers ns = (done ++ ((ansOf (absO o) (callOf kk ((ns.drop (place + 1)).take (need.getD kk 0)))).length : Int) :: ansOf (absO o) (callOf kk ((ns.drop (place + 1)).take (need.getD kk 0)))) ++ PyFlat.told (PyFlat.played Ks327Neutral.step (absO o') cs') := by
            rw [hA, ecs, played_cons, told_cons, estep, List.append_assoc]
            congr 2
            rw [e1]
            rfl
          generalize hans : ansOf (absO o) (callOf kk ((ns.drop (place + 1)).take (need.getD kk 0))) = ans at *
          have hlen' : done.length + (ans.length + 1) ≤ 1100000 := by
            have := congrArg List.length hA'
            rw [List.length_append, List.length_append, List.length_cons] at this
            omega
          have big : 1100000 < sizeLine := by decide
          -- answered.append(len(answer)); answered.extend(answer)
          refine ⟨_, rfl, .inl ⟨rfl, _, SqL.of hq3⟩, _, rfl, _, ans.length, rfl, .inl ⟨_, SqL.of hp3, (List.length_map _).symm⟩, q, _, _, rfl, rfl, hq3, by rw [List.length_map]; omega, ?_⟩
          have hp4 : (upd H3 q (.lst (done.map V.int ++ [V.int (ans.length : Int)]))) p = some (.lst (ans.map V.int)) := by
            rw [upd_ne (Ne.symm hpq)]
            exact hp3
          refine ⟨_, rfl, .inl ⟨rfl, _, SqL.of upd_same⟩, _, rfl, q, p, _, _, rfl, rfl, upd_same, hp4, by rw [List.length_append, List.length_map, List.length_map, List.length_singleton]; omega, ?_⟩
          refine ⟨_, rfl, ?_⟩
          have hq5 : q ∉ ow' := fun h => by
            rcases fr.fresh q h with h | h
            · exact hqo h
            · rw [sml _ _ hq'] at h
              cases h
          have smq : ∀ (v u : HO) (b : Addr) (z : HO), H3 b = some z → b ≠ q → (upd (upd H3 q v) q u) b = some z := fun v u b z hz hb => by
            rw [upd_ne hb, upd_ne hb]
            exact hz
          have hdow : DeskAt CD CB CT q (upd (upd H3 q (.lst (done.map V.int ++ [V.int (ans.length : Int)]))) q (.lst ((done.map V.int ++ [V.int (ans.length : Int)]) ++ ans.map V.int))) d o' ow' := by
            cases hD' with
            | none obj => exact .none (smq _ _ _ _ obj fun z => hq5 (by rw [z]; exact List.mem_cons_self))
            | @some dx t dx1 L as T obj tr =>
              have n1 : d ≠ q := fun z => hq5 (by rw [z]; exact List.mem_cons_self)
              have n2 : t ≠ q := fun z => hq5 (by rw [z]; exact List.mem_cons_of_mem _ List.mem_cons_self)
              have n3 : L ≠ q := fun z => hq5 (by rw [z]; exact List.mem_cons_of_mem _ (List.mem_cons_of_mem _ List.mem_cons_self))
              refine .some (smq _ _ _ _ obj n1) ⟨smq _ _ _ _ tr.obj n2, smq _ _ _ _ tr.lst n3, tr.nd, paired_of_get (paired_len tr.bks) fun j c b hc hb => ?_⟩
              obtain ⟨b', hb', dx0, r0, g1, g2, g3⟩ := paired_get tr.bks hc
              have eb : b' = b := Option.some.inj (hb'.symm.trans hb)
              subst eb
              have n4 : c ≠ q := fun z => hq5 (by rw [← z]; exact List.mem_cons_of_mem _ (List.mem_cons_of_mem _ (List.mem_cons_of_mem _ (List.mem_of_getElem? hc))))
              exact ⟨dx0, r0, smq _ _ _ _ g1 n4, smq _ _ _ _ g2 fun z => g3 (by rw [z]; simp), g3⟩
          refine ⟨⟨place + 1 + need.getD kk 0, done ++ (ans.length : Int) :: ans, o', ow', cs', _, _, _, by rw [← ebeh]; rfl, by omega, ?_, hA', ?_, hdow, ok', hq5, fun z hz => ⟨?_, ?_⟩⟩, ?_⟩
          · rw [List.drop_drop] at hR'
            rw [show place + 1 + need.getD kk 0 = place + 1 + need.getD kk 0 from rfl]
            exact hR'
          · rw [upd_same, List.map_append, List.map_cons, List.append_assoc]
            rfl
          · have h1 := ha z hz
            refine smq _ _ a z (fr.keep _ _ (sml _ _ h1.1) h1.2) fun w => ?_
            rw [w, sm1.free hq] at hz
            cases hz
          · intro h
            have h1 := ha z hz
            rcases fr.fresh a h with h | h
            · exact h1.2 h
            · rw [sml _ _ h1.1] at h
              cases h
          · show ns.length - ((place : Int) + 1 + ((need.getD kk 0 : Nat) : Int)).toNat < ns.length - ((place : Nat) : Int).toNat
            omega
      · rw [decide_eq_false hlt]
        refine iteF ?_
        have hpe : place = ns.length := by omega
        rw [hpe, List.drop_length] at hR
        have ecs := rest_nil hR
        subst ecs
        refine ⟨_, rfl, k H' q ?_⟩
        rw [hq', hA]
        show _ = some (HO.lst ((done ++ []).map V.int))
        rw [List.append_nil]
    · rintro σ H Q Q' hq ⟨v, h1, v', h2, x, n, e, hl, i, j, e1, e2, kk, ek, qq⟩
      exact ⟨v, h1, v', h2, x, n, e, hl, i, j, e1, e2, kk, ek, hq _ _ qq⟩
end
end Ts

end
section
/-! The program's heap, part 14: answer_call. -/
set_option Elab.async false
set_option maxRecDepth 100000
set_option maxHeartbeats 3900000
namespace Ts
open PySem PySem.Spec PyProof.Rows L2
structure Ck (mg : Str → Option Value) : Prop where
  c0 : CI mg "CALL_BEGIN" 0
  c1 : CI mg "CALL_BOOK" 1
  c2 : CI mg "CALL_CANCEL" 2
  c3 : CI mg "CALL_ROW" 3
  c4 : CI mg "CALL_ANEW" 4
  c5 : CI mg "CALL_FREE" 5
  c6 : CI mg "CALL_WHO" 6
theorem nV_eq (k : Nat) (j : Nat) : decide (nV k = V.int (j : Int)) = decide (k = j) := nV_nV k j
theorem deskObj {CD CB CT X : Addr} {H : Hp} {d : Addr} {o : Option Tr} {ow : List Addr} (h : DeskAt CD CB CT X H d o ow) : ∃ dx v, H d = some (.ins CD dx (dkf v)) := by
  cases h with
  | none obj => exact ⟨_, _, obj⟩
  | some obj tr => exact ⟨_, _, obj⟩
section
variable {P : Program} {w : World} {K : PySem.W.Frag} {mg : Str → Option Value} {base : Heap}
theorem scCall : FnScope ["desk", "call", "numbers"] ["desk", "call", "numbers"] (defScope sCall) := ⟨rfl, rfl, rfl, by decide +kernel, rfl, by decide +kernel, by decide +kernel⟩
theorem ok_call {f CD CB CT : Addr} {fd : FuncData} (F : Fun K "answer_call" "answer_call" sCall f fd) (C : Ck mg) (TD : TxD K CD)
    (M1 : MethOk P w K mg base CD "begin" ["self", "stops", "seats"] 3 (spDesk CD CB CT 2 fun ns => .begin (ns.getD 0 0) (ns.getD 1 0)))
    (M2 : MethOk P w K mg base CD "book" ["self", "from_stop", "to_stop", "how"] 5 (spDesk CD CB CT 3 fun ns => .book (ns.getD 0 0) (ns.getD 1 0) (ns.getD 2 0)))
    (M3 : MethOk P w K mg base CD "cancel" ["self", "number"] 2 (spDesk CD CB CT 1 fun ns => .cancel (ns.getD 0 0)))
    (M4 : MethOk P w K mg base CD "tell_row" ["self", "number"] 2 (spDesk CD CB CT 1 fun ns => .row (ns.getD 0 0)))
    (M5 : MethOk P w K mg base CD "anew" ["self"] 4 (spDesk CD CB CT 0 fun _ => .anew))
    (M6 : MethOk P w K mg base CD "free" ["self", "from_stop", "to_stop"] 4 (spDesk CD CB CT 2 fun ns => .free (ns.getD 0 0) (ns.getD 1 0)))
    (M7 : MethOk P w K mg base CD "who" ["self", "seat", "part"] 3 (spDesk CD CB CT 2 fun ns => .who (ns.getD 0 0) (ns.getD 1 0)))
    (M8 : MethOk P w K mg base CD "state" ["self"] 4 (spDesk CD CB CT 0 fun _ => .state)) : FnOk P w K mg base CX0 6 f fd ["desk", "call", "numbers"] (spAnswer K CD CB CT) := by
  obtain ⟨f1, fd1, m1, b1, G1⟩ := M1
  obtain ⟨f2, fd2, m2, b2, G2⟩ := M2
  obtain ⟨f3, fd3, m3, b3, G3⟩ := M3
  obtain ⟨f4, fd4, m4, b4, G4⟩ := M4
  obtain ⟨f5, fd5, m5, b5, G5⟩ := M5
  obtain ⟨f6, fd6, m6, b6, G6⟩ := M6
  obtain ⟨f7, fd7, m7, b7, G7⟩ := M7
  obtain ⟨f8, fd8, m8, b8, G8⟩ := M8
  refine F.ok scCall (fun vs H Q E h => ?_) (fun cdv A outer s H vs Q E hr h => ?_)
  · obtain ⟨d, X, o, ow, k, l, nn, rfl, _⟩ := h
    rfl
  · obtain ⟨d, X, o, ow, k, l, nn, rfl, hk8, hnl, hl, hD, hX, hO, q⟩ := h
    have hr2 : Room 2 _ := hr.mono (by decide)
    have hr3 : Room 3 _ := hr.mono (by decide)
    have hr4 : Room 4 _ := hr.mono (by decide)
    refine ⟨_, pss_cons (ps_if (pt_cmpR op_eq (pv 1) (pe_ci C.c0 (by rfl)) (nomark _)) (pss_one (ps_ret (pe_meth (pv 0) TD.cl m1 G1 hr3 b1 .nil pass0 (pa_cons (pe_ix ix_list (pv 2) pe_int (fun _ _ => rfl)) (pa_cons (pe_ix ix_list (pv 2) pe_int (fun _ _ => rfl)) pa_nil))))) pss_nil)
      (pss_cons (ps_if (pt_cmpR op_eq (pv 1) (pe_ci C.c1 (by rfl)) (nomark _)) (pss_one (ps_ret (pe_meth (pv 0) TD.cl m2 G2 hr b2 .nil pass0 (pa_cons (pe_ix ix_list (pv 2) pe_int (fun _ _ => rfl)) (pa_cons (pe_ix ix_list (pv 2) pe_int (fun _ _ => rfl)) (pa_cons (pe_ix ix_list (pv 2) pe_int (fun _ _ => rfl)) pa_nil)))))) pss_nil)
      (pss_cons (ps_if (pt_cmpR op_eq (pv 1) (pe_ci C.c2 (by rfl)) (nomark _)) (pss_one (ps_ret (pe_meth (pv 0) TD.cl m3 G3 hr2 b3 .nil pass0 (pa_cons (pe_ix ix_list (pv 2) pe_int (fun _ _ => rfl)) pa_nil)))) pss_nil)
      (pss_cons (ps_if (pt_cmpR op_eq (pv 1) (pe_ci C.c3 (by rfl)) (nomark _)) (pss_one (ps_ret (pe_meth (pv 0) TD.cl m4 G4 hr2 b4 .nil pass0 (pa_cons (pe_ix ix_list (pv 2) pe_int (fun _ _ => rfl)) pa_nil)))) pss_nil)
      (pss_cons (ps_if (pt_cmpR op_eq (pv 1) (pe_ci C.c4 (by rfl)) (nomark _)) (pss_one (ps_ret (pe_meth0 (pv 0) TD.cl m5 G5 hr4 b5 .nil pass0))) pss_nil)
      (pss_cons (ps_if (pt_cmpR op_eq (pv 1) (pe_ci C.c5 (by rfl)) (nomark _)) (pss_one (ps_ret (pe_meth (pv 0) TD.cl m6 G6 hr4 b6 .nil pass0 (pa_cons (pe_ix ix_list (pv 2) pe_int (fun _ _ => rfl)) (pa_cons (pe_ix ix_list (pv 2) pe_int (fun _ _ => rfl)) pa_nil))))) pss_nil)
      (pss_cons (ps_if (pt_cmpR op_eq (pv 1) (pe_ci C.c6 (by rfl)) (nomark _)) (pss_one (ps_ret (pe_meth (pv 0) TD.cl m7 G7 hr3 b7 .nil pass0 (pa_cons (pe_ix ix_list (pv 2) pe_int (fun _ _ => rfl)) (pa_cons (pe_ix ix_list (pv 2) pe_int (fun _ _ => rfl)) pa_nil))))) pss_nil)
      (pss_one (ps_ret (pe_meth0 (pv 0) TD.cl m8 G8 hr4 b8 .nil pass0))))))))), ?_⟩
    obtain ⟨dx, v, obj⟩ := deskObj hD
    refine ⟨_, rfl, rfl, _, rfl, ?_⟩
    rw [show decide (nV k = V.int 0) = decide (k = 0) from nV_eq k 0]
    by_cases h0 : k = 0
    · subst h0
      obtain ⟨n, m, rfl⟩ : ∃ n m, nn = [n, m] := by
        match nn, hnl with
        | [n, m], _ => exact ⟨n, m, rfl⟩
      rw [decide_eq_true rfl]
      exact iteT ⟨_, rfl, d, dx, _, rfl, obj, dkf_no _ (by decide +kernel), _, rfl, l, _, _, _, rfl, rfl, hl, rfl, _, rfl, l, _, _, _, rfl, rfl, hl, rfl, d, X, o, ow, [n, m], rfl, rfl, hD, hX, hO, q⟩
    · rw [decide_eq_false h0]
      refine iteF ⟨_, rfl, rfl, _, rfl, ?_⟩
      rw [show decide (nV k = V.int 1) = decide (k = 1) from nV_eq k 1]
      by_cases h1 : k = 1
      · subst h1
        obtain ⟨n, m, j, rfl⟩ : ∃ n m j, nn = [n, m, j] := by
          match nn, hnl with
          | [n, m, j], _ => exact ⟨n, m, j, rfl⟩
        rw [decide_eq_true rfl]
        exact iteT ⟨_, rfl, d, dx, _, rfl, obj, dkf_no _ (by decide +kernel), _, rfl, l, _, _, _, rfl, rfl, hl, rfl, _, rfl, l, _, _, _, rfl, rfl, hl, rfl, _, rfl, l, _, _, _, rfl, rfl, hl, rfl, d, X, o, ow, [n, m, j], rfl, rfl, hD, hX, hO, q⟩
      · rw [decide_eq_false h1]
        refine iteF ⟨_, rfl, rfl, _, rfl, ?_⟩
        rw [show decide (nV k = V.int 2) = decide (k = 2) from nV_eq k 2]
        by_cases h2 : k = 2
        · subst h2
          obtain ⟨n, rfl⟩ : ∃ n, nn = [n] := by
            match nn, hnl with
            | [n], _ => exact ⟨n, rfl⟩
          rw [decide_eq_true rfl]
          exact iteT ⟨_, rfl, d, dx, _, rfl, obj, dkf_no _ (by decide +kernel), _, rfl, l, _, _, _, rfl, rfl, hl, rfl, d, X, o, ow, [n], rfl, rfl, hD, hX, hO, q⟩
        · rw [decide_eq_false h2]
          refine iteF ⟨_, rfl, rfl, _, rfl, ?_⟩
          rw [show decide (nV k = V.int 3) = decide (k = 3) from nV_eq k 3]
          by_cases h3 : k = 3
          · subst h3
            obtain ⟨n, rfl⟩ : ∃ n, nn = [n] := by
              match nn, hnl with
              | [n], _ => exact ⟨n, rfl⟩
            rw [decide_eq_true rfl]
            exact iteT ⟨_, rfl, d, dx, _, rfl, obj, dkf_no _ (by decide +kernel), _, rfl, l, _, _, _, rfl, rfl, hl, rfl, d, X, o, ow, [n], rfl, rfl, hD, hX, hO, q⟩
          · rw [decide_eq_false h3]
            refine iteF ⟨_, rfl, rfl, _, rfl, ?_⟩
            rw [show decide (nV k = V.int 4) = decide (k = 4) from nV_eq k 4]
            by_cases h4 : k = 4
            · subst h4
              obtain rfl : nn = [] := List.length_eq_zero_iff.mp hnl
              rw [decide_eq_true rfl]
              exact iteT ⟨_, rfl, d, dx, _, rfl, obj, dkf_no _ (by decide +kernel), d, X, o, ow, [], rfl, rfl, hD, hX, hO, q⟩
            · rw [decide_eq_false h4]
              refine iteF ⟨_, rfl, rfl, _, rfl, ?_⟩
              rw [show decide (nV k = V.int 5) = decide (k = 5) from nV_eq k 5]
              by_cases h5 : k = 5
              · subst h5
                obtain ⟨n, m, rfl⟩ : ∃ n m, nn = [n, m] := by
                  match nn, hnl with
                  | [n, m], _ => exact ⟨n, m, rfl⟩
                rw [decide_eq_true rfl]
                exact iteT ⟨_, rfl, d, dx, _, rfl, obj, dkf_no _ (by decide +kernel), _, rfl, l, _, _, _, rfl, rfl, hl, rfl, _, rfl, l, _, _, _, rfl, rfl, hl, rfl, d, X, o, ow, [n, m], rfl, rfl, hD, hX, hO, q⟩
              · rw [decide_eq_false h5]
                refine iteF ⟨_, rfl, rfl, _, rfl, ?_⟩
                rw [show decide (nV k = V.int 6) = decide (k = 6) from nV_eq k 6]
                by_cases h6 : k = 6
                · subst h6
                  obtain ⟨n, m, rfl⟩ : ∃ n m, nn = [n, m] := by
                    match nn, hnl with
                    | [n, m], _ => exact ⟨n, m, rfl⟩
                  rw [decide_eq_true rfl]
                  exact iteT ⟨_, rfl, d, dx, _, rfl, obj, dkf_no _ (by decide +kernel), _, rfl, l, _, _, _, rfl, rfl, hl, rfl, _, rfl, l, _, _, _, rfl, rfl, hl, rfl, d, X, o, ow, [n, m], rfl, rfl, hD, hX, hO, q⟩
                · rw [decide_eq_false h6]
                  have h7 : k = 7 := by omega
                  subst h7
                  obtain rfl : nn = [] := List.length_eq_zero_iff.mp hnl
                  exact iteF ⟨_, rfl, d, dx, _, rfl, obj, dkf_no _ (by decide +kernel), d, X, o, ow, [], rfl, rfl, hD, hX, hO, q⟩
end
end Ts

end
section
/-! The last part: what the top has written, and the row's head. -/
set_option Elab.async false
set_option maxRecDepth 100000
set_option maxHeartbeats 3900000
namespace Ts
open PySem PySem.Spec PyProof.Rows L2
open PySem.W (Codec)
theorem all_mk {P : Program} {w : World} {K : PySem.W.Frag} {h : Heap} {mg : Str → Option Value} {fa nb CB CT CD f1 f2 f3 f4 f5 f6 f7 f8 f9 f10 g1 g2 g3 g4 g5 g6 g7 g8 g9 g10 g11 g12 g13 g14 g15 g16 g17 g18 g19 g20 g21 g22 : Addr}
    {odd1 and1 odd2 and2 odd3 and3 odd4 and4 odd5 and5 odd6 and6 odd7 and7 odd8 and8 odd9 and9 odd10 and10 odm1 anm1 odm2 anm2 odm3 anm3 odm4 anm4 odm5 anm5 odm6 anm6 odm7 anm7 odm8 anm8 odm9 anm9 odm10 anm10 odm11 anm11 odm12 anm12 odm13 anm13 odm14 anm14 odm15 anm15 odm16 anm16 odm17 anm17 odm18 anm18 odm19 anm19 odm20 anm20 odm21 anm21 odm22 anm22 : Option Addr} {sld1 sld2 sld3 sld4 sld5 sld6 sld7 sld8 sld9 sld10 slm1 slm2 slm3 slm4 slm5 slm6 slm7 slm8 slm9 slm10 slm11 slm12 slm13 slm14 slm15 slm16 slm17 slm18 slm19 slm20 slm21 slm22 : Array (Option Value)} {ocd1 kVd1 dcd1 pmd1 cdd1 ctd1 ocd2 kVd2 dcd2 pmd2 cdd2 ctd2 ocd3 kVd3 dcd3 pmd3 cdd3 ctd3 ocd4 kVd4 dcd4 pmd4 cdd4 ctd4 ocd5 kVd5 dcd5 pmd5 cdd5 ctd5 ocd6 kVd6 dcd6 pmd6 cdd6 ctd6 ocd7 kVd7 dcd7 pmd7 cdd7 ctd7 ocd8 kVd8 dcd8 pmd8 cdd8 ctd8 ocd9 kVd9 dcd9 pmd9 cdd9 ctd9 ocd10 kVd10 dcd10 pmd10 cdd10 ctd10 ocm1 kVm1 dcm1 pmm1 cdm1 ctm1 ocm2 kVm2 dcm2 pmm2 cdm2 ctm2 ocm3 kVm3 dcm3 pmm3 cdm3 ctm3 ocm4 kVm4 dcm4 pmm4 cdm4 ctm4 ocm5 kVm5 dcm5 pmm5 cdm5 ctm5 ocm6 kVm6 dcm6 pmm6 cdm6 ctm6 ocm7 kVm7 dcm7 pmm7 cdm7 ctm7 ocm8 kVm8 dcm8 pmm8 cdm8 ctm8 ocm9 kVm9 dcm9 pmm9 cdm9 ctm9 ocm10 kVm10 dcm10 pmm10 cdm10 ctm10 ocm11 kVm11 dcm11 pmm11 cdm11 ctm11 ocm12 kVm12 dcm12 pmm12 cdm12 ctm12 ocm13 kVm13 dcm13 pmm13 cdm13 ctm13 ocm14 kVm14 dcm14 pmm14 cdm14 ctm14 ocm15 kVm15 dcm15 pmm15 cdm15 ctm15 ocm16 kVm16 dcm16 pmm16 cdm16 ctm16 ocm17 kVm17 dcm17 pmm17 cdm17 ctm17 ocm18 kVm18 dcm18 pmm18 cdm18 ctm18 ocm19 kVm19 dcm19 pmm19 cdm19 ctm19 ocm20 kVm20 dcm20 pmm20 cdm20 ctm20 ocm21 kVm21 dcm21 pmm21 cdm21 ctm21 ocm22 kVm22 dcm22 pmm22 cdm22 ctm22 : Value}
    {t0 t1 t2 t3 t4 t5 t6 t7 t8 t9 t10 t11 t12 t13 t14 t15 t16 t17 t18 t19 : Tok} (X : K.In h) (G : h.Ns mainGlobals mg) (hfa : mg "answers" = some (.ref fa))
    {onb : Obj} {inb : Array Value} {enb : Nat}
    (aCB : PySem.W.nsIn K mainGlobals "Booking" = some (some (.ref CB)))
    (aCT : PySem.W.nsIn K mainGlobals "Train" = some (some (.ref CT)))
    (aCD : PySem.W.nsIn K mainGlobals "Desk" = some (some (.ref CD)))
    (ad1 : PySem.W.nsIn K mainGlobals "step_changes" = some (some (.ref f1)))
    (ld1 : K.lookup f1 = some ⟨ocd1, odd1, .func (PySem.W.fnOf "step_changes" "step_changes" (defArgs sStep) (defBody sStep) (defScope sStep) .none kVd1 dcd1 pmd1 and1 cdd1 ctd1), sld1⟩)
    (cd1 : PySem.W.codeIn K cdd1 "step_changes" = true)
    (kd1 : PySem.W.keepIn K (.ref f1) = true)
    (ad2 : PySem.W.nsIn K mainGlobals "count_changes" = some (some (.ref f2)))
    (ld2 : K.lookup f2 = some ⟨ocd2, odd2, .func (PySem.W.fnOf "count_changes" "count_changes" (defArgs sCount) (defBody sCount) (defScope sCount) .none kVd2 dcd2 pmd2 and2 cdd2 ctd2), sld2⟩)
    (cd2 : PySem.W.codeIn K cdd2 "count_changes" = true)
    (kd2 : PySem.W.keepIn K (.ref f2) = true)
    (ad3 : PySem.W.nsIn K mainGlobals "fewest_ahead" = some (some (.ref f3)))
    (ld3 : K.lookup f3 = some ⟨ocd3, odd3, .func (PySem.W.fnOf "fewest_ahead" "fewest_ahead" (defArgs sFew) (defBody sFew) (defScope sFew) .none kVd3 dcd3 pmd3 and3 cdd3 ctd3), sld3⟩)
    (cd3 : PySem.W.codeIn K cdd3 "fewest_ahead" = true)
    (kd3 : PySem.W.keepIn K (.ref f3) = true)
    (ad4 : PySem.W.nsIn K mainGlobals "changes_ahead" = some (some (.ref f4)))
    (ld4 : K.lookup f4 = some ⟨ocd4, odd4, .func (PySem.W.fnOf "changes_ahead" "changes_ahead" (defArgs sAhead) (defBody sAhead) (defScope sAhead) .none kVd4 dcd4 pmd4 and4 cdd4 ctd4), sld4⟩)
    (cd4 : PySem.W.codeIn K cdd4 "changes_ahead" = true)
    (kd4 : PySem.W.keepIn K (.ref f4) = true)
    (ad5 : PySem.W.nsIn K mainGlobals "fewest_changes_row" = some (some (.ref f5)))
    (ld5 : K.lookup f5 = some ⟨ocd5, odd5, .func (PySem.W.fnOf "fewest_changes_row" "fewest_changes_row" (defArgs sRow) (defBody sRow) (defScope sRow) .none kVd5 dcd5 pmd5 and5 cdd5 ctd5), sld5⟩)
    (cd5 : PySem.W.codeIn K cdd5 "fewest_changes_row" = true)
    (kd5 : PySem.W.keepIn K (.ref f5) = true)
    (ad6 : PySem.W.nsIn K mainGlobals "free_all_the_way" = some (some (.ref f6)))
    (ld6 : K.lookup f6 = some ⟨ocd6, odd6, .func (PySem.W.fnOf "free_all_the_way" "free_all_the_way" (defArgs sThru) (defBody sThru) (defScope sThru) .none kVd6 dcd6 pmd6 and6 cdd6 ctd6), sld6⟩)
    (cd6 : PySem.W.codeIn K cdd6 "free_all_the_way" = true)
    (kd6 : PySem.W.keepIn K (.ref f6) = true)
    (ad7 : PySem.W.nsIn K mainGlobals "least_seat_left" = some (some (.ref f7)))
    (ld7 : K.lookup f7 = some ⟨ocd7, odd7, .func (PySem.W.fnOf "least_seat_left" "least_seat_left" (defArgs sLeft) (defBody sLeft) (defScope sLeft) .none kVd7 dcd7 pmd7 and7 cdd7 ctd7), sld7⟩)
    (cd7 : PySem.W.codeIn K cdd7 "least_seat_left" = true)
    (kd7 : PySem.W.keepIn K (.ref f7) = true)
    (ad8 : PySem.W.nsIn K mainGlobals "seats_at_once" = some (some (.ref f8)))
    (ld8 : K.lookup f8 = some ⟨ocd8, odd8, .func (PySem.W.fnOf "seats_at_once" "seats_at_once" (defArgs sOnce) (defBody sOnce) (defScope sOnce) .none kVd8 dcd8 pmd8 and8 cdd8 ctd8), sld8⟩)
    (cd8 : PySem.W.codeIn K cdd8 "seats_at_once" = true)
    (kd8 : PySem.W.keepIn K (.ref f8) = true)
    (ad9 : PySem.W.nsIn K mainGlobals "answer_call" = some (some (.ref f9)))
    (ld9 : K.lookup f9 = some ⟨ocd9, odd9, .func (PySem.W.fnOf "answer_call" "answer_call" (defArgs sCall) (defBody sCall) (defScope sCall) .none kVd9 dcd9 pmd9 and9 cdd9 ctd9), sld9⟩)
    (cd9 : PySem.W.codeIn K cdd9 "answer_call" = true)
    (kd9 : PySem.W.keepIn K (.ref f9) = true)
    (ad10 : PySem.W.nsIn K mainGlobals "answers" = some (some (.ref f10)))
    (ld10 : K.lookup f10 = some ⟨ocd10, odd10, .func (PySem.W.fnOf "answers" "answers" (defArgs sAns) (defBody sAns) (defScope sAns) .none kVd10 dcd10 pmd10 and10 cdd10 ctd10), sld10⟩)
    (cd10 : PySem.W.codeIn K cdd10 "answers" = true)
    (kd10 : PySem.W.keepIn K (.ref f10) = true)
    (am1 : PySem.W.findIn K (.ref CB) "__init__" = some (some (.ref g1)))
    (im1 : PySem.W.isFn K (.ref g1) = true)
    (lm1 : K.lookup g1 = some ⟨ocm1, odm1, .func (PySem.W.fnOf "__init__" "Booking.__init__" (defArgs sBInit) (defBody sBInit) (defScope sBInit) .none kVm1 dcm1 pmm1 anm1 cdm1 ctm1), slm1⟩)
    (cm1 : PySem.W.codeIn K cdm1 "Booking.__init__" = true)
    (km1 : PySem.W.keepIn K (.ref g1) = true)
    (am2 : PySem.W.findIn K (.ref CB) "has_part" = some (some (.ref g2)))
    (im2 : PySem.W.isFn K (.ref g2) = true)
    (lm2 : K.lookup g2 = some ⟨ocm2, odm2, .func (PySem.W.fnOf "has_part" "Booking.has_part" (defArgs sHas) (defBody sHas) (defScope sHas) .none kVm2 dcm2 pmm2 anm2 cdm2 ctm2), slm2⟩)
    (cm2 : PySem.W.codeIn K cdm2 "Booking.has_part" = true)
    (km2 : PySem.W.keepIn K (.ref g2) = true)
    (am3 : PySem.W.findIn K (.ref CB) "seat_on" = some (some (.ref g3)))
    (im3 : PySem.W.isFn K (.ref g3) = true)
    (lm3 : K.lookup g3 = some ⟨ocm3, odm3, .func (PySem.W.fnOf "seat_on" "Booking.seat_on" (defArgs sSeat) (defBody sSeat) (defScope sSeat) .none kVm3 dcm3 pmm3 anm3 cdm3 ctm3), slm3⟩)
    (cm3 : PySem.W.codeIn K cdm3 "Booking.seat_on" = true)
    (km3 : PySem.W.keepIn K (.ref g3) = true)
    (am4 : PySem.W.findIn K (.ref CT) "__init__" = some (some (.ref g4)))
    (im4 : PySem.W.isFn K (.ref g4) = true)
    (lm4 : K.lookup g4 = some ⟨ocm4, odm4, .func (PySem.W.fnOf "__init__" "Train.__init__" (defArgs sTInit) (defBody sTInit) (defScope sTInit) .none kVm4 dcm4 pmm4 anm4 cdm4 ctm4), slm4⟩)
    (cm4 : PySem.W.codeIn K cdm4 "Train.__init__" = true)
    (km4 : PySem.W.keepIn K (.ref g4) = true)
    (am5 : PySem.W.findIn K (.ref CT) "is_way" = some (some (.ref g5)))
    (im5 : PySem.W.isFn K (.ref g5) = true)
    (lm5 : K.lookup g5 = some ⟨ocm5, odm5, .func (PySem.W.fnOf "is_way" "Train.is_way" (defArgs sWay) (defBody sWay) (defScope sWay) .none kVm5 dcm5 pmm5 anm5 cdm5 ctm5), slm5⟩)
    (cm5 : PySem.W.codeIn K cdm5 "Train.is_way" = true)
    (km5 : PySem.W.keepIn K (.ref g5) = true)
    (am6 : PySem.W.findIn K (.ref CT) "is_place" = some (some (.ref g6)))
    (im6 : PySem.W.isFn K (.ref g6) = true)
    (lm6 : K.lookup g6 = some ⟨ocm6, odm6, .func (PySem.W.fnOf "is_place" "Train.is_place" (defArgs sPlace) (defBody sPlace) (defScope sPlace) .none kVm6 dcm6 pmm6 anm6 cdm6 ctm6), slm6⟩)
    (cm6 : PySem.W.codeIn K cdm6 "Train.is_place" = true)
    (km6 : PySem.W.keepIn K (.ref g6) = true)
    (am7 : PySem.W.findIn K (.ref CT) "live_bookings" = some (some (.ref g7)))
    (im7 : PySem.W.isFn K (.ref g7) = true)
    (lm7 : K.lookup g7 = some ⟨ocm7, odm7, .func (PySem.W.fnOf "live_bookings" "Train.live_bookings" (defArgs sLive) (defBody sLive) (defScope sLive) .none kVm7 dcm7 pmm7 anm7 cdm7 ctm7), slm7⟩)
    (cm7 : PySem.W.codeIn K cdm7 "Train.live_bookings" = true)
    (km7 : PySem.W.keepIn K (.ref g7) = true)
    (am8 : PySem.W.findIn K (.ref CT) "free_on" = some (some (.ref g8)))
    (im8 : PySem.W.isFn K (.ref g8) = true)
    (lm8 : K.lookup g8 = some ⟨ocm8, odm8, .func (PySem.W.fnOf "free_on" "Train.free_on" (defArgs sFree) (defBody sFree) (defScope sFree) .none kVm8 dcm8 pmm8 anm8 cdm8 ctm8), slm8⟩)
    (cm8 : PySem.W.codeIn K cdm8 "Train.free_on" = true)
    (km8 : PySem.W.keepIn K (.ref g8) = true)
    (am9 : PySem.W.findIn K (.ref CT) "free_by_part" = some (some (.ref g9)))
    (im9 : PySem.W.isFn K (.ref g9) = true)
    (lm9 : K.lookup g9 = some ⟨ocm9, odm9, .func (PySem.W.fnOf "free_by_part" "Train.free_by_part" (defArgs sParts) (defBody sParts) (defScope sParts) .none kVm9 dcm9 pmm9 anm9 cdm9 ctm9), slm9⟩)
    (cm9 : PySem.W.codeIn K cdm9 "Train.free_by_part" = true)
    (km9 : PySem.W.keepIn K (.ref g9) = true)
    (am10 : PySem.W.findIn K (.ref CT) "who_has" = some (some (.ref g10)))
    (im10 : PySem.W.isFn K (.ref g10) = true)
    (lm10 : K.lookup g10 = some ⟨ocm10, odm10, .func (PySem.W.fnOf "who_has" "Train.who_has" (defArgs sWho) (defBody sWho) (defScope sWho) .none kVm10 dcm10 pmm10 anm10 cdm10 ctm10), slm10⟩)
    (cm10 : PySem.W.codeIn K cdm10 "Train.who_has" = true)
    (km10 : PySem.W.keepIn K (.ref g10) = true)
    (am11 : PySem.W.findIn K (.ref CT) "all_changes" = some (some (.ref g11)))
    (im11 : PySem.W.isFn K (.ref g11) = true)
    (lm11 : K.lookup g11 = some ⟨ocm11, odm11, .func (PySem.W.fnOf "all_changes" "Train.all_changes" (defArgs sChg) (defBody sChg) (defScope sChg) .none kVm11 dcm11 pmm11 anm11 cdm11 ctm11), slm11⟩)
    (cm11 : PySem.W.codeIn K cdm11 "Train.all_changes" = true)
    (km11 : PySem.W.keepIn K (.ref g11) = true)
    (am12 : PySem.W.findIn K (.ref CT) "seat_all_at_once" = some (some (.ref g12)))
    (im12 : PySem.W.isFn K (.ref g12) = true)
    (lm12 : K.lookup g12 = some ⟨ocm12, odm12, .func (PySem.W.fnOf "seat_all_at_once" "Train.seat_all_at_once" (defArgs sAll) (defBody sAll) (defScope sAll) .none kVm12 dcm12 pmm12 anm12 cdm12 ctm12), slm12⟩)
    (cm12 : PySem.W.codeIn K cdm12 "Train.seat_all_at_once" = true)
    (km12 : PySem.W.keepIn K (.ref g12) = true)
    (am13 : PySem.W.findIn K (.ref CD) "__init__" = some (some (.ref g13)))
    (im13 : PySem.W.isFn K (.ref g13) = true)
    (lm13 : K.lookup g13 = some ⟨ocm13, odm13, .func (PySem.W.fnOf "__init__" "Desk.__init__" (defArgs sDInit) (defBody sDInit) (defScope sDInit) .none kVm13 dcm13 pmm13 anm13 cdm13 ctm13), slm13⟩)
    (cm13 : PySem.W.codeIn K cdm13 "Desk.__init__" = true)
    (km13 : PySem.W.keepIn K (.ref g13) = true)
    (am14 : PySem.W.findIn K (.ref CD) "begin" = some (some (.ref g14)))
    (im14 : PySem.W.isFn K (.ref g14) = true)
    (lm14 : K.lookup g14 = some ⟨ocm14, odm14, .func (PySem.W.fnOf "begin" "Desk.begin" (defArgs sBegin) (defBody sBegin) (defScope sBegin) .none kVm14 dcm14 pmm14 anm14 cdm14 ctm14), slm14⟩)
    (cm14 : PySem.W.codeIn K cdm14 "Desk.begin" = true)
    (km14 : PySem.W.keepIn K (.ref g14) = true)
    (am15 : PySem.W.findIn K (.ref CD) "book" = some (some (.ref g15)))
    (im15 : PySem.W.isFn K (.ref g15) = true)
    (lm15 : K.lookup g15 = some ⟨ocm15, odm15, .func (PySem.W.fnOf "book" "Desk.book" (defArgs sBook) (defBody sBook) (defScope sBook) .none kVm15 dcm15 pmm15 anm15 cdm15 ctm15), slm15⟩)
    (cm15 : PySem.W.codeIn K cdm15 "Desk.book" = true)
    (km15 : PySem.W.keepIn K (.ref g15) = true)
    (am16 : PySem.W.findIn K (.ref CD) "live_booking" = some (some (.ref g16)))
    (im16 : PySem.W.isFn K (.ref g16) = true)
    (lm16 : K.lookup g16 = some ⟨ocm16, odm16, .func (PySem.W.fnOf "live_booking" "Desk.live_booking" (defArgs sLiveB) (defBody sLiveB) (defScope sLiveB) .none kVm16 dcm16 pmm16 anm16 cdm16 ctm16), slm16⟩)
    (cm16 : PySem.W.codeIn K cdm16 "Desk.live_booking" = true)
    (km16 : PySem.W.keepIn K (.ref g16) = true)
    (am17 : PySem.W.findIn K (.ref CD) "cancel" = some (some (.ref g17)))
    (im17 : PySem.W.isFn K (.ref g17) = true)
    (lm17 : K.lookup g17 = some ⟨ocm17, odm17, .func (PySem.W.fnOf "cancel" "Desk.cancel" (defArgs sCancel) (defBody sCancel) (defScope sCancel) .none kVm17 dcm17 pmm17 anm17 cdm17 ctm17), slm17⟩)
    (cm17 : PySem.W.codeIn K cdm17 "Desk.cancel" = true)
    (km17 : PySem.W.keepIn K (.ref g17) = true)
    (am18 : PySem.W.findIn K (.ref CD) "tell_row" = some (some (.ref g18)))
    (im18 : PySem.W.isFn K (.ref g18) = true)
    (lm18 : K.lookup g18 = some ⟨ocm18, odm18, .func (PySem.W.fnOf "tell_row" "Desk.tell_row" (defArgs sTell) (defBody sTell) (defScope sTell) .none kVm18 dcm18 pmm18 anm18 cdm18 ctm18), slm18⟩)
    (cm18 : PySem.W.codeIn K cdm18 "Desk.tell_row" = true)
    (km18 : PySem.W.keepIn K (.ref g18) = true)
    (am19 : PySem.W.findIn K (.ref CD) "anew" = some (some (.ref g19)))
    (im19 : PySem.W.isFn K (.ref g19) = true)
    (lm19 : K.lookup g19 = some ⟨ocm19, odm19, .func (PySem.W.fnOf "anew" "Desk.anew" (defArgs sAnew) (defBody sAnew) (defScope sAnew) .none kVm19 dcm19 pmm19 anm19 cdm19 ctm19), slm19⟩)
    (cm19 : PySem.W.codeIn K cdm19 "Desk.anew" = true)
    (km19 : PySem.W.keepIn K (.ref g19) = true)
    (am20 : PySem.W.findIn K (.ref CD) "free" = some (some (.ref g20)))
    (im20 : PySem.W.isFn K (.ref g20) = true)
    (lm20 : K.lookup g20 = some ⟨ocm20, odm20, .func (PySem.W.fnOf "free" "Desk.free" (defArgs sFreeD) (defBody sFreeD) (defScope sFreeD) .none kVm20 dcm20 pmm20 anm20 cdm20 ctm20), slm20⟩)
    (cm20 : PySem.W.codeIn K cdm20 "Desk.free" = true)
    (km20 : PySem.W.keepIn K (.ref g20) = true)
    (am21 : PySem.W.findIn K (.ref CD) "who" = some (some (.ref g21)))
    (im21 : PySem.W.isFn K (.ref g21) = true)
    (lm21 : K.lookup g21 = some ⟨ocm21, odm21, .func (PySem.W.fnOf "who" "Desk.who" (defArgs sWhoD) (defBody sWhoD) (defScope sWhoD) .none kVm21 dcm21 pmm21 anm21 cdm21 ctm21), slm21⟩)
    (cm21 : PySem.W.codeIn K cdm21 "Desk.who" = true)
    (km21 : PySem.W.keepIn K (.ref g21) = true)
    (am22 : PySem.W.findIn K (.ref CD) "state" = some (some (.ref g22)))
    (im22 : PySem.W.isFn K (.ref g22) = true)
    (lm22 : K.lookup g22 = some ⟨ocm22, odm22, .func (PySem.W.fnOf "state" "Desk.state" (defArgs sState) (defBody sState) (defScope sState) .none kVm22 dcm22 pmm22 anm22 cdm22 ctm22), slm22⟩)
    (cm22 : PySem.W.codeIn K cdm22 "Desk.state" = true)
    (km22 : PySem.W.keepIn K (.ref g22) = true)
    (pgCB : PySem.W.plainGet K CB Str.empty = true)
    (hdCB : PySem.W.hasDictIn K CB = true)
    (poCB : PySem.W.plainOver K CB = true)
    (saCB : PySem.W.findIn K (.ref CB) "__setattr__" = some (some (.builtin "object.__setattr__")))
    (mkCB : PySem.W.makesIn K CB = true)
    (kcCB : PySem.W.keepIn K (.ref CB) = true)
    (nCB_from_stop : PySem.W.findIn K (.ref CB) "from_stop" = some none)
    (nCB_to_stop : PySem.W.findIn K (.ref CB) "to_stop" = some none)
    (nCB_row : PySem.W.findIn K (.ref CB) "row" = some none)
    (nCB_cancelled : PySem.W.findIn K (.ref CB) "cancelled" = some none)
    (pgCT : PySem.W.plainGet K CT Str.empty = true)
    (hdCT : PySem.W.hasDictIn K CT = true)
    (poCT : PySem.W.plainOver K CT = true)
    (saCT : PySem.W.findIn K (.ref CT) "__setattr__" = some (some (.builtin "object.__setattr__")))
    (mkCT : PySem.W.makesIn K CT = true)
    (kcCT : PySem.W.keepIn K (.ref CT) = true)
    (nCT_stops : PySem.W.findIn K (.ref CT) "stops" = some none)
    (nCT_seats : PySem.W.findIn K (.ref CT) "seats" = some none)
    (nCT_bookings : PySem.W.findIn K (.ref CT) "bookings" = some none)
    (pgCD : PySem.W.plainGet K CD Str.empty = true)
    (hdCD : PySem.W.hasDictIn K CD = true)
    (poCD : PySem.W.plainOver K CD = true)
    (saCD : PySem.W.findIn K (.ref CD) "__setattr__" = some (some (.builtin "object.__setattr__")))
    (mkCD : PySem.W.makesIn K CD = true)
    (kcCD : PySem.W.keepIn K (.ref CD) = true)
    (nCD_train : PySem.W.findIn K (.ref CD) "train" = some none)
    (v0 : PySem.W.nsIn K mainGlobals "LEAST_STOPS" = some (some (.int (2) t0)))
    (v1 : PySem.W.nsIn K mainGlobals "MOST_STOPS" = some (some (.int (17) t1)))
    (v2 : PySem.W.nsIn K mainGlobals "LEAST_SEATS" = some (some (.int (1) t2)))
    (v3 : PySem.W.nsIn K mainGlobals "MOST_SEATS" = some (some (.int (12) t3)))
    (v4 : PySem.W.nsIn K mainGlobals "MOST_BOOKINGS" = some (some (.int (40) t4)))
    (v5 : PySem.W.nsIn K mainGlobals "WRONG_VALUE" = some (some (.int (-22) t5)))
    (v6 : PySem.W.nsIn K mainGlobals "NO_TRAIN" = some (some (.int (-61) t6)))
    (v7 : PySem.W.nsIn K mainGlobals "TOO_MANY_BOOKINGS" = some (some (.int (-12) t7)))
    (v8 : PySem.W.nsIn K mainGlobals "NO_SUCH" = some (some (.int (-2) t8)))
    (v9 : PySem.W.nsIn K mainGlobals "NOBODY" = some (some (.int (-6) t9)))
    (v10 : PySem.W.nsIn K mainGlobals "PART_FULL" = some (some (.int (-1000) t10)))
    (v11 : PySem.W.nsIn K mainGlobals "OTHERS_STAY" = some (some (.int (0) t11)))
    (v12 : PySem.W.nsIn K mainGlobals "ALL_SEATED_AT_ONCE" = some (some (.int (1) t12)))
    (v13 : PySem.W.nsIn K mainGlobals "CALL_BEGIN" = some (some (.int (0) t13)))
    (v14 : PySem.W.nsIn K mainGlobals "CALL_BOOK" = some (some (.int (1) t14)))
    (v15 : PySem.W.nsIn K mainGlobals "CALL_CANCEL" = some (some (.int (2) t15)))
    (v16 : PySem.W.nsIn K mainGlobals "CALL_ROW" = some (some (.int (3) t16)))
    (v17 : PySem.W.nsIn K mainGlobals "CALL_ANEW" = some (some (.int (4) t17)))
    (v18 : PySem.W.nsIn K mainGlobals "CALL_FREE" = some (some (.int (5) t18)))
    (v19 : PySem.W.nsIn K mainGlobals "CALL_WHO" = some (some (.int (6) t19)))
    (z_sum : PySem.W.nsIn K mainGlobals "sum" = some none)
    (z_len : PySem.W.nsIn K mainGlobals "len" = some none)
    (z_range : PySem.W.nsIn K mainGlobals "range" = some none)
    (z_min : PySem.W.nsIn K mainGlobals "min" = some none)
    (z_reversed : PySem.W.nsIn K mainGlobals "reversed" = some none)
    (z_list : PySem.W.nsIn K mainGlobals "list" = some none)
    (z_enumerate : PySem.W.nsIn K mainGlobals "enumerate" = some none)
    (z_sorted : PySem.W.nsIn K mainGlobals "sorted" = some none)
    (z_zip : PySem.W.nsIn K mainGlobals "zip" = some none)
    (nbA : PySem.W.nsIn K mainGlobals "NUMBERS_BEHIND" = some (some (.ref nb)))
    (nbL : K.lookup nb = some onb) (nbC : onb.cls = .type "tuple") (nbD : onb.data = .seq inb enb) (nbV : Vals (nvs need) inb.toList) :
    ∃ fd : FuncData, (∀ (s : Shared) (us : List Value), us.length = (["calls"] : List Str).length → BindsTo s fd ⟨us, []⟩ ((["calls"] : List Str).zip us)) ∧ ∀ base : Heap, K.In base → base.Ns mainGlobals mg → FnOk P w K mg base CX0 7 fa fd ["calls"] (spAns K) := by
  have e := hfa.symm.trans (PySem.W.mg_of X G ad10)
  cases e
  have Fd1 := fun_mk (st := sStep) ld1 cd1 kd1
  have bd1 := Fd1.binds (ps := ["seat_before", "seat"]) fun _ _ _ _ _ _ us hl => match us, hl with | [_, _], _ => rfl
  have Fd2 := fun_mk (st := sCount) ld2 cd2 kd2
  have bd2 := Fd2.binds (ps := ["row"]) fun _ _ _ _ _ _ us hl => match us, hl with | [_], _ => rfl
  have Fd3 := fun_mk (st := sFew) ld3 cd3 kd3
  have bd3 := Fd3.binds (ps := ["seat", "ahead_of_later"]) fun _ _ _ _ _ _ us hl => match us, hl with | [_, _], _ => rfl
  have Fd4 := fun_mk (st := sAhead) ld4 cd4 kd4
  have bd4 := Fd4.binds (ps := ["free_by_part"]) fun _ _ _ _ _ _ us hl => match us, hl with | [_], _ => rfl
  have Fd5 := fun_mk (st := sRow) ld5 cd5 kd5
  have bd5 := Fd5.binds (ps := ["free_by_part"]) fun _ _ _ _ _ _ us hl => match us, hl with | [_], _ => rfl
  have Fd6 := fun_mk (st := sThru) ld6 cd6 kd6
  have bd6 := Fd6.binds (ps := ["free_by_part"]) fun _ _ _ _ _ _ us hl => match us, hl with | [_], _ => rfl
  have Fd7 := fun_mk (st := sLeft) ld7 cd7 kd7
  have bd7 := Fd7.binds (ps := ["gets_out", "from_stop"]) fun _ _ _ _ _ _ us hl => match us, hl with | [_, _], _ => rfl
  have Fd8 := fun_mk (st := sOnce) ld8 cd8 kd8
  have bd8 := Fd8.binds (ps := ["ways"]) fun _ _ _ _ _ _ us hl => match us, hl with | [_], _ => rfl
  have Fd9 := fun_mk (st := sCall) ld9 cd9 kd9
  have bd9 := Fd9.binds (ps := ["desk", "call", "numbers"]) fun _ _ _ _ _ _ us hl => match us, hl with | [_, _, _], _ => rfl
  have Fd10 := fun_mk (st := sAns) ld10 cd10 kd10
  have bd10 := Fd10.binds (ps := ["calls"]) fun _ _ _ _ _ _ us hl => match us, hl with | [_], _ => rfl
  have Fm1 := fun_mk (st := sBInit) lm1 cm1 km1
  have bm1 := Fm1.binds (ps := ["self", "from_stop", "to_stop"]) fun _ _ _ _ _ _ us hl => match us, hl with | [_, _, _], _ => rfl
  have Fm2 := fun_mk (st := sHas) lm2 cm2 km2
  have bm2 := Fm2.binds (ps := ["self", "part"]) fun _ _ _ _ _ _ us hl => match us, hl with | [_, _], _ => rfl
  have Fm3 := fun_mk (st := sSeat) lm3 cm3 km3
  have bm3 := Fm3.binds (ps := ["self", "part"]) fun _ _ _ _ _ _ us hl => match us, hl with | [_, _], _ => rfl
  have Fm4 := fun_mk (st := sTInit) lm4 cm4 km4
  have bm4 := Fm4.binds (ps := ["self", "stops", "seats"]) fun _ _ _ _ _ _ us hl => match us, hl with | [_, _, _], _ => rfl
  have Fm5 := fun_mk (st := sWay) lm5 cm5 km5
  have bm5 := Fm5.binds (ps := ["self", "from_stop", "to_stop"]) fun _ _ _ _ _ _ us hl => match us, hl with | [_, _, _], _ => rfl
  have Fm6 := fun_mk (st := sPlace) lm6 cm6 km6
  have bm6 := Fm6.binds (ps := ["self", "seat", "part"]) fun _ _ _ _ _ _ us hl => match us, hl with | [_, _, _], _ => rfl
  have Fm7 := fun_mk (st := sLive) lm7 cm7 km7
  have bm7 := Fm7.binds (ps := ["self"]) fun _ _ _ _ _ _ us hl => match us, hl with | [_], _ => rfl
  have Fm8 := fun_mk (st := sFree) lm8 cm8 km8
  have bm8 := Fm8.binds (ps := ["self", "part"]) fun _ _ _ _ _ _ us hl => match us, hl with | [_, _], _ => rfl
  have Fm9 := fun_mk (st := sParts) lm9 cm9 km9
  have bm9 := Fm9.binds (ps := ["self", "from_stop", "to_stop"]) fun _ _ _ _ _ _ us hl => match us, hl with | [_, _, _], _ => rfl
  have Fm10 := fun_mk (st := sWho) lm10 cm10 km10
  have bm10 := Fm10.binds (ps := ["self", "seat", "part"]) fun _ _ _ _ _ _ us hl => match us, hl with | [_, _, _], _ => rfl
  have Fm11 := fun_mk (st := sChg) lm11 cm11 km11
  have bm11 := Fm11.binds (ps := ["self"]) fun _ _ _ _ _ _ us hl => match us, hl with | [_], _ => rfl
  have Fm12 := fun_mk (st := sAll) lm12 cm12 km12
  have bm12 := Fm12.binds (ps := ["self"]) fun _ _ _ _ _ _ us hl => match us, hl with | [_], _ => rfl
  have Fm13 := fun_mk (st := sDInit) lm13 cm13 km13
  have bm13 := Fm13.binds (ps := ["self"]) fun _ _ _ _ _ _ us hl => match us, hl with | [_], _ => rfl
  have Fm14 := fun_mk (st := sBegin) lm14 cm14 km14
  have bm14 := Fm14.binds (ps := ["self", "stops", "seats"]) fun _ _ _ _ _ _ us hl => match us, hl with | [_, _, _], _ => rfl
  have Fm15 := fun_mk (st := sBook) lm15 cm15 km15
  have bm15 := Fm15.binds (ps := ["self", "from_stop", "to_stop", "how"]) fun _ _ _ _ _ _ us hl => match us, hl with | [_, _, _, _], _ => rfl
  have Fm16 := fun_mk (st := sLiveB) lm16 cm16 km16
  have bm16 := Fm16.binds (ps := ["self", "number"]) fun _ _ _ _ _ _ us hl => match us, hl with | [_, _], _ => rfl
  have Fm17 := fun_mk (st := sCancel) lm17 cm17 km17
  have bm17 := Fm17.binds (ps := ["self", "number"]) fun _ _ _ _ _ _ us hl => match us, hl with | [_, _], _ => rfl
  have Fm18 := fun_mk (st := sTell) lm18 cm18 km18
  have bm18 := Fm18.binds (ps := ["self", "number"]) fun _ _ _ _ _ _ us hl => match us, hl with | [_, _], _ => rfl
  have Fm19 := fun_mk (st := sAnew) lm19 cm19 km19
  have bm19 := Fm19.binds (ps := ["self"]) fun _ _ _ _ _ _ us hl => match us, hl with | [_], _ => rfl
  have Fm20 := fun_mk (st := sFreeD) lm20 cm20 km20
  have bm20 := Fm20.binds (ps := ["self", "from_stop", "to_stop"]) fun _ _ _ _ _ _ us hl => match us, hl with | [_, _, _], _ => rfl
  have Fm21 := fun_mk (st := sWhoD) lm21 cm21 km21
  have bm21 := Fm21.binds (ps := ["self", "seat", "part"]) fun _ _ _ _ _ _ us hl => match us, hl with | [_, _, _], _ => rfl
  have Fm22 := fun_mk (st := sState) lm22 cm22 km22
  have bm22 := Fm22.binds (ps := ["self"]) fun _ _ _ _ _ _ us hl => match us, hl with | [_], _ => rfl
  have B : Bl mg := ⟨PySem.W.mg_none_of X G z_sum, PySem.W.mg_none_of X G z_len, PySem.W.mg_none_of X G z_range, PySem.W.mg_none_of X G z_min, PySem.W.mg_none_of X G z_reversed, PySem.W.mg_none_of X G z_list, PySem.W.mg_none_of X G z_enumerate, PySem.W.mg_none_of X G z_sorted, PySem.W.mg_none_of X G z_zip⟩
  have C : Cs mg := ⟨⟨_, PySem.W.mg_of X G v0⟩, ⟨_, PySem.W.mg_of X G v1⟩, ⟨_, PySem.W.mg_of X G v2⟩, ⟨_, PySem.W.mg_of X G v3⟩, ⟨_, PySem.W.mg_of X G v4⟩, ⟨_, PySem.W.mg_of X G v5⟩, ⟨_, PySem.W.mg_of X G v6⟩, ⟨_, PySem.W.mg_of X G v7⟩, ⟨_, PySem.W.mg_of X G v8⟩, ⟨_, PySem.W.mg_of X G v9⟩, ⟨_, PySem.W.mg_of X G v10⟩, ⟨_, PySem.W.mg_of X G v11⟩, ⟨_, PySem.W.mg_of X G v12⟩⟩
  have Kc : Ck mg := ⟨⟨_, PySem.W.mg_of X G v13⟩, ⟨_, PySem.W.mg_of X G v14⟩, ⟨_, PySem.W.mg_of X G v15⟩, ⟨_, PySem.W.mg_of X G v16⟩, ⟨_, PySem.W.mg_of X G v17⟩, ⟨_, PySem.W.mg_of X G v18⟩, ⟨_, PySem.W.mg_of X G v19⟩⟩
  have TCB : TxB K CB := ⟨⟨pgCB, hdCB, poCB, saCB⟩, nCB_from_stop, nCB_to_stop, nCB_row, nCB_cancelled⟩
  have TCT : TxT K CT := ⟨⟨pgCT, hdCT, poCT, saCT⟩, nCT_stops, nCT_seats, nCT_bookings⟩
  have TCD : TxD K CD := ⟨⟨pgCD, hdCD, poCD, saCD⟩, nCD_train⟩
  have hN : ∀ H : Hp, SqT K H nb (nvs need) := fun H => .inr ⟨onb, inb, enb, nbL, nbC, nbD, by
    have e1 := Vals.length nbV
    have e2 : inb.toList.length = inb.size := Array.length_toList
    have e3 : (nvs need).length = 8 := rfl
    have e4 : 8 ≤ sizeLine := by decide
    omega, nbV⟩
  refine ⟨PySem.W.fnOf "answers" "answers" (defArgs sAns) (defBody sAns) (defScope sAns) .none kVd10 dcd10 pmd10 and10 cdd10 ctd10, fun s us hu => match us, hu with | [_], _ => .of_eq rfl, fun base _ _ => ?_⟩
  have Dstep : DefOk P w K mg base "step_changes" ["seat_before", "seat"] 1 spStep := ⟨_, _, PySem.W.mg_of X G ad1, kd1, bd1, ok_step Fd1 ⟩
  have Dcount : DefOk P w K mg base "count_changes" ["row"] 2 (spCount K) := ⟨_, _, PySem.W.mg_of X G ad2, kd2, bd2, ok_count Fd2 B Dstep⟩
  have Dfew : DefOk P w K mg base "fewest_ahead" ["seat", "ahead_of_later"] 2 spFew := ⟨_, _, PySem.W.mg_of X G ad3, kd3, bd3, ok_few Fd3 B Dstep⟩
  have Dahead : DefOk P w K mg base "changes_ahead" ["free_by_part"] 3 (spAhead K) := ⟨_, _, PySem.W.mg_of X G ad4, kd4, bd4, ok_ahead Fd4 B Dfew⟩
  have Drow : DefOk P w K mg base "fewest_changes_row" ["free_by_part"] 4 (spRow K) := ⟨_, _, PySem.W.mg_of X G ad5, kd5, bd5, ok_row Fd5 B Dstep Dahead⟩
  have Dthru : DefOk P w K mg base "free_all_the_way" ["free_by_part"] 1 (spThru K) := ⟨_, _, PySem.W.mg_of X G ad6, kd6, bd6, ok_thru Fd6 ⟩
  have Dleft : DefOk P w K mg base "least_seat_left" ["gets_out", "from_stop"] 1 (spLeft K) := ⟨_, _, PySem.W.mg_of X G ad7, kd7, bd7, ok_left Fd7 B⟩
  have Donce : DefOk P w K mg base "seats_at_once" ["ways"] 2 (spOnce K) := ⟨_, _, PySem.W.mg_of X G ad8, kd8, bd8, ok_once Fd8 B Dleft⟩
  have GBI : FnOk P w K mg base CX0 1 g1 _ ["self", "from_stop", "to_stop"] (spBInit CB) := ok_binit Fm1 TCB
  have Mhas : MethOk P w K mg base CB "has_part" ["self", "part"] 1 (spHas CB) := ⟨_, _, ⟨am2, im2, km2⟩, bm2, ok_has Fm2 TCB⟩
  have Mseat : MethOk P w K mg base CB "seat_on" ["self", "part"] 1 (spSeat CB) := ⟨_, _, ⟨am3, im3, km3⟩, bm3, ok_seat Fm3 TCB⟩
  have GTI : FnOk P w K mg base CX0 1 g4 _ ["self", "stops", "seats"] (spTInit CT) := ok_tinit Fm4 TCT
  have Mway : MethOk P w K mg base CT "is_way" ["self", "from_stop", "to_stop"] 1 (spWay CT) := ⟨_, _, ⟨am5, im5, km5⟩, bm5, ok_way Fm5 TCT⟩
  have Mplace : MethOk P w K mg base CT "is_place" ["self", "seat", "part"] 1 (spPlace CT) := ⟨_, _, ⟨am6, im6, km6⟩, bm6, ok_place Fm6 TCT⟩
  have Mlive : MethOk P w K mg base CT "live_bookings" ["self"] 1 (spLive CB CT) := ⟨_, _, ⟨am7, im7, km7⟩, bm7, ok_live Fm7 TCB TCT⟩
  have Mfree : MethOk P w K mg base CT "free_on" ["self", "part"] 2 (spFree CB CT) := ⟨_, _, ⟨am8, im8, km8⟩, bm8, ok_free Fm8 B TCB TCT Mlive Mhas Mseat⟩
  have Mparts : MethOk P w K mg base CT "free_by_part" ["self", "from_stop", "to_stop"] 3 (spParts CB CT) := ⟨_, _, ⟨am9, im9, km9⟩, bm9, ok_parts Fm9 B TCT Mfree⟩
  have Mwho : MethOk P w K mg base CT "who_has" ["self", "seat", "part"] 2 (spWho CB CT) := ⟨_, _, ⟨am10, im10, km10⟩, bm10, ok_who Fm10 B TCB TCT Mhas Mseat⟩
  have Mchg : MethOk P w K mg base CT "all_changes" ["self"] 3 (spChg CB CT) := ⟨_, _, ⟨am11, im11, km11⟩, bm11, ok_chg Fm11 B TCB TCT Mlive Dcount⟩
  have Mall : MethOk P w K mg base CT "seat_all_at_once" ["self"] 3 (spAll CB CT) := ⟨_, _, ⟨am12, im12, km12⟩, bm12, ok_all Fm12 B TCB TCT Mlive Donce⟩
  have GDI : FnOk P w K mg base CX0 1 g13 _ ["self"] (spDInit CD) := ok_dinit Fm13 TCD
  have MliveB : MethOk P w K mg base CD "live_booking" ["self", "number"] 1 (spLiveB CD CB CT) := ⟨_, _, ⟨am16, im16, km16⟩, bm16, ok_liveB Fm16 B TCD TCB TCT⟩
  have Mbegin : MethOk P w K mg base CD "begin" ["self", "stops", "seats"] 3 (spDesk CD CB CT 2 fun ns => .begin (ns.getD 0 0) (ns.getD 1 0)) := ⟨_, _, ⟨am14, im14, km14⟩, bm14, ok_begin Fm14 C TCD TCT (PySem.W.mg_of X G aCT) ⟨mkCT, am4, im4, kcCT⟩ bm4 GTI⟩
  have Mbook : MethOk P w K mg base CD "book" ["self", "from_stop", "to_stop", "how"] 5 (spDesk CD CB CT 3 fun ns => .book (ns.getD 0 0) (ns.getD 1 0) (ns.getD 2 0)) := ⟨_, _, ⟨am15, im15, km15⟩, bm15, ok_book Fm15 B C TCD TCB TCT Mway Mparts Mall Drow Dcount (PySem.W.mg_of X G aCB) ⟨mkCB, am1, im1, kcCB⟩ bm1 GBI⟩
  have Mcancel : MethOk P w K mg base CD "cancel" ["self", "number"] 2 (spDesk CD CB CT 1 fun ns => .cancel (ns.getD 0 0)) := ⟨_, _, ⟨am17, im17, km17⟩, bm17, ok_cancel Fm17 B C TCD TCB TCT MliveB Mlive⟩
  have Mtell : MethOk P w K mg base CD "tell_row" ["self", "number"] 2 (spDesk CD CB CT 1 fun ns => .row (ns.getD 0 0)) := ⟨_, _, ⟨am18, im18, km18⟩, bm18, ok_tell Fm18 B C TCD TCB MliveB⟩
  have Manew : MethOk P w K mg base CD "anew" ["self"] 4 (spDesk CD CB CT 0 fun _ => .anew) := ⟨_, _, ⟨am19, im19, km19⟩, bm19, ok_anew Fm19 C TCD TCT Mchg Mall⟩
  have MfreeD : MethOk P w K mg base CD "free" ["self", "from_stop", "to_stop"] 4 (spDesk CD CB CT 2 fun ns => .free (ns.getD 0 0) (ns.getD 1 0)) := ⟨_, _, ⟨am20, im20, km20⟩, bm20, ok_freeD Fm20 B C TCD TCT Mway Mparts Dthru⟩
  have MwhoD : MethOk P w K mg base CD "who" ["self", "seat", "part"] 3 (spDesk CD CB CT 2 fun ns => .who (ns.getD 0 0) (ns.getD 1 0)) := ⟨_, _, ⟨am21, im21, km21⟩, bm21, ok_whoD Fm21 C TCD TCT Mplace Mwho⟩
  have Mstate : MethOk P w K mg base CD "state" ["self"] 4 (spDesk CD CB CT 0 fun _ => .state) := ⟨_, _, ⟨am22, im22, km22⟩, bm22, ok_state Fm22 B C TCD TCT Mlive Mchg⟩
  have Dcall : DefOk P w K mg base "answer_call" ["desk", "call", "numbers"] 6 (spAnswer K CD CB CT) := ⟨_, _, PySem.W.mg_of X G ad9, kd9, bd9, ok_call Fd9 Kc TCD Mbegin Mbook Mcancel Mtell Manew MfreeD MwhoD Mstate⟩
  exact ok_ans Fd10 B Dcall (PySem.W.mg_of X G aCD) ⟨mkCD, am13, im13, kcCD⟩ bm13 GDI (PySem.W.mg_of X G nbA) hN
end Ts
open PySem PySem.W PyProof.Rows
set_option maxRecDepth 100000 in
set_option maxHeartbeats 0 in
theorem PySem.Challenge.cw_trainseatsdesk_s01_answers_holds : PySem.Challenge.rw_trainseatsdesk_s01_answers.Holds := by
  w_on; k_headS; (case hw => exact ⟨[.list [.int 7]], by decide +kernel, by decide +kernel⟩)
  k_fillS
  refine L2.walk_specK (r := PySem.Challenge.rw_trainseatsdesk_s01_answers) (k := 7) (CX := L2.CX0) (ps := ["calls"]) (sp := Ts.spAns) (by decide +kernel) rfl rfl ⟨rfl, by decide, by decide⟩ (fun w h Y => PySem.W.kIn_of Y) ?F ?S (fun _ _ _ _ z => z)
  case F =>
    intro w mg fa h Y KX G hmg
    refine' Ts.all_mk KX G hmg ?aCB ?aCT ?aCD ?ad1 ?ld1 ?cd1 ?kd1 ?ad2 ?ld2 ?cd2 ?kd2 ?ad3 ?ld3 ?cd3 ?kd3 ?ad4 ?ld4 ?cd4 ?kd4 ?ad5 ?ld5 ?cd5 ?kd5 ?ad6 ?ld6 ?cd6 ?kd6 ?ad7 ?ld7 ?cd7 ?kd7 ?ad8 ?ld8 ?cd8 ?kd8 ?ad9 ?ld9 ?cd9 ?kd9 ?ad10 ?ld10 ?cd10 ?kd10 ?am1 ?im1 ?lm1 ?cm1 ?km1 ?am2 ?im2 ?lm2 ?cm2 ?km2 ?am3 ?im3 ?lm3 ?cm3 ?km3 ?am4 ?im4 ?lm4 ?cm4 ?km4 ?am5 ?im5 ?lm5 ?cm5 ?km5 ?am6 ?im6 ?lm6 ?cm6 ?km6 ?am7 ?im7 ?lm7 ?cm7 ?km7 ?am8 ?im8 ?lm8 ?cm8 ?km8 ?am9 ?im9 ?lm9 ?cm9 ?km9 ?am10 ?im10 ?lm10 ?cm10 ?km10 ?am11 ?im11 ?lm11 ?cm11 ?km11 ?am12 ?im12 ?lm12 ?cm12 ?km12 ?am13 ?im13 ?lm13 ?cm13 ?km13 ?am14 ?im14 ?lm14 ?cm14 ?km14 ?am15 ?im15 ?lm15 ?cm15 ?km15 ?am16 ?im16 ?lm16 ?cm16 ?km16 ?am17 ?im17 ?lm17 ?cm17 ?km17 ?am18 ?im18 ?lm18 ?cm18 ?km18 ?am19 ?im19 ?lm19 ?cm19 ?km19 ?am20 ?im20 ?lm20 ?cm20 ?km20 ?am21 ?im21 ?lm21 ?cm21 ?km21 ?am22 ?im22 ?lm22 ?cm22 ?km22 ?pgCB ?hdCB ?poCB ?saCB ?mkCB ?kcCB ?nCB_from_stop ?nCB_to_stop ?nCB_row ?nCB_cancelled ?pgCT ?hdCT ?poCT ?saCT ?mkCT ?kcCT ?nCT_stops ?nCT_seats ?nCT_bookings ?pgCD ?hdCD ?poCD ?saCD ?mkCD ?kcCD ?nCD_train ?v0 ?v1 ?v2 ?v3 ?v4 ?v5 ?v6 ?v7 ?v8 ?v9 ?v10 ?v11 ?v12 ?v13 ?v14 ?v15 ?v16 ?v17 ?v18 ?v19 ?z_sum ?z_len ?z_range ?z_min ?z_reversed ?z_list ?z_enumerate ?z_sorted ?z_zip ?nbA ?nbL ?nbC ?nbD ?nbV
    (case aCB => k_is)
    (case aCT => k_is)
    (case aCD => k_is)
    (case ad1 => k_is)
    (case ld1 => k_is)
    (case cd1 => k_is)
    (case kd1 => k_is)
    (case ad2 => k_is)
    (case ld2 => k_is)
    (case cd2 => k_is)
    (case kd2 => k_is)
    (case ad3 => k_is)
    (case ld3 => k_is)
    (case cd3 => k_is)
    (case kd3 => k_is)
    (case ad4 => k_is)
    (case ld4 => k_is)
    (case cd4 => k_is)
    (case kd4 => k_is)
    (case ad5 => k_is)
    (case ld5 => k_is)
    (case cd5 => k_is)
    (case kd5 => k_is)
    (case ad6 => k_is)
    (case ld6 => k_is)
    (case cd6 => k_is)
    (case kd6 => k_is)
    (case ad7 => k_is)
    (case ld7 => k_is)
    (case cd7 => k_is)
    (case kd7 => k_is)
    (case ad8 => k_is)
    (case ld8 => k_is)
    (case cd8 => k_is)
    (case kd8 => k_is)
    (case ad9 => k_is)
    (case ld9 => k_is)
    (case cd9 => k_is)
    (case kd9 => k_is)
    (case ad10 => k_is)
    (case ld10 => k_is)
    (case cd10 => k_is)
    (case kd10 => k_is)
    (case am1 => k_is)
    (case im1 => k_is)
    (case lm1 => k_is)
    (case cm1 => k_is)
    (case km1 => k_is)
    (case am2 => k_is)
    (case im2 => k_is)
    (case lm2 => k_is)
    (case cm2 => k_is)
    (case km2 => k_is)
    (case am3 => k_is)
    (case im3 => k_is)
    (case lm3 => k_is)
    (case cm3 => k_is)
    (case km3 => k_is)
    (case am4 => k_is)
    (case im4 => k_is)
    (case lm4 => k_is)
    (case cm4 => k_is)
    (case km4 => k_is)
    (case am5 => k_is)
    (case im5 => k_is)
    (case lm5 => k_is)
    (case cm5 => k_is)
    (case km5 => k_is)
    (case am6 => k_is)
    (case im6 => k_is)
    (case lm6 => k_is)
    (case cm6 => k_is)
    (case km6 => k_is)
    (case am7 => k_is)
    (case im7 => k_is)
    (case lm7 => k_is)
    (case cm7 => k_is)
    (case km7 => k_is)
    (case am8 => k_is)
    (case im8 => k_is)
    (case lm8 => k_is)
    (case cm8 => k_is)
    (case km8 => k_is)
    (case am9 => k_is)
    (case im9 => k_is)
    (case lm9 => k_is)
    (case cm9 => k_is)
    (case km9 => k_is)
    (case am10 => k_is)
    (case im10 => k_is)
    (case lm10 => k_is)
    (case cm10 => k_is)
    (case km10 => k_is)
    (case am11 => k_is)
    (case im11 => k_is)
    (case lm11 => k_is)
    (case cm11 => k_is)
    (case km11 => k_is)
    (case am12 => k_is)
    (case im12 => k_is)
    (case lm12 => k_is)
    (case cm12 => k_is)
    (case km12 => k_is)
    (case am13 => k_is)
    (case im13 => k_is)
    (case lm13 => k_is)
    (case cm13 => k_is)
    (case km13 => k_is)
    (case am14 => k_is)
    (case im14 => k_is)
    (case lm14 => k_is)
    (case cm14 => k_is)
    (case km14 => k_is)
    (case am15 => k_is)
    (case im15 => k_is)
    (case lm15 => k_is)
    (case cm15 => k_is)
    (case km15 => k_is)
    (case am16 => k_is)
    (case im16 => k_is)
    (case lm16 => k_is)
    (case cm16 => k_is)
    (case km16 => k_is)
    (case am17 => k_is)
    (case im17 => k_is)
    (case lm17 => k_is)
    (case cm17 => k_is)
    (case km17 => k_is)
    (case am18 => k_is)
    (case im18 => k_is)
    (case lm18 => k_is)
    (case cm18 => k_is)
    (case km18 => k_is)
    (case am19 => k_is)
    (case im19 => k_is)
    (case lm19 => k_is)
    (case cm19 => k_is)
    (case km19 => k_is)
    (case am20 => k_is)
    (case im20 => k_is)
    (case lm20 => k_is)
    (case cm20 => k_is)
    (case km20 => k_is)
    (case am21 => k_is)
    (case im21 => k_is)
    (case lm21 => k_is)
    (case cm21 => k_is)
    (case km21 => k_is)
    (case am22 => k_is)
    (case im22 => k_is)
    (case lm22 => k_is)
    (case cm22 => k_is)
    (case km22 => k_is)
    (case pgCB => k_is)
    (case hdCB => k_is)
    (case poCB => k_is)
    (case saCB => k_is)
    (case mkCB => k_is)
    (case kcCB => k_is)
    (case nCB_from_stop => k_is)
    (case nCB_to_stop => k_is)
    (case nCB_row => k_is)
    (case nCB_cancelled => k_is)
    (case pgCT => k_is)
    (case hdCT => k_is)
    (case poCT => k_is)
    (case saCT => k_is)
    (case mkCT => k_is)
    (case kcCT => k_is)
    (case nCT_stops => k_is)
    (case nCT_seats => k_is)
    (case nCT_bookings => k_is)
    (case pgCD => k_is)
    (case hdCD => k_is)
    (case poCD => k_is)
    (case saCD => k_is)
    (case mkCD => k_is)
    (case kcCD => k_is)
    (case nCD_train => k_is)
    (case v0 => k_is)
    (case v1 => k_is)
    (case v2 => k_is)
    (case v3 => k_is)
    (case v4 => k_is)
    (case v5 => k_is)
    (case v6 => k_is)
    (case v7 => k_is)
    (case v8 => k_is)
    (case v9 => k_is)
    (case v10 => k_is)
    (case v11 => k_is)
    (case v12 => k_is)
    (case v13 => k_is)
    (case v14 => k_is)
    (case v15 => k_is)
    (case v16 => k_is)
    (case v17 => k_is)
    (case v18 => k_is)
    (case v19 => k_is)
    (case z_sum => k_is)
    (case z_len => k_is)
    (case z_range => k_is)
    (case z_min => k_is)
    (case z_reversed => k_is)
    (case z_list => k_is)
    (case z_enumerate => k_is)
    (case z_sorted => k_is)
    (case z_zip => k_is)
    (case nbA => k_is)
    (case nbL => k_is)
    (case nbC => rfl)
    (case nbD => rfl)
    (case nbV => exact .cons ⟨_, rfl⟩ (.cons ⟨_, rfl⟩ (.cons ⟨_, rfl⟩ (.cons ⟨_, rfl⟩ (.cons ⟨_, rfl⟩ (.cons ⟨_, rfl⟩ (.cons ⟨_, rfl⟩ (.cons ⟨_, rfl⟩ .nil))))))))
  case S =>
    intro K H xs a hO hwi hask hx
    cases hx with
    | cons h1 h2 =>
      cases h2
      cases h1 with
      | lst hs ha =>
        have e := L2.ints_dw a.1 _ ha
        subst e
        have q : ((Codec.inLen 0 30000 a.1 && a.1.all (Codec.inInt 0 4294967295)) && true) = true := hwi
        rw [Bool.and_eq_true, Bool.and_eq_true] at q
        exact ⟨_, a.1, rfl, hs, (Codec.inNat_iff.mp q.1.1).2, fun z hz => (Codec.inInt_iff.mp (List.all_eq_true.mp q.1.2 z hz)).1, hask, fun H' p hp => .lst (L2.SqL.of hp) (L2.dw_ints _)⟩

end

import PyProof.Rows.All
import Wide.All
import OpenK.AllK
import Wide.FinOn
import PyProof.EqAt
import PyProof.EqKinds
import PyProof.TupleCall
import KE.BitLaws
import Open.SpecLaws
import KE.OsHead
import KE.OsGo
import PyFlatLaws
import PySem.Challenge.RW_fingertaps_s01_answers
set_option Elab.async false
set_option linter.all false
set_option maxRecDepth 100000
set_option maxHeartbeats 4000000
-- CHANGE: your row's module here, as the last of these rows
/-! THE HAND LAYER, for ints, bools, texts, own classes, lists, tuples, dicts, comprehensions, walks over dicts, enumerate, zip, reversed, texts, calls, loops. Paste it whole ahead of your own text; what your proof does not reach may be deleted. -/
namespace L2
open PySem PySem.Spec PyProof.Rows

/-- a key: an int or a str -/
abbrev Key := Sum Int Str
def keyIs : Key → Value → Bool
  | .inl k, v => Value.isInt k v
  | .inr x, v => Value.isStrOf x v
def keyH (w : World) : Key → Int
  | .inl k => hashInt k
  | .inr x => hashStr w x
theorem keyIs_shape : ∀ {k : Key} {v : Value}, keyIs k v = true → (∃ i t, k = Sum.inl i ∧ v = Value.int i t) ∨ (∃ x t, k = Sum.inr x ∧ v = Value.str x t)
  | .inl i, v, h => by
    obtain ⟨t, e⟩ := Value.isInt_shape (k := i) (v := v) h
    exact .inl ⟨i, t, rfl, e⟩
  | .inr x, v, h => by
    obtain ⟨t, e⟩ := Value.isStrOf_shape (x := x) (v := v) h
    exact .inr ⟨x, t, rfl, e⟩
theorem keyIs_int (i : Int) (t : Tok) : keyIs (.inl i) (.int i t) = true := by simp [keyIs, Value.isInt]
theorem keyIs_str (x : Str) (t : Tok) : keyIs (.inr x) (.str x t) = true := by simp [keyIs, Value.isStrOf]
theorem key_ll (a b : Int) : decide ((Sum.inl a : Key) = Sum.inl b) = (a == b) := by
  by_cases e : a = b
  · subst e; simp
  · have h : ¬ (Sum.inl a : Key) = Sum.inl b := fun q => e (Sum.inl.inj q)
    rw [decide_eq_false h]
    exact (beq_eq_false_iff_ne.mpr e).symm
theorem key_rr (a b : Str) : decide ((Sum.inr a : Key) = Sum.inr b) = decide (a = b) := by
  by_cases e : a = b
  · subst e; simp
  · have h : ¬ (Sum.inr a : Key) = Sum.inr b := fun q => e (Sum.inr.inj q)
    rw [decide_eq_false h, decide_eq_false e]
theorem key_lr (a : Int) (b : Str) : decide ((Sum.inl a : Key) = Sum.inr b) = false := decide_eq_false (fun q => nomatch q)
theorem key_rl (a : Str) (b : Int) : decide ((Sum.inr a : Key) = Sum.inl b) = false := decide_eq_false (fun q => nomatch q)

def mixKind (prog : Program) (w : World) : PySem.KeyKind prog w Key where
  is := keyIs
  hash := keyH w
  inj := fun v a b ha hb => by
    rcases keyIs_shape ha with ⟨i, t, rfl, rfl⟩ | ⟨x, t, rfl, rfl⟩
    · rcases keyIs_shape hb with ⟨j, u, rfl, e⟩ | ⟨y, u, rfl, e⟩
      · injection e with e1 _; rw [e1]
      · exact nomatch e
    · rcases keyIs_shape hb with ⟨j, u, rfl, e⟩ | ⟨y, u, rfl, e⟩
      · exact nomatch e
      · injection e with e1 _; rw [e1]
  byValue := fun k v h => by
    rcases keyIs_shape h with ⟨i, t, rfl, rfl⟩ | ⟨x, t, rfl, rfl⟩ <;> rfl
  pyHash := fun hv h => by
    rcases keyIs_shape hv with ⟨i, t, rfl, rfl⟩ | ⟨x, t, rfl, rfl⟩
    · exact wpAny_pyHash_int h
    · exact wpAny_pyHash_str h
  eqBool := fun hu hv h => by
    rcases keyIs_shape hu with ⟨i, t, rfl, rfl⟩ | ⟨x, t, rfl, rfl⟩
    · rcases keyIs_shape hv with ⟨j, u, rfl, rfl⟩ | ⟨y, u, rfl, rfl⟩
      · rw [key_ll] at h; exact wpAny_eqBool_int h
      · rw [key_lr] at h; exact SeqAt.EqAt.int_str i t y u _ _ _ _ h
    · rcases keyIs_shape hv with ⟨j, u, rfl, rfl⟩ | ⟨y, u, rfl, rfl⟩
      · rw [key_rl] at h; exact SeqAt.EqAt.str_int x t j u _ _ _ _ h
      · rw [key_rr] at h; exact wpAny_eqBool_str h
  «strs» := fun k x t v h => by
    rcases keyIs_shape h with ⟨i, u, rfl, e⟩ | ⟨y, u, rfl, e⟩
    · exact nomatch e
    · injection e with e1 _
      subst e1
      cases v <;> rfl

theorem mixKind_int (prog : Program) (w : World) (i : Int) (t : Tok) : (mixKind prog w).is (.inl i) (.int i t) = true := keyIs_int i t
theorem mixKind_str (prog : Program) (w : World) (x : Str) (t : Tok) : (mixKind prog w).is (.inr x) (.str x t) = true := keyIs_str x t
end L2

namespace L2
open PySem PySem.Spec PyProof.Rows

/-- a value, without the heap -/
inductive V where
  | non | bl (b : Bool) | int (i : Int) | str (x : Str) | byt (b : Array UInt8) | flt (b : UInt64) | ref (a : Addr) | ty (n : String)
  deriving DecidableEq

def RelV : V → Value → Prop
  | .non, u => u = Value.none
  | .bl b, u => u = Value.bool b
  | .int i, u => ∃ t, u = Value.int i t
  | .str x, u => ∃ t, u = Value.str x t
  | .byt b, u => ∃ t, u = Value.bytes b t
  | .flt b, u => ∃ t, u = Value.float b t
  | .ref a, u => u = Value.ref a
  | .ty n, u => u = Value.type n

abbrev Vals : List V → List Value → Prop := Paired RelV
theorem Vals.length {xs : List V} {us : List Value} (r : Vals xs us) : xs.length = us.length := Paired.length r
theorem Vals.get : ∀ {xs : List V} {us : List Value} {i : Nat} {x : V}, Vals xs us → xs[i]? = some x → ∃ u, us[i]? = some u ∧ RelV x u
  | _, _, _, _, .nil, e => by simp at e
  | _, _, 0, _, .cons r _, e => by simp at e; subst e; exact ⟨_, rfl, r⟩
  | _, _, i + 1, x, .cons _ t, e => by
    obtain ⟨u, h1, h2⟩ := Vals.get (i := i) (x := x) t (by simpa using e)
    exact ⟨u, by simpa using h1, h2⟩
theorem Vals.append : ∀ {xs ys : List V} {us ws : List Value}, Vals xs us → Vals ys ws → Vals (xs ++ ys) (us ++ ws)
  | _, _, _, _, .nil, s => s
  | _, _, _, _, .cons r t, s => .cons r (Vals.append t s)
theorem Vals.take : ∀ {xs : List V} {us : List Value} (n : Nat), Vals xs us → Vals (xs.take n) (us.take n)
  | _, _, 0, _ => .nil
  | _, _, _ + 1, .nil => .nil
  | _, _, n + 1, .cons r t => .cons r (Vals.take n t)
theorem Vals.drop : ∀ {xs : List V} {us : List Value} (n : Nat), Vals xs us → Vals (xs.drop n) (us.drop n)
  | _, _, 0, r => r
  | _, _, _ + 1, .nil => .nil
  | _, _, n + 1, .cons _ t => Vals.drop n t

def RelO : Option V → Option Value → Prop
  | some v, some u => RelV v u
  | none, none => True
  | _, _ => False
def KV {κ : Type} : List (κ × V) → List (κ × Value) → Prop := Paired fun (p : κ × V) (q : κ × Value) => p.1 = q.1 ∧ RelV p.2 q.2

/-- a key of a dict (00_mix): an int or a text -/
def kV : Key → V
  | .inl i => .int i
  | .inr x => .str x

/-- what stands at a tracked address -/
inductive HO where
  /-- a list -/
  | lst (xs : List V)
  /-- a tuple (never changes) -/
  | tup (xs : List V)
  /-- a dict whose keys are ints and texts; one whose keys are tuples of ints and texts (the empty one is both) -/
  | dK (kvs : List (Key × V)) | dT (kvs : List (List Key × V))
  /-- a set of ints: its members, its size -/
  | set (S : Int → Bool) (n : Nat)
  /-- an instance of the class at C, its dict at dx, its attributes -/
  | ins (C dx : Addr) (fs : List (Str × V))
  /-- the dict of the instance at x -/
  | own (x : Addr)
  /-- the dict of an exception -/
  | xd (fs : List (Str × V))
  /-- a bound method, f of x -/
  | met (f x : Addr)
  /-- a range object lo, lo + 1, .. below hi -/
  | rng (lo hi : Int)
  /-- a thing that is known to the object (the script; a dict while a loop walks it): read, never written while it is so -/
  | frz (o : Obj) (u : HO)
  /-- a code object's table -/
  | tbl (ps : Array Value)
  /-- any other thing, by what is true of its one object (a def of one's own: SetO a S n := HO.ext fun h => ..) -/
  | ext (φ : Heap → Prop)

abbrev Hp := Addr → Option HO
def upd (H : Hp) (a : Addr) (o : HO) : Hp := fun b => if b = a then some o else H b
theorem upd_same {H : Hp} {a : Addr} {o : HO} : upd H a o a = some o := by unfold upd; rw [if_pos rfl]
theorem upd_ne {H : Hp} {a b : Addr} {o : HO} (h : b ≠ a) : upd H a o b = H b := by unfold upd; rw [if_neg h]
theorem upd_upd {H : Hp} {a : Addr} {o u : HO} : upd (upd H a o) a u = upd H a u := by
  funext b; unfold upd; split <;> rfl
/-- two objects of different content stand apart -/
theorem ne_of {H : Hp} {a b : Addr} {o u : HO} (h : H a = some o) (h' : H b = some u) (d : o ≠ u) : a ≠ b := by
  intro e; subst e; rw [h] at h'; exact d (Option.some.inj h')
theorem ne_of_none {H : Hp} {a b : Addr} {o : HO} (h : H a = some o) (h' : H b = none) : a ≠ b := by
  intro e; subst e; rw [h] at h'; cases h'

section
variable (P : Program) (w : World)
def ObjOk (H : Hp) (h : Heap) (a : Addr) : HO → Prop
  | .lst xs => xs.length ≤ sizeLine ∧ ∃ (its : List Value) (n : Nat), Vals xs its ∧ h.get? a = some { cls := .type "list", data := .seq its.toArray n }
  | .tup xs => xs.length ≤ sizeLine ∧ ∃ its : List Value, Vals xs its ∧ IsTup h a its.toArray
  | .dK kvs => kvs.length ≤ sizeLine ∧ (a == sysModules) = false ∧ ∃ vs, KV kvs vs ∧ h.DictOf (mixKind P w) a vs
  | .dT kvs => kvs.length ≤ sizeLine ∧ (a == sysModules) = false ∧ ∃ xs : List (List Key × Addr × Value),
      Paired (fun (p : List Key × V) (q : List Key × Addr × Value) => p.1 = q.1 ∧ H q.2.1 = some (.tup (p.1.map kV)) ∧ RelV p.2 q.2.2) kvs xs ∧
      ∃ o es ep, h.get? a = some o ∧ o.ExactDict ∧ o.data = .dict es ep ∧ es.toList = xs.map (entryOfKey (tupleKind (mixKind P w))) ∧ (xs.map (·.1)).Nodup
  | .set S n => h.SetOf (intKind P w) a S n
  | .ins C dx fs => H dx = some (.own a) ∧ fs.length ≤ 1000 ∧ dx ≠ a ∧ h.get? a = some (PySem.W.instObj C dx) ∧
      ∃ mA, h.Ns1 dx mA ∧ (∀ f, RelO (fs.lookup f) (mA f)) ∧ PySem.Within mA (fs.map (·.1))
  | .own _ => ∃ o, h.get? a = some o
  | .xd fs => ∃ mA, h.Ns1 a mA ∧ ∀ f, RelO (fs.lookup f) (mA f)
  | .rng lo hi => ∃ t u v, h.get? a = some { cls := .type "range", data := .fields #[.int lo t, .int hi u, .int 1 v] }
  | .frz o u => h.get? a = some o ∧ ObjOk H h a u
  | .tbl ps => h.get? a = some { cls := .none, data := .fields ps }
  | .met f x => h.get? a = some (PySem.W.methodObj (.ref f) (.ref x))
  | .ext φ => φ h ∧ (∃ o, h.get? a = some o) ∧ ∀ h1 h2 : Heap, φ h1 → (∀ o, h1.get? a = some o → h2.get? a = some o) → φ h2
/-- the abstract heap is held -/
def HOk (H : Hp) (h : Heap) : Prop := ∀ a o, H a = some o → ObjOk P w H h a o
end

section
variable {P : Program} {w : World} {H H' : Hp} {h h' : Heap} {a : Addr} {o : HO}
theorem ObjOk.lt (x : ObjOk P w H h a o) : a < h.objs.size := by
  cases o with
  | lst xs => obtain ⟨_, _, _, _, e⟩ := x; exact Heap.lt_size e
  | tup xs => obtain ⟨_, _, _, p⟩ := x; exact p.lt
  | dK kvs => obtain ⟨_, _, _, _, o, _, _, e, _⟩ := x; exact Heap.lt_size e
  | dT kvs => obtain ⟨_, _, _, _, o, _, _, e, _⟩ := x; exact Heap.lt_size e
  | set S n => obtain ⟨o, _, _, _, e, _⟩ := x; exact Heap.lt_size e
  | ins C dx fs => obtain ⟨_, _, _, e, _⟩ := x; exact Heap.lt_size e
  | own y => obtain ⟨_, e⟩ := x; exact Heap.lt_size e
  | xd fs => obtain ⟨_, ⟨_, _, _, e, _⟩, _⟩ := x; exact Heap.lt_size e
  | rng lo hi => obtain ⟨_, _, _, e⟩ := x; exact Heap.lt_size e
  | frz ob u => obtain ⟨e, _⟩ := x; exact Heap.lt_size e
  | tbl ps => exact Heap.lt_size (show h.get? a = some _ from x)
  | met f y => exact Heap.lt_size (show h.get? a = some _ from x)
  | ext φ => obtain ⟨_, ⟨_, e⟩, _⟩ := x; exact Heap.lt_size e
theorem Paired.mapP {α β : Type} {F G : α → β → Prop} : ∀ {l₁ : List α} {l₂ : List β}, Paired F l₁ l₂ → (∀ a b, F a b → G a b) → Paired G l₁ l₂
  | _, _, .nil, _ => .nil
  | _, _, .cons r t, f => .cons (f _ _ r) (Paired.mapP t f)
/-- what an object's description leans on: its own object, its own dict, the tuples -/
theorem ObjOk.stay (x : ObjOk P w H h a o) (k : ∀ b u, (b = a ∨ H b = some (.own a)) → h.get? b = some u → h'.get? b = some u)
    (ho : ∀ b, H b = some (.own a) → H' b = some (.own a)) (ht : ∀ b xs, H b = some (.tup xs) → H' b = some (.tup xs)) : ObjOk P w H' h' a o := by
  induction o with
  | lst xs => obtain ⟨z, its, n, r, e⟩ := x; exact ⟨z, its, n, r, k _ _ (.inl rfl) e⟩
  | tup xs => obtain ⟨z, its, r, ob, e, c⟩ := x; exact ⟨z, its, r, ob, k _ _ (.inl rfl) e, c⟩
  | dK kvs => obtain ⟨z, y, vs, r, ob, es, ep, e, c⟩ := x; exact ⟨z, y, vs, r, ob, es, ep, k _ _ (.inl rfl) e, c⟩
  | dT kvs =>
    obtain ⟨z, y, xs, r, ob, es, ep, e, c⟩ := x
    exact ⟨z, y, xs, Paired.mapP r fun p q z => ⟨z.1, ht _ _ z.2.1, z.2.2⟩, ob, es, ep, k _ _ (.inl rfl) e, c⟩
  | set S n => obtain ⟨ob, es, ep, t, e, c⟩ := x; exact ⟨ob, es, ep, t, k _ _ (.inl rfl) e, c⟩
  | ins C dx fs =>
    obtain ⟨d, z, ne, e, mA, ⟨od, es, ep, e2, c⟩, r⟩ := x
    exact ⟨ho _ d, z, ne, k _ _ (.inl rfl) e, mA, ⟨od, es, ep, k _ _ (.inr d) e2, c⟩, r⟩
  | own y => obtain ⟨ob, e⟩ := x; exact ⟨ob, k _ _ (.inl rfl) e⟩
  | xd fs => obtain ⟨mA, ⟨od, es, ep, e, c⟩, r⟩ := x; exact ⟨mA, ⟨od, es, ep, k _ _ (.inl rfl) e, c⟩, r⟩
  | rng lo hi => obtain ⟨t, u, v, e⟩ := x; exact ⟨t, u, v, k _ _ (.inl rfl) e⟩
  | frz ob u ih => obtain ⟨e, q⟩ := x; exact ⟨k _ _ (.inl rfl) e, ih q⟩
  | tbl ps =>
    have e : h.get? a = some { cls := .none, data := .fields ps } := x
    show h'.get? a = some { cls := .none, data := .fields ps }
    exact k a _ (.inl rfl) e
  | met f y =>
    have e : h.get? a = some (PySem.W.methodObj (.ref f) (.ref y)) := x
    show h'.get? a = some (PySem.W.methodObj (.ref f) (.ref y))
    exact k a _ (.inl rfl) e
  | ext φ => obtain ⟨p, ⟨o, e⟩, st⟩ := x; exact ⟨st _ _ p fun o q => k _ _ (.inl rfl) q, ⟨o, k _ _ (.inl rfl) e⟩, st⟩
theorem HOk.lt (x : HOk P w H h) (e : H a = some o) : a < h.objs.size := (x a o e).lt
theorem HOk.fresh (x : HOk P w H h) (e : h.objs.size ≤ a) : H a = none := by
  cases q : H a with
  | none => rfl
  | some u => exact absurd (Nat.lt_of_lt_of_le (x.lt q) e) (Nat.lt_irrefl _)
/-- every object of the heap is kept -/
theorem HOk.kept (x : HOk P w H h) (k : ∀ b u, h.get? b = some u → h'.get? b = some u) : HOk P w H h' := fun a o e =>
  (x a o e).stay (fun b u _ q => k b u q) (fun _ q => q) fun _ _ q => q
/-- a new object is laid and tracked -/
theorem HOk.laid (x : HOk P w H h) (k : ∀ b u, h.get? b = some u → h'.get? b = some u) (hp : h.objs.size ≤ a) (new : ObjOk P w (upd H a o) h' a o) : HOk P w (upd H a o) h' := fun b u e => by
  have hn := x.fresh hp
  by_cases hb : b = a
  · subst hb; rw [upd_same] at e; cases e; exact new
  · rw [upd_ne hb] at e
    exact (x b u e).stay (fun c v _ q => k c v q) (fun c q => by rw [upd_ne (ne_of_none q hn)]; exact q) fun c xs q => by rw [upd_ne (ne_of_none q hn)]; exact q
end

/-- what may be read as u: it is u, or a known u -/
def Rd (H : Hp) (a : Addr) (u : HO) : Prop := H a = some u ∨ ∃ o, H a = some (.frz o u)
theorem Rd.ok {P : Program} {w : World} {H : Hp} {h : Heap} {a : Addr} {u : HO} (r : Rd H a u) (x : HOk P w H h) : ObjOk P w H h a u := by
  rcases r with r | ⟨o, r⟩
  · exact x a u r
  · obtain ⟨_, q⟩ := x a _ r
    exact q
/-- what may be written -/
def Mut : Option HO → Prop
  | some (.lst _) => True
  | some (.dK _) => True
  | some (.dT _) => True
  | some (.set _ _) => True
  | some (.ins _ _ _) => True
  | some (.ext _) => True
  | _ => False
section
variable {P : Program} {w : World} {H : Hp} {h h' : Heap} {x e : Addr} {o' : HO}
/-- the object at e is changed: x itself, or the dict of the instance x -/
theorem HOk.write (ok : HOk P w H h) (mu : Mut (H x)) (he : e = x ∨ H e = some (.own x)) (k : ∀ b u, b ≠ e → h.get? b = some u → h'.get? b = some u) (heo : ∃ u, h'.get? e = some u)
    (new : ObjOk P w (upd H x o') h' x o') : HOk P w (upd H x o') h' := fun b u q => by
  have nown : ∀ c y, H c = some (.own y) → c ≠ x := fun c y r z => by subst z; rw [r] at mu; exact mu
  have ntup : ∀ c xs, H c = some (.tup xs) → c ≠ x := fun c xs r z => by subst z; rw [r] at mu; exact mu
  by_cases hb : b = x
  · subst hb; rw [upd_same] at q; cases q; exact new
  · rw [upd_ne hb] at q
    by_cases hbe : b = e
    · have q' : H b = some (.own x) := by
        rcases he with z | z
        · exact absurd (hbe.trans z) hb
        · rw [hbe]; exact z
      rw [q] at q'; cases q'
      obtain ⟨v, hv⟩ := heo
      exact ⟨v, by rw [hbe]; exact hv⟩
    · refine (ok b u q).stay (fun c v hc r => k c v ?_ r) (fun c r => by rw [upd_ne (nown c b r)]; exact r) fun c xs r => by rw [upd_ne (ntup c xs r)]; exact r
      rcases hc with rfl | hc
      · exact hbe
      · rintro rfl
        rcases he with z | z
        · exact nown c b hc z
        · rw [hc] at z; cases z; exact hb rfl
end

/-! ### kept unless tracked; of the frames at fs (the callers') the slots may change (an exception that passes writes there); of the records at ex (iterators) nothing is said -/
structure Un (fs ex : List Addr) (H H' : Hp) (h h' : Heap) : Prop where
  keep : ∀ b o, h.get? b = some o → H b = none → b ∉ fs → b ∉ ex → h'.get? b = some o
  slot : ∀ b o, h.get? b = some o → H b = none → b ∈ fs → b ∉ ex → ∃ sl, h'.get? b = some { o with slots := sl }
  free : ∀ b o, h.get? b = some o → H b = none → b ∉ ex → H' b = none
  there : ∀ b o, h.get? b = some o → b ∉ ex → ∃ o', h'.get? b = some o'
  tups : ∀ b xs, H b = some (.tup xs) → H' b = some (.tup xs)
  frzs : ∀ b o u, H b = some (.frz o u) → H' b = some (.frz o u)
  tbls : ∀ b ps, H b = some (.tbl ps) → ∃ more, H' b = some (.tbl (ps ++ more))
section
variable {fs fs' ex ex' : List Addr} {H H1 H2 : Hp} {h h1 h2 h' : Heap} {a x e : Addr} {o : HO}
theorem Un.any (u : Un fs ex H H1 h h1) {b : Addr} {ob : Obj} (q : h.get? b = some ob) (n : H b = none) (hx : b ∉ ex) : ∃ sl, h1.get? b = some { ob with slots := sl } := by
  by_cases hb : b ∈ fs
  · exact u.slot b ob q n hb hx
  · exact ⟨ob.slots, u.keep b ob q n hb hx⟩
theorem Un.kept (k : ∀ b u, h.get? b = some u → h'.get? b = some u) : Un fs ex H H h h' :=
  ⟨fun b ob q _ _ _ => k b ob q, fun b ob q _ _ _ => ⟨ob.slots, k b ob q⟩, fun _ _ _ n _ => n, fun b ob q _ => ⟨ob, k b ob q⟩, fun _ _ q => q, fun _ _ _ q => q, fun _ ps q => ⟨#[], by rw [q]; simp⟩⟩
theorem Un.refl : Un fs ex H H h h := Un.kept fun _ _ q => q
theorem Un.laid (k : ∀ b u, h.get? b = some u → h'.get? b = some u) (hp : h.objs.size ≤ a) (hn : H a = none) : Un fs ex H (upd H a o) h h' where
  keep := fun b u q _ _ _ => k b u q
  slot := fun b u q _ _ _ => ⟨u.slots, k b u q⟩
  free := fun b u q n _ => by rw [upd_ne (Nat.ne_of_lt (Nat.lt_of_lt_of_le (Heap.lt_size q) hp))]; exact n
  there := fun b u q _ => ⟨u, k b u q⟩
  tups := fun b xs q => by rw [upd_ne (ne_of_none q hn)]; exact q
  frzs := fun b u xs q => by rw [upd_ne (ne_of_none q hn)]; exact q
  tbls := fun b ps q => ⟨#[], by rw [upd_ne (ne_of_none q hn), q]; simp⟩
theorem Un.write (mu : Mut (H x)) (he : e = x ∨ H e = some (.own x)) (k : ∀ b u, b ≠ e → h.get? b = some u → h'.get? b = some u) (heo : ∃ u, h'.get? e = some u) : Un fs ex H (upd H x o) h h' := by
  have hx : ∀ b, H b = none → b ≠ x := fun b n z => by subst z; rw [n] at mu; exact mu
  have hb : ∀ b, H b = none → b ≠ e := fun b n z => by
    subst z
    rcases he with r | r
    · exact hx b n r
    · rw [n] at r; cases r
  have hm : ∀ b u, H b = some u → ¬ Mut (some u) → b ≠ x := fun b u q nm z => by subst z; rw [q] at mu; exact nm mu
  refine ⟨fun b u q n _ _ => k b u (hb b n) q, fun b u q n _ _ => ⟨u.slots, k b u (hb b n) q⟩, fun b u q n _ => by rw [upd_ne (hx b n)]; exact n, fun b u q _ => ?_,
    fun b xs q => by rw [upd_ne (hm b _ q fun z => z)]; exact q, fun b u xs q => by rw [upd_ne (hm b _ q fun z => z)]; exact q, fun b ps q => ⟨#[], by rw [upd_ne (hm b _ q fun z => z), q]; simp⟩⟩
  by_cases hbe : b = e
  · subst hbe; exact heo
  · exact ⟨u, k b u hbe q⟩
end

/-! ### the heap without what is tracked -/
def trk (h : Heap) (H : Hp) : List Addr := (List.range h.objs.size).filter fun a => (H a).isSome
def hidT (h : Heap) (H : Hp) : Heap := PySem.W.hideAll h (trk h H)
theorem hidT_size (h : Heap) (H : Hp) : (hidT h H).objs.size = h.objs.size := PySem.W.hideAll_size _ _
theorem hidT_get {h : Heap} {H : Hp} {b : Addr} {o : Obj} (e : h.get? b = some o) (n : H b = none) : (hidT h H).get? b = some o :=
  PySem.W.hideAll_get _ e fun hm => by
    have q : (H b).isSome = true := (List.mem_filter.mp hm).2
    rw [n] at q; simp at q
theorem of_hidT {h : Heap} {H : Hp} {b : Addr} {o : Obj} (e : (hidT h H).get? b = some o) : h.get? b = some o ∧ H b = none := by
  have e' : h.get? b = some o := PySem.W.of_hideAll (trk h H) e
  refine ⟨e', ?_⟩
  cases q : H b with
  | none => rfl
  | some x =>
    have hm : b ∈ trk h H := List.mem_filter.mpr ⟨List.mem_range.mpr (Heap.lt_size e'), by simp [q]⟩
    have z : (hidT h H).get? b = none := PySem.W.hideAll_none (trk h H) hm
    rw [z] at e; cases e

/-! ### OpenK's ledger, filled with every new object but one -/
end L2

namespace L2
open PySem PySem.Spec PyProof.Rows

/-- the module's facts, over the base: the heap at the law's entry without what is tracked there -/
structure Mod (K : PySem.W.Frag) (mg : Str → Option Value) (base : Heap) : Prop where
  kin : K.In base
  glob : base.Ns mainGlobals mg
  blt : ∃ mb, base.Ns builtinsNs mb ∧ ∀ x : Str, x ≠ "__name__" → mb x = bootBuiltins x
  nolimit : base.NoLimit

/-- the context: a def's body (or a comprehension's block) running. base: fixed through the whole law; s₀, H₀: the entry; outer: the frames whose slots others may change (a def's callers); stack: all frames that run;
   ex: iterators that were made ahead of the entry and are walked here (a comprehension's); fn: the names whose cells were made at the entry (a def: all; a comprehension's block: its own); calm: not within an except suite; pn: pins that every state bears; xe: what is wanted of an exception that leaves the code -/
structure Cx where
  prog : Program
  w : World
  K : PySem.W.Frag
  mg : Str → Option Value
  base : Heap
  A : Around
  N : List Str
  s_0 : Shared
  H_0 : Hp
  env : Env
  outer : List Env
  stack : List Env
  ex : List Addr
  fn : Str → Bool
  calm : Bool
  pn : List (Addr × Obj)
  xe : Value → Shared → Prop
/-- the callers' frames -/
def frs (l : List Env) : List Addr := l.filterMap (·.frame)
abbrev Cx.fs (X : Cx) : List Addr := frs X.outer

def Vis (sc : Scope) (x : Str) : Prop := sc.names.lookup x = some .local ∨ sc.names.lookup x = some .cell ∨ sc.names.lookup x = some .free
def Loc (sc : Scope) (x : Str) : Prop := sc.names.lookup x = some .local ∨ sc.names.lookup x = some .cell
def Look (env : Env) (h : Heap) (m : Str → Option Value) (x : Str) (u : Value) : Prop :=
  (env.kindOf x = some .local ∧ m x = some u) ∨ ((env.kindOf x = some .cell ∨ env.kindOf x = some .free) ∧ ∃ c, env.cells.lookup x = some c ∧ h.IsCell c (some u))

structure Cx.Ok (X : Cx) : Prop where
  mod : Mod X.K X.mg X.base
  kind : X.env.scope.kind = .function
  glob : X.env.globals = mainGlobals
  blt : X.env.builtins = builtinsNs
  above : X.s_0.heap.objs.size ≤ X.env.locals
  inj : ∀ x y c, X.env.cells.lookup x = some c → X.env.cells.lookup y = some c → x = y
  has : ∀ x, (X.env.kindOf x = some .cell ∨ X.env.kindOf x = some .free) → ∃ c, X.env.cells.lookup x = some c
  cab : ∀ x c, X.fn x = true → X.env.cells.lookup x = some c → X.s_0.heap.objs.size ≤ c
  hd : X.calm = true → X.A.handled = none
  frames : X.A.frames = some X.stack
  stk : X.stack = X.outer ∨ (X.stack = X.env :: X.outer ∧ X.env.frame = some X.env.locals)
  exf : ∀ b ∈ X.ex, b ≠ X.env.locals ∧ ∀ x c, X.env.cells.lookup x = some c → c ≠ b
  bs : ∀ b o, X.base.get? b = some o → X.s_0.heap.get? b = some o ∧ X.H_0 b = none
  bsz : X.base.objs.size ≤ X.s_0.heap.objs.size
  noex : ∀ b o, X.base.get? b = some o → b ∉ X.ex
  exfs : ∀ b ∈ X.ex, b ∉ X.fs
  funs : X.s_0.heap.FunFrames X.base X.outer
  frf : ∀ b ∈ X.fs, X.H_0 b = none

structure Inv (X : Cx) (pins : List (Addr × Obj)) (σ : List (Option V)) (H : Hp) (s : Shared) : Prop where
  ok : X.Ok
  os : s.os = X.s_0.os
  bare : AllBare s.gens
  base : Un X.fs X.ex X.H_0 H X.s_0.heap s.heap
  loc : ∃ m, s.heap.Ns X.env.locals m ∧ ∀ (i : Nat) (x : Str) (v : V), X.N[i]? = some x → σ[i]? = some (some v) → Vis X.env.scope x → ∃ u, RelV v u ∧ Look X.env s.heap m x u
  cell : ∀ x c, X.env.cells.lookup x = some c → ∃ v, s.heap.IsCell c v
  free : H X.env.locals = none
  freeC : ∀ x c, X.env.cells.lookup x = some c → H c = none
  pin : ∀ p ∈ X.pn ++ pins, s.heap.get? p.1 = some p.2 ∧ H p.1 = none ∧ p.1 ≠ X.env.locals ∧ p.1 ∉ X.fs ∧ ∀ v, p.2.data ≠ .cell v
  hok : HOk X.prog X.w H s.heap
  len : σ.length = X.N.length

section
variable {X : Cx} {pins : List (Addr × Obj)} {σ : List (Option V)} {H H' : Hp} {s : Shared} {h' : Heap}

theorem Cx.Ok.nofr (ok : X.Ok) {b : Addr} {o : Obj} (e : X.base.get? b = some o) : b ∉ X.fs := fun hb => by
  have := (ok.funs.mem hb).1
  rw [e] at this; cases this
theorem Inv.bs (I : Inv X pins σ H s) : ∀ b o, X.base.get? b = some o → s.heap.get? b = some o ∧ H b = none := fun b o e =>
  ⟨I.base.keep b o (I.ok.bs b o e).1 (I.ok.bs b o e).2 (I.ok.nofr e) (I.ok.noex b o e), I.base.free b o (I.ok.bs b o e).1 (I.ok.bs b o e).2 (I.ok.noex b o e)⟩
theorem Inv.bk (I : Inv X pins σ H s) : ∀ b o, X.base.get? b = some o → s.heap.get? b = some o := fun b o e => (I.bs b o e).1
theorem Inv.mod (I : Inv X pins σ H s) : Mod X.K X.mg X.base := I.ok.mod
theorem Inv.kIn (I : Inv X pins σ H s) : X.K.In s.heap := I.ok.mod.kin.keeps I.bk
/-- the frame over the base: for OpenK's rules (K.In X.base is I.mod.kin) -/
theorem Inv.fr (I : Inv X pins σ H s) : ∃ m, Fr X.base X.env.locals s.heap m :=
  let ⟨m, hn, _⟩ := I.loc
  ⟨m, hn, I.bk, Nat.le_trans I.ok.bsz I.ok.above⟩
theorem Inv.lt (I : Inv X pins σ H s) : X.env.locals < s.heap.objs.size := let ⟨_, hn, _⟩ := I.loc; hn.lt
theorem Inv.sz (I : Inv X pins σ H s) : X.s_0.heap.objs.size ≤ s.heap.objs.size := Nat.le_trans I.ok.above (Nat.le_of_lt I.lt)
theorem Inv.nofs (I : Inv X pins σ H s) {a : Addr} (h : s.heap.objs.size ≤ a) : a ∉ X.fs := fun hb => by
  obtain ⟨_, o, ho, _⟩ := I.ok.funs.mem hb
  exact absurd (Nat.lt_of_lt_of_le (Heap.lt_size ho) (Nat.le_trans I.sz h)) (Nat.lt_irrefl _)
theorem Inv.cne (I : Inv X pins σ H s) : ∀ x c, X.env.cells.lookup x = some c → c ≠ X.env.locals := fun x c e z => by
  obtain ⟨v, o, ho, hd⟩ := I.cell x c e
  obtain ⟨m, ⟨o', es, ep, ho', hd', _⟩, _⟩ := I.loc
  rw [z, ho'] at ho; cases ho; rw [hd'] at hd; cases hd
theorem Inv.funs (I : Inv X pins σ H s) : s.heap.FunFrames X.base X.outer := by
  have all : ∀ (l : List Env), (∀ b ∈ frs l, b ∈ X.fs) → X.s_0.heap.FunFrames X.base l → s.heap.FunFrames X.base l := by
    intro l
    induction l with
    | nil => intro _ _; trivial
    | cons env r ih =>
      intro hs hl
      obtain ⟨hk, ⟨L, o, hf, hn, ho, hd⟩, hr⟩ := hl
      have hL : L ∈ X.fs := hs L (by unfold frs; rw [List.filterMap_cons, hf]; exact List.mem_cons_self)
      obtain ⟨sl, e⟩ := I.base.slot L o ho (I.ok.frf L hL) hL fun z => I.ok.exfs L z hL
      exact ⟨hk, ⟨L, _, hf, hn, e, hd⟩, ih (fun b hb => hs b (by unfold frs; rw [List.filterMap_cons, hf]; exact List.mem_cons_of_mem _ hb)) hr⟩
  exact all X.outer (fun _ hb => hb) I.ok.funs

/-- the frames that run, for a call -/
theorem Inv.stack (I : Inv X pins σ H s) : s.heap.FunFrames X.base X.stack := by
  rcases I.ok.stk with e | ⟨e, hf⟩
  · rw [e]; exact I.funs
  · rw [e]
    obtain ⟨m, hn, _⟩ := I.loc
    refine .cons (by rw [I.ok.kind]; decide) hf hn ?_ I.funs
    exact Heap.get?_none_of_le (Nat.le_trans I.ok.bsz I.ok.above)
theorem Inv.stkSub (I : Inv X pins σ H s) : ∀ b ∈ frs X.stack, b ∈ X.env.locals :: X.fs := fun b hb => by
  rcases I.ok.stk with e | ⟨e, hf⟩
  · rw [e] at hb; exact List.mem_cons_of_mem _ hb
  · rw [e] at hb
    unfold frs at hb
    rw [List.filterMap_cons, hf] at hb
    exact hb
theorem Inv.stkFree (I : Inv X pins σ H s) : ∀ b ∈ frs X.stack, H b = none := fun b hb => by
  rcases List.mem_cons.mp (I.stkSub b hb) with e | hb
  · rw [e]; exact I.free
  · obtain ⟨_, o, ho, _⟩ := I.ok.funs.mem hb
    exact I.base.free b o ho (I.ok.frf b hb) fun z => I.ok.exfs b z hb

/-- THE STEP: the untracked objects but the frame and the records at ch are kept (the callers' frames up to slots), the frame's map is kept, the new abstract heap is held -/
theorem Inv.step {g' : Array GenState} {t' : Nat} {d' : Drawn} {ch : List Addr} (I : Inv X pins σ H s)
    (hch : ∀ b ∈ ch, (b ∈ X.ex ∨ X.s_0.heap.objs.size ≤ b) ∧ b ≠ X.env.locals ∧ (∀ x c, X.env.cells.lookup x = some c → c ≠ b) ∧ ∀ p ∈ X.pn ++ pins, p.1 ≠ b)
    (keep : ∀ b o, b ≠ X.env.locals → b ∉ X.fs → b ∉ ch → s.heap.get? b = some o → H b = none → h'.get? b = some o)
    (slot : ∀ b o, b ≠ X.env.locals → b ∈ X.fs → b ∉ ch → s.heap.get? b = some o → H b = none → ∃ sl, h'.get? b = some { o with slots := sl }) (free : ∀ b o, b ∉ ch → s.heap.get? b = some o → H b = none → H' b = none)
    (there : ∀ b o, b ∉ ch → s.heap.get? b = some o → ∃ o', h'.get? b = some o')
    (tups : ∀ b xs, H b = some (.tup xs) → H' b = some (.tup xs)) (frzs : ∀ b o u, H b = some (.frz o u) → H' b = some (.frz o u)) (tbls : ∀ b ps, H b = some (.tbl ps) → ∃ more, H' b = some (.tbl (ps ++ more)))
    (ns : ∀ m, s.heap.Ns X.env.locals m → h'.Ns X.env.locals m) (hok : HOk X.prog X.w H' h') (hg : AllBare g') :
    Inv X pins σ H' { s with heap := h', gens := g', drawn := d', toks := t' } := by
  have neL : ∀ b o, X.s_0.heap.get? b = some o → b ≠ X.env.locals := fun b o e => Nat.ne_of_lt (Nat.lt_of_lt_of_le (Heap.lt_size e) I.ok.above)
  have neC : ∀ b o, X.s_0.heap.get? b = some o → b ∉ X.ex → b ∉ ch := fun b o e hx hb => by
    rcases (hch b hb).1 with z | z
    · exact hx z
    · exact absurd (Nat.lt_of_lt_of_le (Heap.lt_size e) z) (Nat.lt_irrefl _)
  have cellK : ∀ x c, X.env.cells.lookup x = some c → ∀ v, s.heap.IsCell c v → h'.IsCell c v := fun x c e v ⟨o, ho, hd⟩ => by
    have nch : c ∉ ch := fun z => (hch c z).2.2.1 x c e rfl
    by_cases hc : c ∈ X.fs
    · obtain ⟨sl, q⟩ := slot c o (I.cne x c e) hc nch ho (I.freeC x c e)
      exact ⟨_, q, hd⟩
    · exact ⟨o, keep c o (I.cne x c e) hc nch ho (I.freeC x c e), hd⟩
  refine ⟨I.ok, I.os, hg, ⟨fun b o e n hb hx => ?_, fun b o e n hb hx => ?_, fun b o e n hx => ?_, fun b o e hx => ?_, fun b xs e => tups b xs (I.base.tups b xs e), fun b o xs e => frzs b o xs (I.base.frzs b o xs e), fun b ps e => ?_⟩, ?_, fun x c e => ?_, ?_, fun x c e => ?_, fun p hp => ?_, hok, I.len⟩
  · exact keep b o (neL b o e) hb (neC b o e hx) (I.base.keep b o e n hb hx) (I.base.free b o e n hx)
  · obtain ⟨sl, e1⟩ := I.base.slot b o e n hb hx
    obtain ⟨sl', e2⟩ := slot b _ (neL b o e) hb (neC b o e hx) e1 (I.base.free b o e n hx)
    exact ⟨sl', e2⟩
  · obtain ⟨o', e1⟩ := I.base.there b o e hx
    exact free b o' (neC b o e hx) e1 (I.base.free b o e n hx)
  · obtain ⟨o', e1⟩ := I.base.there b o e hx
    exact there b o' (neC b o e hx) e1
  · obtain ⟨m1, e1⟩ := I.base.tbls b ps e
    obtain ⟨m2, e2⟩ := tbls b _ e1
    exact ⟨m1 ++ m2, by rw [e2, Array.append_assoc]⟩
  · obtain ⟨m, hn, hl⟩ := I.loc
    refine ⟨m, ns m hn, fun i x v e1 e2 e3 => ?_⟩
    obtain ⟨u, r, l⟩ := hl i x v e1 e2 e3
    refine ⟨u, r, ?_⟩
    rcases l with l | ⟨k, c, e, z⟩
    · exact .inl l
    · exact .inr ⟨k, c, e, cellK x c e _ z⟩
  · obtain ⟨v, z⟩ := I.cell x c e
    exact ⟨v, cellK x c e v z⟩
  · obtain ⟨m, ⟨o, _, _, ho, _⟩, _⟩ := I.loc
    exact free _ o (fun z => (hch _ z).2.1 rfl) ho I.free
  · obtain ⟨v, o, ho, hd⟩ := I.cell x c e
    exact free c o (fun z => (hch c z).2.2.1 x c e rfl) ho (I.freeC x c e)
  · obtain ⟨e, n, ne, nf, d⟩ := I.pin p hp
    have nch : p.1 ∉ ch := fun z => (hch p.1 z).2.2.2 p hp rfl
    exact ⟨keep p.1 p.2 ne nf nch e n, free p.1 p.2 nch e n, ne, nf, d⟩
/-- .. where the frame's own object is kept too -/
theorem Inv.un {t' : Nat} (I : Inv X pins σ H s) (u : Un X.fs [] H H' s.heap h') (hok : HOk X.prog X.w H' h') : Inv X pins σ H' { s with heap := h', toks := t' } := by
  obtain ⟨m, ⟨o, es, ep, ho, r⟩, _⟩ := id I.loc
  obtain ⟨sl, hL⟩ := u.any ho I.free (by simp)
  exact I.step (g' := s.gens) (d' := s.drawn) (ch := []) (fun _ z => nomatch z) (fun b o _ hb _ e n => u.keep b o e n hb (by simp)) (fun b o _ hb _ e n => u.slot b o e n hb (by simp)) (fun b o _ e n => u.free b o e n (by simp)) (fun b o _ e => u.there b o e (by simp)) u.tups u.frzs u.tbls (fun m' hm => by
    obtain ⟨o', es', ep', ho', r'⟩ := hm
    rw [ho] at ho'; cases ho'
    exact ⟨_, es', ep', hL, r'⟩) hok I.bare
/-- behind a call (or a comprehension's block): the slots of this frame may have changed too, the records at ch may have turned -/
theorem Inv.call {g' : Array GenState} {t' : Nat} {d' : Drawn} {ch : List Addr} (I : Inv X pins σ H s) (u : Un (frs X.stack) ch H H' s.heap h') (hok : HOk X.prog X.w H' h') (hg : AllBare g')
    (hch : ∀ b ∈ ch, (b ∈ X.ex ∨ X.s_0.heap.objs.size ≤ b) ∧ b ≠ X.env.locals ∧ (∀ x c, X.env.cells.lookup x = some c → c ≠ b) ∧ ∀ p ∈ X.pn ++ pins, p.1 ≠ b) :
    Inv X pins σ H' { s with heap := h', gens := g', drawn := d', toks := t' } := by
  obtain ⟨m, ⟨o, es, ep, ho, r⟩, _⟩ := id I.loc
  obtain ⟨sl, hL⟩ := u.any ho I.free fun z => (hch _ z).2.1 rfl
  exact I.step (ch := ch) hch (fun b o hL hb hc e n => u.keep b o e n (fun z => (List.mem_cons.mp (I.stkSub b z)).elim hL hb) hc) (fun b o _ _ hc e n => u.any e n hc) (fun b o hc e n => u.free b o e n hc) (fun b o hc e => u.there b o e hc) u.tups u.frzs u.tbls (fun m' hm => by
    obtain ⟨o', es', ep', ho', r'⟩ := hm
    rw [ho] at ho'; cases ho'
    exact ⟨_, es', ep', hL, r'⟩) hok hg
/-- an untracked record of ours (an iterator) has turned -/
theorem Inv.turned {t' : Nat} {it : Addr} (I : Inv X pins σ H s) (k : ∀ b o, b ≠ it → s.heap.get? b = some o → h'.get? b = some o) (hn : H it = none) (hL : it ≠ X.env.locals)
    (h1 : it ∈ X.ex ∨ X.s_0.heap.objs.size ≤ it) (h2 : ∀ x c, X.env.cells.lookup x = some c → c ≠ it) (h3 : ∀ p ∈ X.pn ++ pins, p.1 ≠ it) : Inv X pins σ H { s with heap := h', toks := t' } := by
  have nit : ∀ b u, H b = some u → b ≠ it := fun b u e z => by rw [z, hn] at e; cases e
  refine I.step (g' := s.gens) (d' := s.drawn) (ch := [it]) (fun b hb => ?_) (fun b o _ _ hc e _ => k b o (fun z => hc (by simp [z])) e) (fun b o _ _ hc e _ => ⟨o.slots, k b o (fun z => hc (by simp [z])) e⟩) (fun _ _ _ _ n => n)
    (fun b o hc e => ⟨o, k b o (fun z => hc (by simp [z])) e⟩) (fun _ _ e => e) (fun _ _ _ e => e) (fun b ps e => ⟨#[], by rw [e]; simp⟩) (fun m hm => ?_) (fun b u e => ?_) I.bare
  · have e : b = it := by simpa using hb
    subst e
    exact ⟨h1, hL, h2, h3⟩
  · obtain ⟨o, es, ep, ho, r⟩ := hm
    exact ⟨o, es, ep, k _ o (Ne.symm hL) ho, r⟩
  · refine (I.hok b u e).stay (fun c v hc q => k c v ?_ q) (fun _ q => q) fun _ _ q => q
    rcases hc with z | z
    · rw [z]; exact nit b u e
    · exact nit c _ z
theorem Inv.tok (I : Inv X pins σ H s) (t : Nat) : Inv X pins σ H { s with toks := t } := I.un (h' := s.heap) (t' := t) Un.refl I.hok
/-- all objects kept -/
theorem Inv.kept {t' : Nat} (I : Inv X pins σ H s) (k : ∀ b u, s.heap.get? b = some u → h'.get? b = some u) : Inv X pins σ H { s with heap := h', toks := t' } := I.un (Un.kept k) (I.hok.kept k)
/-- a new object laid and tracked -/
theorem Inv.laid {a : Addr} {o : HO} {t' : Nat} (I : Inv X pins σ H s) (k : ∀ b u, s.heap.get? b = some u → h'.get? b = some u) (hp : s.heap.objs.size ≤ a) (new : ObjOk X.prog X.w (upd H a o) h' a o) :
    Inv X pins σ (upd H a o) { s with heap := h', toks := t' } := I.un (Un.laid k hp (I.hok.fresh hp)) (I.hok.laid k hp new)
/-- an object written -/
theorem Inv.write {x e : Addr} {o : HO} {t' : Nat} (I : Inv X pins σ H s) (mu : Mut (H x)) (he : e = x ∨ H e = some (.own x)) (k : ∀ b u, b ≠ e → s.heap.get? b = some u → h'.get? b = some u) (heo : ∃ u, h'.get? e = some u)
    (new : ObjOk X.prog X.w (upd H x o) h' x o) : Inv X pins σ (upd H x o) { s with heap := h', toks := t' } := I.un (Un.write mu he k heo) (I.hok.write mu he k heo new)
/-- forgetting slots, pins -/
theorem Inv.weak {σ' : List (Option V)} (I : Inv X pins σ H s) (hl : σ'.length = σ.length) (w : ∀ (i : Nat) v, σ'[i]? = some (some v) → σ[i]? = some (some v)) : Inv X pins σ' H s :=
  ⟨I.ok, I.os, I.bare, I.base, let ⟨m, hn, hl'⟩ := I.loc; ⟨m, hn, fun i x v e1 e2 e3 => hl' i x v e1 (w i v e2) e3⟩, I.cell, I.free, I.freeC, I.pin, I.hok, hl.trans I.len⟩
theorem Inv.pins_of {pins' : List (Addr × Obj)} (I : Inv X pins σ H s) (h : ∀ p ∈ pins', s.heap.get? p.1 = some p.2 ∧ H p.1 = none ∧ p.1 ≠ X.env.locals ∧ p.1 ∉ X.fs ∧ ∀ v, p.2.data ≠ .cell v) : Inv X pins' σ H s :=
  ⟨I.ok, I.os, I.bare, I.base, I.loc, I.cell, I.free, I.freeC, fun p hp => (List.mem_append.mp hp).elim (fun z => I.pin p (List.mem_append_left _ z)) (h p), I.hok, I.len⟩

theorem nodup_ix {N : List Str} (hN : N.Nodup) {i j : Nat} {x : Str} (a : N[i]? = some x) (b : N[j]? = some x) : i = j := by
  obtain ⟨h1, e1⟩ := List.getElem?_eq_some_iff.mp a
  obtain ⟨h2, e2⟩ := List.getElem?_eq_some_iff.mp b
  exact (List.getElem_inj hN).mp (e1.trans e2.symm)

/-- a name is stored; what changed -/
theorem store_ok2 {M : Model} {A : Around} {E : Value → Shared → Prop} {i : Nat} {x : Str} {v : V} {u : Value} {Q : Unit → Shared → Prop} (I : Inv X pins σ H s) (hN : X.N.Nodup) (hi : X.N[i]? = some x) (hx : Loc X.env.scope x) (r : RelV v u)
    (h : ∀ s', Inv X pins (σ.set i (some v)) H s' → (∃ a, Heap.SameBut a s.heap s'.heap ∧ (a = X.env.locals ∨ X.env.cells.lookup x = some a)) → Q () s') (hf : X.fn x = true ∨ X.env.scope.names.lookup x = some .local := by first | exact .inl rfl | exact .inr rfl | assumption) : wpAny M A (storeName X.env x u) Q E s := by
  obtain ⟨m, hn, hl⟩ := id I.loc
  have hcls : (X.env.scope.kind == .class || (X.env.scope.kind == .module && X.env.locals != X.env.globals)) = false := by rw [I.ok.kind]; rfl
  have hiσ : i < σ.length := by rw [I.len]; exact (List.getElem?_eq_some_iff.mp hi).1
  have cne := I.cne
  have tracked : ∀ {a : Addr} {h' : Heap}, (∃ o, s.heap.get? a = some o ∧ H a = none) → Heap.SameBut a s.heap h' → HOk X.prog X.w H h' := fun {a h'} ha hs b ob e => by
    obtain ⟨_, _, hfree⟩ := ha
    refine (I.hok b ob e).stay (fun c w' hc q => (hs.2 c ?_).trans q) (fun _ q => q) fun _ _ q => q
    rintro rfl
    rcases hc with rfl | hc
    · rw [hfree] at e; cases e
    · rw [hfree] at hc; cases hc
  rcases hx with hk | hk
  · refine wpAny_storeName_local hk hn (fun h' hn' hs => ?_) hcls
    obtain ⟨oL, _, _, hoL, _⟩ := id hn
    refine h _ ⟨I.ok, I.os, I.bare, ⟨fun b o e n hb hx => ?_, fun b o e n hb hx => ?_, I.base.free, fun b o e hx => ?_, I.base.tups, I.base.frzs, I.base.tbls⟩, ⟨_, hn', fun j y v' e1 e2 e3 => ?_⟩, fun y c e => ?_, I.free, I.freeC, fun p hp => ?_, tracked ⟨oL, hoL, I.free⟩ hs, by simpa using I.len⟩ ⟨_, hs, .inl rfl⟩
    · exact (hs.2 b (Nat.ne_of_lt (Nat.lt_of_lt_of_le (Heap.lt_size e) I.ok.above))).trans (I.base.keep b o e n hb hx)
    · obtain ⟨sl, e1⟩ := I.base.slot b o e n hb hx
      exact ⟨sl, (hs.2 b (Nat.ne_of_lt (Nat.lt_of_lt_of_le (Heap.lt_size e) I.ok.above))).trans e1⟩
    · obtain ⟨o', e1⟩ := I.base.there b o e hx
      exact ⟨o', (hs.2 b (Nat.ne_of_lt (Nat.lt_of_lt_of_le (Heap.lt_size e) I.ok.above))).trans e1⟩
    · by_cases hj : j = i
      · subst hj
        rw [hi] at e1; cases e1
        rw [List.getElem?_set_self hiσ] at e2
        cases e2
        exact ⟨u, r, .inl ⟨hk, by simp⟩⟩
      · rw [List.getElem?_set_ne (Ne.symm hj)] at e2
        obtain ⟨u', r', q⟩ := hl j y v' e1 e2 e3
        refine ⟨u', r', ?_⟩
        rcases q with ⟨k, e⟩ | ⟨k, c, e, z⟩
        · refine .inl ⟨k, ?_⟩
          have : y ≠ x := fun e => hj (nodup_ix hN e1 (e ▸ hi))
          simp [this, e]
        · exact .inr ⟨k, c, e, z.sameBut hs (cne y c e)⟩
    · obtain ⟨w', z⟩ := I.cell y c e
      exact ⟨w', z.sameBut hs (cne y c e)⟩
    · obtain ⟨e, n, ne, nf, d⟩ := I.pin p hp
      exact ⟨(hs.2 p.1 ne).trans e, n, ne, nf, d⟩
  · have hfn : X.fn x = true := by
      rcases hf with z | z
      · exact z
      · rw [z] at hk; cases hk
    obtain ⟨c, hc⟩ := I.ok.has x (.inl hk)
    obtain ⟨w', z⟩ := I.cell x c hc
    refine wpAny_storeName_cell I.ok.kind hk hc z (fun h' hc' hs => ?_)
    obtain ⟨oc, hoc, hocd⟩ := id z
    refine h { s with heap := h' } ⟨I.ok, I.os, I.bare, ⟨fun b o e n hb hx => ?_, fun b o e n hb hx => ?_, I.base.free, fun b o e hx => ?_, I.base.tups, I.base.frzs, I.base.tbls⟩, ⟨m, hn.sameBut hs (Ne.symm (cne x c hc)), fun j y v' e1 e2 e3 => ?_⟩, fun y c' e => ?_, I.free, I.freeC, fun p hp => ?_, tracked ⟨oc, hoc, I.freeC x c hc⟩ hs, by simpa using I.len⟩ ⟨c, hs, .inr hc⟩
    · exact (hs.2 b (Nat.ne_of_lt (Nat.lt_of_lt_of_le (Heap.lt_size e) (I.ok.cab x c hfn hc)))).trans (I.base.keep b o e n hb hx)
    · obtain ⟨sl, e1⟩ := I.base.slot b o e n hb hx
      exact ⟨sl, (hs.2 b (Nat.ne_of_lt (Nat.lt_of_lt_of_le (Heap.lt_size e) (I.ok.cab x c hfn hc)))).trans e1⟩
    · obtain ⟨o', e1⟩ := I.base.there b o e hx
      exact ⟨o', (hs.2 b (Nat.ne_of_lt (Nat.lt_of_lt_of_le (Heap.lt_size e) (I.ok.cab x c hfn hc)))).trans e1⟩
    · by_cases hj : j = i
      · subst hj
        rw [hi] at e1; cases e1
        rw [List.getElem?_set_self hiσ] at e2
        cases e2
        exact ⟨u, r, .inr ⟨.inl hk, c, hc, hc'⟩⟩
      · rw [List.getElem?_set_ne (Ne.symm hj)] at e2
        obtain ⟨u', r', q⟩ := hl j y v' e1 e2 e3
        refine ⟨u', r', ?_⟩
        rcases q with q | ⟨k, c', e, z'⟩
        · exact .inl q
        · refine .inr ⟨k, c', e, z'.sameBut hs ?_⟩
          rintro rfl
          exact hj (nodup_ix hN e1 (I.ok.inj _ _ _ e hc ▸ hi))
    · by_cases hcc : c' = c
      · subst hcc; exact ⟨_, hc'⟩
      · obtain ⟨w2, z2⟩ := I.cell y c' e
        exact ⟨w2, z2.sameBut hs hcc⟩
    · obtain ⟨e, n, ne, nf, d⟩ := I.pin p hp
      refine ⟨(hs.2 p.1 ?_).trans e, n, ne, nf, d⟩
      intro q
      rw [q, hoc] at e
      have q' : oc = p.2 := Option.some.inj e
      exact d w' (by rw [← q']; exact hocd)
theorem store_ok {M : Model} {A : Around} {E : Value → Shared → Prop} {i : Nat} {x : Str} {v : V} {u : Value} {Q : Unit → Shared → Prop} (I : Inv X pins σ H s) (hN : X.N.Nodup) (hi : X.N[i]? = some x) (hx : Loc X.env.scope x) (r : RelV v u)
    (h : ∀ s', Inv X pins (σ.set i (some v)) H s' → Q () s') (hf : X.fn x = true ∨ X.env.scope.names.lookup x = some .local := by first | exact .inl rfl | exact .inr rfl | assumption) : wpAny M A (storeName X.env x u) Q E s :=
  store_ok2 I hN hi hx r (fun s' I' _ => h s' I') hf
/-- behind a call or a block, the state as it is -/
theorem Inv.call' {s' : Shared} {ch : List Addr} (I : Inv X pins σ H s) (ho : s'.os = s.os) (u : Un (frs X.stack) ch H H' s.heap s'.heap) (hok : HOk X.prog X.w H' s'.heap) (hg : AllBare s'.gens)
    (hch : ∀ b ∈ ch, (b ∈ X.ex ∨ X.s_0.heap.objs.size ≤ b) ∧ b ≠ X.env.locals ∧ (∀ x c, X.env.cells.lookup x = some c → c ≠ b) ∧ ∀ p ∈ X.pn ++ pins, p.1 ≠ b) : Inv X pins σ H' s' := by
  obtain ⟨h', g', d', t', o'⟩ := s'
  have e : o' = s.os := ho
  subst e
  exact I.call (g' := g') (t' := t') (d' := d') u hok hg hch
end

/-! ### the judgements -/
/-- an exception: its class, its own dict's address (where it has one), the abstract heap behind it -/
abbrev XK := Value → Option Addr → Hp → Prop
abbrev St := List (Option V)
abbrev VK := V → Hp → Prop
/-- an expression's reading; a test's; an argument list's -/
abbrev TE := St → Hp → VK → Prop
abbrev TT := St → Hp → (Bool → Hp → Prop) → Prop
abbrev TA := St → Hp → (List V → Hp → Prop) → Prop
/-- what is wanted behind a statement -/
structure Ends where
  nx : St → Hp → Prop
  rt : VK
  bk : St → Hp → Prop := fun _ _ => False
  ct : St → Hp → Prop := fun _ _ => False
abbrev TS := Ends → St → Hp → Prop

def EP (X : Cx) (pins : List (Addr × Obj)) (σ : St) (Q : VK) (u : Value) (s' : Shared) : Prop := ∃ v H', Inv X pins σ H' s' ∧ RelV v u ∧ Q v H'
def TP (X : Cx) (pins : List (Addr × Obj)) (σ : St) (Q : Bool → Hp → Prop) (b : Bool) (s' : Shared) : Prop := ∃ H', Inv X pins σ H' s' ∧ Q b H'
def AP (X : Cx) (pins : List (Addr × Obj)) (σ : St) (Q : List V → Hp → Prop) (us : List Value) (s' : Shared) : Prop := ∃ vs H', Inv X pins σ H' s' ∧ Vals vs us ∧ Q vs H'
def SP (X : Cx) (pins : List (Addr × Obj)) (D : Ends) (f : Flow) (s' : Shared) : Prop :=
  match f with
  | .next => ∃ σ' H', Inv X pins σ' H' s' ∧ D.nx σ' H'
  | .brk => ∃ σ' H', Inv X pins σ' H' s' ∧ D.bk σ' H'
  | .cont => ∃ σ' H', Inv X pins σ' H' s' ∧ D.ct σ' H'
  | .ret u => ∃ v σ' H', Inv X pins σ' H' s' ∧ RelV v u ∧ D.rt v H'

def PE (X : Cx) (e : Expr) (t : TE) : Prop :=
  ∀ (pins : List (Addr × Obj)) (s : Shared) (σ : St) (H : Hp) (Q : VK), Inv X pins σ H s → t σ H Q → wpAny (model X.prog X.w) X.A (eval e X.env) (EP X pins σ Q) X.xe s
def PT (X : Cx) (e : Expr) (t : TT) : Prop :=
  ∀ (pins : List (Addr × Obj)) (s : Shared) (σ : St) (H : Hp) (Q : Bool → Hp → Prop), Inv X pins σ H s → t σ H Q → wpAny (model X.prog X.w) X.A (isTrue e X.env (eval e X.env)) (TP X pins σ Q) X.xe s
/-- a test whatever its 'whole' is (and, or) -/
def PW (X : Cx) (e : Expr) (t : TT) : Prop :=
  ∀ (whole : Sem Value) (pins : List (Addr × Obj)) (s : Shared) (σ : St) (H : Hp) (Q : Bool → Hp → Prop), Inv X pins σ H s → t σ H Q → wpAny (model X.prog X.w) X.A (isTrue e X.env whole) (TP X pins σ Q) X.xe s
theorem PW.pt {X : Cx} {e : Expr} {t : TT} (h : PW X e t) : PT X e t := h _
/-- an argument list (no star), from the left -/
def PA (X : Cx) (es : List Expr) (t : TA) : Prop :=
  ∀ (pos : Pos) (pins : List (Addr × Obj)) (s : Shared) (σ : St) (H : Hp) (Q : List V → Hp → Prop), Inv X pins σ H s → t σ H Q → wpAny (model X.prog X.w) X.A (spliced (backTo pos (starEach es X.env))) (AP X pins σ Q) X.xe s
def PS (X : Cx) (st : Stmt) (t : TS) : Prop :=
  ∀ (pins : List (Addr × Obj)) (s : Shared) (σ : St) (H : Hp) (D : Ends), Inv X pins σ H s → t D σ H → wpAny (model X.prog X.w) X.A (exec st X.env) (SP X pins D) X.xe s
def PSs (X : Cx) (st : List Stmt) (t : TS) : Prop :=
  ∀ (pins : List (Addr × Obj)) (s : Shared) (σ : St) (H : Hp) (D : Ends), Inv X pins σ H s → t D σ H → wpAny (model X.prog X.w) X.A (execs st X.env) (SP X pins D) X.xe s
/-- weaken the end -/
theorem thn {α : Type} {t : Sem α} {Q Q' : α → Shared → Prop} {M : Model} {A : Around} {E : Value → Shared → Prop} {s : Shared} (h : wpAny M A t Q E s) (hQ : ∀ a s, Q a s → Q' a s) : wpAny M A t Q' E s := wpAny_mono h hQ fun _ _ x => x
end L2

namespace L2
open PySem PySem.Spec PyProof.Rows
section
variable {X : Cx}

/-- two expressions in a row -/
theorem bin {a b : Expr} {ta tb : TE} (ha : PE X a ta) (hb : PE X b tb) {pins : List (Addr × Obj)} {s : Shared} {σ : St} {H : Hp} {R : V → V → Hp → Prop} (I : Inv X pins σ H s) (h : ta σ H fun x H1 => tb σ H1 fun y H2 => R x y H2)
    {α : Type} {Q : α → Shared → Prop} {f : Value → Value → Sem α}
    (hf : ∀ v u s2 x y H2, Inv X pins σ H2 s2 → RelV x v → RelV y u → R x y H2 → wpAny (model X.prog X.w) X.A (f v u) Q X.xe s2) :
    wpAny (model X.prog X.w) X.A (eval a X.env) (fun v s₁ => wpAny (model X.prog X.w) X.A (eval b X.env) (fun u s₂ => wpAny (model X.prog X.w) X.A (f v u) Q X.xe s₂) X.xe s₁) X.xe s := by
  refine thn (ha pins s σ H _ I h) fun v s1 ⟨x, H1, I1, r1, q1⟩ => ?_
  refine thn (hb pins s1 σ H1 _ I1 q1) fun u s2 ⟨y, H2, I2, r2, q2⟩ => ?_
  exact hf v u s2 x y H2 I2 r1 r2 q2

/-! ### names and constants -/
def tVar (i : Nat) : TE := fun σ H Q => ∃ v, σ[i]? = some (some v) ∧ Q v H
def tC (v : V) : TE := fun _ H Q => Q v H
theorem pe_var {i : Nat} {x : Str} {pos : Pos} (hN : X.N[i]? = some x) (hv : Vis X.env.scope x) (hd : (x == ("__debug__" : Str)) = false := by decide) (hcd : (x == ("__classdict__" : Str)) = false := by decide) : PE X (.Name x pos) (tVar i) := by
  intro pins s σ H Q I h
  obtain ⟨v, e, h⟩ := h
  obtain ⟨m, hn, hl⟩ := I.loc
  obtain ⟨u, r, l⟩ := hl i x v hN e hv
  have fin : EP X pins σ Q u s := ⟨v, H, I, r, h⟩
  rcases l with ⟨hk, hm⟩ | ⟨hk, c, hc, hcell⟩
  · exact wpAny_Name (wpAny_loadName_local I.ok.kind hk hn hm fin) hd
  · rcases hk with hk | hk
    · exact wpAny_Name (wpAny_loadName_cell I.ok.kind hk hc hcell fin) hd
    · exact wpAny_Name (wpAny_loadName_free I.ok.kind hk hc hcell fin hcd) hd
theorem pe_int {i j pos} : PE X (.Constant (.int i) j pos) (tC (.int i)) := fun _ _ _ H _ I h => wpAny_Constant_int ⟨.int i, H, I.tok _, ⟨_, rfl⟩, h⟩
theorem pe_bl {b j pos} : PE X (.Constant (.bool b) j pos) (tC (.bl b)) := fun _ _ _ H _ I h => Constant_bool ⟨.bl b, H, I, rfl, h⟩

/-- a global name of the def -/
def Gl (X : Cx) (x : Str) : Prop := X.env.kindOf x = some .globalImplicit
theorem ld_glob {E : Value → Shared → Prop} {pins : List (Addr × Obj)} {s : Shared} {σ : St} {H : Hp} {x : Str} {u : Value} {pos : Pos} {Q : Value → Shared → Prop} (I : Inv X pins σ H s) (hg : Gl X x) (hm : X.mg x = some u) (h : Q u s)
    (hd : (x == ("__debug__" : Str)) = false := by decide) : wpAny (model X.prog X.w) X.A (eval (.Name x pos) X.env) Q E s :=
  Calls.Name_function_global I.ok.kind hg (Calls.loadGlobal_global (by rw [I.ok.glob]; exact I.mod.glob.keeps I.bk) hm h) hd
theorem ld_blt {E : Value → Shared → Prop} {pins : List (Addr × Obj)} {s : Shared} {σ : St} {H : Hp} {x : Str} {u : Value} {pos : Pos} {Q : Value → Shared → Prop} (I : Inv X pins σ H s) (hg : Gl X x) (hm : X.mg x = none) (hv : bootBuiltins x = some u) (h : Q u s)
    (hn : x ≠ "__name__" := by decide) (hd : (x == ("__debug__" : Str)) = false := by decide) : wpAny (model X.prog X.w) X.A (eval (.Name x pos) X.env) Q E s := by
  obtain ⟨mb, h1, h2⟩ := I.mod.blt
  exact Calls.Name_function_global I.ok.kind hg (Calls.loadGlobal_builtin (by rw [I.ok.glob]; exact I.mod.glob.keeps I.bk) hm (by rw [I.ok.blt]; exact h1.keeps I.bk) ((h2 x hn).trans hv) h) hd
/-- a module's constant, a class, a function, as a value -/
theorem pe_glob {x : Str} {v : V} {u : Value} {pos : Pos} (hg : Gl X x) (hm : X.mg x = some u) (r : RelV v u) (hd : (x == ("__debug__" : Str)) = false := by decide) : PE X (.Name x pos) (tC v) :=
  fun _ _ _ H _ I h => ld_glob I hg hm ⟨v, H, I, r, h⟩ hd

/-! ### arithmetic -/
variable {a b : Expr} {ta tb : TE} {pos : Pos}

/-! ### comparisons -/
def PC (X : Cx) (op : CmpOp) (a b : Expr) (t : TE) : Prop :=
  ∀ (pins : List (Addr × Obj)) (s : Shared) (σ : St) (H : Hp) (Q : VK), Inv X pins σ H s → t σ H Q →
    wpAny (model X.prog X.w) X.A (eval a X.env) (fun v s₁ => wpAny (model X.prog X.w) X.A (eval b X.env) (fun u s₂ => wpAny (model X.prog X.w) X.A (compareOp op v u) (EP X pins σ Q) X.xe s₂) X.xe s₁) X.xe s
/-- a comparison as a value, as a test -/
def tB (t : TE) : TT := fun σ H Q => t σ H fun x H1 => ∃ c, x = .bl c ∧ Q c H1
theorem pt_cmp {op : CmpOp} {t : TE} (h : PC X op a b t) (h1 : behindInMarks op b = false := by first | exact nobehind _ (by decide) (by decide) | rfl) : PT X (.Compare a [op] [b] pos) (tB t) := by
  intro pins s σ H Q I hw
  refine wpAny_isTrue_Compare1 (thn (h pins s σ H _ I hw) fun v s1 h1 => thn h1 fun u s2 h2 => thn h2 fun c s3 ⟨x, H1, I1, r1, q1⟩ => ?_) h1
  obtain ⟨d, rfl, q⟩ := q1
  cases r1
  exact wpAny_truthy_bool ⟨H1, I1, q⟩

/-! ### and, or, not -/
variable {tA tB' : TT} {rest : List Expr}
def tAnd (t u : TT) : TT := fun σ H Q => t σ H fun c H1 => if c = true then u σ H1 Q else Q false H1
def tOr (t u : TT) : TT := fun σ H Q => t σ H fun c H1 => if c = true then Q true H1 else u σ H1 Q
theorem pw_and1 (ha : PT X a tA) : PW X (.BoolOp .And [a] pos) tA := by
  intro wh pins s σ H Q I h
  refine isTrue_and (thn (ha pins s σ H Q I h) fun c s1 e => ?_)
  cases c with
  | true => exact isTrue_and_nil e
  | false => exact e
theorem pw_or1 (ha : PT X a tA) : PW X (.BoolOp .Or [a] pos) tA := by
  intro wh pins s σ H Q I h
  refine isTrue_or (thn (ha pins s σ H Q I h) fun c s1 e => ?_)
  cases c with
  | false => exact isTrue_or_nil e
  | true => exact e
theorem pw_and (ha : PT X a tA) (hb : PW X (.BoolOp .And (b :: rest) pos) tB') : PW X (.BoolOp .And (a :: b :: rest) pos) (tAnd tA tB') := by
  intro wh pins s σ H Q I h
  refine isTrue_and (thn (ha pins s σ H _ I h) fun c s1 ⟨H1, I1, q1⟩ => ?_)
  cases c with
  | true => exact hb wh pins s1 σ H1 Q I1 q1
  | false => exact ⟨H1, I1, q1⟩
theorem pw_or (ha : PT X a tA) (hb : PW X (.BoolOp .Or (b :: rest) pos) tB') : PW X (.BoolOp .Or (a :: b :: rest) pos) (tOr tA tB') := by
  intro wh pins s σ H Q I h
  refine isTrue_or (thn (ha pins s σ H _ I h) fun c s1 ⟨H1, I1, q1⟩ => ?_)
  cases c with
  | true => exact ⟨H1, I1, q1⟩
  | false => exact hb wh pins s1 σ H1 Q I1 q1
end
end L2

namespace L2
open PySem PySem.Spec PyProof.Rows

/-! ### a list, a tuple that is read: tracked, frozen, or an object of the module -/
def SqL (K : PySem.W.Frag) (H : Hp) (a : Addr) (xs : List V) : Prop :=
  Rd H a (.lst xs) ∨
    ∃ (o : Obj) (its : Array Value) (n : Nat), K.lookup a = some o ∧ o.cls = .type "list" ∧ o.dict = none ∧ o.data = .seq its n ∧ its.size ≤ sizeLine ∧ Vals xs its.toList
def SqT (K : PySem.W.Frag) (H : Hp) (a : Addr) (xs : List V) : Prop :=
  Rd H a (.tup xs) ∨
    ∃ (o : Obj) (its : Array Value) (n : Nat), K.lookup a = some o ∧ o.cls = .type "tuple" ∧ o.data = .seq its n ∧ its.size ≤ sizeLine ∧ Vals xs its.toList
def absV : Value → Option V
  | .none => some .non
  | .bool b => some (.bl b)
  | .int i _ => some (.int i)
  | .str x _ => some (.str x)
  | .bytes b _ => some (.byt b)
  | .float b _ => some (.flt b)
  | .ref a => some (.ref a)
  | .type n => some (.ty n)
  | _ => none
theorem RelV.abs {x : V} {u : Value} (r : RelV x u) : absV u = some x := by
  cases x with
  | non => cases r; rfl
  | bl _ => cases r; rfl
  | int _ => obtain ⟨t, rfl⟩ := r; rfl
  | str _ => obtain ⟨t, rfl⟩ := r; rfl
  | byt _ => obtain ⟨t, rfl⟩ := r; rfl
  | flt _ => obtain ⟨t, rfl⟩ := r; rfl
  | ref _ => cases r; rfl
  | ty _ => cases r; rfl
theorem RelV.inj {x y : V} {u : Value} (r : RelV x u) (q : RelV y u) : x = y := Option.some.inj (r.abs.symm.trans q.abs)
theorem Vals.inj : ∀ {xs ys : List V} {us : List Value}, Vals xs us → Vals ys us → xs = ys
  | _, _, _, .nil, .nil => rfl
  | _, _, _, .cons r t, .cons r' t' => by rw [r.inj r', Vals.inj t t']
section
variable {X : Cx} {pins : List (Addr × Obj)} {σ : St} {H : Hp} {s : Shared} {a : Addr} {xs ys : List V}
theorem SqL.of {K : PySem.W.Frag} (h : H a = some (.lst xs)) : SqL K H a xs := .inl (.inl h)
theorem SqT.of {K : PySem.W.Frag} (h : H a = some (.tup xs)) : SqT K H a xs := .inl (.inl h)
theorem Inv.list (I : Inv X pins σ H s) (h : SqL X.K H a xs) : ∃ its : List Value, Vals xs its ∧ PlainL s.heap a its.toArray ∧ xs.length ≤ sizeLine := by
  rcases h with h | ⟨o, its, n, hk, hc, hd, hs, hz, r⟩
  · obtain ⟨z, its, n, r, e⟩ := h.ok I.hok
    exact ⟨its, r, ⟨_, n, e, rfl, rfl, rfl⟩, z⟩
  · refine ⟨its.toList, r, ⟨o, n, I.kIn a o hk, hc, hd, by simpa using hs⟩, ?_⟩
    have e := r.length
    simp only [Array.length_toList] at e
    omega
theorem Inv.tuple (I : Inv X pins σ H s) (h : SqT X.K H a xs) : ∃ its : List Value, Vals xs its ∧ IsTup s.heap a its.toArray ∧ xs.length ≤ sizeLine := by
  rcases h with h | ⟨o, its, n, hk, hc, hs, hz, r⟩
  · obtain ⟨z, its, r, p⟩ := h.ok I.hok
    exact ⟨its, r, p, z⟩
  · refine ⟨its.toList, r, ⟨o, I.kIn a o hk, hc, n, by simpa using hs⟩, ?_⟩
    have e := r.length
    simp only [Array.length_toList] at e
    omega
theorem Inv.list_inj (I : Inv X pins σ H s) (h : SqL X.K H a xs) (h' : SqL X.K H a ys) : xs = ys := by
  obtain ⟨its, r, ⟨o, n, e, _, _, d⟩, _⟩ := I.list h
  obtain ⟨its', r', ⟨o', n', e', _, _, d'⟩, _⟩ := I.list h'
  rw [e] at e'; cases e'
  rw [d] at d'
  injection d' with d1 _
  have : its = its' := by simpa using congrArg Array.toList d1
  subst this
  exact r.inj r'
theorem Inv.tuple_inj (I : Inv X pins σ H s) (h : SqT X.K H a xs) (h' : SqT X.K H a ys) : xs = ys := by
  obtain ⟨its, r, ⟨o, e, _, n, d⟩, _⟩ := I.tuple h
  obtain ⟨its', r', ⟨o', e', _, n', d'⟩, _⟩ := I.tuple h'
  rw [e] at e'; cases e'
  rw [d] at d'
  injection d' with d1 _
  have : its = its' := by simpa using congrArg Array.toList d1
  subst this
  exact r.inj r'
end

/-! ### another wish about exceptions -/
abbrev Cx.wish (X : Cx) (E : Value → Shared → Prop) : Cx := { X with xe := E }
/-- no exception leaves -/
abbrev Cx.nox (X : Cx) : Cx := X.wish fun _ _ => False
theorem Cx.Ok.wish {X : Cx} (ok : X.Ok) (E : Value → Shared → Prop) : (X.wish E).Ok :=
  ⟨ok.mod, ok.kind, ok.glob, ok.blt, ok.above, ok.inj, ok.has, ok.cab, ok.hd, ok.frames, ok.stk, ok.exf, ok.bs, ok.bsz, ok.noex, ok.exfs, ok.funs, ok.frf⟩
theorem Cx.Ok.unwish {X : Cx} {E : Value → Shared → Prop} (ok : (X.wish E).Ok) : X.Ok :=
  ⟨ok.mod, ok.kind, ok.glob, ok.blt, ok.above, ok.inj, ok.has, ok.cab, ok.hd, ok.frames, ok.stk, ok.exf, ok.bs, ok.bsz, ok.noex, ok.exfs, ok.funs, ok.frf⟩
section
variable {X : Cx} {pins : List (Addr × Obj)} {σ : St} {H : Hp} {s : Shared} {E : Value → Shared → Prop}
theorem Inv.wish (I : Inv X pins σ H s) (E : Value → Shared → Prop) : Inv (X.wish E) pins σ H s := ⟨I.ok.wish E, I.os, I.bare, I.base, I.loc, I.cell, I.free, I.freeC, I.pin, I.hok, I.len⟩
theorem Inv.unwish (I : Inv (X.wish E) pins σ H s) : Inv X pins σ H s := ⟨I.ok.unwish, I.os, I.bare, I.base, I.loc, I.cell, I.free, I.freeC, I.pin, I.hok, I.len⟩
theorem SP.unwish {D : Ends} {f : Flow} {s' : Shared} (h : SP (X.wish E) pins D f s') : SP X pins D f s' := by
  cases f with
  | next => obtain ⟨σ', H', I, q⟩ := h; exact ⟨σ', H', I.unwish, q⟩
  | brk => obtain ⟨σ', H', I, q⟩ := h; exact ⟨σ', H', I.unwish, q⟩
  | cont => obtain ⟨σ', H', I, q⟩ := h; exact ⟨σ', H', I.unwish, q⟩
  | ret u => obtain ⟨v, σ', H', I, r, q⟩ := h; exact ⟨v, σ', H', I.unwish, r, q⟩
theorem PSs.nox {st : List Stmt} {t : TS} (h : PSs X.nox st t) : PSs X st t := fun pins s σ H D I hw =>
  wpAny_mono (h pins s σ H D (I.wish _) hw) (fun _ _ q => q.unwish) fun _ _ z => False.elim z
end

/-! ### blocks and small statements -/
section
variable {X : Cx} {st : Stmt} {rest : List Stmt} {t u : TS} {e : Expr} {te : TE} {pos : Pos}
def tNext : TS := fun D σ H => D.nx σ H
def tSeq (t u : TS) : TS := fun D σ H => t { D with nx := u D } σ H
theorem pss_nil : PSs X [] tNext := fun _ _ σ H _ I h => wpAny_execs_nil ⟨σ, H, I, h⟩
theorem pss_cons (h1 : PS X st t) (h2 : PSs X rest u) : PSs X (st :: rest) (tSeq t u) := by
  intro pins s σ H D I h
  refine wpAny_execs_cons (thn (h1 pins s σ H { D with nx := u D } I h) fun f s1 q => ?_)
  cases f with
  | next =>
    obtain ⟨σ', H', I', q⟩ := q
    exact h2 pins s1 σ' H' D I' q
  | ret v => exact q
  | brk => exact q
  | cont => exact q
theorem pss_one (h1 : PS X st t) : PSs X [st] t := by
  intro pins s σ H D I h
  refine wpAny_execs_cons (thn (h1 pins s σ H D I h) fun f s1 q => ?_)
  cases f with
  | next => exact wpAny_execs_nil q
  | ret v => exact q
  | brk => exact q
  | cont => exact q
def tBreak : TS := fun D σ H => D.bk σ H
def tCont : TS := fun D σ H => D.ct σ H
theorem ps_break : PS X (.Break pos) tBreak := fun _ _ σ H _ I h => wpAny_Break ⟨σ, H, I, h⟩
theorem ps_continue : PS X (.Continue pos) tCont := fun _ _ σ H _ I h => wpAny_Continue ⟨σ, H, I, h⟩
/-- in a def's body nothing is shown -/
theorem Inv.quiet {pins : List (Addr × Obj)} {σ : St} {H : Hp} {s : Shared} (I : Inv X pins σ H s) : interactive X.env = false := by simp [interactive, I.ok.kind]
/-- an expression whose value is dropped -/
def tDrop (te : TE) : TS := fun D σ H => te σ H fun _ H1 => D.nx σ H1
theorem ps_expr (he : PE X e te) (hs : swapsWith e none pos.line X.env = pure false := by rfl) : PS X (.Expr e pos) (tDrop te) := by
  intro pins s σ H D I h
  exact wpAny_Expr_any (thn (he pins s σ H _ I h) fun v s1 ⟨x, H1, I1, r1, q1⟩ => ⟨σ, H1, I1, q1⟩) I.quiet hs
def tRet (te : TE) : TS := fun D σ H => te σ H D.rt
theorem ps_ret (he : PE X e te) : PS X (.Return (some e) pos) (tRet te) := by
  intro pins s σ H D I h
  exact wpAny_Return_some (thn (he pins s σ H _ I h) fun v s1 ⟨x, H1, I1, r1, q1⟩ => ⟨x, σ, H1, I1, r1, q1⟩)
def tIfS (c : TT) (t u : TS) : TS := fun D σ H => c σ H fun b H1 => if b = true then t D σ H1 else u D σ H1
theorem ps_if {c : Expr} {a b : List Stmt} {tc : TT} (hc : PT X c tc) (ha : PSs X a t) (hb : PSs X b u) : PS X (.If c a b pos) (tIfS tc t u) := by
  intro pins s σ H D I h
  refine wpAny_If (thn (hc pins s σ H _ I h) fun d s1 ⟨H1, I1, q1⟩ => ?_)
  cases d with
  | true => exact ha pins s1 σ H1 D I1 q1
  | false => exact hb pins s1 σ H1 D I1 q1
end

/-! ### targets -/
abbrev TG := V → St → Hp → (St → Hp → Prop) → Prop
def PG (X : Cx) (target : Expr) (t : TG) : Prop :=
  ∀ (pins : List (Addr × Obj)) (s : Shared) (σ : St) (H : Hp) (v : V) (u : Value) (Q : St → Hp → Prop), Inv X pins σ H s → RelV v u → t v σ H Q →
    wpAny (model X.prog X.w) X.A (assign target X.env u) (fun _ s' => ∃ σ' H', Inv X pins σ' H' s' ∧ Q σ' H') X.xe s
section
variable {X : Cx} {pos : Pos}
def gName (i : Nat) : TG := fun v σ H Q => Q (σ.set i (some v)) H
theorem pg_name {i : Nat} {x : Str} (hN : X.N.Nodup) (hi : X.N[i]? = some x) (hx : Loc X.env.scope x) (hf : X.fn x = true ∨ X.env.scope.names.lookup x = some .local := by first | exact .inl rfl | exact .inr rfl | assumption) : PG X (.Name x pos) (gName i) := by
  intro pins s σ H v u Q I r h
  exact wpAny_assign_Name (store_ok I hN hi hx r (fun s' I' => ⟨_, H, I', h⟩) hf)
/-- target = value -/
def tAsg (te : TE) (g : TG) : TS := fun D σ H => te σ H fun x H1 => g x σ H1 D.nx
/-- name = value -/
theorem ps_set {i : Nat} {x : Str} {e : Expr} {te : TE} {pos' : Pos} (hN : X.N.Nodup) (hi : X.N[i]? = some x) (hx : Loc X.env.scope x) (he : PE X e te) (hs : swapsWith e (some (.Name x pos')) pos.line X.env = pure false := by rfl) (hf : X.fn x = true ∨ X.env.scope.names.lookup x = some .local := by first | exact .inl rfl | exact .inr rfl | assumption) :
    PS X (.Assign [.Name x pos'] e pos) (tAsg te (gName i)) := by
  intro pins s σ H D I h
  refine wpAny_Assign_Name (thn (he pins s σ H _ I h) fun v s1 ⟨y, H1, I1, r1, q1⟩ => ?_) hs
  exact store_ok I1 hN hi hx r1 (fun s2 I2 => ⟨_, H1, I2, q1⟩) hf
end

/-! ### while -/
section
variable {X : Cx} {pos : Pos}
/-- the invariant W with its measure -/
def tWhile (c : TT) (tb : TS) : TS := fun D σ H => ∃ W : Nat → St → Hp → Prop, (∃ m, W m σ H) ∧ ∀ m σ H, W m σ H →
  c σ H fun b H1 => if b = true then ∃ N : St → Hp → Prop, (∀ σ' H', N σ' H' → ∃ m', m' < m ∧ W m' σ' H') ∧ tb { D with nx := N, ct := N, bk := D.nx } σ H1 else D.nx σ H1
theorem ps_while {c : Expr} {body : List Stmt} {tc : TT} {tb : TS} (hp : PassesOwn (model X.prog X.w) X.A X.env X.xe) (hc : PT X c tc) (hb : PSs X body tb) : PS X (.While c body [] pos) (tWhile tc tb) := by
  intro pins s σ H D I h
  obtain ⟨W, ⟨m0, w0⟩, turn⟩ := h
  refine wpAny_While (codeAny_whileLoop (fun n s' => ∃ σ' H', Inv X pins σ' H' s' ∧ W n σ' H') ?_ m0 ⟨σ, H, I, w0⟩)
  rintro n s1 ⟨σ1, H1, I1, w1⟩
  refine wpAny_passesOwn hp (thn (hc pins s1 σ1 H1 _ I1 (turn n σ1 H1 w1)) fun b s2 ⟨H2, I2, q2⟩ => ?_)
  cases b with
  | true =>
    obtain ⟨N, hN, q2⟩ := q2
    rw [if_pos rfl]
    refine wpAny_passesOwn hp (thn (hb pins s2 σ1 H2 _ I2 q2) fun f s3 q3 => ?_)
    cases f with
    | next =>
      obtain ⟨σ3, H3, I3, n3⟩ := q3
      obtain ⟨m', hm, w3⟩ := hN σ3 H3 n3
      exact ⟨m', hm, σ3, H3, I3, w3⟩
    | cont =>
      obtain ⟨σ3, H3, I3, n3⟩ := q3
      obtain ⟨m', hm, w3⟩ := hN σ3 H3 n3
      exact ⟨m', hm, σ3, H3, I3, w3⟩
    | brk => exact q3
    | ret v => exact q3
  | false =>
    rw [if_neg Bool.false_ne_true]
    exact wpAny_execs_nil ⟨σ1, H2, I2, q2⟩
end

/-! ### what a loop or a comprehension walks -/
/-- at turn i: it yields x (the heap may grow), or it stops -/
structure It where
  go : Nat → Hp → Prop
  yld : Nat → Hp → V → Hp → Prop
  stop : Nat → Hp → Prop
/-- the iterator's own objects may turn: they are not the frame's, not pinned, younger than the entry (or a comprehension's own) -/
def FpOk (X : Cx) (pins : List (Addr × Obj)) (H : Hp) (b : Addr) : Prop :=
  H b = none ∧ b ≠ X.env.locals ∧ b ∉ X.fs ∧ (b ∈ X.ex ∨ X.s_0.heap.objs.size ≤ b) ∧ (∀ x c, X.env.cells.lookup x = some c → c ≠ b) ∧ ∀ p ∈ X.pn ++ pins, p.1 ≠ b
theorem Inv.fpOk {X : Cx} {pins : List (Addr × Obj)} {σ : St} {H H' : Hp} {s : Shared} {b : Addr} (I : Inv X pins σ H s) (hb : s.heap.objs.size ≤ b) (hn : H' b = none) : FpOk X pins H' b := by
  refine ⟨hn, Nat.ne_of_gt (Nat.lt_of_lt_of_le I.lt hb), I.nofs hb, .inr (Nat.le_trans I.sz hb), fun x c e z => ?_, fun p hp z => ?_⟩
  · obtain ⟨v, q⟩ := I.cell x c e
    exact absurd (Nat.lt_of_lt_of_le q.lt (by rw [z]; exact hb)) (Nat.lt_irrefl _)
  · exact absurd (Nat.lt_of_lt_of_le (Heap.lt_size (I.pin p hp).1) (by rw [z]; exact hb)) (Nat.lt_irrefl _)
structure Turn (P : Program) (w : World) (K : PySem.W.Frag) (tg : Expr) (J : It) (fp : List Addr) (it : Addr) (tn : Nat → Heap → Prop) : Prop where
  mem : it ∈ fp
  obj : ∀ i h, tn i h → ∀ b ∈ fp, ∃ o, h.get? b = some o ∧ ∀ v, o.data ≠ .cell v
  keep : ∀ i h h', tn i h → (∀ b ∈ fp, ∀ o, h.get? b = some o → h'.get? b = some o) → tn i h'
  item : ∀ (X : Cx), X.prog = P → X.w = w → X.K = K → X.calm = true → ∀ (i : Nat) (pins : List (Addr × Obj)) (s : Shared) (σ : St) (H : Hp) (E : Value → Shared → Prop), Inv X pins σ H s → (∀ b ∈ fp, FpOk X pins H b) → tn i s.heap → J.go i H →
    wpAny (model P w) X.A (pyNext (.ref it)) (fun r s1 => ∃ u, r = some u ∧
      wpAny (model P w) X.A (letOwnedTupleGo tg (.ref it) u) (fun _ s2 => ∃ x H', Inv X pins σ H' s2 ∧ RelV x u ∧ J.yld i H x H' ∧ tn (i + 1) s2.heap ∧ ∀ b ∈ fp, H' b = none) E s1) E s
  done : ∀ (X : Cx), X.prog = P → X.w = w → X.K = K → X.calm = true → ∀ (i : Nat) (pins : List (Addr × Obj)) (s : Shared) (σ : St) (H : Hp) (E : Value → Shared → Prop), Inv X pins σ H s → (∀ b ∈ fp, FpOk X pins H b) → tn i s.heap → J.stop i H →
    wpAny (model P w) X.A (pyNext (.ref it)) (fun r s1 => r = none ∧ Inv X pins σ H s1) E s
  self : ∀ (A : Around) (i : Nat) (s : Shared) (Q : Value → Shared → Prop) (E : Value → Shared → Prop), tn i s.heap → Q (.ref it) s → wpAny (model P w) A (pyIter (.ref it)) Q E s
abbrev TI := St → Hp → (It → Hp → Prop) → Prop
/-- an iterator has come -/
def PIE (X : Cx) (pins : List (Addr × Obj)) (σ : St) (tg : Expr) (R : It → Hp → Prop) (itv : Value) (s2 : Shared) : Prop :=
  ∃ (it : Addr) (fp : List Addr) (tn : Nat → Heap → Prop) (J : It) (H' : Hp), itv = .ref it ∧ Inv X pins σ H' s2 ∧ Turn X.prog X.w X.K tg J fp it tn ∧ tn 0 s2.heap ∧ (∀ b ∈ fp, FpOk X pins H' b) ∧ R J H'
def PI (X : Cx) (tg iter : Expr) (wi : TI) : Prop :=
  ∀ (pins : List (Addr × Obj)) (s : Shared) (σ : St) (H : Hp) (R : It → Hp → Prop), Inv X pins σ H s → wi σ H R →
    wpAny (model X.prog X.w) X.A (eval iter X.env) (fun v s1 => wpAny (model X.prog X.w) X.A (pyIter v) (PIE X pins σ tg R) X.xe s1) X.xe s

/-- the step ahead of the store is nothing for an iterator that keeps no tuple -/
theorem go_of {M : Model} {A : Around} {E : Value → Shared → Prop} {s : Shared} {tg : Expr} {it : Addr} {u : Value} {o : Obj} {n : String} {vs : Array Value} {Q : Unit → Shared → Prop} (ho : s.heap.get? it = some o) (hc : o.cls = .type n) (hd : o.data = .fields vs)
    (hn : ["enumerate", "zip", "dict_itemiterator", "dict_reverseitemiterator", "odict_iterator", "itertools.zip_longest", "itertools.pairwise"].contains n = false) (hQ : Q () s) : wpAny M A (letOwnedTupleGo tg (.ref it) u) Q E s := by
  unfold letOwnedTupleGo
  cases tg <;> first
    | exact wpAny_pure hQ
    | (cases u <;> first
        | exact wpAny_pure hQ
        | (refine wpAny_bind (wpAny_load ho ?_)
           rw [hc, hd]
           show wpAny M A (if (["enumerate", "zip", "dict_itemiterator", "dict_reverseitemiterator", "odict_iterator", "itertools.zip_longest", "itertools.pairwise"].contains n && vs[0]? == some (rawInt _)) = true then _ else _) Q E s
           rw [if_neg (by intro h; rw [hn, Bool.false_and] at h; cases h)]
           exact wpAny_pure hQ))

/-- the list at a, as it stands at each turn (a loop may append to it) -/
def Itl (K : PySem.W.Frag) (a : Addr) : It :=
  ⟨fun i H => ∃ xs x, SqL K H a xs ∧ xs[i]? = some x, fun i H x H' => H' = H ∧ ∀ xs, SqL K H a xs → xs[i]? = some x, fun i H => ∃ xs, SqL K H a xs ∧ xs.length ≤ i⟩
def Itt (K : PySem.W.Frag) (a : Addr) : It :=
  ⟨fun i H => ∃ xs x, SqT K H a xs ∧ xs[i]? = some x, fun i H x H' => H' = H ∧ ∀ xs, SqT K H a xs → xs[i]? = some x, fun i H => ∃ xs, SqT K H a xs ∧ xs.length ≤ i⟩
/-- lo, lo + 1, .. (n of them) -/
def Itr (lo : Int) (n : Nat) : It := ⟨fun i _ => i < n, fun i H x H' => H' = H ∧ x = .int (lo + i), fun i _ => n ≤ i⟩
theorem turn_list {P : Program} {w : World} {K : PySem.W.Frag} {tg : Expr} (a it : Addr) : Turn P w K tg (Itl K a) [it] it (fun i h => h.IsListIter it a i) where
  mem := by simp
  obj := fun i h st b hb => by
    have e : b = it := by simpa using hb
    subst e
    obtain ⟨o, e, c, d⟩ := st
    exact ⟨o, e, fun v z => by rw [d] at z; cases z⟩
  keep := fun i h h' st k => st.at fun o e => k it (by simp) o e
  item := by
    intro X hP hw hK hc i pins s σ H E I hf st hg
    subst hP hw hK
    obtain ⟨xs, x, hq, hx⟩ := hg
    obtain ⟨its, rv, p, hz⟩ := I.list hq
    obtain ⟨u, hu, ru⟩ := rv.get hx
    obtain ⟨f0, f1, f2, f3, f4, f5⟩ := hf it (by simp)
    refine wpAny_pyNext_list_item st p.isList (x := u) (by simpa using hu) fun h' st' sb => ?_
    have I1 : Inv X pins σ H { s with heap := h' } := I.turned (t' := s.toks) (fun b o hb e => (sb.2 b hb).trans e) f0 f1 f3 f4 f5
    obtain ⟨o, e, c, d⟩ := id st'
    exact ⟨u, rfl, go_of (s := { s with heap := h' }) e c d (by decide) ⟨x, H, I1, ru, ⟨rfl, fun ys hy => by rw [I.list_inj hy hq]; exact hx⟩, st', fun b hb => (hf b hb).1⟩⟩
  done := by
    intro X hP hw hK hc i pins s σ H E I hf st hg
    subst hP hw hK
    obtain ⟨xs, hq, hx⟩ := hg
    obtain ⟨its, rv, p, hz⟩ := I.list hq
    obtain ⟨f0, f1, f2, f3, f4, f5⟩ := hf it (by simp)
    have hl := rv.length
    exact wpAny_pyNext_list_end (I.ok.hd hc) st p.isList (by simp; omega) fun h' eb => ⟨rfl, I.turned (t' := s.toks) (fun b o hb e => eb b o hb e) f0 f1 f3 f4 f5⟩
  self := fun _ _ _ _ _ st h => wpAny_pyIter_listiter st h
theorem turn_tuple {P : Program} {w : World} {K : PySem.W.Frag} {tg : Expr} (a it : Addr) : Turn P w K tg (Itt K a) [it] it (fun i h => h.IsTupleIter it a i) where
  mem := by simp
  obj := fun i h st b hb => by
    have e : b = it := by simpa using hb
    subst e
    obtain ⟨o, e, c, d⟩ := st
    exact ⟨o, e, fun v z => by rw [d] at z; cases z⟩
  keep := fun i h h' st k => st.at fun o e => k it (by simp) o e
  item := by
    intro X hP hw hK hc i pins s σ H E I hf st hg
    subst hP hw hK
    obtain ⟨xs, x, hq, hx⟩ := hg
    obtain ⟨its, rv, p, hz⟩ := I.tuple hq
    obtain ⟨u, hu, ru⟩ := rv.get hx
    obtain ⟨f0, f1, f2, f3, f4, f5⟩ := hf it (by simp)
    refine wpAny_pyNext_tuple_item st (show s.heap.IsTuple a its.toArray from p) (x := u) (by simpa using hu) fun h' st' sb => ?_
    have I1 : Inv X pins σ H { s with heap := h' } := I.turned (t' := s.toks) (fun b o hb e => (sb.2 b hb).trans e) f0 f1 f3 f4 f5
    obtain ⟨o, e, c, d⟩ := id st'
    exact ⟨u, rfl, go_of (s := { s with heap := h' }) e c d (by decide) ⟨x, H, I1, ru, ⟨rfl, fun ys hy => by rw [I.tuple_inj hy hq]; exact hx⟩, st', fun b hb => (hf b hb).1⟩⟩
  done := by
    intro X hP hw hK hc i pins s σ H E I hf st hg
    subst hP hw hK
    obtain ⟨xs, hq, hx⟩ := hg
    obtain ⟨its, rv, p, hz⟩ := I.tuple hq
    obtain ⟨f0, f1, f2, f3, f4, f5⟩ := hf it (by simp)
    have hl := rv.length
    exact wpAny_pyNext_tuple_end (I.ok.hd hc) st (show s.heap.IsTuple a its.toArray from p) (by simp; omega) fun h' eb => ⟨rfl, I.turned (t' := s.toks) (fun b o hb e => eb b o hb e) f0 f1 f3 f4 f5⟩
  self := fun _ _ _ _ _ st h => wpAny_pyIter_tupleiter st h
theorem turn_range {P : Program} {w : World} {K : PySem.W.Frag} {tg : Expr} (it : Addr) (lo : Int) (n : Nat) : Turn P w K tg (Itr lo n) [it] it (fun i h => IsRangeIter h it (lo + (i : Nat) * 1) ((n : Int) - (i : Nat)) 1) where
  mem := by simp
  obj := fun i h st b hb => by
    have e : b = it := by simpa using hb
    subst e
    exact ⟨_, st, fun v z => by
      have z' : Data.fields _ = Data.cell v := z
      cases z'⟩
  keep := fun i h h' st k => k it (by simp) _ st
  item := by
    intro X hP hw hK hc i pins s σ H E I hf st hg
    subst hP hw hK
    obtain ⟨f0, f1, f2, f3, f4, f5⟩ := hf it (by simp)
    have W := Walks.range (prog := X.prog) (w := X.w) (I.ok.hd hc) it lo 1 n
    refine W.item i s _ _ hg st fun v h' tk hv st' kk => ?_
    obtain ⟨t, rfl⟩ := hv
    have I1 : Inv X pins σ H { s with heap := h', toks := tk } := I.turned (fun b o hb e => kk b o (by simpa using hb) e) f0 f1 f3 f4 f5
    refine ⟨_, rfl, go_of (s := { s with heap := h', toks := tk }) (n := "range_iterator") st' rfl rfl (by decide) ⟨.int (lo + i), H, I1, ⟨t, ?_⟩, ⟨rfl, rfl⟩, st', fun b hb => (hf b hb).1⟩⟩
    rw [Int.mul_one]
  done := by
    intro X hP hw hK hc i pins s σ H E I hf st hg
    subst hP hw hK
    obtain ⟨f0, f1, f2, f3, f4, f5⟩ := hf it (by simp)
    exact wpAny_pyNext_range_end (I.ok.hd hc) st (by have : n ≤ i := hg; omega) fun h' eb => ⟨rfl, I.turned (t' := s.toks) (fun b o hb e => eb b o hb e) f0 f1 f3 f4 f5⟩
  self := fun _ _ _ _ _ st h => wpAny_pyIter_rangeiter st h
end L2

namespace L2
open PySem PySem.Spec PyProof.Rows
section
variable {X : Cx} {tg : Expr}
def iList (K : PySem.W.Frag) (tl : TE) : TI := fun σ H R => tl σ H fun x H1 => ∃ a, x = .ref a ∧ (∃ xs, SqL K H1 a xs) ∧ R (Itl K a) H1
def iTup (K : PySem.W.Frag) (tl : TE) : TI := fun σ H R => tl σ H fun x H1 => ∃ a, x = .ref a ∧ (∃ xs, SqT K H1 a xs) ∧ R (Itt K a) H1
theorem pi_list {l : Expr} {tl : TE} (hl : PE X l tl) : PI X tg l (iList X.K tl) := by
  intro pins s σ H R I h
  refine thn (hl pins s σ H _ I h) fun v s1 ⟨x, H1, I1, r1, q1⟩ => ?_
  obtain ⟨a, e, ⟨xs, hq⟩, q⟩ := q1
  subst e
  cases r1
  obtain ⟨its, rv, p, hz⟩ := I1.list hq
  refine wpAny_pyIter_list p.isList ?_
  refine ⟨s1.heap.objs.size, [s1.heap.objs.size], _, _, H1, rfl, I1.kept (t' := s1.toks) fun b o e => Heap.get?_push_of_some _ e, turn_list a _, ⟨_, Heap.get?_push_size _ rfl, rfl, rfl⟩, fun b hb => ?_, q⟩
  have e : b = s1.heap.objs.size := by simpa using hb
  subst e
  exact I1.fpOk (Nat.le_refl _) (I1.hok.fresh (Nat.le_refl _))
theorem pi_tup {l : Expr} {tl : TE} (hl : PE X l tl) : PI X tg l (iTup X.K tl) := by
  intro pins s σ H R I h
  refine thn (hl pins s σ H _ I h) fun v s1 ⟨x, H1, I1, r1, q1⟩ => ?_
  obtain ⟨a, e, ⟨xs, hq⟩, q⟩ := q1
  subst e
  cases r1
  obtain ⟨its, rv, p, hz⟩ := I1.tuple hq
  refine wpAny_pyIter_tuple (show s1.heap.IsTuple a its.toArray from p) ?_
  refine ⟨s1.heap.objs.size, [s1.heap.objs.size], _, _, H1, rfl, I1.kept (t' := s1.toks) fun b o e => Heap.get?_push_of_some _ e, turn_tuple a _, ⟨_, Heap.get?_push_size _ rfl, rfl, rfl⟩, fun b hb => ?_, q⟩
  have e : b = s1.heap.objs.size := by simpa using hb
  subst e
  exact I1.fpOk (Nat.le_refl _) (I1.hok.fresh (Nat.le_refl _))
/-- a range object just made, walked -/
theorem range_it {pins : List (Addr × Obj)} {σ : St} {H : Hp} {s : Shared} {R : It → Hp → Prop} {E : Value → Shared → Prop} {lo hi : Int} {t u v : Tok} {tk : Nat} (I : Inv X pins σ H s) (h1 : -(2 ^ 62) ≤ lo) (h2 : lo < 2 ^ 62) (h3 : -(2 ^ 62) ≤ hi) (h4 : hi < 2 ^ 62)
    (q : R (Itr lo (hi - lo).toNat) H) : wpAny (model X.prog X.w) X.A (pyIter (.ref s.heap.objs.size)) (PIE X pins σ tg R) E { s with heap := s.heap.push { cls := .type "range", data := .fields #[.int lo t, .int hi u, .int 1 v] }, toks := tk } := by
  refine wpAny_pyIter_range (IsRange.new ..) (small_one h1 h2 h3 h4) ?_
  have I1 : Inv X pins σ H { s with heap := s.heap.push { cls := .type "range", data := .fields #[.int lo t, .int hi u, .int 1 v] }, toks := tk } := I.kept fun b o e => Heap.get?_push_of_some _ e
  refine ⟨(s.heap.push { cls := .type "range", data := .fields #[.int lo t, .int hi u, .int 1 v] }).objs.size, [(s.heap.push { cls := .type "range", data := .fields #[.int lo t, .int hi u, .int 1 v] }).objs.size], _, _, H, rfl,
    I1.kept (t' := tk) fun b o e => Heap.get?_push_of_some _ e, turn_range _ lo (hi - lo).toNat, ?_, fun b hb => ?_, q⟩
  · have e1 : lo + ((0 : Nat) : Int) * 1 = lo := by simp
    have e2 : (((hi - lo).toNat : Nat) : Int) - ((0 : Nat) : Int) = Builtin.Range.rangeSize lo hi 1 := by rw [rangeSize_one]; split <;> omega
    show IsRangeIter _ _ (lo + ((0 : Nat) : Int) * 1) ((((hi - lo).toNat : Nat) : Int) - ((0 : Nat) : Int)) 1
    rw [e1, e2]
    exact Heap.get?_push_size _ rfl
  · have e : b = (s.heap.push { cls := .type "range", data := .fields #[.int lo t, .int hi u, .int 1 v] }).objs.size := by simpa using hb
    subst e
    exact I1.fpOk (Nat.le_refl _) (I1.hok.fresh (Nat.le_refl _))
def iRng1 (ta : TA) : TI := fun σ H R => ta σ H fun vs H1 => ∃ j : Int, vs = [.int j] ∧ -(2 ^ 62) ≤ j ∧ j < 2 ^ 62 ∧ R (Itr 0 j.toNat) H1
def iRng2 (ta : TA) : TI := fun σ H R => ta σ H fun vs H1 => ∃ i j : Int, vs = [.int i, .int j] ∧ (-(2 ^ 62) ≤ i ∧ i < 2 ^ 62 ∧ -(2 ^ 62) ≤ j ∧ j < 2 ^ 62) ∧ R (Itr i (j - i).toNat) H1
theorem pi_range1 {a : Expr} {ta : TA} {p pos : Pos} (hg : Gl X "range") (hm : X.mg "range" = none) (ha : PA X [a] ta) (hs : starEach [a] X.env = [(false, eval a X.env)] := by rfl) : PI X tg (.Call (.Name "range" p) [a] [] pos) (iRng1 ta) := by
  intro pins s σ H R I h
  refine Call_ (ld_blt I hg hm boot_range (PyProof.Rows.callWith_type1 (thn (ha pos pins s σ H _ I h) fun us s1 ⟨vs, H1, I1, r1, q1⟩ => ?_) hs rfl))
  obtain ⟨j, e, q1, q2, q⟩ := q1
  subst e
  cases r1 with
  | cons r rr =>
    cases rr
    obtain ⟨t, rfl⟩ := r
    exact call_range_1 (range_it I1 (by omega) (by omega) q1 q2 (by simpa using q))
theorem pi_range2 {a b : Expr} {ta : TA} {p pos : Pos} (hg : Gl X "range") (hm : X.mg "range" = none) (ha : PA X [a, b] ta) (hs : starEach [a, b] X.env = [(false, eval a X.env), (false, eval b X.env)] := by rfl) (hs2 : starEach [b] X.env = [(false, eval b X.env)] := by rfl) :
    PI X tg (.Call (.Name "range" p) [a, b] [] pos) (iRng2 ta) := by
  intro pins s σ H R I h
  refine Call_ (ld_blt I hg hm boot_range (PyProof.Rows.callWith_type1 (thn (ha pos pins s σ H _ I h) fun us s1 ⟨vs, H1, I1, r1, q1⟩ => ?_) (by rw [hs, hs2]) (by rw [hs2]; rfl)))
  obtain ⟨i, j, e, ⟨q1, q2, q3, q4⟩, q⟩ := q1
  subst e
  cases r1 with
  | cons r rr =>
    cases rr with
    | cons r' rr =>
      cases rr
      obtain ⟨t, rfl⟩ := r
      obtain ⟨t', rfl⟩ := r'
      exact call_range_2 (range_it I1 q1 q2 q3 q4 q)

/-! ### for -/
/-- W: the invariant by the turn and a measure; N: what the body is to reach -/
def tFor (wi : TI) (g : TG) (tb : TS) : TS := fun D σ H => wi σ H fun J H1 => ∃ W : Nat → Nat → St → Hp → Prop, (∃ m, W 0 m σ H1) ∧ ∀ i m σ H, W i m σ H →
  (J.stop i H ∧ D.nx σ H) ∨ (J.go i H ∧ ∃ N : St → Hp → Prop, (∀ σ' H', N σ' H' → ∃ m', m' < m ∧ W (i + 1) m' σ' H') ∧ ∀ x H', J.yld i H x H' → g x σ H' fun σ2 H2 => tb { D with nx := N, ct := N, bk := D.nx } σ2 H2)
/-- the records at fp as they stand -/
def pinsAt (fp : List Addr) (h : Heap) : List (Addr × Obj) := fp.filterMap fun b => (h.get? b).map fun o => (b, o)
theorem mem_pinsAt {fp : List Addr} {h : Heap} {b : Addr} {o : Obj} (hb : b ∈ fp) (e : h.get? b = some o) : (b, o) ∈ pinsAt fp h := List.mem_filterMap.mpr ⟨b, hb, by rw [e]; rfl⟩
theorem of_pinsAt {fp : List Addr} {h : Heap} {p : Addr × Obj} (hp : p ∈ pinsAt fp h) : p.1 ∈ fp ∧ h.get? p.1 = some p.2 := by
  obtain ⟨b, hb, e⟩ := List.mem_filterMap.mp hp
  cases q : h.get? b with
  | none => rw [q] at e; cases e
  | some o =>
    rw [q] at e
    have e' : (b, o) = p := Option.some.inj e
    subst e'
    exact ⟨hb, q⟩
theorem Inv.pinned {pins : List (Addr × Obj)} {σ : St} {H : Hp} {s : Shared} {fp : List Addr} (I : Inv X pins σ H s) (hf : ∀ b ∈ fp, FpOk X pins H b) (ho : ∀ b ∈ fp, ∃ o, s.heap.get? b = some o ∧ ∀ v, o.data ≠ .cell v) : Inv X (pins ++ pinsAt fp s.heap) σ H s :=
  I.pins_of fun p hp => (List.mem_append.mp hp).elim (fun z => I.pin p (List.mem_append_right _ z)) fun z => by
    obtain ⟨hb, e⟩ := of_pinsAt z
    obtain ⟨f0, f1, f2, _⟩ := hf p.1 hb
    obtain ⟨o, e', d⟩ := ho p.1 hb
    rw [e] at e'; cases e'
    exact ⟨e, f0, f1, f2, d⟩
theorem Inv.unpinned {pins pl : List (Addr × Obj)} {σ : St} {H : Hp} {s : Shared} (I : Inv X (pins ++ pl) σ H s) : Inv X pins σ H s := I.pins_of fun p hp => I.pin p (List.mem_append_right _ (List.mem_append_left _ hp))
theorem ps_for {iter : Expr} {body : List Stmt} {wi : TI} {g : TG} {tb : TS} {pos : Pos} (hp : PassesOwn (model X.prog X.w) X.A X.env X.xe) (hc : X.calm = true) (hi : PI X tg iter wi) (hg : PG X tg g) (hb : PSs X body tb)
    (hs : ∀ x, foldedSetIterable iter X.env x = pure x := by intro _; rfl) : PS X (.For tg iter body [] pos) (tFor wi g tb) := by
  intro pins s σ H D I h
  refine wpAny_For (thn (hi pins s σ H _ I h) fun v s1 h1 => thn h1 fun itv s2 h2 => ?_) hs
  obtain ⟨it, fp, tn, J, H2, e, I2, T, st2, f2, W, ⟨m0, w0⟩, turn⟩ := h2
  subst e
  -- what stays true of the iterator's objects through the loop
  have stat : ∀ {H' : Hp}, (∀ b ∈ fp, H' b = none) → ∀ b ∈ fp, FpOk X pins H' b := fun hn b hb => ⟨hn b hb, (f2 b hb).2⟩
  refine codeAny_forLoop_any (fun n s' => ∃ i σ' H', Inv X pins σ' H' s' ∧ tn i s'.heap ∧ (∀ b ∈ fp, H' b = none) ∧ W i n σ' H') ?_ m0 ⟨0, σ, H2, I2, st2, fun b hb => (f2 b hb).1, w0⟩
  rintro n s3 ⟨i, σ3, H3, I3, st3, fr3, w3⟩
  rcases turn i n σ3 H3 w3 with ⟨stop, qn⟩ | ⟨go, N, hN, step⟩
  · refine wpAny_passesOwn hp (thn (T.done X rfl rfl rfl hc i pins s3 σ3 H3 X.xe I3 (stat fr3) st3 stop) fun r s4 ⟨hr, I4⟩ => ?_)
    subst hr
    exact wpAny_execs_nil ⟨σ3, H3, I4, qn⟩
  · refine wpAny_passesOwn hp (thn (T.item X rfl rfl rfl hc i pins s3 σ3 H3 X.xe I3 (stat fr3) st3 go) fun r s4 ⟨u, hr, h4⟩ => ?_)
    subst hr
    refine wpAny_passesOwn hp (thn h4 fun _ s5 ⟨x, H5, I5, r5, y5, st5, fr5⟩ => ?_)
    have I5' := I5.pinned (stat fr5) (T.obj _ _ st5)
    refine wpAny_passesOwn hp (thn (hg _ s5 σ3 H5 x u _ I5' r5 (step x H5 y5)) fun _ s6 ⟨σ6, H6, I6, q6⟩ => ?_)
    refine wpAny_passesOwn hp (thn (hb _ s6 σ6 H6 _ I6 q6) fun f s7 q7 => ?_)
    have again : ∀ {σ7 : St} {H7 : Hp}, Inv X (pins ++ pinsAt fp s5.heap) σ7 H7 s7 → N σ7 H7 → ∃ m, m < n ∧ ∃ i σ' H', Inv X pins σ' H' s7 ∧ tn i s7.heap ∧ (∀ b ∈ fp, H' b = none) ∧ W i m σ' H' := fun {σ7 H7} I7 n7 => by
      obtain ⟨m', hm, w7⟩ := hN σ7 H7 n7
      refine ⟨m', hm, i + 1, σ7, H7, I7.unpinned, T.keep _ _ _ st5 fun b hb o e => (I7.pin (b, o) (List.mem_append_right _ (List.mem_append_right _ (mem_pinsAt hb e)))).1, fun b hb => ?_, w7⟩
      obtain ⟨o, e, d⟩ := T.obj _ _ st5 b hb
      exact (I7.pin (b, o) (List.mem_append_right _ (List.mem_append_right _ (mem_pinsAt hb e)))).2.1
    cases f with
    | next => obtain ⟨σ7, H7, I7, n7⟩ := q7; exact again I7 n7
    | cont => obtain ⟨σ7, H7, I7, n7⟩ := q7; exact again I7 n7
    | brk => obtain ⟨σ7, H7, I7, q7⟩ := q7; exact ⟨σ7, H7, I7.unpinned, q7⟩
    | ret v => obtain ⟨x7, σ7, H7, I7, r7, q7⟩ := q7; exact ⟨x7, σ7, H7, I7.unpinned, r7, q7⟩
end

/-! ### the forms one uses -/
/-- over a list that the body leaves as it is -/
theorem for_list {K : PySem.W.Frag} {a : Addr} {xs : List V} {g : TG} {tb : TS} {D : Ends} {σ : St} {H : Hp} (Pv : Nat → St → Hp → Prop) (h0 : Pv 0 σ H) (hl : ∀ i σ H, i ≤ xs.length → Pv i σ H → SqL K H a xs)
    (hs : ∀ i x σ H, xs[i]? = some x → Pv i σ H → g x σ H fun σ2 H2 => tb { D with nx := Pv (i + 1), ct := Pv (i + 1), bk := D.nx } σ2 H2) (hd : ∀ σ H, Pv xs.length σ H → D.nx σ H) :
    ∃ W : Nat → Nat → St → Hp → Prop, (∃ m, W 0 m σ H) ∧ ∀ i m σ H, W i m σ H →
      ((Itl K a).stop i H ∧ D.nx σ H) ∨ ((Itl K a).go i H ∧ ∃ N : St → Hp → Prop, (∀ σ' H', N σ' H' → ∃ m', m' < m ∧ W (i + 1) m' σ' H') ∧ ∀ x H', (Itl K a).yld i H x H' → g x σ H' fun σ2 H2 => tb { D with nx := N, ct := N, bk := D.nx } σ2 H2) := by
  refine ⟨fun i m σ H => m = xs.length - i ∧ i ≤ xs.length ∧ Pv i σ H, ⟨xs.length, by simp, Nat.zero_le _, h0⟩, ?_⟩
  rintro i m σ H ⟨rfl, hi, p⟩
  have q := hl i σ H hi p
  by_cases hlt : i < xs.length
  · refine .inr ⟨⟨xs, xs[i], q, by simp [hlt]⟩, Pv (i + 1), fun σ' H' p' => ⟨xs.length - (i + 1), by omega, rfl, hlt, p'⟩, fun x H' y => ?_⟩
    obtain ⟨e, y⟩ := y
    subst e
    exact hs i x σ _ (y xs q) p
  · have e : i = xs.length := by omega
    subst e
    exact .inl ⟨⟨xs, q, Nat.le_refl _⟩, hd σ H p⟩
theorem for_tup {K : PySem.W.Frag} {a : Addr} {xs : List V} {g : TG} {tb : TS} {D : Ends} {σ : St} {H : Hp} (Pv : Nat → St → Hp → Prop) (h0 : Pv 0 σ H) (hl : ∀ i σ H, i ≤ xs.length → Pv i σ H → SqT K H a xs)
    (hs : ∀ i x σ H, xs[i]? = some x → Pv i σ H → g x σ H fun σ2 H2 => tb { D with nx := Pv (i + 1), ct := Pv (i + 1), bk := D.nx } σ2 H2) (hd : ∀ σ H, Pv xs.length σ H → D.nx σ H) :
    ∃ W : Nat → Nat → St → Hp → Prop, (∃ m, W 0 m σ H) ∧ ∀ i m σ H, W i m σ H →
      ((Itt K a).stop i H ∧ D.nx σ H) ∨ ((Itt K a).go i H ∧ ∃ N : St → Hp → Prop, (∀ σ' H', N σ' H' → ∃ m', m' < m ∧ W (i + 1) m' σ' H') ∧ ∀ x H', (Itt K a).yld i H x H' → g x σ H' fun σ2 H2 => tb { D with nx := N, ct := N, bk := D.nx } σ2 H2) := by
  refine ⟨fun i m σ H => m = xs.length - i ∧ i ≤ xs.length ∧ Pv i σ H, ⟨xs.length, by simp, Nat.zero_le _, h0⟩, ?_⟩
  rintro i m σ H ⟨rfl, hi, p⟩
  have q := hl i σ H hi p
  by_cases hlt : i < xs.length
  · refine .inr ⟨⟨xs, xs[i], q, by simp [hlt]⟩, Pv (i + 1), fun σ' H' p' => ⟨xs.length - (i + 1), by omega, rfl, hlt, p'⟩, fun x H' y => ?_⟩
    obtain ⟨e, y⟩ := y
    subst e
    exact hs i x σ _ (y xs q) p
  · have e : i = xs.length := by omega
    subst e
    exact .inl ⟨⟨xs, q, Nat.le_refl _⟩, hd σ H p⟩
theorem for_range {lo : Int} {n : Nat} {g : TG} {tb : TS} {D : Ends} {σ : St} {H : Hp} (Pv : Nat → St → Hp → Prop) (h0 : Pv 0 σ H)
    (hs : ∀ i σ H, i < n → Pv i σ H → g (.int (lo + i)) σ H fun σ2 H2 => tb { D with nx := Pv (i + 1), ct := Pv (i + 1), bk := D.nx } σ2 H2) (hd : ∀ σ H, Pv n σ H → D.nx σ H) :
    ∃ W : Nat → Nat → St → Hp → Prop, (∃ m, W 0 m σ H) ∧ ∀ i m σ H, W i m σ H →
      ((Itr lo n).stop i H ∧ D.nx σ H) ∨ ((Itr lo n).go i H ∧ ∃ N : St → Hp → Prop, (∀ σ' H', N σ' H' → ∃ m', m' < m ∧ W (i + 1) m' σ' H') ∧ ∀ x H', (Itr lo n).yld i H x H' → g x σ H' fun σ2 H2 => tb { D with nx := N, ct := N, bk := D.nx } σ2 H2) := by
  refine ⟨fun i m σ H => m = n - i ∧ i ≤ n ∧ Pv i σ H, ⟨n, by simp, Nat.zero_le _, h0⟩, ?_⟩
  rintro i m σ H ⟨rfl, hi, p⟩
  by_cases hlt : i < n
  · refine .inr ⟨hlt, Pv (i + 1), fun σ' H' p' => ⟨n - (i + 1), by omega, rfl, hlt, p'⟩, fun x H' y => ?_⟩
    obtain ⟨e, y⟩ := y
    subst e y
    exact hs i σ _ hlt p
  · have e : i = n := by omega
    subst e
    exact .inl ⟨Nat.le_refl _, hd σ H p⟩
end L2

namespace L2
open PySem PySem.Spec PyProof.Rows

abbrev R2 := V → V → Hp → VK → Prop
/-- a two-place operation on values: f is binaryOp op, inplaceOp op or compareOp op -/
def OpR (X : Cx) (f : Value → Value → Sem Value) (r : R2) : Prop :=
  ∀ (pins : List (Addr × Obj)) (s : Shared) (σ : St) (H : Hp) (x y : V) (v u : Value) (Q : VK), Inv X pins σ H s → RelV x v → RelV y u → r x y H Q →
    wpAny (model X.prog X.w) X.A (f v u) (EP X pins σ Q) X.xe s
/-- a call of a value that is known (a builtin, a type) with values -/
def CallR (X : Cx) (f : Value) (r : List V → Hp → VK → Prop) : Prop :=
  ∀ (pins : List (Addr × Obj)) (s : Shared) (σ : St) (H : Hp) (xs : List V) (us : List Value) (Q : VK), Inv X pins σ H s → Vals xs us → r xs H Q →
    wpAny (model X.prog X.w) X.A (call f us) (EP X pins σ Q) X.xe s

def tOp (r : R2) (ta tb : TE) : TE := fun σ H Q => ta σ H fun x H1 => tb σ H1 fun y H2 => r x y H2 Q
/-- ints in, under C, and a value out -/
def rI (C : Int → Int → Prop) (g : Int → Int → V) : R2 := fun x y H Q => ∃ i j, x = .int i ∧ y = .int j ∧ C i j ∧ Q (g i j) H
def rI0 (g : Int → Int → V) : R2 := fun x y H Q => ∃ i j, x = .int i ∧ y = .int j ∧ Q (g i j) H

section
variable {X : Cx} {a b c : Expr} {ta tb tc : TE} {pos : Pos}

theorem binT (ha : PE X a ta) (hb : PE X b tb) {pins : List (Addr × Obj)} {s : Shared} {σ : St} {H : Hp} {R : V → V → Hp → Prop} (I : Inv X pins σ H s)
    (h : ta σ H fun x H1 => tb σ H1 fun y H2 => R x y H2) {Q : Value → Shared → Prop} {f : Value → Value → Sem Value}
    (hf : ∀ v u s2 x y H2, Inv X pins σ H2 s2 → RelV x v → RelV y u → R x y H2 → wpAny (model X.prog X.w) X.A (f v u) Q X.xe s2) :
    wpAny (model X.prog X.w) X.A (eval a X.env) (fun v s₁ => wpAny (model X.prog X.w) X.A (eval b X.env) (fun u s₂ => wpAny (model X.prog X.w) X.A (f v u) Q X.xe s₂) X.xe s₁) X.xe s := by
  refine thn (ha pins s σ H _ I h) fun v s1 ⟨x, H1, I1, r1, q1⟩ => ?_
  refine thn (hb pins s1 σ H1 _ I1 q1) fun u s2 ⟨y, H2, I2, r2, q2⟩ => ?_
  exact hf v u s2 x y H2 I2 r1 r2 q2

theorem pe_op {op : Operator} {r : R2} (ho : OpR X (binaryOp op) r) (ha : PE X a ta) (hb : PE X b tb) : PE X (.BinOp a op b pos) (tOp r ta tb) := by
  intro pins s σ H Q I h
  exact wpAny_BinOp (binT ha hb I h fun v u s2 x y H2 I2 rx ry q => ho pins s2 σ H2 x y v u Q I2 rx ry q)

/-! ### ints -/
theorem opI {f : Value → Value → Sem Value} {C : Int → Int → Prop} {g : Int → Int → Int}
    (rule : ∀ (i j : Int) (t u : Tok) (s : Shared) (Q : Value → Shared → Prop) (E : Value → Shared → Prop), C i j → Q (.int (g i j) s.toks) { s with toks := s.toks + 1 } → wpAny (model X.prog X.w) X.A (f (.int i t) (.int j u)) Q E s) :
    OpR X f (rI C fun i j => .int (g i j)) := by
  intro pins s σ H x y v u Q I rx ry h
  obtain ⟨i, j, rfl, rfl, hc, q⟩ := h
  obtain ⟨t, rfl⟩ := rx
  obtain ⟨t', rfl⟩ := ry
  exact rule i j t t' s _ _ hc ⟨.int (g i j), H, I.tok _, ⟨_, rfl⟩, q⟩
theorem opI0 {f : Value → Value → Sem Value} {g : Int → Int → Int}
    (rule : ∀ (i j : Int) (t u : Tok) (s : Shared) (Q : Value → Shared → Prop) (E : Value → Shared → Prop), Q (.int (g i j) s.toks) { s with toks := s.toks + 1 } → wpAny (model X.prog X.w) X.A (f (.int i t) (.int j u)) Q E s) :
    OpR X f (rI0 fun i j => .int (g i j)) := by
  intro pins s σ H x y v u Q I rx ry h
  obtain ⟨i, j, rfl, rfl, q⟩ := h
  obtain ⟨t, rfl⟩ := rx
  obtain ⟨t', rfl⟩ := ry
  exact rule i j t t' s _ _ ⟨.int (g i j), H, I.tok _, ⟨_, rfl⟩, q⟩
theorem opB0 {f : Value → Value → Sem Value} {g : Int → Int → Bool}
    (rule : ∀ (i j : Int) (t u : Tok) (s : Shared) (Q : Value → Shared → Prop) (E : Value → Shared → Prop), Q (.bool (g i j)) s → wpAny (model X.prog X.w) X.A (f (.int i t) (.int j u)) Q E s) :
    OpR X f (rI0 fun i j => .bl (g i j)) := by
  intro pins s σ H x y v u Q I rx ry h
  obtain ⟨i, j, rfl, rfl, q⟩ := h
  obtain ⟨t, rfl⟩ := rx
  obtain ⟨t', rfl⟩ := ry
  exact rule i j t t' s _ _ ⟨.bl (g i j), H, I, rfl, q⟩

def CDiv (i j : Int) : Prop := 0 < j ∧ j < 1073741824

theorem op_add : OpR X (binaryOp .Add) (rI0 fun i j => .int (i + j)) := opI0 fun _ _ _ _ _ _ _ q => add_int q
theorem op_sub : OpR X (binaryOp .Sub) (rI0 fun i j => .int (i - j)) := opI0 fun _ _ _ _ _ _ _ q => sub_int q
/-- // by a positive divisor -/
theorem op_fdiv : OpR X (binaryOp .FloorDiv) (rI CDiv fun i j => .int (i / j)) := opI fun i j _ _ _ _ _ hc q => by
  have h1 : (0 : Int) < j := hc.1
  have h2 : j < 1073741824 := hc.2
  exact floordiv_int (by omega) (by rw [Int.fdiv_eq_ediv_of_nonneg i (by omega)]; exact q) (.inl (PyProof.noPylong_small (by omega)))

/-! ### bools among ints: n += (a < b) -/
end

/-! ### comparisons -/
/-- the scalars that == tells apart as data does -/
def scal : V → V → Bool
  | .non, .non => true | .non, .int _ => true | .int _, .non => true | .non, .bl _ => true | .bl _, .non => true | .non, .str _ => true | .str _, .non => true
  | .int _, .int _ => true | .bl _, .bl _ => true | .str _, .str _ => true | .byt _, .byt _ => true
  | .int _, .str _ => true | .str _, .int _ => true | .bl _, .str _ => true | .str _, .bl _ => true
  | _, _ => false
def rEq : R2 := fun x y H Q => scal x y = true ∧ Q (.bl (decide (x = y))) H
def rNe : R2 := fun x y H Q => scal x y = true ∧ Q (.bl (!decide (x = y))) H

theorem dec_int {i j : Int} : decide (V.int i = V.int j) = (i == j) := by
  rw [Bool.eq_iff_iff]
  simp
theorem dec_bl {i j : Bool} : decide (V.bl i = V.bl j) = (i == j) := by
  rw [Bool.eq_iff_iff]
  simp
theorem dec_str {i j : Str} : decide (V.str i = V.str j) = (i == j) := by
  rw [Bool.eq_iff_iff]
  simp
theorem dec_byt {i j : Array UInt8} : decide (V.byt i = V.byt j) = (i.toList == j.toList) := by
  rw [Bool.eq_iff_iff]
  cases i
  cases j
  simp

section
variable {X : Cx} {a b c : Expr} {ta tb tc : TE} {pos : Pos}
theorem fin_bl {pins : List (Addr × Obj)} {σ : St} {H : Hp} {s : Shared} {Q : VK} {k k' : Bool} (I : Inv X pins σ H s) (q : Q (.bl k) H) (e : k = k') : EP X pins σ Q (.bool k') s := by
  subst e
  exact ⟨.bl k, H, I, rfl, q⟩
theorem op_eq : OpR X (compareOp .Eq) rEq := by
  intro pins s σ H x y v u Q I rx ry h
  obtain ⟨hs, q⟩ := h
  cases x with
  | non =>
    cases rx
    cases y with
    | non => cases ry; exact PySem.EqNone.eq_none_none (fin_bl I q (by simp))
    | bl j => cases ry; exact PySem.EqNone.eq_none_bool (fin_bl I q (by simp))
    | int j => obtain ⟨t', rfl⟩ := ry; exact PySem.EqNone.eq_none_int (fin_bl I q (by simp))
    | str j => obtain ⟨t', rfl⟩ := ry; exact PySem.EqNone.eq_none_str (fin_bl I q (by simp))
    | _ => exact absurd (show false = true from hs) Bool.false_ne_true
  | bl i =>
    cases rx
    cases y with
    | non => cases ry; exact PySem.EqNone.eq_bool_none (fin_bl I q (by simp))
    | bl j => cases ry; exact eq_bool (fin_bl I q dec_bl)
    | str j => obtain ⟨t', rfl⟩ := ry; exact PySem.EqMixed.eq_bool_str (fin_bl I q (by simp))
    | _ => exact absurd (show false = true from hs) Bool.false_ne_true
  | int i =>
    obtain ⟨t, rfl⟩ := rx
    cases y with
    | non => cases ry; exact PySem.EqNone.eq_int_none (fin_bl I q (by simp))
    | int j => obtain ⟨t', rfl⟩ := ry; exact eq_int (fin_bl I q dec_int)
    | str j => obtain ⟨t', rfl⟩ := ry; exact PySem.EqMixed.eq_int_str (fin_bl I q (by simp))
    | _ => exact absurd (show false = true from hs) Bool.false_ne_true
  | str i =>
    obtain ⟨t, rfl⟩ := rx
    cases y with
    | non => cases ry; exact PySem.EqNone.eq_str_none (fin_bl I q (by simp))
    | bl j => cases ry; exact PySem.EqMixed.eq_str_bool (fin_bl I q (by simp))
    | int j => obtain ⟨t', rfl⟩ := ry; exact PySem.EqMixed.eq_str_int (fin_bl I q (by simp))
    | str j => obtain ⟨t', rfl⟩ := ry; exact eq_str (fin_bl I q dec_str)
    | _ => exact absurd (show false = true from hs) Bool.false_ne_true
  | byt i =>
    obtain ⟨t, rfl⟩ := rx
    cases y with
    | byt j => obtain ⟨t', rfl⟩ := ry; exact PySem.W.eq_bytes (fin_bl I q dec_byt)
    | _ => exact absurd (show false = true from hs) Bool.false_ne_true
  | _ => cases y <;> exact absurd (show false = true from hs) Bool.false_ne_true
theorem op_ne : OpR X (compareOp .NotEq) rNe := by
  intro pins s σ H x y v u Q I rx ry h
  obtain ⟨hs, q⟩ := h
  cases x with
  | non =>
    cases rx
    cases y with
    | non => cases ry; exact PySem.EqNone.ne_none_none (fin_bl I q (by simp))
    | bl j => cases ry; exact PySem.EqNone.ne_none_bool (fin_bl I q (by simp))
    | int j => obtain ⟨t', rfl⟩ := ry; exact PySem.EqNone.ne_none_int (fin_bl I q (by simp))
    | str j => obtain ⟨t', rfl⟩ := ry; exact PySem.EqNone.ne_none_str (fin_bl I q (by simp))
    | _ => exact absurd (show false = true from hs) Bool.false_ne_true
  | bl i =>
    cases rx
    cases y with
    | non => cases ry; exact PySem.EqNone.ne_bool_none (fin_bl I q (by simp))
    | bl j => cases ry; exact ne_bool (fin_bl I q (congrArg not dec_bl))
    | str j => obtain ⟨t', rfl⟩ := ry; exact PySem.EqMixed.ne_bool_str (fin_bl I q (by simp))
    | _ => exact absurd (show false = true from hs) Bool.false_ne_true
  | int i =>
    obtain ⟨t, rfl⟩ := rx
    cases y with
    | non => cases ry; exact PySem.EqNone.ne_int_none (fin_bl I q (by simp))
    | int j => obtain ⟨t', rfl⟩ := ry; exact ne_int (fin_bl I q (congrArg not dec_int))
    | str j => obtain ⟨t', rfl⟩ := ry; exact PySem.EqMixed.ne_int_str (fin_bl I q (by simp))
    | _ => exact absurd (show false = true from hs) Bool.false_ne_true
  | str i =>
    obtain ⟨t, rfl⟩ := rx
    cases y with
    | non => cases ry; exact PySem.EqNone.ne_str_none (fin_bl I q (by simp))
    | bl j => cases ry; exact PySem.EqMixed.ne_str_bool (fin_bl I q (by simp))
    | int j => obtain ⟨t', rfl⟩ := ry; exact PySem.EqMixed.ne_str_int (fin_bl I q (by simp))
    | str j => obtain ⟨t', rfl⟩ := ry; exact ne_str (fin_bl I q (congrArg not dec_str))
    | _ => exact absurd (show false = true from hs) Bool.false_ne_true
  | byt i =>
    obtain ⟨t, rfl⟩ := rx
    cases y with
    | byt j => obtain ⟨t', rfl⟩ := ry; exact PySem.W.ne_bytes (fin_bl I q (congrArg not dec_byt))
    | _ => exact absurd (show false = true from hs) Bool.false_ne_true
  | _ => cases y <;> exact absurd (show false = true from hs) Bool.false_ne_true

theorem op_lt : OpR X (compareOp .Lt) (rI0 fun i j => .bl (decide (i < j))) := opB0 fun _ _ _ _ _ _ _ q => lt_int q
theorem op_gt : OpR X (compareOp .Gt) (rI0 fun i j => .bl (decide (j < i))) := opB0 fun _ _ _ _ _ _ _ q => gt_int q
theorem op_ge : OpR X (compareOp .GtE) (rI0 fun i j => .bl (decide (j ≤ i))) := opB0 fun _ _ _ _ _ _ _ q => ge_int q

theorem nomark (b : Expr) {op : CmpOp} (h : op ≠ .In := by decide) (h2 : op ≠ .NotIn := by decide) : behindInMarks op b = false := by
  have e1 : (op == CmpOp.In) = false := by cases op <;> first | rfl | exact absurd rfl h
  have e2 : (op == CmpOp.NotIn) = false := by cases op <;> first | rfl | exact absurd rfl h2
  cases b <;> simp [behindInMarks, e1, e2]
/-- a reading of a value as a test -/
def tTest (t : TE) : TT := fun σ H Q => t σ H fun x H' => ∃ k, x = .bl k ∧ Q k H'
theorem pt_cmpR {op : CmpOp} {r : R2} (ho : OpR X (compareOp op) r) (ha : PE X a ta) (hb : PE X b tb) (hm : behindInMarks op b = false) : PT X (.Compare a [op] [b] pos) (tTest (tOp r ta tb)) := by
  intro pins s σ H Q I h
  refine wpAny_isTrue_Compare1 (thn (ha pins s σ H _ I h) fun v s1 ⟨x, H1, I1, r1, q1⟩ => thn (hb pins s1 σ H1 _ I1 q1) fun u s2 ⟨y, H2, I2, r2, q2⟩ =>
    thn (ho pins s2 σ H2 x y v u _ I2 r1 r2 q2) fun c s3 ⟨z, H3, I3, r3, k, e, q3⟩ => ?_) hm
  subst e
  cases r3
  exact wpAny_truthy_bool ⟨H3, I3, q3⟩

/-! ### truth -/
theorem line63 : (sizeLine : Nat) < 2 ^ 63 := by rw [sizeLine_eq]; decide

/-! ### strs and bytes -/

/-! ### scalar builtins, by CallR -/
theorem vals1 {x : V} {us : List Value} (r : Vals [x] us) : ∃ u, us = [u] ∧ RelV x u := by
  cases r with
  | cons r1 r2 => cases r2; exact ⟨_, rfl, r1⟩
theorem vals2 {x y : V} {us : List Value} (r : Vals [x, y] us) : ∃ u w', us = [u, w'] ∧ RelV x u ∧ RelV y w' := by
  cases r with
  | cons r1 r2 =>
    cases r2 with
    | cons r3 r4 => cases r4; exact ⟨_, _, rfl, r1, r3⟩
theorem call_max2 (hc : X.calm = true) : CallR X (.builtin "max") (fun xs H Q => ∃ i j, xs = [.int i, .int j] ∧ Q (.int (if j > i then j else i)) H) := by
  intro pins s σ H xs us Q I r h
  obtain ⟨i, j, rfl, q⟩ := h
  obtain ⟨u, w', rfl, ⟨t, rfl⟩, ⟨t', rfl⟩⟩ := vals2 r
  refine max_two_ints (I.ok.hd hc) fun h' tk k => ⟨_, H, I.kept k, ?_, q⟩
  by_cases hj : j > i
  · rw [if_pos hj, if_pos hj]; exact ⟨_, rfl⟩
  · rw [if_neg hj, if_neg hj]; exact ⟨_, rfl⟩
theorem call_min2 (hc : X.calm = true) : CallR X (.builtin "min") (fun xs H Q => ∃ i j, xs = [.int i, .int j] ∧ Q (.int (if j < i then j else i)) H) := by
  intro pins s σ H xs us Q I r h
  obtain ⟨i, j, rfl, q⟩ := h
  obtain ⟨u, w', rfl, ⟨t, rfl⟩, ⟨t', rfl⟩⟩ := vals2 r
  refine min_two_ints (I.ok.hd hc) fun h' tk k => ⟨_, H, I.kept k, ?_, q⟩
  by_cases hj : j < i
  · rw [if_pos hj, if_pos hj]; exact ⟨_, rfl⟩
  · rw [if_neg hj, if_neg hj]; exact ⟨_, rfl⟩
end
end L2

namespace L2
open PySem PySem.Spec PyProof.Rows

/-! ### an instance, its attributes a map -/
structure ObjM (h : Heap) (x dx C : Addr) (mA : Str → Option Value) : Prop where
  obj : h.get? x = some (PySem.W.instObj C dx)
  ns : h.Ns1 dx mA
  ne : dx ≠ x

theorem lookIn_ns {h : Heap} {dx : Addr} {mA : Str → Option Value} (n : h.Ns1 dx mA) : ∃ od, h.get? dx = some od ∧ ∀ name, PySem.W.lookIn name od = some (mA name) := by
  obtain ⟨o, es, ep, ho, hd, hk, _, hm⟩ := n
  refine ⟨o, ho, fun name => ?_⟩
  have e := hm name
  unfold nsFind findBy at e
  rw [← Array.find?_toList] at e
  unfold PySem.W.lookIn
  rw [hd]
  dsimp only
  split
  · rename_i y q
    rw [q] at e
    exact congrArg some e
  · rename_i q
    rw [q] at e
    have a : es.toList.any (·.refKey) = false := by
      rw [List.any_eq_false]
      intro y hy
      obtain ⟨z, t, hkey⟩ := hk y (Array.mem_toList_iff.mp hy)
      simp [DictEntry.refKey, hkey]
    have a' : ¬ es.toList.any (·.refKey) = true := by rw [a]; exact Bool.false_ne_true
    rw [if_neg a']
    exact congrArg some e

theorem ObjM.look {h : Heap} {x dx C : Addr} {mA : Str → Option Value} (I : ObjM h x dx C mA) : ∃ od, PySem.W.InstAt h x (PySem.W.instObj C dx) C (some od) ∧ ∀ name, PySem.W.lookIn name od = some (mA name) :=
  let ⟨od, ho, hl⟩ := lookIn_ns I.ns
  ⟨od, ⟨I.obj, rfl, rfl, ho⟩, hl⟩

section
variable {prog : Program} {w : World} {A : Around} {E : Value → Shared → Prop} {s : Shared} {K : PySem.W.Frag} {x dx C f : Addr} {mA : Str → Option Value} {name : Str} {v : Value}

theorem get_map {expr : Bool} {Q : Value → Shared → Prop} (X : K.In s.heap) (I : ObjM s.heap x dx C mA) (hg : PySem.W.plainGet K C name = true) (hh : PySem.W.hasDictIn K C = true)
    (ha : PySem.W.findIn K (.ref C) name = some none) (hv : mA name = some v) (hv' : PySem.W.handedIn v = true) (h : Q v { s with toks := s.toks + 1 }) :
    wpAny (model prog w) A (getAttr (.ref x) name expr) Q E s := by
  obtain ⟨od, J, hl⟩ := I.look
  exact PySem.W.get_value X J (PySem.W.plainGet_of hg).1 (PySem.W.findObj_own hh ha rfl (by rw [hl, hv])) hv' h

theorem get_meth {pl : Sem Bool} {Q : Value × List Value → Shared → Prop} (X : K.In s.heap) (I : ObjM s.heap x dx C mA) (hg : PySem.W.plainGet K C name = true)
    (hf : PySem.W.findIn K (.ref C) name = some (some (.ref f))) (ht : PySem.W.isFn K (.ref f) = true) (hv : mA name = none) (h : Q (.ref f, [.ref x]) s) :
    wpAny (model prog w) A (getMethod (.ref x) name pl) Q E s := by
  obtain ⟨od, J, hl⟩ := I.look
  exact PySem.W.method_fn X J (PySem.W.plainGet_of hg).1 (PySem.W.plainGet_of hg).2 hf (beq_iff_eq.mp ht) (by show (PySem.W.lookIn name od).map (·.isSome) = some false; rw [hl, hv]; rfl) h

theorem set_map {ns : List Str} {Q : Unit → Shared → Prop} (X : K.In s.heap) (I : ObjM s.heap x dx C mA)
    (hs : PySem.W.findIn K (.ref C) "__setattr__" = some (some (.builtin "object.__setattr__"))) (hp : PySem.W.plainOver K C = true) (ht : PySem.W.takerIn K C name = some none) (hh : PySem.W.hasDictIn K C = true)
    (hw : PySem.Within mA ns) (hsz : ns.length ≤ sizeLine)
    (h : ∀ h', ObjM h' x dx C (fun y => if y = name then some v else mA y) → Heap.SameBut dx s.heap h' → Q () { s with heap := h', toks := s.toks + 2 }) :
    wpAny (model prog w) A (setAttr (.ref x) name v) Q E s := by
  obtain ⟨od, J, hl⟩ := I.look
  refine PySem.W.set_plain X J hs (PySem.W.osa_open (s := { s with toks := s.toks + 1 }) (r := none) X J hp ht fun b => ?_)
  obtain ⟨cd, hc, hd'⟩ := PySem.W.any_some hh
  have hx : s.heap.get? x = some ⟨.ref C, some dx, .plain, #[]⟩ := I.obj
  refine wpAny_bind (wpAny_pure (wpAny_bind (wpAny_bind (wpAny_loadPart hx (wpAny_bind (PySem.W.Looks.here (s := { s with toks := s.toks + 1 }) (PySem.W.looks_clsIn X hc) ?_))))))
  rw [hd']
  refine wpAny_pure (a := some dx) (wpAny_bind (wpAny_pure (wpAny_bind ?_)))
  refine wpAny_nsSet1 (s := { s with toks := s.toks + 1 }) I.ns fun h' hn2 hs2 => ?_
  obtain ⟨oD, esD, epD, hoD, hdD, hcD⟩ := hn2.count (PySem.Within.cons name v hw)
  refine wpAny_bind (wpAny_lookBehind hoD (by rw [hdD]; exact pastItsLine_dict (Nat.le_trans hcD (by rw [List.length_cons]; omega))) ?_)
  exact wpAny_pure (h _ ⟨(hs2.2 _ (Ne.symm I.ne)).trans I.obj, hn2, I.ne⟩ hs2)

/-- C(..): the dict at the heap's end, the instance behind it; then its __init__ -/
theorem make_map {R : Result → Shared → Prop} {vs : List Value} {kw : List (Str × Value)} (X : K.In s.heap) (hm : PySem.W.makesIn K C = true)
    (hi : PySem.W.findIn K (.ref C) "__init__" = some (some (.ref f))) (hf : PySem.W.typeIn K (.ref f) = some (.type "function"))
    (h : codeAny (model prog w) (A.under (.builtin "type.__call__" ⟨.ref C :: vs, kw⟩)) (.call (.ref f) ⟨.ref (s.heap.objs.size + 1) :: vs, kw⟩) (PySem.W.InitBack (s.heap.objs.size + 1) R)
      { s with heap := (s.heap.push PySem.W.emptyDict).push (PySem.W.instObj C s.heap.objs.size) }) :
    codeAny (model prog w) A (.call (.ref C) ⟨vs, kw⟩) R s := by
  obtain ⟨hh, g, d, t, os⟩ := s
  exact PySem.W.make_core (PySem.W.makes_of X hm) (PySem.W.looks_findIn X hi) (fun self => PySem.W.bind_fn X self hf) (.inl rfl) h
end

/-! ### the attributes as a list of pairs -/
def putF (f : Str) (v : V) : List (Str × V) → List (Str × V)
  | [] => [(f, v)]
  | (g, x) :: r => if g = f then (g, v) :: r else (g, x) :: putF f v r
theorem lookup_putF (f g : Str) (v : V) : ∀ fs : List (Str × V), (putF f v fs).lookup g = if g = f then some v else fs.lookup g
  | [] => by
    show List.lookup g [(f, v)] = _
    by_cases h : g = f
    · have hb : (g == f) = true := beq_iff_eq.mpr h
      simp only [List.lookup, hb, if_pos h]
    · have hb : (g == f) = false := beq_eq_false_iff_ne.mpr h
      simp only [List.lookup, hb, if_neg h]
  | (k, x) :: r => by
    have ih := lookup_putF f g v r
    rw [show putF f v ((k, x) :: r) = (if k = f then (k, v) :: r else (k, x) :: putF f v r) from rfl]
    by_cases hk : k = f
    · rw [if_pos hk]
      by_cases h : g = k
      · have hb : (g == k) = true := beq_iff_eq.mpr h
        simp only [List.lookup, hb, if_pos (h.trans hk)]
      · have hb : (g == k) = false := beq_eq_false_iff_ne.mpr h
        simp only [List.lookup, hb, if_neg (fun e : g = f => h (e.trans hk.symm))]
    · rw [if_neg hk]
      by_cases h : g = k
      · have hb : (g == k) = true := beq_iff_eq.mpr h
        simp only [List.lookup, hb, if_neg (fun e : g = f => hk (h.symm.trans e))]
      · have hb : (g == k) = false := beq_eq_false_iff_ne.mpr h
        simp only [List.lookup, hb]
        exact ih
theorem keys_putF (f : Str) (v : V) : ∀ fs : List (Str × V), f ∈ (putF f v fs).map (·.1) ∧ ∀ g, g ∈ fs.map (·.1) → g ∈ (putF f v fs).map (·.1)
  | [] => ⟨by simp [putF], fun g h => by simp at h⟩
  | (k, x) :: r => by
    obtain ⟨i1, i2⟩ := keys_putF f v r
    rw [show putF f v ((k, x) :: r) = (if k = f then (k, v) :: r else (k, x) :: putF f v r) from rfl]
    by_cases hk : k = f
    · rw [if_pos hk]
      subst hk
      exact ⟨by simp, fun g h => by simpa using h⟩
    · rw [if_neg hk]
      refine ⟨?_, fun g h => ?_⟩
      · rw [List.map_cons]
        exact List.mem_cons_of_mem _ i1
      · rw [List.map_cons] at h ⊢
        rcases List.mem_cons.mp h with e | e
        · exact List.mem_cons.mpr (.inl e)
        · exact List.mem_cons_of_mem _ (i2 g e)
theorem length_putF (f : Str) (v : V) : ∀ fs : List (Str × V), (putF f v fs).length ≤ fs.length + 1
  | [] => by simp [putF]
  | (k, x) :: r => by
    have ih := length_putF f v r
    rw [show putF f v ((k, x) :: r) = (if k = f then (k, v) :: r else (k, x) :: putF f v r) from rfl]
    by_cases hk : k = f
    · rw [if_pos hk, List.length_cons, List.length_cons]; omega
    · rw [if_neg hk, List.length_cons, List.length_cons]; omega

theorem RelO.some_of {v : V} {o : Option Value} (r : RelO (some v) o) : ∃ u, o = some u ∧ RelV v u := by
  cases o with
  | none => exact (show False from r).elim
  | some u => exact ⟨u, rfl, r⟩
theorem RelO.none_of {o : Option Value} (r : RelO none o) : o = none := by
  cases o with
  | none => rfl
  | some u => exact (show False from r).elim
theorem handed_of {v : V} {u : Value} (r : RelV v u) : PySem.W.handedIn u = true := by
  cases v with
  | non => cases (show u = Value.none from r); rfl
  | bl b => cases (show u = Value.bool b from r); rfl
  | int i => obtain ⟨t, e⟩ := (show ∃ t, u = Value.int i t from r); cases e; rfl
  | str x => obtain ⟨t, e⟩ := (show ∃ t, u = Value.str x t from r); cases e; rfl
  | byt b => obtain ⟨t, e⟩ := (show ∃ t, u = Value.bytes b t from r); cases e; rfl
  | flt b => obtain ⟨t, e⟩ := (show ∃ t, u = Value.float b t from r); cases e; rfl
  | ref a => cases (show u = Value.ref a from r); rfl
  | ty n => cases (show u = Value.type n from r); rfl

section
variable {P : Program} {w : World} {H H' : Hp} {h h' : Heap} {a C dx : Addr} {fs fs' : List (Str × V)}
theorem ins_get (hok : HOk P w H h) (e : H a = some (.ins C dx fs)) : ∃ mA, ObjM h a dx C mA ∧ (∀ f, RelO (fs.lookup f) (mA f)) ∧ PySem.Within mA (fs.map (·.1)) ∧ fs.length ≤ 1000 ∧ H dx = some (.own a) := by
  obtain ⟨d, z, ne, ob, mA, n, r, q⟩ := (show ObjOk P w H h a (.ins C dx fs) from hok a _ e)
  exact ⟨mA, ⟨ob, n, ne⟩, r, q, z, d⟩
end

/-! ### what of the text a class must have -/
structure Cls (K : PySem.W.Frag) (C : Addr) : Prop where
  pg : PySem.W.plainGet K C Str.empty = true
  hd : PySem.W.hasDictIn K C = true
  po : PySem.W.plainOver K C = true
  sa : PySem.W.findIn K (.ref C) "__setattr__" = some (some (.builtin "object.__setattr__"))
theorem Cls.get {K : PySem.W.Frag} {C : Addr} (c : Cls K C) (f : Str) : PySem.W.plainGet K C f = true := c.pg
/-- no class of it has the name -/
def NoAttr (K : PySem.W.Frag) (C : Addr) (f : Str) : Prop := PySem.W.findIn K (.ref C) f = some none
theorem NoAttr.taker {K : PySem.W.Frag} {C : Addr} {f : Str} (n : NoAttr K C f) : PySem.W.takerIn K C f = some none := by
  unfold PySem.W.takerIn
  rw [show PySem.W.findIn K (.ref C) f = some none from n]
  rfl
/-- a method: a plain def of the class or of one above it -/
structure Meth (K : PySem.W.Frag) (C : Addr) (m : Str) (f : Addr) : Prop where
  at_ : PySem.W.findIn K (.ref C) m = some (some (.ref f))
  fn : PySem.W.isFn K (.ref f) = true
  kp : PySem.W.keepIn K (.ref f) = true

section
variable {X : Cx} {pins : List (Addr × Obj)} {σ : St} {H : Hp} {s : Shared} {a C dx : Addr} {fs : List (Str × V)} {f : Str} {v : V} {A : Around} {E : Value → Shared → Prop}

theorem getattr_ok {b : Bool} {Q : Value → Shared → Prop} (I : Inv X pins σ H s) (e : H a = some (.ins C dx fs)) (c : Cls X.K C) (n : NoAttr X.K C f) (l : fs.lookup f = some v)
    (h : ∀ u s', Inv X pins σ H s' → RelV v u → Q u s') : wpAny (model X.prog X.w) A (getAttr (.ref a) f b) Q E s := by
  obtain ⟨mA, O, r, _, _, _⟩ := ins_get I.hok e
  obtain ⟨u, hu, ru⟩ := RelO.some_of (v := v) (o := mA f) (by rw [← l]; exact r f)
  exact get_map I.kIn O (c.get f) c.hd n hu (handed_of ru) (h u _ (I.tok _) ru)

theorem getmeth_ok {m : Str} {g : Addr} {pl : Sem Bool} {Q : Value × List Value → Shared → Prop} (I : Inv X pins σ H s) (e : H a = some (.ins C dx fs)) (c : Cls X.K C) (k : Meth X.K C m g) (l : fs.lookup m = none)
    (h : Q (.ref g, [.ref a]) s) : wpAny (model X.prog X.w) A (getMethod (.ref a) m pl) Q E s := by
  obtain ⟨mA, O, r, _, _, _⟩ := ins_get I.hok e
  have hn : mA m = none := RelO.none_of (by rw [← l]; exact r m)
  exact get_meth I.kIn O (c.get m) k.at_ k.fn hn h

theorem setattr_ok {y : V} {u : Value} {Q : Unit → Shared → Prop} (I : Inv X pins σ H s) (e : H a = some (.ins C dx fs)) (c : Cls X.K C) (n : NoAttr X.K C f) (hl : fs.length < 1000) (ry : RelV y u)
    (h : ∀ s', Inv X pins σ (upd H a (.ins C dx (putF f y fs))) s' → Q () s') : wpAny (model X.prog X.w) A (setAttr (.ref a) f u) Q E s := by
  obtain ⟨mA, O, r, wi, _, ho⟩ := ins_get I.hok e
  have hz : (fs.map (·.1)).length ≤ sizeLine := by rw [List.length_map, sizeLine_eq]; omega
  refine set_map I.kIn O c.sa c.po n.taker c.hd wi hz fun h' O' sb => h _ ?_
  have hd : ∃ o, h'.get? dx = some o := let ⟨o, _, _, e', _⟩ := O'.ns; ⟨o, e'⟩
  refine I.write (x := a) (e := dx) (by rw [e]; exact True.intro) (.inr ho) (fun b q hb z => (sb.2 b hb).trans z) hd ?_
  refine ⟨by rw [upd_ne O.ne]; exact ho, ?_, O.ne, O'.obj, _, O'.ns, fun g => ?_, fun g hg => ?_⟩
  · have := length_putF f y fs; omega
  · show RelO ((putF f y fs).lookup g) (if g = f then some u else mA g)
    rw [lookup_putF]
    by_cases q : g = f
    · rw [if_pos q, if_pos q]; exact ry
    · rw [if_neg q, if_neg q]; exact r g
  · by_cases q : g = f
    · rw [q]; exact (keys_putF f y fs).1
    · refine (keys_putF f y fs).2 g (wi g fun z => hg ?_)
      show (if g = f then some u else mA g) = none
      rw [if_neg q]; exact z

/-- a new instance, tracked, without attributes -/
theorem Inv.made (I : Inv X pins σ H s) : Inv X pins σ (upd (upd H s.heap.objs.size (.own (s.heap.objs.size + 1))) (s.heap.objs.size + 1) (.ins C s.heap.objs.size []))
    { s with heap := (s.heap.push PySem.W.emptyDict).push (PySem.W.instObj C s.heap.objs.size) } := by
  have e1 : (s.heap.push PySem.W.emptyDict).get? s.heap.objs.size = some PySem.W.emptyDict := Heap.get?_push_size s.heap rfl
  have e2 : ((s.heap.push PySem.W.emptyDict).push (PySem.W.instObj C s.heap.objs.size)).get? (s.heap.objs.size + 1) = some (PySem.W.instObj C s.heap.objs.size) := by
    have := Heap.get?_push_size (s.heap.push PySem.W.emptyDict) (o := PySem.W.instObj C s.heap.objs.size) rfl
    rwa [Heap.size_push] at this
  have e3 : (s.heap.push PySem.W.emptyDict).Ns s.heap.objs.size (fun _ => none) := ⟨PySem.W.emptyDict, #[], _, e1, rfl, (fun e he => absurd he (by simp)), fun _ => rfl⟩
  have I1 := I.laid (a := s.heap.objs.size) (o := .own (s.heap.objs.size + 1)) (h' := s.heap.push PySem.W.emptyDict) (t' := s.toks) (fun b u q => Heap.get?_push_of_some _ q) (Nat.le_refl _) ⟨_, e1⟩
  refine I1.laid (a := s.heap.objs.size + 1) (o := .ins C s.heap.objs.size []) (t' := s.toks) (fun b u q => Heap.get?_push_of_some _ q) (Nat.le_of_eq (Heap.size_push _ _)) ?_
  have ne : s.heap.objs.size ≠ s.heap.objs.size + 1 := Nat.ne_of_lt (Nat.lt_succ_self _)
  refine ⟨by rw [upd_ne ne, upd_same], Nat.zero_le _, ne, e2, fun _ => none, (Heap.Ns1.of_empty e3).at fun o q => Heap.get?_push_of_some _ q, fun _ => True.intro, fun y hy => absurd rfl hy⟩

/-- e.f where nothing but the object is asked: through attributeBase (super) and the last hold -/
theorem attr_of {prog : Program} {w : World} {env : Env} {e : Expr} {f : Str} {pos : Pos} {s : Shared} {Q : Value → Shared → Prop} (hb : attributeBase e f env (eval e env) = eval e env)
    (h : wpAny (model prog w) A (eval e env) (fun o s₁ => wpAny (model prog w) A (getAttr o f true) Q E s₁) E s) : wpAny (model prog w) A (eval (.Attribute e f pos) env) Q E s :=
  Attribute_any_ h (by rw [arm_eval_Attribute, hb])
end

/-! ### readings and rules -/
/-- e.f, an attribute of the instance -/
def tFld (K : PySem.W.Frag) (ta : TE) (f : Str) : TE := fun σ H Q => ta σ H fun x H1 => ∃ a C dx fs v, x = .ref a ∧ H1 a = some (.ins C dx fs) ∧ Cls K C ∧ NoAttr K C f ∧ fs.lookup f = some v ∧ Q v H1
/-- e.f = value -/
def sFld (K : PySem.W.Frag) (ta tv : TE) (f : Str) : TS := fun D σ H => tv σ H fun y H1 => ta σ H1 fun x H2 => ∃ a C dx fs, x = .ref a ∧ H2 a = some (.ins C dx fs) ∧ Cls K C ∧ NoAttr K C f ∧ fs.length < 1000 ∧
  D.nx σ (upd H2 a (.ins C dx (putF f y fs)))

section
variable {X : Cx} {o e value : Expr} {f : Str} {pos pos' tpos : Pos} {ta tv : TE}
theorem pe_fld (he : PE X e ta) (hb : attributeBase e f X.env (eval e X.env) = eval e X.env) : PE X (.Attribute e f pos) (tFld X.K ta f) := by
  intro pins s σ H Q I h
  refine attr_of hb (thn (he pins s σ H _ I h) fun u s1 ⟨x, H1, I1, rx, a, C, dx, fs, v, ex, ea, c, n, l, q⟩ => ?_)
  subst ex
  obtain rfl : u = Value.ref a := rx
  exact getattr_ok I1 ea c n l fun u' s2 I2 ru => ⟨v, H1, I2, ru, q⟩
theorem ps_fld (ha : PE X o ta) (hv : PE X value tv) (hs : swapsWith value (some (.Attribute o f pos')) pos.line X.env = pure false) : PS X (.Assign [.Attribute o f pos'] value pos) (sFld X.K ta tv f) := by
  intro pins s σ H D I h
  refine plainObj_wpAny_Assign_Attribute (thn (hv pins s σ H _ I h) fun u s1 ⟨y, H1, I1, ry, q⟩ => thn (ha pins s1 σ H1 _ I1 q) fun ov s2 ⟨x, H2, I2, rx, a, C, dx, fs, ex, ea, c, n, l, q2⟩ => ?_) hs
  subst ex
  obtain rfl : ov = Value.ref a := rx
  exact setattr_ok I2 ea c n l ry fun s3 I3 => ⟨σ, _, I3, q2⟩

/-- what is between an instance and its method: the tree of a method call -/
theorem methcall_of {pl : Sem Bool} {m : Str} {apos : Pos} {args : List Expr} {pins : List (Addr × Obj)} {s : Shared} {σ : St} {H : Hp} {Q : Value → Shared → Prop} {te : TE} (he : PE X e te) (I : Inv X pins σ H s)
    (h : te σ H fun x H1 => ∃ a C dx fs g, x = .ref a ∧ H1 a = some (.ins C dx fs) ∧ Cls X.K C ∧ Meth X.K C m g ∧ fs.lookup m = none ∧
      ∀ s1, Inv X pins σ H1 s1 → wpAny (model X.prog X.w) X.A (callWith pos (.ref g) [.ref a] (backTo pos (starEach args X.env)) (backToKw pos (keywordEach [] X.env))) Q X.xe s1)
    (ht : eval (.Call (.Attribute e m apos) args [] pos) X.env = (do
      let ov ← eval e X.env
      standAt apos.atName
      let (f, first) ← holding [ov] (getMethod ov m pl)
      callWith pos f first (backTo pos (starEach args X.env)) (backToKw pos (keywordEach [] X.env)))) :
    wpAny (model X.prog X.w) X.A (eval (.Call (.Attribute e m apos) args [] pos) X.env) Q X.xe s := by
  refine PySem.W.methodCall_KW (pl := pl) (thn (he pins s σ H _ I h) fun u s1 ⟨x, H1, I1, rx, a, C, dx, fs, g, ex, ea, c, k, l, q⟩ => ?_) ht
  subst ex
  obtain rfl : u = Value.ref a := rx
  exact getmeth_ok I1 ea c k l (q s1 I1)
end

/-! ### isinstance -/
section
variable {X : Cx} {pins : List (Addr × Obj)} {σ : St} {H : Hp} {s : Shared} {A : Around} {E : Value → Shared → Prop} {Q : Value → Shared → Prop} {c : Value} {b : Bool}
end
end L2

namespace L2
open PySem PySem.Spec PyProof.Rows

/-! ### room -/
structure Room (k : Nat) (A : Around) : Prop where
  hd : A.handled = none
  dp : A.depth + 3 * k + 5 < recursionLimit
  un : A.units + 16 * k + 200 < cLine
theorem Room.mono {j k : Nat} {A : Around} (r : Room k A) (h : j ≤ k) : Room j A := ⟨r.hd, by have := r.dp; omega, by have := r.un; omega⟩
theorem Room.deeper {k : Nat} {A : Around} (r : Room (k + 1) A) (env : Env) : Room k (A.deeper env) :=
  ⟨r.hd, by have := r.dp; show A.depth + 1 + 3 * k + 5 < _; omega, by have := r.un; show A.units + 3 + 16 * k + 200 < _; omega⟩
theorem make_depth {A : Around} {C : Addr} {us : List Value} {kw : List (Str × Value)} : (A.under (.builtin "type.__call__" ⟨.ref C :: us, kw⟩)).depth = A.depth + 1 := by
  first | rfl | simp [Around.under, Code.weight, Code.isCreation, Code.isGuard, Code.isCaller, Code.frames, Code.isFrame, guardIds]
theorem make_units {A : Around} {C : Addr} {us : List Value} {kw : List (Str × Value)} : (A.under (.builtin "type.__call__" ⟨.ref C :: us, kw⟩)).units = A.units + 1 := by
  first | rfl | simp [Around.under, Code.cUnits, Code.frames, Code.isFrame]
theorem Room.make {k : Nat} {A : Around} (r : Room (k + 1) A) (C : Addr) (us : List Value) (kw : List (Str × Value)) : Room k (A.under (.builtin "type.__call__" ⟨.ref C :: us, kw⟩)) :=
  ⟨r.hd, by have := r.dp; rw [make_depth]; omega, by have := r.un; rw [make_units]; omega⟩
theorem Room.depth {k : Nat} {A : Around} (r : Room k A) : A.depth < recursionLimit := by have := r.dp; omega
theorem Room.units {k : Nat} {A : Around} (r : Room k A) : A.units + 64 < cLine := by have := r.un; omega

/-! ### argument lists and displays -/
def tNil : TA := fun _ H Q => Q [] H
def tCons (ta : TE) (tr : TA) : TA := fun σ H Q => ta σ H fun x H1 => tr σ H1 fun xs H2 => Q (x :: xs) H2
section
variable {X : Cx} {e : Expr} {es : List Expr} {te : TE} {t : TA} {pos : Pos}
theorem pa_nil : PA X [] tNil := fun _ _ _ _ H Q I h => Calls.spliced_nil ⟨[], H, I, .nil, h⟩
theorem pa_cons (ha : PE X e te) (hr : PA X es t) (hs : starEach (e :: es) X.env = (false, eval e X.env) :: starEach es X.env := by rfl) : PA X (e :: es) (tCons te t) := by
  intro pos pins s σ H Q I h
  rw [hs]
  show wpAny _ _ (spliced ((false, eval e X.env) :: backTo pos (starEach es X.env))) _ _ s
  refine Calls.spliced_cons (thn (ha pins s σ H _ I h) fun u s1 ⟨x, H1, I1, r1, q1⟩ => ?_)
  exact thn (hr pos pins s1 σ H1 _ I1 q1) fun us s2 ⟨xs, H2, I2, r2, q2⟩ => ⟨x :: xs, H2, I2, .cons r1 r2, q2⟩

/-- a tuple, a list of written items -/
def tTup (t : TA) : TE := fun σ H Q => t σ H fun xs H1 => xs.length ≤ sizeLine ∧ ∀ p, H1 p = none → Q (.ref p) (upd H1 p (.tup xs))
def tLst (t : TA) : TE := fun σ H Q => t σ H fun xs H1 => xs.length ≤ sizeLine ∧ ∀ p, H1 p = none → Q (.ref p) (upd H1 p (.lst xs))
theorem pe_tup {x1} (h : PA X es t) : PE X (.Tuple es x1 pos) (tTup t) := by
  intro pins s σ H Q I hq
  refine wpAny_Tuple_spliced (thn (h pos pins s σ H _ I hq) fun us s1 ⟨xs, H1, I1, r, z, q⟩ => ⟨by rw [← r.length]; exact z, ?_⟩)
  have hf : H1 s1.heap.objs.size = none := I1.hok.fresh (Nat.le_refl _)
  refine ⟨.ref s1.heap.objs.size, upd H1 s1.heap.objs.size (.tup xs), I1.laid (t' := s1.toks) (fun b u e => Heap.get?_push_of_some _ e) (Nat.le_refl _) ?_, rfl, q _ hf⟩
  exact ⟨z, us, r, ⟨_, Heap.get?_push_size _ rfl, rfl, _, rfl⟩⟩
theorem pe_lst (h : PA X es t) : PE X (.List es pos) (tLst t) := by
  intro pins s σ H Q I hq
  refine wpAny_List_spliced (thn (h pos pins s σ H _ I hq) fun us s1 ⟨xs, H1, I1, r, z, q⟩ => ⟨by rw [← r.length]; exact z, ?_⟩)
  have hf : H1 s1.heap.objs.size = none := I1.hok.fresh (Nat.le_refl _)
  refine ⟨.ref s1.heap.objs.size, upd H1 s1.heap.objs.size (.lst xs), I1.laid (t' := s1.toks) (fun b u e => Heap.get?_push_of_some _ e) (Nat.le_refl _) ?_, rfl, q _ hf⟩
  exact ⟨z, us, 0, r, Heap.get?_push_size _ rfl⟩
end

/-! ### what a def promises -/
/-- a def's promise: the bound arguments in the parameters' order, the heap, the wanted end, the wanted exception -/
abbrev Sp := List V → Hp → VK → XK → Prop
/-- how an exception lies behind a call (file 08 gives it): the callers' frames, abstract heap and state ahead of the call, the wish, the exception, the state -/
abbrev CXT := List Env → Hp → Shared → XK → Value → Shared → Prop

/-- the state at a call -/
structure Env0 (P : Program) (w : World) (K : PySem.W.Frag) (mg : Str → Option Value) (base : Heap) (A : Around) (outer : List Env) (s : Shared) (H : Hp) : Prop where
  frames : A.frames = some outer
  mod : Mod K mg base
  bs : ∀ b o, base.get? b = some o → s.heap.get? b = some o ∧ H b = none
  bsz : base.objs.size ≤ s.heap.objs.size
  funs : s.heap.FunFrames base outer
  frf : ∀ b ∈ frs outer, H b = none
  hok : HOk P w H s.heap
  bare : AllBare s.gens
/-- a call's end -/
def CE (outer : List Env) (P : Program) (w : World) (H : Hp) (s : Shared) (Q : VK) (u : Value) (s' : Shared) : Prop :=
  ∃ v H', s'.os = s.os ∧ AllBare s'.gens ∧ Un (frs outer) [] H H' s.heap s'.heap ∧ HOk P w H' s'.heap ∧ RelV v u ∧ Q v H'
def CR (CX : CXT) (outer : List Env) (P : Program) (w : World) (H : Hp) (s : Shared) (Q : VK) (E : XK) (r : Result) (s' : Shared) : Prop :=
  match r with
  | .ok (.ret u) => CE outer P w H s Q u s'
  | .ok _ => False
  | .error e => CX outer H s E e s'
structure FnOk (P : Program) (w : World) (K : PySem.W.Frag) (mg : Str → Option Value) (base : Heap) (CX : CXT) (k : Nat) (f : Addr) (fd : FuncData) (ps : List Str) (sp : Sp) : Prop where
  len : ∀ vs H Q E, sp vs H Q E → vs.length = ps.length
  run : ∀ (A : Around) (outer : List Env) (s : Shared) (H : Hp) (args : Args) (us : List Value) (vs : List V) (Q : VK) (E : XK), Room k A → Env0 P w K mg base A outer s H → BindsTo s fd args (ps.zip us) → Vals vs us → sp vs H Q E →
    codeAny (model P w) A (.call (.ref f) args) (CR CX outer P w H s Q E) s

theorem Env0.make {P : Program} {w : World} {K : PySem.W.Frag} {mg : Str → Option Value} {base : Heap} {A : Around} {outer : List Env} {s : Shared} {H : Hp} (e : Env0 P w K mg base A outer s H) (C : Addr) (us : List Value) (kw : List (Str × Value)) :
    Env0 P w K mg base (A.under (.builtin "type.__call__" ⟨.ref C :: us, kw⟩)) outer s H := ⟨by first | exact e.frames | (simpa [Around.under, Code.envs, Code.isFrame, pushEnvs] using e.frames), e.mod, e.bs, e.bsz, e.funs, e.frf, e.hok, e.bare⟩

section
variable {X : Cx} {pins : List (Addr × Obj)} {σ : St} {H : Hp} {s s' : Shared}
/-- from a body: what a callee wants -/
theorem Inv.env0 (I : Inv X pins σ H s) : Env0 X.prog X.w X.K X.mg X.base X.A X.stack s H :=
  ⟨I.ok.frames, I.ok.mod, I.bs, Nat.le_trans I.ok.bsz I.sz, I.stack, I.stkFree, I.hok, I.bare⟩
/-- behind a call -/
theorem Inv.after {Q : VK} {u : Value} (I : Inv X pins σ H s) (h : CE X.stack X.prog X.w H s Q u s') : EP X pins σ Q u s' := by
  obtain ⟨v, H', os, bare, un, hok, r, q⟩ := h
  obtain ⟨hh, g, d, t, os'⟩ := s'
  obtain rfl : os' = s.os := os
  exact ⟨v, H', I.call (h' := hh) (g' := g) (d' := d) (t' := t) (ch := []) un hok bare (fun b z => absurd z (by simp)), r, q⟩
end

/-! ### calls -/
/-- f(..): the written arguments, then the defaults dvs; E: what is wanted of an exception -/
def tCall (sp : Sp) (dvs : List V) (E : XK) (t : TA) : TE := fun σ H Q => t σ H fun vs H1 => sp (vs ++ dvs) H1 Q E
/-- o.m(..) of an instance of the class at C -/
def tMeth (C : Addr) (m : Str) (sp : Sp) (dvs : List V) (E : XK) (ta : TE) (t : TA) : TE := fun σ H Q => ta σ H fun x H1 => ∃ a dx fs, x = .ref a ∧ H1 a = some (.ins C dx fs) ∧ fs.lookup m = none ∧
  t σ H1 fun vs H2 => sp (x :: (vs ++ dvs)) H2 Q E
/-- C(..): a new instance and its dict, then __init__ -/
def tMake (C : Addr) (sp : Sp) (dvs : List V) (E : XK) (t : TA) : TE := fun σ H Q => t σ H fun vs H1 => ∀ x dx, H1 x = none → H1 dx = none → dx ≠ x →
  sp (.ref x :: (vs ++ dvs)) (upd (upd H1 dx (.own x)) x (.ins C dx [])) (fun v H2 => v = .non ∧ Q (.ref x) H2) E

/-- how the parameters are bound: us the positional arguments, kw the keywords' values by name, ds the defaults that fill up -/
def Binds (K : PySem.W.Frag) (fd : FuncData) (ps : List Str) (ds : List Value) : Prop :=
  ∀ (s : Shared) (us : List Value), K.In s.heap → (us ++ ds).length = ps.length → BindsTo s fd ⟨us, []⟩ (ps.zip (us ++ ds))
/-- every parameter is given -/
theorem Binds.all {K : PySem.W.Frag} {fd : FuncData} {ps : List Str} (h : ∀ us : List Value, us.length = ps.length → bindArgs fd ⟨us, []⟩ = pure (ps.zip us)) : Binds K fd ps [] := fun s us _ hl => by
  rw [List.append_nil] at hl ⊢
  exact .of_eq (h us hl)

/-- an exception of a callee reaches what this body wants of exceptions -/
def Passes (CX : CXT) (X : Cx) (E : XK) : Prop := ∀ (pins : List (Addr × Obj)) (σ : St) (H : Hp) (s : Shared) (e : Value) (s' : Shared), Inv X pins σ H s → CX X.stack H s E e s' → X.xe e s'

section
variable {X : Cx} {CX : CXT} {k : Nat} {f C : Addr} {fd : FuncData} {ps : List Str} {sp : Sp} {dvs : List V} {ds : List Value} {E : XK} {x m : Str} {p pos apos : Pos} {e o : Expr} {es : List Expr} {ta : TE} {t : TA}

/-- the callee runs -/
theorem run_fn {pins : List (Addr × Obj)} {σ : St} {H : Hp} {s : Shared} {Q : VK} {us : List Value} {vs : List V} (F : FnOk X.prog X.w X.K X.mg X.base CX k f fd ps sp) (hr : Room k X.A) (hb : Binds X.K fd ps ds) (hd : Vals dvs ds) (hx : Passes CX X E)
    (I : Inv X pins σ H s) (r : Vals vs us) (h : sp (vs ++ dvs) H Q E) : wpAny (model X.prog X.w) X.A (call (.ref f) us) (EP X pins σ Q) X.xe s := by
  have r2 : Vals (vs ++ dvs) (us ++ ds) := r.append hd
  have hl : (us ++ ds).length = ps.length := by rw [← r2.length]; exact F.len _ _ _ _ h
  refine wpAny_call (codeAny_mono (F.run X.A X.stack s H ⟨us, []⟩ (us ++ ds) (vs ++ dvs) Q E hr I.env0 (hb s us I.kIn hl) r2 h) fun r s' hq => ?_)
  cases r with
  | error e => exact hx pins σ H s e s' I hq
  | ok fl =>
    cases fl with
    | ret u => exact I.after hq
    | next => exact False.elim hq
    | brk => exact False.elim hq
    | cont => exact False.elim hq

theorem pe_call (F : FnOk X.prog X.w X.K X.mg X.base CX k f fd ps sp) (hr : Room k X.A) (hg : Gl X x) (hm : X.mg x = some (.ref f)) (hk : PySem.W.keepIn X.K (.ref f) = true) (hb : Binds X.K fd ps ds) (hd : Vals dvs ds) (hx : Passes CX X E)
    (ha : PA X (e :: es) t) (hdb : (x == ("__debug__" : Str)) = false := by decide) (he : starEach (e :: es) X.env = (false, eval e X.env) :: starEach es X.env := by rfl) (hpl : (backTo pos (starEach es X.env)).any (·.1) = false := by rfl) :
    PE X (.Call (.Name x p) (e :: es) [] pos) (tCall sp dvs E t) := by
  intro pins s σ H Q I h
  refine wpAny_Call_Name_kw (ld_glob I hg hm ?_ hdb)
  refine PySem.W.callWith_K (h₀ := X.base) I.ok.mod.kin hk (thn (ha pos pins s σ H _ I h) fun us s1 ⟨vs, H1, I1, r, q⟩ => ⟨I1.kIn, ?_⟩) he hpl
  exact run_fn F hr hb hd hx I1 r q

/-- o.m(e, ..) -/
theorem pe_meth {pl : Sem Bool} (he : PE X o ta) (c : Cls X.K C) (hm : Meth X.K C m f) (F : FnOk X.prog X.w X.K X.mg X.base CX k f fd ps sp) (hr : Room k X.A) (hb : Binds X.K fd ps ds) (hd : Vals dvs ds) (hx : Passes CX X E) (ha : PA X (e :: es) t)
    (hst : starEach (e :: es) X.env = (false, eval e X.env) :: starEach es X.env := by rfl) (hpl : (backTo pos (starEach es X.env)).any (·.1) = false := by rfl)
    (ht : eval (.Call (.Attribute o m apos) (e :: es) [] pos) X.env = (do
      let ov ← eval o X.env
      standAt apos.atName
      let (f, first) ← holding [ov] (getMethod ov m pl)
      callWith pos f first (backTo pos (starEach (e :: es) X.env)) (backToKw pos (keywordEach [] X.env))) := by rfl) :
    PE X (.Call (.Attribute o m apos) (e :: es) [] pos) (tMeth C m sp dvs E ta t) := by
  intro pins s σ H Q I h
  refine PySem.W.methodCall_KW (pl := pl) (thn (he pins s σ H _ I h) fun u s1 ⟨x, H1, I1, rx, a, dx, fs, ex, ea, l, q⟩ => ?_) ht
  subst ex
  obtain rfl : u = Value.ref a := rx
  refine getmeth_ok I1 ea c hm l ?_
  refine PySem.W.callWith_K (first := [.ref a]) (h₀ := X.base) I.ok.mod.kin hm.kp (thn (ha pos pins s1 σ H1 _ I1 q) fun us s2 ⟨vs, H2, I2, r, q2⟩ => ⟨I2.kIn, ?_⟩) hst hpl
  exact run_fn (us := .ref a :: us) (vs := .ref a :: vs) F hr hb hd hx I2 (.cons rfl r) q2
/-- o.m() -/
theorem pe_meth0 {pl : Sem Bool} (he : PE X o ta) (c : Cls X.K C) (hm : Meth X.K C m f) (F : FnOk X.prog X.w X.K X.mg X.base CX k f fd ps sp) (hr : Room k X.A) (hb : Binds X.K fd ps ds) (hd : Vals dvs ds) (hx : Passes CX X E)
    (ht : eval (.Call (.Attribute o m apos) [] [] pos) X.env = (do
      let ov ← eval o X.env
      standAt apos.atName
      let (f, first) ← holding [ov] (getMethod ov m pl)
      callWith pos f first (backTo pos (starEach [] X.env)) (backToKw pos (keywordEach [] X.env))) := by rfl) :
    PE X (.Call (.Attribute o m apos) [] [] pos) (tMeth C m sp dvs E ta tNil) := by
  intro pins s σ H Q I h
  refine PySem.W.methodCall_KW (pl := pl) (thn (he pins s σ H _ I h) fun u s1 ⟨x, H1, I1, rx, a, dx, fs, ex, ea, l, q⟩ => ?_) ht
  subst ex
  obtain rfl : u = Value.ref a := rx
  refine getmeth_ok I1 ea c hm l ?_
  exact PySem.W.callWith_K0 (first := [.ref a]) I1.kIn hm.kp (run_fn (us := [.ref a]) (vs := [.ref a]) F hr hb hd hx I1 (.cons rfl .nil) q)

/-- what a class must have to be made -/
structure Mk (K : PySem.W.Frag) (C f : Addr) : Prop where
  makes : PySem.W.makesIn K C = true
  init : PySem.W.findIn K (.ref C) "__init__" = some (some (.ref f))
  fn : PySem.W.isFn K (.ref f) = true
  kp : PySem.W.keepIn K (.ref C) = true

theorem run_make {pins : List (Addr × Obj)} {σ : St} {H : Hp} {s : Shared} {Q : VK} {us : List Value} {vs : List V} (M : Mk X.K C f) (F : FnOk X.prog X.w X.K X.mg X.base CX k f fd ps sp) (hr : Room (k + 1) X.A) (hb : Binds X.K fd ps ds) (hd : Vals dvs ds)
    (hx : Passes CX X E) (I : Inv X pins σ H s) (r : Vals vs us)
    (h : ∀ x dx, H x = none → H dx = none → dx ≠ x → sp (.ref x :: (vs ++ dvs)) (upd (upd H dx (.own x)) x (.ins C dx [])) (fun v H2 => v = .non ∧ Q (.ref x) H2) E) :
    wpAny (model X.prog X.w) X.A (call (.ref C) us) (EP X pins σ Q) X.xe s := by
  have hq := h (s.heap.objs.size + 1) s.heap.objs.size (I.hok.fresh (Nat.le_succ _)) (I.hok.fresh (Nat.le_refl _)) (Nat.ne_of_lt (Nat.lt_succ_self _))
  have I2 := Inv.made (C := C) I
  have r2 : Vals (V.ref (s.heap.objs.size + 1) :: (vs ++ dvs)) (Value.ref (s.heap.objs.size + 1) :: (us ++ ds)) := .cons rfl (r.append hd)
  have hl : (Value.ref (s.heap.objs.size + 1) :: us ++ ds).length = ps.length := by
    have e := r2.length
    rw [F.len _ _ _ _ hq] at e
    exact e.symm
  refine wpAny_call (make_map (f := f) I.kIn M.makes M.init (beq_iff_eq.mp M.fn) (codeAny_mono (F.run _ X.stack _ _ ⟨Value.ref (s.heap.objs.size + 1) :: us, []⟩ (Value.ref (s.heap.objs.size + 1) :: (us ++ ds)) _ _ E (hr.make C us [])
    (I2.env0.make C us []) (hb _ (Value.ref (s.heap.objs.size + 1) :: us) I2.kIn hl) r2 hq) fun r s' hq' => ?_))
  cases r with
  | error e => exact hx pins σ _ _ e s' I2 hq'
  | ok fl =>
    cases fl with
    | ret u =>
      obtain ⟨v, H', I3, rv, ev, q3⟩ := I2.after hq'
      subst ev
      exact ⟨rv, ⟨V.ref (s.heap.objs.size + 1), H', I3, rfl, q3⟩⟩
    | next => exact False.elim hq'
    | brk => exact False.elim hq'
    | cont => exact False.elim hq'
theorem pe_make0 (M : Mk X.K C f) (F : FnOk X.prog X.w X.K X.mg X.base CX k f fd ps sp) (hr : Room (k + 1) X.A) (hg : Gl X x) (hm : X.mg x = some (.ref C)) (hb : Binds X.K fd ps ds) (hd : Vals dvs ds) (hx : Passes CX X E)
    (hdb : (x == ("__debug__" : Str)) = false := by decide) : PE X (.Call (.Name x p) [] [] pos) (tMake C sp dvs E tNil) := by
  intro pins s σ H Q I h
  refine wpAny_Call_Name_kw (ld_glob I hg hm ?_ hdb)
  exact PySem.W.callWith_K0 I.kIn M.kp (run_make (us := []) M F hr hb hd hx I .nil h)
end

/-! ### keywords -/
section
variable {X : Cx} {CX : CXT} {k : Nat} {f C : Addr} {fd : FuncData} {ps ks : List Str} {sp : Sp} {E : XK} {x m : Str} {p pos apos kpos : Pos} {e o : Expr} {es : List Expr} {kws : List Keyword} {te ta : TE} {t tk : TA} {nm : Option Str}

variable {g : List Value → List Value → List Value} {gV : List V → List V → List V}
end

/-! ### a def's body keeps its promise -/
/-- names: the parameters first -/
structure FnScope (N P : List Str) (sc : Scope) : Prop where
  kind : sc.kind = .function
  co : sc.isCoroutine = false
  gen : sc.isGenerator = false
  nd : N.Nodup
  pre : N.take P.length = P
  par : ∀ x ∈ P, sc.names.lookup x = some .local ∨ sc.names.lookup x = some .cell
  nofree : ∀ y ∈ sc.names, y.2 ≠ .free

theorem bindL_out {kindOf : Str → Option NameKind} {x : Str} : ∀ {binds : List (Str × Value)} {m : Str → Option Value}, (∀ v, (x, v) ∉ binds) → bindL kindOf binds m x = m x
  | [], _, _ => rfl
  | (n, v) :: r, m, h => by
    unfold bindL
    rw [bindL_out fun w hw => h w (List.mem_cons_of_mem _ hw)]
    split
    · have : x ≠ n := by rintro rfl; exact h v List.mem_cons_self
      simp [this]
    · rfl
theorem bindC_out {kindOf : Str → Option NameKind} {x : Str} : ∀ {binds : List (Str × Value)} {m : Str → Option Value}, (∀ v, (x, v) ∉ binds) → bindC kindOf binds m x = m x
  | [], _, _ => rfl
  | (n, v) :: r, m, h => by
    unfold bindC
    rw [bindC_out fun w hw => h w (List.mem_cons_of_mem _ hw)]
    split
    · rfl
    · have : x ≠ n := by rintro rfl; exact h v List.mem_cons_self
      simp [this]
theorem bindL_get {kindOf : Str → Option NameKind} {x : Str} {v : Value} : ∀ {P : List Str} {vs : List Value} {i : Nat} {m : Str → Option Value}, P.Nodup → P[i]? = some x → vs[i]? = some v → kindOf x = some .local →
    bindL kindOf (P.zip vs) m x = some v
  | [], _, _, _, _, h, _, _ => by simp at h
  | _ :: _, [], _, _, _, _, h, _ => by simp at h
  | p :: P, w :: vs, 0, m, nd, h1, h2, hk => by
    simp at h1 h2; subst h1; subst h2
    show bindL kindOf ((p, w) :: P.zip vs) m p = _
    unfold bindL
    rw [bindL_out fun v hv => (List.nodup_cons.mp nd).1 (List.of_mem_zip hv).1, if_pos hk]
    simp
  | p :: P, w :: vs, i + 1, m, nd, h1, h2, hk => by
    show bindL kindOf ((p, w) :: P.zip vs) m x = _
    unfold bindL
    exact bindL_get (i := i) (List.nodup_cons.mp nd).2 (by simpa using h1) (by simpa using h2) hk
theorem bindC_get {kindOf : Str → Option NameKind} {x : Str} {v : Value} : ∀ {P : List Str} {vs : List Value} {i : Nat} {m : Str → Option Value}, P.Nodup → P[i]? = some x → vs[i]? = some v → kindOf x ≠ some .local →
    bindC kindOf (P.zip vs) m x = some v
  | [], _, _, _, _, h, _, _ => by simp at h
  | _ :: _, [], _, _, _, _, h, _ => by simp at h
  | p :: P, w :: vs, 0, m, nd, h1, h2, hk => by
    simp at h1 h2; subst h1; subst h2
    show bindC kindOf ((p, w) :: P.zip vs) m p = _
    unfold bindC
    rw [bindC_out fun v hv => (List.nodup_cons.mp nd).1 (List.of_mem_zip hv).1, if_neg hk]
    simp
  | p :: P, w :: vs, i + 1, m, nd, h1, h2, hk => by
    show bindC kindOf ((p, w) :: P.zip vs) m x = _
    unfold bindC
    exact bindC_get (i := i) (List.nodup_cons.mp nd).2 (by simpa using h1) (by simpa using h2) hk

/-- the names' values at the entry -/
def start (N : List Str) (vs : List V) : St := vs.map some ++ List.replicate (N.length - vs.length) none

/-- the context of a def's body, at its entry; an exception leaves the frame, then lies as CX says -/
def cxOf (CX : CXT) (P : Program) (w : World) (K : PySem.W.Frag) (mg : Str → Option Value) (base : Heap) (N : List Str) (qual : Str) (scope : Scope) (f : Addr) (cd : Value) (A : Around) (outer : List Env) (s : Shared) (H : Hp) (E : XK) : Cx where
  prog := P
  w := w
  K := K
  mg := mg
  base := base
  A := A.deeper (envOfC qual scope s.heap.objs.size f cd)
  N := N
  s_0 := s
  H_0 := H
  env := envOfC qual scope s.heap.objs.size f cd
  outer := outer
  stack := envOfC qual scope s.heap.objs.size f cd :: outer
  ex := []
  calm := true
  fn := fun _ => true
  pn := []
  xe := fun e s' => wpAny (model P w) (A.deeper (envOfC qual scope s.heap.objs.size f cd)) (leaving (envOfC qual scope s.heap.objs.size f cd) e) (fun _ s'' => CX outer H s E e s'') (fun e' s'' => CX outer H s E e' s'') s'

theorem cell_has {sc : Scope} {n : Nat} {x : Str} (h : sc.names.lookup x = some .cell) : ∃ c, (cellsFrom n sc.names []).lookup x = some c := by
  have q := PySem.W.cellsFrom_some sc.names n [] (.inl h)
  exact Option.isSome_iff_exists.mp q

theorem inv_start {CX : CXT} {P : Program} {w : World} {K : PySem.W.Frag} {mg : Str → Option Value} {base : Heap} {N ps : List Str} {qual : Str} {scope : Scope} {f : Addr} {cd : Value} {A : Around} {outer : List Env} {s s1 : Shared} {H : Hp} {E : XK} {us : List Value} {vs : List V}
    (S : FnScope N ps scope) (hd : A.handled = none) (e0 : Env0 P w K mg base A outer s H) (hl : vs.length = ps.length) (r : Vals vs us)
    (x : InCallC s s.heap.objs.size (bindL (envOfC qual scope s.heap.objs.size f cd).kindOf (ps.zip us) fun _ => none) (cellsFrom (s.heap.objs.size + 1) scope.names []) (bindC (envOfC qual scope s.heap.objs.size f cd).kindOf (ps.zip us) fun _ => none) s1) :
    Inv (cxOf CX P w K mg base N qual scope f cd A outer s H E) [] (start N vs) H s1 := by
  have hpl : ps.length ≤ N.length := by have := congrArg List.length S.pre; rw [List.length_take] at this; omega
  obtain ⟨h1, tk, rfl, hk⟩ := x.done
  have noA : ∀ b : Addr, b ∉ (cxOf CX P w K mg base N qual scope f cd A outer s H E).ex := fun b z => absurd (show b ∈ ([] : List Addr) from z) (by simp)
  refine ⟨⟨e0.mod, S.kind, rfl, rfl, Nat.le_refl _, fun y z c h1 h2 => ?_, fun y hy => ?_, fun y c _ h => ?_, fun _ => hd, Around.frames_deeper e0.frames, .inr ⟨rfl, rfl⟩, fun b z => absurd z (noA b), e0.bs, e0.bsz, fun b _ _ => noA b, fun b z => absurd z (noA b), e0.funs, e0.frf⟩,
    rfl, e0.bare, Un.kept hk, ⟨_, x.toInCall.ns, fun i y v h1 h2 h3 => ?_⟩, fun y c h => ⟨_, x.cell y c h⟩, e0.hok.fresh (Nat.le_refl _), fun y c h => ?_, fun p hp => absurd (show p ∈ ([] : List (Addr × Obj)) from hp) (by simp), e0.hok.kept hk, ?_⟩
  · exact name_of_addr x.apart (PySem.mem_of_lookup h1) (PySem.mem_of_lookup h2)
  · have hy : scope.names.lookup y = some .cell ∨ scope.names.lookup y = some .free := hy
    rcases hy with hy | hy
    · exact cell_has hy
    · exact absurd rfl (S.nofree _ (PySem.mem_of_lookup hy))
  · exact Nat.le_of_lt (x.above y c (PySem.mem_of_lookup h))
  · have hi : i < vs.length := by
      unfold start at h2
      by_cases hi : i < vs.length
      · exact hi
      · rw [List.getElem?_append_right (by simpa using hi)] at h2
        rw [List.getElem?_replicate] at h2
        split at h2 <;> cases h2
    have ha : vs[i]? = some v := by
      unfold start at h2
      rw [List.getElem?_append_left (by simpa using hi), List.getElem?_map] at h2
      cases e : vs[i]? with
      | none => rw [e] at h2; cases h2
      | some a => rw [e] at h2; cases h2; rfl
    obtain ⟨u, hu, rv⟩ := r.get ha
    have hp : ps[i]? = some y := by
      rw [← S.pre, List.getElem?_take_of_lt (by omega)]; exact h1
    have ndP : ps.Nodup := by rw [← S.pre]; exact S.nd.sublist (List.take_sublist _ _)
    refine ⟨u, rv, ?_⟩
    rcases S.par y (List.mem_of_getElem? hp) with k | k
    · exact .inl ⟨k, bindL_get ndP hp hu k⟩
    · obtain ⟨c, e⟩ := cell_has (n := s.heap.objs.size + 1) k
      refine .inr ⟨.inl k, c, e, ?_⟩
      have q := x.cell y c e
      rw [bindC_get ndP hp hu (by show scope.names.lookup y ≠ _; rw [k]; decide)] at q
      exact q
  · exact e0.hok.fresh (Nat.le_of_lt (x.above y c (PySem.mem_of_lookup h)))
  · unfold start
    show _ = N.length
    rw [List.length_append, List.length_map, List.length_replicate]
    omega

/-- THE RULE: a def (or a method) of the text, by its body. The body's reading t is chosen for each entry; it is run at the parameters' values -/
theorem fn_of {CX : CXT} {P : Program} {w : World} {K : PySem.W.Frag} {mg : Str → Option Value} {base : Heap} {k : Nat} {f : Addr} {name qual : Str} {params : Arguments} {body : List Stmt} {scope : Scope} {dV kV doc pm cdv ct oc : Value} {an od : Option Addr}
    {osl : Array (Option Value)} {N ps : List Str} {sp : Sp} (lk : K.lookup f = some ⟨oc, od, .func (PySem.W.fnOf name qual params body scope dV kV doc pm an cdv ct), osl⟩) (hcd : PySem.W.codeIn K cdv qual = true) (S : FnScope N ps scope)
    (len : ∀ vs H Q E, sp vs H Q E → vs.length = ps.length)
    (hbody : ∀ (A : Around) (outer : List Env) (s : Shared) (H : Hp) (vs : List V) (Q : VK) (E : XK), Room k (A.deeper (envOfC qual scope s.heap.objs.size f cdv)) → sp vs H Q E →
      ∃ t, PSs (cxOf CX P w K mg base N qual scope f cdv A outer s H E) body t ∧ t { nx := fun _ H' => Q .non H', rt := Q } (start N vs) H) :
    FnOk P w K mg base CX (k + 1) f (PySem.W.fnOf name qual params body scope dV kV doc pm an cdv ct) ps sp := by
  refine ⟨len, fun A outer s H args us vs Q E hr e0 hb r hsp => ?_⟩
  have hl := len _ _ _ _ hsp
  have KX : K.In s.heap := e0.mod.kin.keeps fun b o e => (e0.bs b o e).1
  have lim : s.heap.NoLimit := e0.mod.nolimit.keeps fun b o e => (e0.bs b o e).1
  have hkind : ∀ y ∈ ps.zip us, scope.names.lookup y.1 = some .local ∨ (scope.names.lookup y.1 = some .cell ∧ ((cellsFrom (s.heap.objs.size + 1) scope.names []).lookup y.1).isSome = true) := fun ⟨n, v⟩ hy => by
    rcases S.par n (List.of_mem_zip hy).1 with q | q
    · exact .inl q
    · exact .inr ⟨q, PySem.W.cellsFrom_some _ _ _ (.inl q)⟩
  refine codeAny_call_function hr.depth (KX _ _ lk) rfl S.co S.gen rfl (PySem.W.codeRec_of KX hcd) (hb _ _ _ _ ?_)
  refine wpAny_newFunctionEnv_cells S.kind hkind fun env he s1 x => ?_
  subst he
  refine ⟨lim.keeps x.toInCall.keep, codeAny_func ?_⟩
  obtain ⟨t, ht, hq⟩ := hbody A outer s H vs Q E (hr.deeper _) hsp
  have I : Inv (cxOf CX P w K mg base N qual scope f cdv A outer s H E) [] (start N vs) H s1 := inv_start S hr.hd e0 hl r x
  refine wpAny_mono (ht [] s1 (start N vs) H _ I hq) (fun fl s' hs => ?_) fun e s' hs => hs
  have fin : ∀ {σ' : St} {H' : Hp} {v : V} {u : Value}, Inv (cxOf CX P w K mg base N qual scope f cdv A outer s H E) [] σ' H' s' → RelV v u → Q v H' → CE outer P w H s Q u s' :=
    fun {σ' H' v u} J rv q => ⟨v, H', J.os, J.bare, J.base, J.hok, rv, q⟩
  cases fl with
  | ret u =>
    obtain ⟨v, σ', H', J, rv, q⟩ := hs
    exact fin J rv q
  | next =>
    obtain ⟨σ', H', J, q⟩ := hs
    exact fin (v := V.non) (u := Value.none) J rfl q
  | brk =>
    obtain ⟨_, _, _, q⟩ := hs
    exact False.elim q
  | cont =>
    obtain ⟨_, _, _, q⟩ := hs
    exact False.elim q
end L2

namespace L2
open PySem PySem.Spec PyProof.Rows
section
variable {X : Cx} {x : Str} {p pos : Pos} {e : Expr} {es : List Expr} {t : TA} {id T : String} {r : List V → Hp → VK → Prop}

def tCB (r : List V → Hp → VK → Prop) (t : TA) : TE := fun σ H Q => t σ H fun vs H1 => r vs H1 Q
/-- f(e, ..), f a built-in function -/
theorem pe_callB (hc : CallR X (.builtin id) r) (hg : Gl X x) (hm : X.mg x = none) (hv : bootBuiltins x = some (.builtin id)) (ha : PA X (e :: es) t) (hn : x ≠ "__name__" := by decide) (hdb : (x == ("__debug__" : Str)) = false := by decide)
    (he : starEach (e :: es) X.env = (false, eval e X.env) :: starEach es X.env := by rfl) (hpl : (backTo pos (starEach es X.env)).any (·.1) = false := by rfl) : PE X (.Call (.Name x p) (e :: es) [] pos) (tCB r t) := by
  intro pins s σ H Q I h
  refine wpAny_Call_Name_kw (ld_blt I hg hm hv ?_ hn hdb)
  exact PyProof.Rows.callWith_builtin1 (thn (ha pos pins s σ H _ I h) fun us s1 ⟨vs, H1, I1, r1, q1⟩ => hc pins s1 σ H1 vs us Q I1 r1 q1) he hpl
/-- T(e, ..), T a built-in type -/
theorem pe_callTy (hc : CallR X (.type T) r) (hg : Gl X x) (hm : X.mg x = none) (hv : bootBuiltins x = some (.type T)) (ha : PA X (e :: es) t) (hn : x ≠ "__name__" := by decide) (hdb : (x == ("__debug__" : Str)) = false := by decide)
    (he : starEach (e :: es) X.env = (false, eval e X.env) :: starEach es X.env := by rfl) (hpl : (backTo pos (starEach es X.env)).any (·.1) = false := by rfl) : PE X (.Call (.Name x p) (e :: es) [] pos) (tCB r t) := by
  intro pins s σ H Q I h
  refine wpAny_Call_Name_kw (ld_blt I hg hm hv ?_ hn hdb)
  exact PyProof.Rows.callWith_type1 (thn (ha pos pins s σ H _ I h) fun us s1 ⟨vs, H1, I1, r1, q1⟩ => hc pins s1 σ H1 vs us Q I1 r1 q1) he hpl
end
end L2

namespace HT
open PySem PyProof.Rows

section
open PySem.SeqAt
open PySem.AutoSeq1 (wpAny_loadPart')
open PySem.MeetsSeq PySem.MeetsSeq2 PySem.MeetsSeq3

end

section
variable {prog : Program} {w : World} {A : Around} {E : Value → Shared → Prop} {s : Shared}

/-- t + u, t not empty -/
theorem cat_tup {t b : Addr} {vs ws : List Value} {Q : Value → Shared → Prop} (ht : IsTup s.heap t vs.toArray) (hb : IsTup s.heap b ws.toArray) (hv : vs ≠ [])
    (h1 : ws = [] → Q (.ref t) s) (h2 : ws ≠ [] → Q (.ref s.heap.objs.size) { s with heap := s.heap.push { cls := .type "tuple", data := .seq (vs ++ ws).toArray } })
    (hsz : vs.length + ws.length ≤ sizeLine) : wpAny (model prog w) A (binaryOp .Add (.ref t) (.ref b)) Q E s := by
  obtain ⟨⟨cls, dd, data, sl⟩, ho, hc, n, hd⟩ := id ht
  obtain ⟨⟨cls2, dd2, data2, sl2⟩, ho2, hc2, n2, hd2⟩ := id hb
  simp only at hc hd hc2 hd2
  subst hc hd hc2 hd2
  have e : vs.toArray ++ ws.toArray = (vs ++ ws).toArray := by simp
  by_cases hw : ws = []
  · exact concat_meets ⟨_, ho, rfl⟩ ⟨_, ho2, rfl⟩ noFill_tuple_add seq_tuple_add PySem.F.slot_tuple_add PySem.F.entry_tuple_add (PySem.F.args_tuple_add_2 _ _)
      (tuple_addW1 t b vs.toArray ws.toArray n n2 dd dd2 sl sl2 (by simpa using hv) (by simp [hw])) ⟨ho, ho2, h1 hw⟩
  · refine concat_meets ⟨_, ho, rfl⟩ ⟨_, ho2, rfl⟩ noFill_tuple_add seq_tuple_add PySem.F.slot_tuple_add PySem.F.entry_tuple_add (PySem.F.args_tuple_add_2 _ _)
      (tuple_addW2 t b vs.toArray ws.toArray n n2 dd dd2 sl sl2 (by simpa using hv) (by simpa using hw) (by rw [List.size_toArray, List.size_toArray]; exact hsz)) ⟨ho, ho2, ?_⟩
    rw [e]
    exact h2 hw

/-! ### t[a:b], not the whole -/
/-- a slice's bound as a place among n (d where it is left out) -/
def sIx (n d : Nat) : Option Int → Nat
  | none => d
  | some v => if v < 0 then (v + (n : Int)).toNat else min v.toNat n
theorem sIx_nat (n d k : Nat) : sIx n d (some (k : Int)) = min k n := by
  show (if (k : Int) < 0 then ((k : Int) + (n : Int)).toNat else min (k : Int).toNat n) = min k n
  rw [if_neg (by omega), Int.toNat_natCast]
theorem sIx_le (n d : Nat) (hd : d ≤ n) (o : Option Int) : sIx n d o ≤ n := by
  cases o with
  | none => exact hd
  | some v =>
    show (if v < 0 then (v + (n : Int)).toNat else min v.toNat n) ≤ n
    by_cases hv : v < 0
    · rw [if_pos hv]; omega
    · rw [if_neg hv]; exact Nat.min_le_right _ _
theorem clip_eq (v : Int) (n d : Nat) : (if v < 0 then max (v + (n : Int)) 0 else min v (n : Int)) = ((sIx n d (some v) : Nat) : Int) := by
  show (if v < 0 then max (v + (n : Int)) 0 else min v (n : Int)) = (((if v < 0 then (v + (n : Int)).toNat else min v.toNat n) : Nat) : Int)
  by_cases hv : v < 0
  · simp only [if_pos hv]; omega
  · simp only [if_neg hv]; omega
theorem adjust_gen (lo hi : Option Int) (n : Nat) : Builtin.Slice.sliceAdjust lo hi 1 (n : Int) = (((sIx n 0 lo : Nat) : Int), ((sIx n n hi : Nat) : Int)) := by
  have h1 : ¬ ((1 : Int) < 0) := by omega
  unfold Builtin.Slice.sliceAdjust
  simp only [h1, if_false]
  refine Prod.ext ?_ ?_
  · cases lo with
    | none => rfl
    | some v => exact clip_eq v n 0
  · cases hi with
    | none => rfl
    | some v => exact clip_eq v n n
theorem places_gen (i j : Nat) : Builtin.Slice.slicePlaces (i : Int) (j : Int) 1 = j - i := by
  unfold Builtin.Slice.slicePlaces
  have h1 : (1 : Int) > 0 := by omega
  simp only [h1, if_true, Int.ediv_one]
  split <;> omega
theorem slicePart_ {v : Value} {o : Option Int} {Q : Option Int → Shared → Prop} (p : IsPart v o) (h : Q o s) : wpAny (model prog w) A (Builtin.Slice.slicePartIndex v) Q E s := by
  cases p with
  | none => exact slicePart_none h
  | int i t => exact slicePart_int h
theorem sliceApplied_gen {sl : Addr} {vl vu : Value} {lo hi : Option Int} {n : Nat} {Q : Int × Int × Nat → Shared → Prop} (hs : s.heap.IsSliceOf sl vl vu .none) (pl : IsPart vl lo) (pu : IsPart vu hi)
    (h : Q (((sIx n 0 lo : Nat) : Int), 1, sIx n n hi - sIx n 0 lo) s) : wpAny (model prog w) A (Builtin.Slice.sliceApplied (.ref sl) (pure (n : Int))) Q E s := by
  obtain ⟨os, hos, hcs, hds⟩ := id hs
  unfold Builtin.Slice.sliceApplied Builtin.Slice.sliceFields
  refine wpAny_bind (wpAny_bind (wpAny_field hos hds (x := vl) rfl (wpAny_bind (wpAny_field hos hds (x := vu) rfl (wpAny_bind (wpAny_field hos hds (x := .none) rfl (wpAny_pure ?_)))))))
  refine wpAny_bind (slicePart_none ?_)
  show wpAny _ _ (if ((1 : Int) == 0) = true then _ else _) _ _ s
  rw [if_neg (by decide)]
  refine wpAny_bind (slicePart_ pl (wpAny_bind (slicePart_ pu (wpAny_bind (wpAny_pure ?_)))))
  show wpAny _ _ (match Builtin.Slice.sliceAdjust lo hi 1 (n : Int) with | (lo, hi) => pure (lo, (1 : Int), Builtin.Slice.slicePlaces lo hi 1)) _ _ s
  rw [adjust_gen lo hi n]
  show wpAny _ _ (pure (((sIx n 0 lo : Nat) : Int), (1 : Int), Builtin.Slice.slicePlaces ((sIx n 0 lo : Nat) : Int) ((sIx n n hi : Nat) : Int) 1)) _ _ s
  rw [places_gen]
  exact wpAny_pure h
theorem pick_gen (xs : Array Value) (i k : Nat) : ((List.range k).filterMap fun (m : Nat) => xs[((i : Int) + (m : Int) * 1).toNat]?).toArray = ((xs.toList.drop i).take k).toArray := by
  have e : (fun (m : Nat) => xs[((i : Int) + (m : Int) * 1).toNat]?) = fun m => xs[i + m]? := by
    funext m
    have : ((i : Int) + (m : Int) * 1).toNat = i + m := by omega
    rw [this]
  rw [e]
  have := pick_run xs i k
  rw [List.filterMap_map] at this
  have e2 : ((fun x => xs[x]?) ∘ fun x => i + x) = fun m => xs[i + m]? := rfl
  rw [e2] at this
  rw [this]

theorem getItem_tuple_cut {t sl : Addr} {items : Array Value} {vl vu : Value} {lo hi : Option Int} {Q : Value → Shared → Prop} (ht : IsTup s.heap t items) (hs : s.heap.IsSliceOf sl vl vu .none) (pl : IsPart vl lo) (pu : IsPart vu hi)
    (hw : ¬ (sIx items.size 0 lo = 0 ∧ sIx items.size items.size hi = items.size))
    (h : Q (.ref s.heap.objs.size) { s with heap := s.heap.push { cls := .type "tuple", data := .seq ((items.toList.drop (sIx items.size 0 lo)).take (sIx items.size items.size hi - sIx items.size 0 lo)).toArray } })
    (hsz : items.size ≤ sizeLine) : wpAny (model prog w) A (getItem (.ref t) (.ref sl)) Q E s := by
  have htake : sizeOk (.seq ((items.toList.drop (sIx items.size 0 lo)).take (sIx items.size items.size hi - sIx items.size 0 lo)).toArray) := by
    show ((items.toList.drop (sIx items.size 0 lo)).take (sIx items.size items.size hi - sIx items.size 0 lo)).toArray.size ≤ sizeLine
    rw [List.size_toArray, List.length_take, List.length_drop, Array.length_toList]
    omega
  have hj : sIx items.size items.size hi ≤ items.size := sIx_le _ _ (Nat.le_refl _) hi
  obtain ⟨os, hos, hcs, hds⟩ := id hs
  have hTs : s.TypeIs (.ref sl) "slice" := ⟨os, hos, hcs⟩
  unfold getItem
  try with_reducible refine wpAny_holding ?_
  first | refine wpAny_bind (wpAny_pure ?_) | skip
  refine wpAny_bind (wpAny_sequenceKey ht.typeIs (by decide) ?_)
  refine wpAny_bind (wpAny_callSpecial?_slot (name := Str.ofString "__getitem__") ht.typeIs PyProof.Rows.slot_tuple_getitem
    (wpAny_call_entry PyProof.Rows.slot_tuple_getitem ht.typeIs entry_tuple_getitem ?_ (args_tuple_getitem _ _)))
  show wpAny _ _ (Builtin.Tuple.tupleItemsOf (.ref t) >>= _) _ _ s
  refine wpAny_bind (tupleItemsOf_ ht ?_)
  refine wpAny_bind (wpAny_typeOf hTs ?_)
  rw [if_pos (by decide)]
  refine wpAny_bind (sliceApplied_gen hs pl pu ?_)
  have hno : ¬ ((((sIx items.size 0 lo : Nat) : Int) == 0 && (1 : Int) == 1 && (sIx items.size items.size hi - sIx items.size 0 lo) == items.size) = true) := by
    intro q
    rw [Bool.and_eq_true, Bool.and_eq_true] at q
    have q1 : ((sIx items.size 0 lo : Nat) : Int) = 0 := eq_of_beq q.1.1
    have q2 : sIx items.size items.size hi - sIx items.size 0 lo = items.size := eq_of_beq q.2
    exact hw ⟨by omega, by omega⟩
  show wpAny _ _ (if (((sIx items.size 0 lo : Nat) : Int) == 0 && (1 : Int) == 1 && (sIx items.size items.size hi - sIx items.size 0 lo) == items.size) = true then _ else _) _ _ s
  rw [if_neg hno, pick_gen]
  first
    | exact wpAny_bind (m := Builtin.Tuple.tupleExact _) (wpAny_newObj_type (wpAny_pure ⟨_, rfl, wpAny_pure h⟩) htake)
    | exact wpAny_bind (m := Builtin.Tuple.tupleExact _) (wpAny_newObj_type (wpAny_bind (wpAny_pure (wpAny_pure ⟨_, rfl, wpAny_pure h⟩))) htake)
    | exact wpAny_bind (wpAny_bind (m := Builtin.Tuple.tupleExact _) (wpAny_newObj_type (wpAny_pure (wpAny_pure ⟨_, rfl, wpAny_pure h⟩)) htake))
    | exact wpAny_bind (wpAny_bind (m := Builtin.Tuple.tupleExact _) (wpAny_newObj_type (wpAny_pure ⟨_, rfl, wpAny_pure h⟩) htake))
end
end HT

namespace L2
open PySem PySem.Spec PyProof.Rows

/-! ### the parts of a slice -/
abbrev TO := St → Hp → (Option Int → Hp → Prop) → Prop
/-- a slice's part (left out, or an int) -/
def PO (X : Cx) (e : Option Expr) (t : TO) : Prop :=
  ∀ (pins : List (Addr × Obj)) (s : Shared) (σ : St) (H : Hp) (Q : Option Int → Hp → Prop), Inv X pins σ H s → t σ H Q →
    wpAny (model X.prog X.w) X.A (evalPart e X.env) (fun u s' => ∃ o H', Inv X pins σ H' s' ∧ IsPart u o ∧ Q o H') X.xe s
def tNoPart : TO := fun _ H Q => Q none H
def tPart (t : TE) : TO := fun σ H Q => t σ H fun x H1 => ∃ i, x = .int i ∧ Q (some i) H1

section
variable {X : Cx} {e : Expr} {te : TE} {lo hi : Option Expr} {tl th : TO} {pos p2 : Pos}

theorem po_none : PO X none tNoPart := by
  intro pins s σ H Q I h
  rw [evalPart_none]
  exact wpAny_pure ⟨none, H, I, .none, h⟩
theorem po_some (h : PE X e te) : PO X (some e) (tPart te) := by
  intro pins s σ H Q I hw
  rw [evalPart_some]
  refine thn (h pins s σ H _ I hw) fun u s1 ⟨x, H1, I1, r1, q1⟩ => ?_
  obtain ⟨i, rfl, q⟩ := q1
  obtain ⟨t, rfl⟩ := r1
  exact ⟨some i, H1, I1, .int i t, q⟩

/-- what a slice of a value is, by values: the slice object stands at sl -/
def SlR (X : Cx) (r : V → Option Int → Option Int → Hp → VK → Prop) : Prop :=
  ∀ (pins : List (Addr × Obj)) (s : Shared) (σ : St) (H : Hp) (x : V) (v vl vu : Value) (lo hi : Option Int) (sl : Addr) (Q : VK), Inv X pins σ H s → RelV x v → s.heap.IsSliceOf sl vl vu .none → IsPart vl lo → IsPart vu hi → r x lo hi H Q →
    ∃ T id, typeLookup (.type T) "__getitem__" = pure (some (.builtin id)) ∧ s.TypeIs v T ∧ wpAny (model X.prog X.w) X.A (getItem v (.ref sl)) (EP X pins σ Q) X.xe s
def tSl (r : V → Option Int → Option Int → Hp → VK → Prop) (te : TE) (tl th : TO) : TE := fun σ H Q => te σ H fun x H1 => tl σ H1 fun l H2 => th σ H2 fun u H3 => r x l u H3 Q
/-- a[lo:hi], any a -/
theorem pe_slice {r : V → Option Int → Option Int → Hp → VK → Prop} (hr : SlR X r) (he : PE X e te) (hl : PO X lo tl) (hu : PO X hi th) : PE X (.Subscript e (.Slice lo hi none p2) pos) (tSl r te tl th) := by
  intro pins s σ H Q I h
  refine Subscript_ (thn (he pins s σ H _ I h) fun v s1 ⟨x, H1, I1, r1, q1⟩ => ?_)
  refine wpAny_Slice (thn (hl pins s1 σ H1 _ I1 q1) fun vl s2 ⟨l, H2, I2, pl, q2⟩ => thn (hu pins s2 σ H2 _ I2 q2) fun vu s3 ⟨u, H3, I3, pu, q3⟩ => ?_)
  rw [evalPart_none]
  refine wpAny_pure ?_
  have I4 : Inv X pins σ H3 { s3 with heap := s3.heap.push { cls := .type "slice", data := .fields #[vl, vu, .none] } } := I3.kept (t' := s3.toks) fun b ob q => Heap.get?_push_of_some _ q
  obtain ⟨T, id, hT, ht, hg⟩ := hr pins { s3 with heap := s3.heap.push { cls := .type "slice", data := .fields #[vl, vu, .none] } } σ H3 x v vl vu l u s3.heap.objs.size Q I4 r1 (Heap.IsSliceOf.new ..) pl pu q3
  show wpAny (model X.prog X.w) X.A (subscriptTail e (.Slice lo hi none p2) v (.ref s3.heap.objs.size)) (EP X pins σ Q) X.xe { s3 with heap := s3.heap.push { cls := .type "slice", data := .fields #[vl, vu, .none] } }
  exact tail_any (ops := [.ref s3.heap.objs.size, v]) ht hT hg (by with_unfolding_all rfl)

/-- the items of xs[lo:hi] -/
def cutV (xs : List V) (lo hi : Option Int) : List V := (xs.drop (HT.sIx xs.length 0 lo)).take (HT.sIx xs.length xs.length hi - HT.sIx xs.length 0 lo)
theorem cutV_length (xs : List V) (lo hi : Option Int) : (cutV xs lo hi).length ≤ xs.length := by
  unfold cutV
  rw [List.length_take, List.length_drop]
  omega
/-- t[lo:hi], not the whole of it (the whole would be t itself) -/
def rSlT (K : PySem.W.Frag) : V → Option Int → Option Int → Hp → VK → Prop := fun x lo hi H Q => ∃ a xs, x = .ref a ∧ SqT K H a xs ∧
  ¬ (HT.sIx xs.length 0 lo = 0 ∧ HT.sIx xs.length xs.length hi = xs.length) ∧ ∀ p, H p = none → Q (.ref p) (upd H p (.tup (cutV xs lo hi)))
theorem sl_tup : SlR X (rSlT X.K) := by
  intro pins s σ H x v vl vu lo hi sl Q I rx hs pl pu h
  obtain ⟨a, xs, rfl, hx, hw, q⟩ := h
  cases rx
  obtain ⟨its, r, ht, hz⟩ := I.tuple hx
  have hlen : its.toArray.size = xs.length := by rw [List.size_toArray]; exact r.length.symm
  refine ⟨"tuple", _, PyProof.Rows.slot_tuple_getitem.lookup, ht.typeIs, ?_⟩
  refine HT.getItem_tuple_cut ht hs pl pu (by rw [hlen]; exact hw) ?_ (by rw [hlen]; exact hz)
  rw [hlen]
  refine ⟨.ref s.heap.objs.size, _, I.laid (t' := s.toks) (o := .tup (cutV xs lo hi)) (fun b ob q => Heap.get?_push_of_some _ q) (Nat.le_refl _) ?_, rfl, q _ (I.hok.fresh (Nat.le_refl _))⟩
  exact ⟨Nat.le_trans (cutV_length xs lo hi) hz, _, (r.drop (HT.sIx xs.length 0 lo)).take (HT.sIx xs.length xs.length hi - HT.sIx xs.length 0 lo), IsTup.new _ _⟩

/-! ### t < u, t + u -/
/-- t + u, t not empty: u empty gives t itself -/
def rCatT (K : PySem.W.Frag) : R2 := fun x y H Q => ∃ a b xs ys, x = .ref a ∧ y = .ref b ∧ SqT K H a xs ∧ SqT K H b ys ∧ xs ≠ [] ∧ xs.length + ys.length ≤ sizeLine ∧
  (ys = [] → Q (.ref a) H) ∧ (ys ≠ [] → ∀ p, H p = none → Q (.ref p) (upd H p (.tup (xs ++ ys))))
theorem Vals.nil_iff {xs : List V} {us : List Value} (r : Vals xs us) : us = [] ↔ xs = [] := by
  cases r with
  | nil => simp
  | cons _ _ => simp
theorem op_catT : OpR X (binaryOp .Add) (rCatT X.K) := by
  intro pins s σ H x y v u Q I rx ry h
  obtain ⟨a, b, xs, ys, rfl, rfl, ha, hb, hx, hz, q1, q2⟩ := h
  cases rx
  cases ry
  obtain ⟨its, r1, p1, _⟩ := I.tuple ha
  obtain ⟨its2, r2, p2, _⟩ := I.tuple hb
  refine HT.cat_tup p1 p2 (fun z => hx (r1.nil_iff.mp z)) (fun z => ⟨.ref a, H, I, rfl, q1 (r2.nil_iff.mp z)⟩) (fun z => ?_) (by rw [← r1.length, ← r2.length]; exact hz)
  refine ⟨.ref s.heap.objs.size, _, I.laid (t' := s.toks) (o := .tup (xs ++ ys)) (fun b ob q => Heap.get?_push_of_some _ q) (Nat.le_refl _) ?_, rfl, q2 (fun w => z (r2.nil_iff.mpr w)) _ (I.hok.fresh (Nat.le_refl _))⟩
  exact ⟨by rw [List.length_append]; exact hz, _, r1.append r2, IsTup.new _ _⟩
end
end L2

namespace L2
open PySem PySem.Spec PyProof.Rows

/-! ### places -/
/-- the place that an index of any sign means -/
def ixN (n : Nat) (i : Int) : Option Nat := if 0 ≤ i then (if i < n then some i.toNat else none) else if -(n : Int) ≤ i then some (i + n).toNat else none
def atI {α : Type} (xs : List α) (i : Int) : Option α := (ixN xs.length i).bind fun j => xs[j]?
theorem ixN_seq {n : Nat} {i : Int} {j : Nat} (h : ixN n i = some j) : seqIndex? i n = some j ∧ j < n ∧ -(n : Int) ≤ i ∧ i < n := by
  unfold ixN at h
  by_cases h0 : 0 ≤ i
  · rw [if_pos h0] at h
    by_cases h1 : i < n
    · rw [if_pos h1] at h
      have e : i.toNat = j := Option.some.inj h
      exact ⟨by rw [seqIndex_of h0 h1, e], by omega, by omega, h1⟩
    · rw [if_neg h1] at h; cases h
  · rw [if_neg h0] at h
    by_cases h1 : -(n : Int) ≤ i
    · rw [if_pos h1] at h
      have e : (i + n).toNat = j := Option.some.inj h
      exact ⟨by rw [seqIndex_neg (by omega) h1, e], by omega, h1, by omega⟩
    · rw [if_neg h1] at h; cases h
theorem atI_get {α : Type} {xs : List α} {i : Int} {v : α} (h : atI xs i = some v) : ∃ j, seqIndex? i xs.length = some j ∧ xs[j]? = some v ∧ j < xs.length ∧ -(xs.length : Int) ≤ i ∧ i < xs.length := by
  unfold atI at h
  cases e : ixN xs.length i with
  | none => rw [e] at h; cases h
  | some j =>
    rw [e] at h
    obtain ⟨h1, h2, h3, h4⟩ := ixN_seq e
    exact ⟨j, h1, h, h2, h3, h4⟩
theorem atI_nat {α : Type} {xs : List α} {j : Nat} {v : α} (h : xs[j]? = some v) : atI xs (j : Int) = some v := by
  have hj : j < xs.length := (List.getElem?_eq_some_iff.mp h).1
  have e : ixN xs.length (j : Int) = some j := by
    unfold ixN
    rw [if_pos (by omega), if_pos (by omega)]; simp
  unfold atI; rw [e]; exact h

/-! ### what may be subscripted -/
/-- what stands as an index of a plain subscript -/
def PlainIx (b : Expr) : Prop := ∀ o i, subscripted b false o i = operate [o, i] (getItem o i)
/-- a subscript by values -/
def IxR (X : Cx) (r : R2) : Prop :=
  ∀ (value slice : Expr) (pins : List (Addr × Obj)) (s : Shared) (σ : St) (H : Hp) (x y : V) (v u : Value) (Q : VK), Inv X pins σ H s → RelV x v → RelV y u → r x y H Q →
    subscripted slice false v u = operate [v, u] (getItem v u) → wpAny (model X.prog X.w) X.A (subscriptTail value slice v u) (EP X pins σ Q) X.xe s
/-- a call of a builtin's method by values: the receiver, the arguments -/
def MtR (X : Cx) (id : String) (r : V → List V → Hp → VK → Prop) : Prop :=
  ∀ (pins : List (Addr × Obj)) (s : Shared) (σ : St) (H : Hp) (x : V) (xs : List V) (v : Value) (us : List Value) (Q : VK), Inv X pins σ H s → RelV x v → Vals xs us → r x xs H Q →
    wpAny (model X.prog X.w) X.A (call (.builtin id) (v :: us)) (EP X pins σ Q) X.xe s
section
variable {X : Cx} {a b : Expr} {ta tb : TE} {pos : Pos}
/-- a[b] -/
theorem pe_ix {r : R2} (hr : IxR X r) (ha : PE X a ta) (hb : PE X b tb) (hs : PlainIx b) : PE X (.Subscript a b pos) (tOp r ta tb) := by
  intro pins s σ H Q I h
  exact Subscript_ (binT ha hb I h fun v u s2 x y H2 I2 rx ry q => hr a b pins s2 σ H2 x y v u Q I2 rx ry q (hs _ _))

def rIxL (K : PySem.W.Frag) : R2 := fun x y H Q => ∃ p xs i v, x = .ref p ∧ y = .int i ∧ SqL K H p xs ∧ atI xs i = some v ∧ Q v H
def rIxT (K : PySem.W.Frag) : R2 := fun x y H Q => ∃ p xs i v, x = .ref p ∧ y = .int i ∧ SqT K H p xs ∧ atI xs i = some v ∧ Q v H
theorem ix_list : IxR X (rIxL X.K) := by
  intro value slice pins s σ H x y v u Q I rx ry h hs
  obtain ⟨p, xs, i, z, rfl, rfl, hq, he, q⟩ := h
  cases rx
  obtain ⟨t, rfl⟩ := ry
  obtain ⟨its, r, pl, hz⟩ := I.list hq
  obtain ⟨j, h1, h2, h3, h4, h5⟩ := atI_get he
  obtain ⟨w, ew, rw'⟩ := r.get h2
  have hl := r.length
  have hn := line63
  have fin : EP X pins σ Q w s := ⟨z, H, I, rw', q⟩
  by_cases h0 : 0 ≤ i
  · have hj : i.toNat = j := by
      rw [seqIndex_of h0 h5] at h1
      exact Option.some.inj h1
    exact item_listR pl.isList h0 (by omega) (by rw [hj]; simpa using ew) fin hs
  · have hj : (i + (its.toArray.size : Int)).toNat = j := by
      rw [seqIndex_neg (by omega) h4] at h1
      rw [List.size_toArray, ← hl]
      exact Option.some.inj h1
    exact subscriptTail_builtinR (x := w) pl.isList.typeIs slot_list_getitem.lookup
      (wpAny_getItem_list_neg (Q := fun r s' => r = w ∧ EP X pins σ Q r s') pl.isList (by omega) (by rw [List.size_toArray] <;> omega) (by omega) (by rw [hj]; simpa using ew) ⟨rfl, fin⟩) hs
theorem ix_tup : IxR X (rIxT X.K) := by
  intro value slice pins s σ H x y v u Q I rx ry h hs
  obtain ⟨p, xs, i, z, rfl, rfl, hq, he, q⟩ := h
  cases rx
  obtain ⟨t, rfl⟩ := ry
  obtain ⟨its, r, pl, hz⟩ := I.tuple hq
  obtain ⟨j, h1, h2, h3, h4, h5⟩ := atI_get he
  obtain ⟨w, ew, rw'⟩ := r.get h2
  have hl := r.length
  have hn := line63
  have fin : EP X pins σ Q w s := ⟨z, H, I, rw', q⟩
  exact subscriptTail_builtinR (x := w) pl.typeIs slot_tuple_getitem.lookup
    (getItem_tuple (j := j) (Q := fun r s' => r = w ∧ EP X pins σ Q r s') pl (by omega) (by omega) (by rw [List.size_toArray, ← hl]; exact h1) (by simpa using ew) ⟨rfl, fin⟩) hs

/-! ### xs[i] = v, any sign -/

/-! ### slices -/
theorem slice_bounds (lo hi : Option Int) (n : Nat) : (sliceBounds lo hi none n).1 = ((HT.sIx n 0 lo : Nat) : Int) ∧ (sliceBounds lo hi none n).2.1 = ((HT.sIx n n hi : Nat) : Int) ∧ (sliceBounds lo hi none n).2.2 = 1 := by
  refine ⟨?_, ?_, rfl⟩
  · cases lo with
    | none => simp [sliceBounds, HT.sIx]
    | some i =>
      simp only [sliceBounds, HT.sIx, Option.getD_none, show (1 : Int) > 0 by decide, if_true]
      by_cases h : i < 0
      · simp only [h, if_true] <;> omega
      · simp only [h, if_false] <;> omega
  · cases hi with
    | none => simp [sliceBounds, HT.sIx]
    | some i =>
      simp only [sliceBounds, HT.sIx, Option.getD_none, show (1 : Int) > 0 by decide, if_true]
      by_cases h : i < 0
      · simp only [h, if_true] <;> omega
      · simp only [h, if_false] <;> omega
theorem slicePick_cut (its : List Value) (lo hi : Option Int) : slicePick its.toArray lo hi none = ((its.drop (HT.sIx its.length 0 lo)).take (HT.sIx its.length its.length hi - HT.sIx its.length 0 lo)).toArray := by
  obtain ⟨h1, h2, h3⟩ := slice_bounds lo hi its.toArray.size
  unfold slicePick
  rw [h1, h2, h3]
  simp only [sliceRange_one, pick_run, List.size_toArray] <;> rfl
/-- xs[lo:hi] of a list: a new list -/
def rSlL (K : PySem.W.Frag) : V → Option Int → Option Int → Hp → VK → Prop := fun x lo hi H Q => ∃ a xs, x = .ref a ∧ SqL K H a xs ∧ ∀ p, H p = none → Q (.ref p) (upd H p (.lst (cutV xs lo hi)))
theorem sl_list : SlR X (rSlL X.K) := by
  intro pins s σ H x v vl vu lo hi sl Q I rx hs pl pu h
  obtain ⟨a, xs, rfl, hx, q⟩ := h
  cases rx
  obtain ⟨its, r, ht, hz⟩ := I.list hx
  have hlen := r.length
  refine ⟨"list", _, slot_list_getitem.lookup, ht.isList.typeIs, ?_⟩
  refine wpAny_getItem_list_slice ht.isList hs pl pu .none (by simp) ?_ (by rw [List.size_toArray] <;> omega)
  rw [slicePick_cut, ← hlen]
  refine ⟨.ref s.heap.objs.size, _, I.laid (t' := s.toks) (o := .lst (cutV xs lo hi)) (fun b ob q => Heap.get?_push_of_some _ q) (Nat.le_refl _) ?_, rfl, q _ (I.hok.fresh (Nat.le_refl _))⟩
  exact ⟨Nat.le_trans (cutV_length xs lo hi) hz, _, 0, (r.drop (HT.sIx xs.length 0 lo)).take (HT.sIx xs.length xs.length hi - HT.sIx xs.length 0 lo), Heap.get?_push_size _ rfl⟩

/-! ### in, not in: flat items -/

/-! ### len, list(x), tuple(x) of any list or tuple that is read -/
theorem call_len_seq : CallR X (.builtin "len") (fun xs H Q => ∃ p ys, xs = [.ref p] ∧ (SqL X.K H p ys ∨ SqT X.K H p ys) ∧ Q (.int ys.length) H) := by
  intro pins s σ H xs us Q I r h
  obtain ⟨p, ys, rfl, hq, q⟩ := h
  obtain ⟨u, rfl, rx⟩ := vals1 r
  cases rx
  have hn := line63
  rcases hq with hq | hq
  · obtain ⟨its, r', pl, hz⟩ := I.list hq
    have hlen := r'.length
    exact Calls.call_len_list pl.isList (by simp only [List.size_toArray] <;> omega) ⟨.int ys.length, H, I.tok _, ⟨s.toks + 1, by rw [List.size_toArray, hlen]⟩, q⟩
  · obtain ⟨its, r', pl, hz⟩ := I.tuple hq
    have hlen := r'.length
    exact len_tuple pl (by simp only [List.size_toArray] <;> omega) ⟨.int ys.length, H, I.tok _, ⟨s.toks + 1, by rw [List.size_toArray, hlen]⟩, q⟩
theorem call_list_of : CallR X (.type "list") (fun xs H Q => ∃ p ys, xs = [.ref p] ∧ (SqL X.K H p ys ∨ SqT X.K H p ys) ∧ ∀ l, H l = none → Q (.ref l) (upd H l (.lst ys))) := by
  intro pins s σ H xs us Q I r h
  obtain ⟨p, ys, rfl, hq, q⟩ := h
  obtain ⟨u, rfl, rx⟩ := vals1 r
  cases rx
  have fin : ∀ (its : List Value), Vals ys its → ys.length ≤ sizeLine → ∀ (h' : Heap) (c' : Nat), (∀ b o', s.heap.get? b = some o' → h'.get? b = some o') →
      h'.get? s.heap.objs.size = some { cls := .type "list", dict := none, data := .seq its.toArray c', slots := #[] } → EP X pins σ Q (.ref s.heap.objs.size) { s with heap := h' } := fun its r' hz h' c' kp e =>
    ⟨.ref s.heap.objs.size, _, I.laid (t' := s.toks) kp (Nat.le_refl _) (show ObjOk X.prog X.w _ h' _ (.lst ys) from ⟨hz, its, c', r', e⟩), rfl, q _ (I.hok.fresh (Nat.le_refl _))⟩
  rcases hq with hq | hq
  · obtain ⟨its, r', pl, hz⟩ := I.list hq
    have hlen := r'.length
    obtain ⟨o, ho, hc, n, hd⟩ := pl.isList
    exact call_list_seq p (.inl rfl) ho hc hd (fun h' c' kp e => fin its r' hz h' c' kp e) (by simp only [List.size_toArray] <;> omega)
  · obtain ⟨its, r', pl, hz⟩ := I.tuple hq
    have hlen := r'.length
    obtain ⟨o, ho, hc, n, hd⟩ := pl
    exact call_list_seq p (.inr rfl) ho hc hd (fun h' c' kp e => fin its r' hz h' c' kp e) (by simp only [List.size_toArray] <;> omega)

/-! ### the call of a builtin's method: o.m(..) -/
/-- the value is of that builtin type -/
def tyV (K : PySem.W.Frag) (T : String) (x : V) (H : Hp) : Prop := match x with
  | .str _ => T = "str"
  | .int _ => T = "int"
  | .ref p => (T = "list" ∧ ∃ xs, SqL K H p xs) ∨ (T = "tuple" ∧ ∃ o, K.lookup p = some o ∧ o.cls = .type "tuple" ∧ o.dict = none) ∨
      (T = "dict" ∧ ((∃ kvs, H p = some (.dK kvs)) ∨ ∃ kvs, H p = some (.dT kvs))) ∨ (T = "set" ∧ ∃ S n, H p = some (.set S n))
  | _ => False
theorem tyV_is {pins : List (Addr × Obj)} {σ : St} {H : Hp} {s : Shared} {T : String} {x : V} {v : Value} (I : Inv X pins σ H s) (r : RelV x v) (ty : tyV X.K T x H) :
    s.TypeIs v T ∧ ∀ a, v = .ref a → ∃ ob, s.heap.get? a = some ob ∧ ob.dict = none := by
  cases x with
  | str z =>
    obtain ⟨t, rfl⟩ := r
    cases (show T = "str" from ty)
    exact ⟨typeIs_str s z t, fun _ e => nomatch e⟩
  | int i =>
    obtain ⟨t, rfl⟩ := r
    cases (show T = "int" from ty)
    exact ⟨typeIs_int s i t, fun _ e => nomatch e⟩
  | ref p =>
    cases r
    rcases ty with ⟨rfl, xs, hq⟩ | ⟨rfl, o, hk, hc, hd⟩ | ⟨rfl, hk⟩ | ⟨rfl, S, n, hk⟩
    · obtain ⟨its, _, pl, _⟩ := I.list hq
      refine ⟨pl.isList.typeIs, fun a e => ?_⟩
      cases e
      obtain ⟨o, n, e, c, hd, _⟩ := pl
      exact ⟨o, e, hd⟩
    · refine ⟨⟨o, I.kIn p o hk, hc⟩, fun a e => ?_⟩
      cases e
      exact ⟨o, I.kIn _ o hk, hd⟩
    · have z : ∃ o, s.heap.get? p = some o ∧ o.ExactDict := by
        rcases hk with ⟨kvs, hk⟩ | ⟨kvs, hk⟩
        · obtain ⟨_, _, _, _, o, _, _, e, ex, _⟩ := I.hok p _ hk
          exact ⟨o, e, ex⟩
        · obtain ⟨_, _, _, _, o, _, _, e, ex, _⟩ := I.hok p _ hk
          exact ⟨o, e, ex⟩
      obtain ⟨o, e, ex⟩ := z
      refine ⟨⟨o, e, ex.1⟩, fun a e2 => ?_⟩
      cases e2
      exact ⟨o, e, ex.2.1⟩
    · obtain ⟨o, _, _, _, e, ex, _⟩ := I.hok p _ hk
      refine ⟨⟨o, e, ex.1⟩, fun a e2 => ?_⟩
      cases e2
      exact ⟨o, e, ex.2.1⟩
  | _ => exact False.elim ty
def tBM (K : PySem.W.Frag) (T : String) (r : V → List V → Hp → VK → Prop) (to : TE) (t : TA) : TE := fun σ H Q => to σ H fun x H1 => tyV K T x H1 ∧ t σ H1 fun xs H2 => r x xs H2 Q
variable {o e : Expr} {es : List Expr} {to : TE} {t : TA} {name : Str} {apos cpos : Pos} {T id : String} {r : V → List V → Hp → VK → Prop}
theorem pe_bm (pa : PlainAttrs T) (slot : Slot T name id) (hty : typeOf (.builtin id) = pure (.type "method_descriptor")) (hm : MtR X id r) (ho : PE X o to) (ha : PA X (e :: es) t)
    (hbase : attributeBase o name X.env (eval o X.env) = eval o X.env := by rfl)
    (hfew : ((backTo cpos (starEach (e :: es) X.env)).all (fun x => !x.1) && (backToKw cpos (keywordEach [] X.env)).all (fun x => x.1.isSome)
      && decide ((e :: es).length + ([] : List Keyword).length + (if ([] : List Keyword).isEmpty then 0 else 1) < 30)) = true := by rfl)
    (hline : (apos.endLine == cpos.line) = true := by rfl) (hs : starEach (e :: es) X.env = (false, eval e X.env) :: starEach es X.env := by rfl) (hplain : (backTo cpos (starEach es X.env)).any (·.1) = false := by rfl) :
    PE X (.Call (.Attribute o name apos) (e :: es) [] cpos) (tBM X.K T r to t) := by
  intro pins s σ H Q I h
  refine wpAny_Call_method_late hbase hfew hline rfl (thn (ho pins s σ H _ I h) fun v s1 ⟨x, H1, I1, r1, ty, q1⟩ => ?_)
  obtain ⟨h1, h2⟩ := tyV_is I1 r1 ty
  refine ⟨T, id, pa, slot, hty, h1, h2, ?_⟩
  have hA := ha cpos pins s1 σ H1 _ I1 q1
  rw [hs] at hA ⊢
  refine Calls.callWith_builtin (by show (false || (backTo cpos (starEach es X.env)).any (·.1)) = false; rw [hplain] <;> rfl) (Calls.evalArgs_plain ?_)
  exact thn hA fun us s2 ⟨vs, H2, I2, r2, q2⟩ => hm pins s2 σ H2 x vs v us Q I2 r1 r2 q2
/- xs.append(e), list.index on a module's tuple .. are MtR facts of 06m -/
end
end L2

namespace L2
open PySem PySem.Spec PyProof.Rows

def MtM (X : Cx) (id : String) (r : V → List V → Hp → VK → Prop) : Prop :=
  ∀ (pins : List (Addr × Obj)) (s : Shared) (σ : St) (H : Hp) (x : V) (xs : List V) (v : Value) (us : List Value) (Q : VK), Inv X pins σ H s → RelV x v → Vals xs us → r x xs H Q →
    wpAny (model X.prog X.w) X.A (call (.builtin id) (v :: us)) (EP X pins σ Q) X.xe s

/-! ### lists of values -/
theorem Vals.one : ∀ {x : V} {us : List Value}, Vals [x] us → ∃ u, us = [u] ∧ RelV x u
  | _, _, .cons r .nil => ⟨_, rfl, r⟩

section
variable {X : Cx} {pins : List (Addr × Obj)} {σ : St} {H : Hp} {s : Shared} {l b : Addr} {xs ys zs : List V}

/-! ### the two steps: a tracked list is rewritten, a new list is laid -/
theorem Inv.lset {its its' : List Value} {n : Nat} {f : Array Value → Array Value} {t' : Nat} (I : Inv X pins σ H s) (hH : H l = some (.lst xs))
    (e : s.heap.get? l = some { cls := .type "list", data := .seq its.toArray n }) (hf : f its.toArray = its'.toArray) (hv : Vals ys its') (hz : ys.length ≤ sizeLine) :
    Inv X pins σ (upd H l (.lst ys)) { s with heap := s.heap.update l (Obj.mapSeq f), toks := t' } := by
  have q := PySem.IsL.update e f
  rw [hf] at q
  refine I.write (x := l) (e := l) (by rw [hH]; exact trivial) (.inl rfl) (fun b' u hb hu => (Heap.get?_update_other s.heap (Obj.mapSeq f) (Ne.symm hb)).trans hu) ⟨_, q⟩ ?_
  exact ⟨hz, its', _, hv, q⟩
theorem Inv.lnew {its : List Value} {t' : Nat} (I : Inv X pins σ H s) (hv : Vals ys its) (hz : ys.length ≤ sizeLine) :
    Inv X pins σ (upd H s.heap.objs.size (.lst ys)) { s with heap := s.heap.push { cls := .type "list", data := .seq its.toArray }, toks := t' } :=
  I.laid (fun _ _ q => Heap.get?_push_of_some _ q) (Nat.le_refl _) ⟨hz, its, 0, hv, Heap.get?_push_size _ rfl⟩
theorem Inv.fresh (I : Inv X pins σ H s) : H s.heap.objs.size = none := I.hok.fresh (Nat.le_refl _)
theorem Inv.lstM (I : Inv X pins σ H s) (hH : H l = some (.lst xs)) : xs.length ≤ sizeLine ∧ ∃ (its : List Value) (n : Nat), Vals xs its ∧ xs.length = its.length ∧ s.heap.get? l = some { cls := .type "list", data := .seq its.toArray n } := by
  obtain ⟨z, its, n, r, e⟩ := I.hok l _ hH
  exact ⟨z, its, n, r, r.length, e⟩

theorem notLongL {n : Nat} (h : n ≤ sizeLine) : Builtin.List.listTooLong n = false := by
  unfold Builtin.List.listTooLong
  exact decide_eq_false (by omega)
end

section
variable {X : Cx}

/-! ### methods -/
def rAppend : V → List V → Hp → VK → Prop := fun x vs H Q => ∃ l xs y, x = .ref l ∧ vs = [y] ∧ H l = some (.lst xs) ∧ xs.length < sizeLine ∧ Q .non (upd H l (.lst (xs ++ [y])))
theorem mt_append : MtM X "list.append" rAppend := by
  intro pins s σ H x vs v us Q I rx rv h
  obtain ⟨l, xs, y, rfl, rfl, hH, hz, q⟩ := h
  cases rx
  obtain ⟨u, rfl, ru⟩ := rv.one
  obtain ⟨z, its, n, r, hl, e⟩ := I.lstM hH
  refine call_meets F.slot_list_append ⟨_, e, rfl⟩ F.entry_list_append (F.args_list_append_2 _ _) (PySem.list_append l its.toArray n u (by rw [List.size_toArray]; omega)) ⟨e, ?_⟩
  refine ⟨.non, _, I.lset (its' := its ++ [u]) hH e (by simp) (r.append (.cons ru .nil)) ?_, rfl, q⟩
  rw [List.length_append, List.length_singleton]
  omega

def rExtend : V → List V → Hp → VK → Prop := fun x vs H Q => ∃ l b xs zs, x = .ref l ∧ vs = [.ref b] ∧ H l = some (.lst xs) ∧ H b = some (.lst zs) ∧ xs.length + zs.length ≤ sizeLine ∧ Q .non (upd H l (.lst (xs ++ zs)))
theorem mt_extend : MtM X "list.extend" rExtend := by
  intro pins s σ H x vs v us Q I rx rv h
  obtain ⟨l, b, xs, zs, rfl, rfl, hH, hB, hz, q⟩ := h
  cases rx
  obtain ⟨u, rfl, ru⟩ := rv.one
  cases ru
  obtain ⟨z, its, n, r, hl, e⟩ := I.lstM hH
  obtain ⟨z2, its2, n2, r2, hl2, e2⟩ := I.lstM hB
  have hsz : its.toArray.size + its2.toArray.size ≤ sizeLine := by rw [List.size_toArray, List.size_toArray]; omega
  have hlong : ¬ (!its.toArray.isEmpty && Builtin.List.listTooLong (its.toArray.size + its2.toArray.size)) = true := by
    rw [notLongL hsz, Bool.and_false]
    exact Bool.false_ne_true
  refine call_meets F.slot_list_extend ⟨_, e, rfl⟩ F.entry_list_extend (F.args_list_extend_2 _ _)
    (AutoSeq1.list_extend_list_list_0 l its.toArray n b its2.toArray n2 hlong (by rw [List.size_toArray]; omega) (by omega)) ⟨e, e2, ?_⟩
  refine ⟨.non, _, I.lset (its' := its ++ its2) hH e (by simp) (r.append r2) ?_, rfl, q⟩
  rw [List.length_append]
  omega

/-! ### list + list, list += list, list * int -/
def rCat : R2 := fun x y H Q => ∃ l b xs zs, x = .ref l ∧ y = .ref b ∧ H l = some (.lst xs) ∧ H b = some (.lst zs) ∧ xs.length + zs.length ≤ sizeLine ∧ ∀ p, H p = none → Q (.ref p) (upd H p (.lst (xs ++ zs)))
theorem op_cat : OpR X (binaryOp .Add) rCat := by
  intro pins s σ H x y v u Q I rx ry h
  obtain ⟨l, b, xs, zs, rfl, rfl, hH, hB, hz, q⟩ := h
  cases rx
  cases ry
  obtain ⟨z, its, n, r, hl, e⟩ := I.lstM hH
  obtain ⟨z2, its2, n2, r2, hl2, e2⟩ := I.lstM hB
  refine PySem.P.add_list e e2 ?_ (by rw [List.size_toArray, List.size_toArray]; omega)
  have ea : its.toArray ++ its2.toArray = (its ++ its2).toArray := by simp
  rw [ea]
  exact ⟨.ref _, _, I.lnew (t' := s.toks) (r.append r2) (by rw [List.length_append]; omega), rfl, q _ I.fresh⟩

/-! ### del xs[i] -/
end

/-! ### xs[a:b] = ys -/
section
variable {prog : Program} {w : World} {A : Around} {E : Value → Shared → Prop} {s : Shared}
set_option maxRecDepth 100000 in
end

section
variable {X : Cx}
end
end L2

namespace L2
open PySem PySem.Spec PyProof.Rows

theorem Vals.ints : ∀ {ns : List Int} {us : List Value}, Vals (ns.map V.int) us → IntsAre us ns
  | [], us, h => by
    rw [List.map_nil] at h
    cases h
    exact IntsAre.nil
  | n :: ns, us, h => by
    rw [List.map_cons] at h
    cases h with
    | cons r t =>
      obtain ⟨k, rfl⟩ := r
      exact IntsAre.cons n k (Vals.ints t)
theorem Vals.ref1 {a : Addr} {us : List Value} (r : Vals [V.ref a] us) : us = [Value.ref a] := by
  cases r with
  | cons r t =>
    cases t
    cases r
    rfl

/-! ### the library's walks over a list of ints, kept objects alone -/
section
variable {prog : Program} {w : World} {A : Around} {E : Value → Shared → Prop} {s : Shared} {l : Addr} {its : List Value} {ns : List Int} {Q : Value → Shared → Prop}
theorem max_raw (hh : A.handled = none) (hl : s.heap.IsList l its.toArray) (hi : IntsAre its ns) (hne : 0 < ns.length)
    (h : ∀ h' tk M t', (∀ b o, s.heap.get? b = some o → h'.get? b = some o) → M ∈ ns → (∀ a, a ∈ ns → a ≤ M) → Q (.int M t') { s with heap := h', toks := tk }) : wpAny (model prog w) A (call (.builtin "max") [.ref l]) Q E s := by
  obtain ⟨xs, e⟩ := hi.allInts.items
  have hn : numsOf (intItems xs).toList = ns := by rw [← e]; exact hi.numsOf
  rw [nums_intItems] at hn
  subst hn
  rw [e] at hl
  have hsz : 0 < xs.size := by simpa using hne
  refine PySem.max_intList hh hl hsz fun v h' tk hv hk => ?_
  obtain ⟨t, rfl⟩ := intItems_at hv
  obtain ⟨h1, h2⟩ := argBest_gt (numAt xs) (xs.size - 1)
  refine h h' tk _ t hk ?_ fun a ha => ?_
  · rw [numAt_eq]; exact PySem.getD_mem (by rw [List.length_map, Array.length_toList]; omega)
  · obtain ⟨j, hj, rfl⟩ := mem_getD ha
    rw [List.length_map, Array.length_toList] at hj
    rw [← numAt_eq]; exact h2 j (by omega)
end

/-! ### the calls, by values (CallR of 03t; MtR of 06l) -/
section
variable {X : Cx}
/-- max(xs), min(xs) of a list of ints -/
def rMax (K : PySem.W.Frag) : List V → Hp → VK → Prop := fun vs H Q => ∃ (a : Addr) (ns : List Int), vs = [V.ref a] ∧ SqL K H a (ns.map V.int) ∧ 0 < ns.length ∧ ∀ m, m ∈ ns → (∀ y, y ∈ ns → y ≤ m) → Q (.int m) H
theorem cr_max (hc : X.calm = true) : CallR X (.builtin "max") (rMax X.K) := by
  intro pins s σ H vs us Q I r h
  obtain ⟨a, ns, rfl, hs, hne, q⟩ := h
  obtain ⟨its, rv, hl, _⟩ := I.list hs
  rw [Vals.ref1 r]
  exact max_raw (I.ok.hd hc) hl.isList rv.ints hne fun h' tk m t' hk h1 h2 => ⟨.int _, H, I.kept hk, ⟨_, rfl⟩, q m h1 h2⟩

/-! sorted, sort (fewer than 64 items: the library's own bound) -/
end

/-! ### list.index, flat items -/
section
variable {X : Cx}
end

/-! ### type(x) of an own instance; is, is not of a module's class -/
section
variable {X : Cx}
end

/-! ### any(xs), all(xs) of a list of bools -/
section
variable {X : Cx}
end

/-! ### == and != of data at any depth: none, bools, ints, texts, lists, tuples -/
mutual
inductive Dp (K : PySem.W.Frag) (H : Hp) : V → PyData → Prop
  | non : Dp K H .non .none
  | bl (b : Bool) : Dp K H (.bl b) (.bool b)
  | int (i : Int) : Dp K H (.int i) (.int i)
  | str (x : Str) : Dp K H (.str x) (.str x)
  | lst {a : Addr} {xs : List V} {ds : List PyData} : SqL K H a xs → DpAll K H xs ds → Dp K H (.ref a) (.list ds)
  | tup {a : Addr} {xs : List V} {ds : List PyData} : SqT K H a xs → DpAll K H xs ds → Dp K H (.ref a) (.tuple ds)
inductive DpAll (K : PySem.W.Frag) (H : Hp) : List V → List PyData → Prop
  | nil : DpAll K H [] []
  | cons {v : V} {vs : List V} {d : PyData} {ds : List PyData} : Dp K H v d → DpAll K H vs ds → DpAll K H (v :: vs) (d :: ds)
end
section
variable {X : Cx} {pins : List (Addr × Obj)} {σ : St} {H : Hp} {s : Shared}
mutual
theorem Dp.reads (I : Inv X pins σ H s) : ∀ (d : PyData) (v : V) (u : Value), Dp X.K H v d → RelV v u → ∃ as, Reads s.heap u d as
  | .none, _, _, h, r => by
    cases h
    cases r
    exact ⟨_, Reads.none⟩
  | .bool b, _, _, h, r => by
    cases h
    cases r
    exact ⟨_, Reads.bool b⟩
  | .int i, _, _, h, r => by
    cases h
    obtain ⟨t, rfl⟩ := r
    exact ⟨_, Reads.int i t⟩
  | .str x, _, _, h, r => by
    cases h
    obtain ⟨t, rfl⟩ := r
    exact ⟨_, Reads.str x t⟩
  | .list ds, _, _, h, r => by
    cases h with
    | lst hs ha =>
      cases r
      obtain ⟨its, rv, ⟨o, n, ho, hc, _, hd⟩, _⟩ := I.list hs
      obtain ⟨as, hr⟩ := Dp.readsAll I ds _ its ha rv
      exact ⟨_, Reads.list ho hc hd hr⟩
  | .tuple ds, _, _, h, r => by
    cases h with
    | tup hs ha =>
      cases r
      obtain ⟨its, rv, ⟨o, ho, hc, n, hd⟩, _⟩ := I.tuple hs
      obtain ⟨as, hr⟩ := Dp.readsAll I ds _ its ha rv
      exact ⟨_, Reads.tuple ho hc hd hr⟩
  | .dict _, _, _, h, _ => by cases h
theorem Dp.readsAll (I : Inv X pins σ H s) : ∀ (ds : List PyData) (vs : List V) (us : List Value), DpAll X.K H vs ds → Vals vs us → ∃ as, ReadsAll s.heap us ds as
  | [], _, _, h, r => by
    cases h
    cases r
    exact ⟨_, ReadsAll.nil⟩
  | d :: ds, _, _, h, r => by
    cases h with
    | cons h1 h2 =>
      cases r with
      | cons r1 r2 =>
        obtain ⟨as, q1⟩ := Dp.reads I d _ _ h1 r1
        obtain ⟨bs, q2⟩ := Dp.readsAll I ds _ _ h2 r2
        exact ⟨_, ReadsAll.cons q1 q2⟩
end
end
section
variable {X : Cx}
def rEqD (K : PySem.W.Frag) : R2 := fun x y H Q => ∃ d e, Dp K H x d ∧ Dp K H y e ∧ SeqAt.shaped d = true ∧ SeqAt.shaped e = true ∧ Q (.bl (PyData.eqv d e)) H
theorem op_eqD (hu : X.A.units + 64 < cLine) : OpR X (compareOp .Eq) (rEqD X.K) := by
  intro pins s σ H x y v u Q I rx ry h
  obtain ⟨d, e, hd, he, sd, se, q⟩ := h
  obtain ⟨as, r1⟩ := Dp.reads I d x v hd rx
  obtain ⟨bs, r2⟩ := Dp.reads I e y u he ry
  exact SeqAt.compareEq_shaped r1 r2 sd se hu ⟨.bl _, H, I, rfl, q⟩
end
end L2

namespace L2
open PySem PySem.Spec PyProof.Rows
abbrev CellAt (h : Heap) (c : Addr) (v : Option Value) : Prop := h.IsCell c v
def relS (scope sc : Scope) : Scope :=
  { scope with names := scope.names.map fun (n, k) => if (k == .free && sc.kind == .function && sc.names.lookup n == some .cell) then (n, .cell) else (n, k) }

def cloFrom (cells : List (Str × Addr)) : List (Str × NameKind) → List (Str × Addr) → List (Str × Addr)
  | [], acc => acc
  | (n, k) :: r, acc => if k == .free then cloFrom cells r ((n, (cells.lookup n).getD 0) :: acc) else cloFrom cells r acc

theorem closure_loop (env : Env) (f : Str × NameKind → List (Str × Addr) → Sem (ForInStep (List (Str × Addr))))
    (hf : ∀ n k c, f (n, k) c = if k == .free then (do let a ← cellOf env n; pure (.yield ((n, a) :: c))) else pure (.yield c)) :
    ∀ (names : List (Str × NameKind)) (acc : List (Str × Addr)), (∀ y ∈ names, y.2 = .free → ∃ c, env.cells.lookup y.1 = some c) → forIn names acc f = pure (cloFrom env.cells names acc)
  | [], acc, _ => by rw [List.forIn_nil]; rfl
  | (n, k) :: r, acc, h => by
    rw [List.forIn_cons, hf]
    have ih := fun acc => closure_loop env f hf r acc fun y hy => h y (List.mem_cons_of_mem _ hy)
    unfold cloFrom
    by_cases hk : (k == NameKind.free) = true
    · rw [if_pos hk, if_pos hk]
      obtain ⟨c, hc⟩ := h (n, k) List.mem_cons_self (by simpa using hk)
      have e : cellOf env n = pure c := by unfold cellOf; rw [hc]
      rw [e]
      have e2 : (env.cells.lookup n).getD 0 = c := by rw [hc]; rfl
      rw [e2]
      exact ih _
    · rw [if_neg hk, if_neg hk]
      exact ih _
theorem closure_ok {scope : Scope} {env : Env} (h : ∀ y ∈ scope.names, y.2 = .free → ∃ c, env.cells.lookup y.1 = some c) : closureFor scope env = pure (cloFrom env.cells scope.names []) := by
  simp only [closureFor]
  rw [closure_loop env _ (fun n k c => rfl) scope.names [] h]
  rfl

theorem mem_lookup {α : Type} : ∀ {l : List (Str × α)} {n : Str} {c : α}, (n, c) ∈ l → ∃ c', l.lookup n = some c'
  | (k, v) :: r, n, c, h => by
    rw [List.lookup_cons]
    cases hb : n == k with
    | true => exact ⟨_, rfl⟩
    | false =>
      rcases List.mem_cons.mp h with e | h
      · cases e; simp at hb
      · exact mem_lookup h

theorem cloFrom_mem {cells : List (Str × Addr)} : ∀ {names : List (Str × NameKind)} {acc : List (Str × Addr)} {n : Str} {c : Addr}, (n, c) ∈ cloFrom cells names acc → (n, c) ∈ acc ∨ ((n, .free) ∈ names ∧ c = (cells.lookup n).getD 0)
  | [], _, _, _, h => .inl h
  | (m, k) :: r, acc, n, c, h => by
    unfold cloFrom at h
    split at h
    · rename_i hk
      have hk : k = .free := by simpa using hk
      rcases cloFrom_mem h with h | ⟨h1, h2⟩
      · rcases List.mem_cons.mp h with e | h
        · cases e; exact .inr ⟨hk ▸ List.mem_cons_self, rfl⟩
        · exact .inl h
      · exact .inr ⟨List.mem_cons_of_mem _ h1, h2⟩
    · rcases cloFrom_mem h with h | ⟨h1, h2⟩
      · exact .inl h
      · exact .inr ⟨List.mem_cons_of_mem _ h1, h2⟩
theorem cloFrom_acc {cells : List (Str × Addr)} : ∀ {names : List (Str × NameKind)} {acc : List (Str × Addr)} {p : Str × Addr}, p ∈ acc → p ∈ cloFrom cells names acc
  | [], _, _, h => h
  | (m, k) :: r, acc, p, h => by
    unfold cloFrom
    split
    · exact cloFrom_acc (List.mem_cons_of_mem _ h)
    · exact cloFrom_acc h
theorem cloFrom_has {cells : List (Str × Addr)} : ∀ {names : List (Str × NameKind)} {acc : List (Str × Addr)} {n : Str}, (n, .free) ∈ names → (n, (cells.lookup n).getD 0) ∈ cloFrom cells names acc
  | (m, k) :: r, acc, n, h => by
    unfold cloFrom
    rcases List.mem_cons.mp h with e | h
    · cases e
      exact cloFrom_acc List.mem_cons_self
    · split
      · exact cloFrom_has h
      · exact cloFrom_has h

theorem cells_mem : ∀ {names : List (Str × NameKind)} {h : Heap} {acc : List (Str × Addr)} {x : Str} {c : Addr}, (x, c) ∈ cellsFrom h.objs.size names acc →
    (x, c) ∈ acc ∨ ((x, .cell) ∈ names ∧ h.objs.size ≤ c ∧ CellAt (pushCells h names) c none)
  | [], _, _, _, _, h => .inl h
  | (n, k) :: r, h, acc, x, c, hm => by
    unfold cellsFrom at hm
    unfold pushCells
    split at hm
    · rename_i hk
      rw [if_pos hk]
      have hk : k = .cell := by simpa using hk
      rw [← Heap.size_push h { cls := .type "cell", data := .cell none }] at hm
      rcases cells_mem hm with hm | ⟨h1, h2, h3⟩
      · rcases List.mem_cons.mp hm with e | hm
        · cases e
          exact .inr ⟨hk ▸ List.mem_cons_self, Nat.le_refl _, _, pushCells_keeps r _ _ _ (Heap.get?_push_size _ rfl), rfl⟩
        · exact .inl hm
      · rw [Heap.size_push] at h2
        exact .inr ⟨List.mem_cons_of_mem _ h1, Nat.le_of_succ_le h2, h3⟩
    · rename_i hk
      rw [if_neg hk]
      rcases cells_mem hm with hm | ⟨h1, h2, h3⟩
      · exact .inl hm
      · exact .inr ⟨List.mem_cons_of_mem _ h1, h2, h3⟩
theorem cells_acc : ∀ {names : List (Str × NameKind)} {n : Nat} {acc : List (Str × Addr)} {p : Str × Addr}, p ∈ acc → p ∈ cellsFrom n names acc
  | [], _, _, _, h => h
  | (m, k) :: r, n, acc, p, h => by
    unfold cellsFrom
    split
    · exact cells_acc (List.mem_cons_of_mem _ h)
    · exact cells_acc h
theorem cells_has : ∀ {names : List (Str × NameKind)} {n : Nat} {acc : List (Str × Addr)} {x : Str}, (x, .cell) ∈ names → ∃ c, (x, c) ∈ cellsFrom n names acc
  | (m, k) :: r, n, acc, x, h => by
    unfold cellsFrom
    rcases List.mem_cons.mp h with e | h
    · cases e
      exact ⟨n, cells_acc List.mem_cons_self⟩
    · split
      · exact cells_has h
      · exact cells_has h
theorem cells_inj : ∀ {names : List (Str × NameKind)} {h : Heap} {acc : List (Str × Addr)} {x y : Str} {c : Addr}, (∀ p ∈ acc, p.2 < h.objs.size) → (∀ x y c, (x, c) ∈ acc → (y, c) ∈ acc → x = y) →
    (x, c) ∈ cellsFrom h.objs.size names acc → (y, c) ∈ cellsFrom h.objs.size names acc → x = y
  | [], _, _, _, _, _, _, hi, h1, h2 => hi _ _ _ h1 h2
  | (n, k) :: r, h, acc, x, y, c, hl, hi, h1, h2 => by
    unfold cellsFrom at h1 h2
    split at h1
    · rename_i hk
      rw [if_pos hk] at h2
      rw [← Heap.size_push h { cls := .type "cell", data := .cell none }] at h1 h2
      refine cells_inj (h := h.push _) (fun p hp => ?_) (fun x y c a b => ?_) h1 h2
      · rw [Heap.size_push]
        rcases List.mem_cons.mp hp with rfl | hp
        · exact Nat.lt_succ_self _
        · exact Nat.lt_succ_of_lt (hl p hp)
      · rcases List.mem_cons.mp a with e | a <;> rcases List.mem_cons.mp b with e' | b
        · cases e; cases e'; rfl
        · cases e; exact absurd (hl _ b) (Nat.lt_irrefl _)
        · cases e'; exact absurd (hl _ a) (Nat.lt_irrefl _)
        · exact hi _ _ _ a b
    · rename_i hk
      rw [if_neg hk] at h2
      exact cells_inj hl hi h1 h2

theorem newEnv_comp {M : Model} {A : Around} {E : Value → Shared → Prop} {s : Shared} {scope : Scope} {globals : Addr} {closure : List (Str × Addr)} {qual : Str} {func : Option Addr} {code : Value} {around : Env} {builtins : Addr} {Q : Env → Shared → Prop}
    (h : Q (newEnv scope s.heap.objs.size globals (cellsFrom (s.heap.objs.size + 1) scope.names closure) qual func code (some around) builtins)
      { s with heap := pushCells (s.heap.push { cls := .type "dict", data := .dict #[] }) scope.names }) :
    wpAny M A (newFunctionEnv scope globals closure [] qual func code (some around) builtins) Q E s := by
  simp only [newFunctionEnv, Option.isSome_some, if_true]
  refine wpAny_bind (wpAny_alloc ?_)
  refine wpAny_bind (wpAny_layCells _ (fun n k c => rfl) scope.names closure _ _ ?_)
  rw [show ({ s with heap := s.heap.push { cls := .type "dict", data := .dict #[] } } : Shared).heap.objs.size = s.heap.objs.size + 1 from Heap.size_push ..]
  rw [List.forIn_nil]
  exact wpAny_bind (wpAny_pure (wpAny_pure h))

/-- every name of the written scope, in the scope that runs -/
theorem lookup_relS {sc : Scope} : ∀ {names : List (Str × NameKind)} {x : Str} {k : NameKind},
    (names.map fun (n, k) => if (k == NameKind.free && sc.kind == .function && sc.names.lookup n == some .cell) then (n, NameKind.cell) else (n, k)).lookup x = some k →
    ∃ k', names.lookup x = some k' ∧ (k = k' ∨ (k' = .free ∧ k = .cell))
  | [], _, _, h => by simp at h
  | (n, k₀) :: r, x, k, h => by
    have ih := @lookup_relS sc r x k
    have h' : List.lookup x ((if (k₀ == NameKind.free && sc.kind == .function && sc.names.lookup n == some .cell) = true then (n, NameKind.cell) else (n, k₀)) :: (r.map _)) = some k := h
    cases hx : x == n with
    | true =>
      simp only [List.lookup_cons, hx]
      by_cases hc : (k₀ == NameKind.free && sc.kind == .function && sc.names.lookup n == some .cell) = true
      · rw [if_pos hc] at h'
        simp only [List.lookup_cons, hx] at h'
        cases h'
        simp only [Bool.and_eq_true, beq_iff_eq] at hc
        exact ⟨k₀, rfl, .inr ⟨hc.1.1, rfl⟩⟩
      · rw [if_neg hc] at h'
        simp only [List.lookup_cons, hx] at h'
        cases h'
        exact ⟨_, rfl, .inl rfl⟩
    | false =>
      simp only [List.lookup_cons, hx]
      by_cases hc : (k₀ == NameKind.free && sc.kind == .function && sc.names.lookup n == some .cell) = true
      · rw [if_pos hc] at h'
        simp only [List.lookup_cons, hx] at h'
        exact ih h'
      · rw [if_neg hc] at h'
        simp only [List.lookup_cons, hx] at h'
        exact ih h'

/-- the names of a comprehension's block: its own (with their places in N), or captured -/
structure BlkOk (N : List Str) (sc scope : Scope) (own : List (Str × Nat)) : Prop where
  kind : scope.kind = .function
  uniq : ∀ y ∈ scope.names, scope.names.lookup y.1 = some y.2
  ix : ∀ p ∈ own, N[p.2]? = some p.1
  free : ∀ y ∈ scope.names, y.2 = .free → sc.names.lookup y.1 = some .cell ∨ sc.names.lookup y.1 = some .free
  own : ∀ y ∈ scope.names, y.2 = .local ∨ y.2 = .cell → y.1 ∈ own.map (·.1) ∨ y.1 ∉ N
/-- the slots of the block's own names forgotten -/
def wipe (σ : St) : List Nat → St
  | [] => σ
  | v :: vs => (wipe σ vs).set v none
theorem wipe_length (σ : St) : ∀ vs : List Nat, (wipe σ vs).length = σ.length
  | [] => rfl
  | v :: vs => by unfold wipe; rw [List.length_set, wipe_length σ vs]
theorem wipe_some {σ : St} {i : Nat} {x : V} : ∀ {vs : List Nat}, (wipe σ vs)[i]? = some (some x) → σ[i]? = some (some x) ∧ i ∉ vs
  | [], h => ⟨h, by simp⟩
  | v :: vs, h => by
    unfold wipe at h
    by_cases hi : v = i
    · subst hi
      by_cases hv : v < (wipe σ vs).length
      · rw [List.getElem?_set_self hv] at h; cases h
      · rw [List.getElem?_eq_none (by simpa using hv)] at h; cases h
    · rw [List.getElem?_set_ne hi] at h
      obtain ⟨h1, h2⟩ := wipe_some h
      exact ⟨h1, by simp only [List.mem_cons, not_or]; exact ⟨fun e => hi e.symm, h2⟩⟩

/-- the context of a block that starts at s, its iterator's objects at fp -/
abbrev Cx.blk (X : Cx) (s : Shared) (H : Hp) (scope : Scope) (cenv : Env) (fp : List Addr) : Cx := { X with s_0 := s, H_0 := H, env := cenv, outer := X.stack, ex := fp, fn := fun x => scope.names.lookup x == some .cell, pn := [], xe := fun _ _ => False }
section
variable {X : Cx} {pins : List (Addr × Obj)} {σ : St} {H : Hp} {s : Shared}
theorem block_start {scope : Scope} {own : List (Str × Nat)} {fp : List Addr} (I : Inv X pins σ H s) (ok : BlkOk X.N X.env.scope scope own) (hN : X.N.Nodup) (hfp : ∀ b ∈ fp, FpOk X pins H b ∧ b < s.heap.objs.size) :
    Inv (X.blk s H scope (compEnvC scope (cellsFrom (s.heap.objs.size + 1) scope.names (cloFrom X.env.cells scope.names [])) s.heap.objs.size X.env) fp) [] (wipe σ (own.map (·.2))) H { s with heap := pushCells (s.heap.push { cls := .type "dict", data := .dict #[] }) scope.names } := by
  have hfree : ∀ y ∈ scope.names, y.2 = .free → ∃ c, X.env.cells.lookup y.1 = some c := fun y hy e => by
    rcases ok.free y hy e with k | k
    · exact I.ok.has _ (.inl k)
    · exact I.ok.has _ (.inr k)
  generalize hcenv : compEnvC scope (cellsFrom (s.heap.objs.size + 1) scope.names (cloFrom X.env.cells scope.names [])) s.heap.objs.size X.env = cenv
  have kp : ∀ b o, s.heap.get? b = some o → (pushCells (s.heap.push { cls := .type "dict", data := .dict #[] }) scope.names).get? b = some o := fun b o e => pushCells_keeps _ _ _ _ (Heap.get?_push_of_some _ e)
  have hL : cenv.locals = s.heap.objs.size := by rw [← hcenv]; rfl
  have hcl : cenv.cells = cellsFrom (s.heap.objs.size + 1) scope.names (cloFrom X.env.cells scope.names []) := by rw [← hcenv]; rfl
  have hsc : cenv.scope = relS scope X.env.scope := by rw [← hcenv]; rfl
  rw [← Heap.size_push s.heap { cls := .type "dict", data := .dict #[] }] at hcl
  have cm : ∀ {y c}, (y, c) ∈ cloFrom X.env.cells scope.names [] → X.env.cells.lookup y = some c ∧ c < s.heap.objs.size := fun {y c} hm => by
    rcases cloFrom_mem hm with hm | ⟨h1, rfl⟩
    · cases hm
    · obtain ⟨c, hc⟩ := hfree _ h1 rfl
      rw [hc]
      obtain ⟨w, z⟩ := I.cell _ _ hc
      exact ⟨rfl, z.lt⟩
  have mem : ∀ {y c}, cenv.cells.lookup y = some c → (X.env.cells.lookup y = some c ∧ c < s.heap.objs.size) ∨ (s.heap.objs.size + 1 ≤ c ∧ CellAt (pushCells (s.heap.push { cls := .type "dict", data := .dict #[] }) scope.names) c none) := fun {y c} e => by
    rw [hcl] at e
    rcases cells_mem (PySem.mem_of_lookup e) with hm | ⟨_, h2, h3⟩
    · exact .inl (cm hm)
    · rw [Heap.size_push] at h2; exact .inr ⟨h2, h3⟩
  have look : ∀ {y}, scope.names.lookup y = some .free → ∃ c, cenv.cells.lookup y = some c ∧ X.env.cells.lookup y = some c := fun {y} hl => by
    have hy : (y, NameKind.free) ∈ scope.names := PySem.mem_of_lookup hl
    obtain ⟨c', e'⟩ := mem_lookup (cells_acc (names := scope.names) (n := (s.heap.push { cls := .type "dict", data := .dict #[] }).objs.size) (cloFrom_has (cells := X.env.cells) (acc := []) hy))
    rw [← hcl] at e'
    refine ⟨c', e', ?_⟩
    rw [hcl] at e'
    rcases cells_mem (PySem.mem_of_lookup e') with hm | ⟨h1, _, _⟩
    · exact (cm hm).1
    · have := ok.uniq _ h1
      rw [hl] at this; cases this
  have okB : (X.blk s H scope cenv fp).Ok := by
    refine ⟨I.ok.mod, by show cenv.scope.kind = _; rw [hsc]; exact ok.kind, by show cenv.globals = _; rw [← hcenv]; exact I.ok.glob, by show cenv.builtins = _; rw [← hcenv]; exact I.ok.blt, by show s.heap.objs.size ≤ cenv.locals; rw [hL]; exact Nat.le_refl _,
      fun y z c e1 e2 => ?_, fun y hy => ?_, fun y c z e => ?_, I.ok.hd, I.ok.frames, .inl rfl, fun b hb => ⟨?_, fun y c e z => ?_⟩, I.bs, Nat.le_trans I.ok.bsz I.sz, fun b o e hb => ?_, fun b hb z => ?_, I.stack, I.stkFree⟩
    · have e1 : cenv.cells.lookup y = some c := e1
      have e2 : cenv.cells.lookup z = some c := e2
      rw [hcl] at e1 e2
      refine cells_inj (fun p hp => ?_) (fun y z c a b => I.ok.inj y z c (cm a).1 (cm b).1) (PySem.mem_of_lookup e1) (PySem.mem_of_lookup e2)
      rw [Heap.size_push]
      exact Nat.lt_succ_of_lt (cm (y := p.1) (c := p.2) hp).2
    · show ∃ c, cenv.cells.lookup y = some c
      have key : ∀ k, cenv.kindOf y = some k → (k = .cell ∨ k = .free) → ∃ c, cenv.cells.lookup y = some c := fun k hk hk' => by
        unfold Env.kindOf at hk
        rw [hsc] at hk
        obtain ⟨k', e, r⟩ := lookup_relS hk
        have : k' = .cell ∨ k' = .free := by
          rcases r with rfl | ⟨rfl, _⟩
          · exact hk'
          · exact .inr rfl
        rcases this with rfl | rfl
        · obtain ⟨c, hm⟩ := cells_has (n := (s.heap.push { cls := .type "dict", data := .dict #[] }).objs.size) (acc := cloFrom X.env.cells scope.names []) (PySem.mem_of_lookup e)
          obtain ⟨c', e'⟩ := mem_lookup hm
          exact ⟨c', by rw [hcl]; exact e'⟩
        · obtain ⟨c, h1, _⟩ := look e
          exact ⟨c, h1⟩
      rcases hy with hy | hy
      · exact key _ hy (.inl rfl)
      · exact key _ hy (.inr rfl)
    · have z : (scope.names.lookup y == some NameKind.cell) = true := z
      have z : scope.names.lookup y = some .cell := by simpa using z
      have e : cenv.cells.lookup y = some c := e
      rw [hcl] at e
      rcases cells_mem (PySem.mem_of_lookup e) with hm | ⟨_, h2, _⟩
      · rcases cloFrom_mem hm with hm | ⟨h1, _⟩
        · cases hm
        · have q := ok.uniq _ h1
          rw [z] at q; cases q
      · rw [Heap.size_push] at h2
        exact Nat.le_of_succ_le h2
    · show b ≠ cenv.locals
      rw [hL]; exact Nat.ne_of_lt (hfp b hb).2
    · have e : cenv.cells.lookup y = some c := e
      rcases mem e with ⟨h1, _⟩ | ⟨h1, _⟩
      · exact (hfp b hb).1.2.2.2.2.1 y c h1 z
      · have h2 : s.heap.objs.size + 1 ≤ b := by rw [← z]; exact h1
        exact absurd (Nat.lt_of_lt_of_le (hfp b hb).2 (Nat.le_of_succ_le h2)) (Nat.lt_irrefl _)
    · rcases (hfp b hb).1.2.2.2.1 with z | z
      · exact I.ok.noex b o e z
      · exact absurd (Nat.lt_of_lt_of_le (Heap.lt_size e) (Nat.le_trans I.ok.bsz z)) (Nat.lt_irrefl _)
    · rcases List.mem_cons.mp (I.stkSub b z) with z | z
      · exact (hfp b hb).1.2.1 z
      · exact (hfp b hb).1.2.2.1 z
  refine ⟨okB, rfl, I.bare, Un.kept kp, ⟨fun _ => none, ?_, fun i y av e1 e2 e3 => ?_⟩, fun y c e => ?_, ?_, fun y c e => ?_, fun p hp => ?_, I.hok.kept kp, by rw [wipe_length]; exact I.len⟩
  · show Heap.Ns _ cenv.locals _
    rw [hL]
    exact Heap.Ns.keeps (Heap.Ns.new ..) fun b o e => pushCells_keeps _ _ _ _ e
  · obtain ⟨e2, hne⟩ := wipe_some e2
    have hfr : scope.names.lookup y = some .free ∧ (cenv.kindOf y = some .cell ∨ cenv.kindOf y = some .free) := by
      have key : ∀ k, cenv.scope.names.lookup y = some k → k = .local ∨ k = .cell ∨ k = .free → scope.names.lookup y = some .free ∧ (cenv.kindOf y = some .cell ∨ cenv.kindOf y = some .free) := fun k hk hk' => by
        have hk0 := hk
        rw [hsc] at hk
        obtain ⟨k', e, r⟩ := lookup_relS hk
        have no : ¬ (k' = .local ∨ k' = .cell) := fun hh => by
          rcases ok.own _ (PySem.mem_of_lookup e) hh with e' | e'
          · obtain ⟨p, hp, hpy⟩ := List.mem_map.mp e'
            have e3 := ok.ix p hp
            have : p.1 = y := hpy
            rw [this] at e3
            exact hne (List.mem_map.mpr ⟨p, hp, nodup_ix hN e3 e1⟩)
          · exact e' (List.mem_of_getElem? e1)
        rcases r with rfl | ⟨rfl, rfl⟩
        · rcases hk' with rfl | rfl | rfl
          · exact absurd (.inl rfl) no
          · exact absurd (.inr rfl) no
          · exact ⟨e, .inr hk0⟩
        · exact ⟨e, .inl hk0⟩
      have e3 : Vis cenv.scope y := e3
      rcases e3 with e3 | e3 | e3
      · exact key _ e3 (.inl rfl)
      · exact key _ e3 (.inr (.inl rfl))
      · exact key _ e3 (.inr (.inr rfl))
    obtain ⟨m, hn, hl⟩ := I.loc
    have hvis : Vis X.env.scope y := (ok.free _ (PySem.mem_of_lookup hfr.1) rfl).elim (fun k => .inr (.inl k)) (fun k => .inr (.inr k))
    obtain ⟨w, r, q⟩ := hl i y av e1 e2 hvis
    refine ⟨w, r, .inr ⟨hfr.2, ?_⟩⟩
    obtain ⟨c, h1, h2⟩ := look hfr.1
    rcases q with ⟨k, _⟩ | ⟨_, c', e', z⟩
    · have k : X.env.scope.names.lookup y = some .local := k
      rcases ok.free _ (PySem.mem_of_lookup hfr.1) rfl with k' | k' <;> rw [show X.env.scope.names.lookup y = _ from k'] at k <;> cases k
    · rw [h2] at e'; cases e'
      exact ⟨c, h1, z.keeps kp⟩
  · have e : cenv.cells.lookup y = some c := e
    rcases mem e with ⟨h1, _⟩ | ⟨_, z⟩
    · obtain ⟨w, z⟩ := I.cell y c h1
      exact ⟨w, z.keeps kp⟩
    · exact ⟨_, z⟩
  · show H cenv.locals = none
    rw [hL]; exact I.hok.fresh (Nat.le_refl _)
  · have e : cenv.cells.lookup y = some c := e
    rcases mem e with ⟨h1, _⟩ | ⟨h1, _⟩
    · exact I.freeC y c h1
    · exact I.hok.fresh (Nat.le_of_succ_le h1)
  · exact absurd (show p ∈ ([] : List (Addr × Obj)) ++ [] from hp) (by simp)

/-- an item appended to a tracked list -/
theorem app_ok {E : Value → Shared → Prop} {D : Addr} {xs : List V} {y : V} {v : Value} {Q : Value → Shared → Prop} (I : Inv X pins σ H s) (hD : H D = some (.lst xs)) (hz : xs.length < sizeLine) (r : RelV y v)
    (h : ∀ s', Inv X pins σ (upd H D (.lst (xs ++ [y]))) s' → Q .none s') : wpAny (model X.prog X.w) X.A (call (.builtin "list.append") [.ref D, v]) Q E s := by
  obtain ⟨hz', its, n, ri, e⟩ := I.hok D _ hD
  have hl := ri.length
  refine append_at (hsz := by rw [List.size_toArray]; omega) e fun h' sb ho' => ?_
  refine h { s with heap := h' } (I.write (t' := s.toks) (by rw [hD]; trivial) (.inl rfl) (fun b u hb q => (sb.2 b hb).trans q) ⟨_, ho'⟩ ⟨by rw [List.length_append]; exact hz, its ++ [v], n + 1, ri.append (.cons r .nil), ?_⟩)
  rw [ho']
  simp

/-- a clause's tests -/
def PTs (X : Cx) (ifs : List Expr) (t : TT) : Prop :=
  ∀ (pins : List (Addr × Obj)) (s : Shared) (σ : St) (H : Hp) (Q : Bool → Hp → Prop), Inv X pins σ H s → t σ H Q →
    wpAny (model X.prog X.w) X.A (forIn ifs true fun c r => if r = true then do let ok ← isTrue c X.env (eval c X.env); pure (ForInStep.yield ok) else pure (ForInStep.yield r)) (TP X pins σ Q) X.xe s
theorem pts_one {c : Expr} {t : TT} (h : PT X c t) : PTs X [c] t := fun pins s σ H Q I hw => wpAny_tests_one (h pins s σ H Q I hw)
end

theorem thnF {α : Type} {t : Sem α} {Q Q' : α → Shared → Prop} {M : Model} {A : Around} {E : Value → Shared → Prop} {s : Shared} (h : wpAny M A t Q (fun _ _ => False) s) (hQ : ∀ a s, Q a s → Q' a s) : wpAny M A t Q' E s := wpAny_mono h hQ fun _ _ z => False.elim z

/-- the loop of a list comprehension's block, the target of any form (codeAny_compLoop_tests asks a target that no tuple goes to; statement and proof follow it, PyProof/CompMap.lean:41-61, with the step letOwnedTupleGo kept) -/
theorem compLoop_any {prog : Program} {w : World} {A : Around} {R : Result → Shared → Prop} {s : Shared} {elt target iter : Expr} {ifs : List Expr} {scope : Scope} {pos : Pos} {it acc : Value} {env : Env} (I : Nat → Shared → Prop)
    (turn : ∀ n s, I n s → wpAny (model prog w) A (pyNext it) (fun r s₁ => match r with
      | none => R (.ok .next) s₁
      | some v => wpAny (model prog w) A (letOwnedTupleGo target it v) (fun _ s₁' => wpAny (model prog w) A (assign target env v) (fun _ s₂ =>
          wpAny (model prog w) A (forIn ifs true fun c r => if r = true then do let ok ← isTrue c env (eval c env); pure (ForInStep.yield ok) else pure (ForInStep.yield r)) (fun ok s₃ =>
            if ok = true then wpAny (model prog w) A (eval elt env) (fun x s₄ =>
              wpAny (model prog w) A (call (.builtin "list.append") [acc, x]) (fun _ s₅ => ∃ m, m < n ∧ I m s₅) (notedBy (model prog w) A env fun e s' => R (.error e) s') s₄) (notedBy (model prog w) A env fun e s' => R (.error e) s') s₃
            else ∃ m, m < n ∧ I m s₃) (notedBy (model prog w) A env fun e s' => R (.error e) s') s₂) (notedBy (model prog w) A env fun e s' => R (.error e) s') s₁') (notedBy (model prog w) A env fun e s' => R (.error e) s') s₁) (notedBy (model prog w) A env fun e s' => R (.error e) s') s)
    (n : Nat) (h : I n s) :
    codeAny (model prog w) A (.compLoop (.ListComp elt [⟨target, iter, ifs, 0⟩] scope pos) 0 it acc env) R s := by
  refine codeAny_loop rfl I (fun n s hI => ?_) n h
  show wpAny _ A ((compTurn (.ListComp elt [⟨target, iter, ifs, 0⟩] scope pos) 0 it acc env).onRaise (fun x => do noteFrame x env; theTreesLotGoes x)) _ _ s
  refine wpAny_noted ?_
  rw [compTurn_list]
  refine wpAny_bind (wpAny_standAt (wpAny_bind (wpAny_mono (turn n s hI) (fun r s₁ h₁ => ?_) fun _ _ h' => h')))
  cases r with
  | none => exact wpAny_pure h₁
  | some v =>
    refine wpAny_bind (wpAny_mono h₁ (fun _ s₁' h₁' => ?_) fun _ _ h' => h')
    refine wpAny_bind (wpAny_mono h₁' (fun _ s₂ h₂ => wpAny_bind (wpAny_mono h₂ (fun ok s₃ h₃ => ?_) fun _ _ h' => h')) fun _ _ h' => h')
    cases ok with
    | false => exact wpAny_pure ⟨rfl, h₃⟩
    | true =>
      exact wpAny_bind (wpAny_bind (wpAny_mono h₃ (fun x s₄ h₄ => wpAny_bind (wpAny_mono h₄ (fun _ s₅ h₅ => wpAny_pure (wpAny_pure ⟨rfl, h₅⟩)) fun _ _ h' => h')) fun _ _ h' => h'))

section
variable {X : Cx}
/-- [elt for target in iter if ..]: D the new list; W by the turn and a measure, Nx what a turn is to reach -/
def tLc (wi : TI) (g : TG) (tt : TT) (te : TE) (vs : List Nat) : TE := fun σ H Q => wi σ H fun J H1 => ∀ D, H1 D = none → ∃ W : Nat → Nat → Hp → Prop, (∃ m, W 0 m (upd H1 D (.lst []))) ∧ ∀ i m H, W i m H →
  (J.stop i H ∧ Q (.ref D) H) ∨ (J.go i H ∧ ∃ Nx : Hp → Prop, (∀ H', Nx H' → ∃ m', m' < m ∧ W (i + 1) m' H') ∧ ∀ x H', J.yld i H x H' → g x (wipe σ vs) H' fun σ2 H2 => wipe σ2 vs = wipe σ vs ∧ tt σ2 H2 fun b H3 =>
    if b = true then te σ2 H3 fun y H4 => ∃ acc, H4 D = some (.lst acc) ∧ acc.length < sizeLine ∧ Nx (upd H4 D (.lst (acc ++ [y]))) else Nx H3)
theorem lc_core {pins : List (Addr × Obj)} {s : Shared} {σ : St} {H : Hp} {Q : VK} {elt tg iter : Expr} {ifs : List Expr} {scope : Scope} {own : List (Str × Nat)} {pos pos' : Pos} {wi : TI} {g : TG} {tt : TT} {te : TE} {use : Option (Value → Sem Unit)} {Qf : Value → Shared → Prop}
    (hc : X.calm = true) (hN : X.N.Nodup) (I : Inv X pins σ H s) (hi : PI X tg iter wi) (ok : BlkOk X.N X.env.scope scope own)
    (hg : ∀ (s : Shared) (H : Hp) (C : Addr) (cl : List (Str × Addr)) (fp : List Addr), PG (X.blk s H scope (compEnvC scope cl C X.env) fp) tg g) (ht : ∀ (s : Shared) (H : Hp) (C : Addr) (cl : List (Str × Addr)) (fp : List Addr), PTs (X.blk s H scope (compEnvC scope cl C X.env) fp) ifs tt)
    (he : ∀ (s : Shared) (H : Hp) (C : Addr) (cl : List (Str × Addr)) (fp : List Addr), PE (X.blk s H scope (compEnvC scope cl C X.env) fp) elt te) (hs : ∀ x, foldedSetIterable iter X.env x = pure x)
    (h : tLc wi g tt te (own.map (·.2)) σ H Q)
    (hRR : ∀ D C s' m H', Inv X pins σ H' s' → Q (.ref D) H' → s'.heap.Ns C m → FpOk X pins H' C → compPost (model X.prog X.w) X.A X.xe use Qf (.ref D) C (.ok .next) s') :
    wpAny (model X.prog X.w) X.A (comprehension (.ListComp elt [⟨tg, iter, ifs, 0⟩] scope pos) scope X.env pos' (newList []) false (eval iter X.env) use) Qf X.xe s := by
  have hfree : ∀ y ∈ scope.names, y.2 = .free → ∃ c, X.env.cells.lookup y.1 = some c := fun y hy e => by
    rcases ok.free y hy e with k | k
    · exact I.ok.has _ (.inl k)
    · exact I.ok.has _ (.inr k)
  refine wpAny_comprehension_free (use := use) rfl hs (closure_ok hfree) ok.kind (fun y hy e => by rw [ok.uniq y hy, e])
    (thn (hi pins s σ H _ I h) fun xv s1 hx => thn hx fun itv s2 h2 => ?_)
  obtain ⟨it, fp, tn, J, H2, e, I2, T, st2, f2, q⟩ := h2
  subst e
  refine wpAny_newObj_type (newEnv_comp ?_) (by show 0 ≤ sizeLine; decide)
  generalize hD : s2.heap.objs.size = D
  have hDn : H2 D = none := I2.hok.fresh (Nat.le_of_eq hD)
  obtain ⟨W, ⟨m0, w0⟩, turn⟩ := q D hDn
  -- the new list
  generalize hs3 : ({ s2 with heap := s2.heap.push { cls := .type "list", data := .seq ([] : List Value).toArray } } : Shared) = s3
  have I3 : Inv X pins σ (upd H2 D (.lst [])) s3 := by
    rw [← hs3]
    refine I2.laid (t' := s2.toks) (fun b o e => Heap.get?_push_of_some _ e) (Nat.le_of_eq hD) ⟨Nat.zero_le _, [], 0, .nil, ?_⟩
    rw [← hD]
    exact Heap.get?_push_size _ rfl
  have h3 : s3.heap = s2.heap.push { cls := .type "list", data := .seq ([] : List Value).toArray } := by rw [← hs3]
  have sz : ∀ b ∈ fp, b < s2.heap.objs.size := fun b hb => by
    obtain ⟨o, e, _⟩ := T.obj _ _ st2 b hb
    exact Heap.lt_size e
  have f3 : ∀ b ∈ fp, FpOk X pins (upd H2 D (.lst [])) b ∧ b < s3.heap.objs.size := fun b hb => by
    have hlt := sz b hb
    refine ⟨⟨?_, (f2 b hb).2⟩, by rw [h3, Heap.size_push]; exact Nat.lt_succ_of_lt hlt⟩
    rw [upd_ne (by rw [← hD]; exact Nat.ne_of_lt hlt)]
    exact (f2 b hb).1
  have st3 : tn 0 s3.heap := T.keep _ _ _ st2 fun b _ o e => by rw [h3]; exact Heap.get?_push_of_some _ e
  have I4 := block_start I3 ok hN f3
  have pg := hg s3 (upd H2 D (.lst [])) s3.heap.objs.size (cellsFrom (s3.heap.objs.size + 1) scope.names (cloFrom X.env.cells scope.names [])) fp
  have pt := ht s3 (upd H2 D (.lst [])) s3.heap.objs.size (cellsFrom (s3.heap.objs.size + 1) scope.names (cloFrom X.env.cells scope.names [])) fp
  have pe := he s3 (upd H2 D (.lst [])) s3.heap.objs.size (cellsFrom (s3.heap.objs.size + 1) scope.names (cloFrom X.env.cells scope.names [])) fp
  show codeAny _ _ (.compStart (.ListComp elt [⟨tg, iter, ifs, 0⟩] scope pos) 0 (.ref it) (.ref D) (compEnvC scope (cellsFrom (s3.heap.objs.size + 1) scope.names (cloFrom X.env.cells scope.names [])) s3.heap.objs.size X.env)) (compPost (model X.prog X.w) X.A X.xe use Qf (.ref D) s3.heap.objs.size) { s3 with heap := pushCells (s3.heap.push { cls := .type "dict", data := .dict #[] }) scope.names }
  have nfp : ∀ b ∈ fp, (upd H2 D (.lst [])) b = none := fun b hb => (f3 b hb).1.1
  generalize hce : compEnvC scope (cellsFrom (s3.heap.objs.size + 1) scope.names (cloFrom X.env.cells scope.names [])) s3.heap.objs.size X.env = ce at I4 pg pt pe ⊢
  have cL : ce.locals = s3.heap.objs.size := by subst hce; rfl
  generalize hH3 : upd H2 D (.lst []) = H3 at I3 I4 pg pt pe w0 nfp f3
  generalize hs4 : ({ s3 with heap := pushCells (s3.heap.push { cls := .type "dict", data := .dict #[] }) scope.names } : Shared) = s4 at I4 ⊢
  have st4 : tn 0 s4.heap := T.keep _ _ _ st3 fun b _ o e => by rw [← hs4]; exact pushCells_keeps _ _ _ _ (Heap.get?_push_of_some _ e)
  have stat : ∀ {σ' : St} {H' : Hp} {s' : Shared}, Inv (X.blk s3 H3 scope ce fp) [] σ' H' s' → (∀ b ∈ fp, H' b = none) → ∀ b ∈ fp, FpOk (X.blk s3 H3 scope ce fp) [] H' b := fun {σ' H' s'} I' hn b hb =>
    ⟨hn b hb, (I'.ok.exf b hb).1, I'.ok.exfs b hb, .inl hb, fun x c e => (I'.ok.exf b hb).2 x c e, fun p hp => absurd (show p ∈ ([] : List (Addr × Obj)) ++ [] from hp) (by simp)⟩
  have loop : codeAny (model X.prog X.w) X.A (.compLoop (.ListComp elt [⟨tg, iter, ifs, 0⟩] scope pos) 0 (.ref it) (.ref D) ce) (compPost (model X.prog X.w) X.A X.xe use Qf (.ref D) s3.heap.objs.size) s4 := by
    refine compLoop_any (fun n s' => ∃ i H', Inv (X.blk s3 H3 scope ce fp) [] (wipe σ (own.map (·.2))) H' s' ∧ tn i s'.heap ∧ (∀ b ∈ fp, H' b = none) ∧ W i n H') ?_ m0 ⟨0, H3, I4, st4, nfp, w0⟩
    rintro n s5 ⟨i, H5, I5, st5, n5, w5⟩
    rcases turn i n H5 w5 with ⟨stop, qq⟩ | ⟨go, Nx, hNx, step⟩
    · have td := T.done (X.blk s3 H3 scope ce fp) rfl rfl rfl hc i [] s5 _ H5 (fun _ _ => False) I5 (stat I5 n5) st5 stop
      refine thnF td fun r s6 ⟨hr, I6⟩ => ?_
      subst hr
      -- back in the def's context
      have I7 : Inv X pins σ H5 s6 := I3.call' (ch := fp) I6.os I6.base I6.hok I6.bare fun b hb => ⟨(f3 b hb).1.2.2.2.1, (f3 b hb).1.2.1, (f3 b hb).1.2.2.2.2.1, (f3 b hb).1.2.2.2.2.2⟩
      have nC : H5 s3.heap.objs.size = none := by
        have z : H5 ce.locals = none := I6.free
        rw [cL] at z
        exact z
      obtain ⟨m, hn, _⟩ := I6.loc
      have hn : s6.heap.Ns ce.locals m := hn
      rw [cL] at hn
      exact hRR D s3.heap.objs.size s6 m H5 I7 qq hn (I3.fpOk (Nat.le_refl _) nC)
    · have ti := T.item (X.blk s3 H3 scope ce fp) rfl rfl rfl hc i [] s5 _ H5 (fun _ _ => False) I5 (stat I5 n5) st5 go
      refine thnF ti fun r s6 ⟨u, hr, h6⟩ => ?_
      subst hr
      refine thnF h6 fun _ s7 ⟨x, H7, I7, r7, y7, st7, n7⟩ => ?_
      have I7' := I7.pinned (stat I7 n7) (T.obj _ _ st7)
      refine thnF (pg _ s7 _ H7 x u _ I7' r7 (step x H7 y7)) fun _ s8 ⟨σ8, H8, I8, hw8, q8⟩ => ?_
      refine thnF (pt _ s8 σ8 H8 _ I8 q8) fun b s9 ⟨H9, I9, q9⟩ => ?_
      -- the turn's end
      have fin : ∀ {s' : Shared} {H' : Hp}, Inv (X.blk s3 H3 scope ce fp) ([] ++ pinsAt fp s7.heap) σ8 H' s' → Nx H' → ∃ m, m < n ∧ ∃ i H', Inv (X.blk s3 H3 scope ce fp) [] (wipe σ (own.map (·.2))) H' s' ∧ tn i s'.heap ∧ (∀ b ∈ fp, H' b = none) ∧ W i m H' := fun {s' H'} I' nx => by
        obtain ⟨m', hm, w'⟩ := hNx H' nx
        have pin' : ∀ b ∈ fp, ∀ o, s7.heap.get? b = some o → s'.heap.get? b = some o ∧ H' b = none := fun b hb o e =>
          let z := I'.pin (b, o) (List.mem_append_right _ (List.mem_append_right _ (mem_pinsAt hb e)))
          ⟨z.1, z.2.1⟩
        have hl : (wipe σ (own.map (·.2))).length = σ8.length := by rw [← hw8, wipe_length]
        refine ⟨m', hm, i + 1, H', (I'.unpinned (pins := [])).weak hl (fun j v e => ?_), T.keep _ _ _ st7 fun b hb o e => (pin' b hb o e).1, fun b hb => ?_, w'⟩
        · rw [← hw8] at e
          exact (wipe_some e).1
        · obtain ⟨o, e, _⟩ := T.obj _ _ st7 b hb
          exact (pin' b hb o e).2
      cases b with
      | false =>
        simp only [Bool.false_eq_true, if_false] at q9 ⊢
        exact fin I9 q9
      | true =>
        simp only [if_true] at q9 ⊢
        refine thnF (pe _ s9 σ8 H9 _ I9 q9) fun z s10 ⟨yv, H10, I10, r10, acc, hD10, hz10, nx⟩ => ?_
        exact app_ok (X := X.blk s3 H3 scope ce fp) I10 hD10 hz10 r10 fun s11 I11 => fin I11 nx
  exact codeAny_compStart_list loop (T.self X.A 0 _ _ _ st4 loop)
/-- as a value -/
theorem pe_lc {elt tg iter : Expr} {ifs : List Expr} {scope : Scope} {own : List (Str × Nat)} {pos : Pos} {wi : TI} {g : TG} {tt : TT} {te : TE} (hc : X.calm = true) (hN : X.N.Nodup) (hi : PI X tg iter wi) (ok : BlkOk X.N X.env.scope scope own)
    (hg : ∀ (s : Shared) (H : Hp) (C : Addr) (cl : List (Str × Addr)) (fp : List Addr), PG (X.blk s H scope (compEnvC scope cl C X.env) fp) tg g) (ht : ∀ (s : Shared) (H : Hp) (C : Addr) (cl : List (Str × Addr)) (fp : List Addr), PTs (X.blk s H scope (compEnvC scope cl C X.env) fp) ifs tt)
    (he : ∀ (s : Shared) (H : Hp) (C : Addr) (cl : List (Str × Addr)) (fp : List Addr), PE (X.blk s H scope (compEnvC scope cl C X.env) fp) elt te) (hs : ∀ x, foldedSetIterable iter X.env x = pure x := by intro _; rfl) :
    PE X (.ListComp elt [⟨tg, iter, ifs, 0⟩] scope pos) (tLc wi g tt te (own.map (·.2))) := by
  intro pins s σ H Q I h
  rw [eval_ListComp]
  refine lc_core hc hN I hi ok hg ht he hs h fun D C s' m H' I' q hn f => ⟨m, hn, fun h'' sb => ?_⟩
  obtain ⟨f0, f1, f2, f3, f4, f5⟩ := f
  exact ⟨.ref D, H', I'.turned (t' := s'.toks) (fun b o hb e => (sb.2 b hb).trans e) f0 f1 f3 f4 f5, rfl, q⟩
/-- name = [..] on one line, the name a local -/
theorem ps_setLc {i : Nat} {y : Str} {py : Pos} {elt tg iter : Expr} {ifs : List Expr} {scope : Scope} {own : List (Str × Nat)} {pos spos : Pos} {wi : TI} {g : TG} {tt : TT} {te : TE} (hc : X.calm = true) (hN : X.N.Nodup) (hy : X.N[i]? = some y) (hyl : X.env.scope.names.lookup y = some .local)
    (hsw : swapsWith (.ListComp elt [⟨tg, iter, ifs, 0⟩] scope pos) (some (.Name y py)) spos.line X.env = pure true) (hi : PI X tg iter wi) (ok : BlkOk X.N X.env.scope scope own)
    (hg : ∀ (s : Shared) (H : Hp) (C : Addr) (cl : List (Str × Addr)) (fp : List Addr), PG (X.blk s H scope (compEnvC scope cl C X.env) fp) tg g) (ht : ∀ (s : Shared) (H : Hp) (C : Addr) (cl : List (Str × Addr)) (fp : List Addr), PTs (X.blk s H scope (compEnvC scope cl C X.env) fp) ifs tt)
    (he : ∀ (s : Shared) (H : Hp) (C : Addr) (cl : List (Str × Addr)) (fp : List Addr), PE (X.blk s H scope (compEnvC scope cl C X.env) fp) elt te) (hs : ∀ x, foldedSetIterable iter X.env x = pure x := by intro _; rfl) :
    PS X (.Assign [.Name y py] (.ListComp elt [⟨tg, iter, ifs, 0⟩] scope pos) spos) (tAsg (tLc wi g tt te (own.map (·.2))) (gName i)) := by
  intro pins s σ H D I h
  rw [exec_Assign_Name_used _ _ _ _ hsw]
  refine wpAny_bind (wpAny_standAt (wpAny_bind ?_))
  show wpAny _ X.A (do let _ ← comprehension (.ListComp elt [⟨tg, iter, ifs, 0⟩] scope pos) scope X.env (firstIterPos [⟨tg, iter, ifs, 0⟩] pos) (newList []) false (eval iter X.env) (some (assign (.Name y py) X.env))) _ _ s
  have h : tLc wi g tt te (own.map (·.2)) σ H (fun x H1 => gName i x σ H1 D.nx) := h
  refine wpAny_bind (thn (lc_core (Qf := fun _ s' => SP X pins D .next s') hc hN I hi ok hg ht he hs h fun L C s' m H' I' q hn f => ?_) fun _ s' hq => wpAny_pure (wpAny_pure hq))
  show wpAny _ _ (assign (.Name y py) X.env (.ref L)) _ _ _
  refine wpAny_assign_Name (store_ok2 (v := V.ref L) I' hN hy (.inl hyl) rfl (fun s2 I2 ⟨a, sb, ha⟩ => ?_) (.inr hyl))
  obtain ⟨f0, f1, f2, f3, f4, f5⟩ := f
  have haC : C ≠ a := by
    rcases ha with z | z
    · rw [z]; exact f1
    · exact fun e => f4 y a z e.symm
  refine ⟨m, hn.sameBut sb haC, fun h3 sb3 => ?_⟩
  exact ⟨_, H', I2.turned (t' := s2.toks) (fun b o hb e => (sb3.2 b hb).trans e) f0 f1 f3 f4 f5, q⟩
theorem sw_true {elt : Expr} {gs : List Comprehension} {scope : Scope} {pos py : Pos} {y : Str} {l : Nat} {env : Env} (hk : env.scope.kind = .function) (hy : env.scope.names.lookup y = some .local) (hl : (py.line == pos.line) = true)
    (ha : (scope.names.any fun (n, k) => n == y && (k == .local || k == .cell)) = false) : swapsWith (.ListComp elt gs scope pos) (some (.Name y py)) l env = pure true := by
  have ky : env.kindOf y = some .local := hy
  have hb : env.blockKind = .function := by unfold Env.blockKind; rw [hk]; rfl
  unfold swapsWith
  simp only [hb, ky, ha, Expr.pos, hl]
  rfl
end

/-! ### the forms one uses -/
/-- over a range: Pv by the turn and the heap (the new list at D within) -/
theorem lc_range {lo : Int} {n : Nat} {g : TG} {tt : TT} {te : TE} {vs : List Nat} {σ : St} {H1 : Hp} {D : Addr} {Qd : Hp → Prop} (Pv : Nat → Hp → Prop) (h0 : Pv 0 (upd H1 D (.lst [])))
    (hs : ∀ i H, i < n → Pv i H → g (.int (lo + i)) (wipe σ vs) H fun σ2 H2 => wipe σ2 vs = wipe σ vs ∧ tt σ2 H2 fun b H3 =>
      if b = true then te σ2 H3 fun y H4 => ∃ acc, H4 D = some (.lst acc) ∧ acc.length < sizeLine ∧ Pv (i + 1) (upd H4 D (.lst (acc ++ [y]))) else Pv (i + 1) H3) (hd : ∀ H, Pv n H → Qd H) :
    ∃ W : Nat → Nat → Hp → Prop, (∃ m, W 0 m (upd H1 D (.lst []))) ∧ ∀ i m H, W i m H →
      ((Itr lo n).stop i H ∧ Qd H) ∨ ((Itr lo n).go i H ∧ ∃ Nx : Hp → Prop, (∀ H', Nx H' → ∃ m', m' < m ∧ W (i + 1) m' H') ∧ ∀ x H', (Itr lo n).yld i H x H' → g x (wipe σ vs) H' fun σ2 H2 => wipe σ2 vs = wipe σ vs ∧ tt σ2 H2 fun b H3 =>
        if b = true then te σ2 H3 fun y H4 => ∃ acc, H4 D = some (.lst acc) ∧ acc.length < sizeLine ∧ Nx (upd H4 D (.lst (acc ++ [y]))) else Nx H3) := by
  refine ⟨fun i m H => m = n - i ∧ i ≤ n ∧ Pv i H, ⟨n, by simp, Nat.zero_le _, h0⟩, ?_⟩
  rintro i m H ⟨rfl, hi, p⟩
  by_cases hlt : i < n
  · refine .inr ⟨hlt, Pv (i + 1), fun H' p' => ⟨n - (i + 1), by omega, rfl, hlt, p'⟩, fun x H' y => ?_⟩
    obtain ⟨e, y⟩ := y
    subst e y
    exact hs i _ hlt p
  · have e : i = n := by omega
    subst e
    exact .inl ⟨Nat.le_refl _, hd H p⟩
end L2

namespace L2
open PySem PySem.Spec PyProof.Rows

section
variable {prog : Program} {w : World} {A : Around} {R : Result → Shared → Prop} {s : Shared} {elt t0 i0 t1 i1 : Expr} {ifs0 ifs1 : List Expr} {scope : Scope} {pos : Pos} {it acc : Value} {env : Env}
end

section
variable {X : Cx}
end
end L2

namespace L2
open PySem PySem.Spec PyProof.Rows

/-! ### lists of pairs as tables -/
section
variable {κ : Type} [DecidableEq κ]
def valV (kvs : List (κ × V)) (k : κ) : Option V := (kvs.find? fun kv => decide (kv.1 = k)).map (·.2)
/-- in its place, or at the end -/
def putK (kvs : List (κ × V)) (k : κ) (v : V) : List (κ × V) :=
  if (kvs.any fun kv => decide (kv.1 = k)) = true then kvs.map (fun kv => if kv.1 = k then (kv.1, v) else kv) else kvs ++ [(k, v)]

theorem valV_pos {p : κ × V} {r : List (κ × V)} {k : κ} (e : p.1 = k) : valV (p :: r) k = some p.2 := by simp [valV, List.find?_cons, e]
theorem valV_neg {p : κ × V} {r : List (κ × V)} {k : κ} (e : ¬ p.1 = k) : valV (p :: r) k = valV r k := by simp [valV, List.find?_cons, e]
theorem valV_any (k : κ) : ∀ kvs : List (κ × V), (kvs.any fun kv => decide (kv.1 = k)) = (valV kvs k).isSome
  | [] => rfl
  | p :: r => by
    rw [List.any_cons]
    by_cases e : p.1 = k
    · simp only [valV_pos e, decide_eq_true e, Bool.true_or, Option.isSome_some]
    · rw [valV_neg e, decide_eq_false e, Bool.false_or]; exact valV_any k r
theorem length_putK (kvs : List (κ × V)) (k : κ) (v : V) : (putK kvs k v).length ≤ kvs.length + 1 := by
  unfold putK
  split
  · rw [List.length_map]; omega
  · rw [List.length_append, List.length_cons, List.length_nil]; omega
theorem putK_new {kvs : List (κ × V)} {k : κ} (v : V) (h : valV kvs k = none) : putK kvs k v = kvs ++ [(k, v)] := by
  unfold putK
  rw [valV_any, h]
  exact if_neg (by decide)

theorem RelO.isSome_eq {o : Option V} {u : Option Value} (r : RelO o u) : o.isSome = u.isSome := by
  cases o with
  | none => cases u with
    | none => rfl
    | some _ => exact (show False from r).elim
  | some _ => cases u with
    | none => exact (show False from r).elim
    | some _ => rfl
theorem RelO.getD {o : Option V} {u : Option Value} {d : V} {d' : Value} (r : RelO o u) (rd : RelV d d') : RelV (o.getD d) (u.getD d') := by
  cases o with
  | none => cases u with
    | none => exact rd
    | some _ => exact (show False from r).elim
  | some _ => cases u with
    | none => exact (show False from r).elim
    | some _ => exact r

/-- raw tables of the same keys -/
theorem KV.val {kvs : List (κ × V)} {vs : List (κ × Value)} (r : KV kvs vs) (k : κ) : RelO (valV kvs k) (valueAt vs k) := by
  unfold KV at r
  induction r with
  | nil => exact True.intro
  | @cons p q ps qs h t ih =>
    obtain ⟨h1, h2⟩ := h
    by_cases e : p.1 = k
    · have e' : q.1 = k := h1.symm.trans e
      have b : valueAt (q :: qs) k = some q.2 := by simp [valueAt, List.find?_cons, e']
      rw [valV_pos e, b]; exact h2
    · have e' : ¬ q.1 = k := fun z => e (h1.trans z)
      have b : valueAt (q :: qs) k = valueAt qs k := by simp [valueAt, List.find?_cons, e']
      rw [valV_neg e, b]; exact ih
theorem KV.any {kvs : List (κ × V)} {vs : List (κ × Value)} (r : KV kvs vs) (k : κ) : (kvs.any fun kv => decide (kv.1 = k)) = vs.any fun kv => decide (kv.1 = k) := by
  unfold KV at r
  induction r with
  | nil => rfl
  | cons h t ih => rw [List.any_cons, List.any_cons, ih, h.1]
theorem KV.repl {kvs : List (κ × V)} {vs : List (κ × Value)} (r : KV kvs vs) (k : κ) {y : V} {u : Value} (ry : RelV y u) :
    KV (kvs.map fun kv => if kv.1 = k then (kv.1, y) else kv) (vs.map fun kv => if kv.1 = k then (kv.1, u) else kv) := by
  unfold KV at r ⊢
  induction r with
  | nil => exact .nil
  | @cons p q ps qs h t ih =>
    rw [List.map_cons, List.map_cons]
    refine .cons ?_ ih
    obtain ⟨h1, h2⟩ := h
    by_cases e : p.1 = k
    · rw [if_pos e, if_pos (h1.symm.trans e)]; exact ⟨h1, ry⟩
    · rw [if_neg e, if_neg (fun z => e (h1.trans z))]; exact ⟨h1, h2⟩
theorem KV.put {kvs : List (κ × V)} {vs : List (κ × Value)} (r : KV kvs vs) (k : κ) {y : V} {u : Value} (ry : RelV y u) : KV (putK kvs k y) (stored vs k u) := by
  unfold putK stored
  rw [r.any k]
  by_cases e : (vs.any fun kv => decide (kv.1 = k)) = true
  · rw [if_pos e, if_pos e]; exact r.repl k ry
  · rw [if_neg e, if_neg e]; exact Paired.snoc r ⟨rfl, ry⟩
theorem KV.length {kvs : List (κ × V)} {vs : List (κ × Value)} (r : KV kvs vs) : kvs.length = vs.length := Paired.length r
end

/-! ### a tracked dict, its keys ints and texts or tuples of these -/
theorem kV_is {P : Program} {w : World} {k : Key} {u : Value} (r : RelV (kV k) u) : (mixKind P w).is k u = true := by
  cases k with
  | inl i => obtain ⟨t, e⟩ := (show ∃ t, u = Value.int i t from r); subst e; exact mixKind_int P w i t
  | inr x => obtain ⟨t, e⟩ := (show ∃ t, u = Value.str x t from r); subst e; exact mixKind_str P w x t
theorem items_are {P : Program} {w : World} : ∀ {ks : List Key} {us : List Value}, Vals (ks.map kV) us → ItemsAre (mixKind P w) ks us
  | [], _, r => by rw [List.map_nil] at r; cases r; exact .nil
  | k :: ks, _, r => by
    rw [List.map_cons] at r
    cases r with
    | cons h t => exact .cons (kV_is h) (items_are t)

/-- raw entries of a dict with tuple keys -/
abbrev KT (H : Hp) : List (List Key × V) → List (List Key × Addr × Value) → Prop := Paired fun p q => p.1 = q.1 ∧ H q.2.1 = some (.tup (p.1.map kV)) ∧ RelV p.2 q.2.2
theorem KT.val {H : Hp} {kvs : List (List Key × V)} {xs : List (List Key × Addr × Value)} (r : KT H kvs xs) (k : List Key) : RelO (valV kvs k) ((atKey xs k).map (·.2)) := by
  induction r with
  | nil => exact True.intro
  | @cons p q ps qs h t ih =>
    obtain ⟨h1, _, h2⟩ := h
    by_cases e : p.1 = k
    · have e' : q.1 = k := h1.symm.trans e
      have b : atKey (q :: qs) k = some q.2 := by simp [atKey, List.find?_cons, e']
      rw [valV_pos e, b]; exact h2
    · have e' : ¬ q.1 = k := fun z => e (h1.trans z)
      have b : atKey (q :: qs) k = atKey qs k := by simp [atKey, List.find?_cons, e']
      rw [valV_neg e, b]; exact ih
theorem KT.repl {H : Hp} {kvs : List (List Key × V)} {xs : List (List Key × Addr × Value)} (r : KT H kvs xs) (k : List Key) {y : V} {u : Value} (ry : RelV y u) :
    KT H (kvs.map fun kv => if kv.1 = k then (kv.1, y) else kv) (xs.map (putAt k u)) := by
  induction r with
  | nil => exact .nil
  | @cons p q ps qs h t ih =>
    rw [List.map_cons, List.map_cons]
    refine .cons ?_ ih
    obtain ⟨h1, h2, h3⟩ := h
    unfold putAt
    by_cases e : p.1 = k
    · rw [if_pos e, if_pos (h1.symm.trans e)]; exact ⟨h1, h2, ry⟩
    · rw [if_neg e, if_neg (fun z => e (h1.trans z))]; exact ⟨h1, h2, h3⟩
theorem KT.put {H : Hp} {kvs : List (List Key × V)} {xs : List (List Key × Addr × Value)} (r : KT H kvs xs) (k : List Key) {b : Addr} {y : V} {u : Value} (hb : H b = some (.tup (k.map kV))) (ry : RelV y u) :
    KT H (putK kvs k y) (storedH xs k b u) := by
  have e : (kvs.any fun kv => decide (kv.1 = k)) = (atKey xs k).isSome := by
    rw [valV_any, (r.val k).isSome_eq, Option.isSome_map]
  unfold putK storedH
  rw [e]
  by_cases q : (atKey xs k).isSome = true
  · rw [if_pos q, if_pos q]; exact r.repl k ry
  · rw [if_neg q, if_neg q]; exact Paired.snoc r ⟨rfl, hb, ry⟩
theorem KT.keeps {H H' : Hp} {kvs : List (List Key × V)} {xs : List (List Key × Addr × Value)} (r : KT H kvs xs) (ht : ∀ b ys, H b = some (.tup ys) → H' b = some (.tup ys)) : KT H' kvs xs :=
  Paired.mapP r fun _ _ z => ⟨z.1, ht _ _ z.2.1, z.2.2⟩

section
variable {P : Program} {w : World} {H : Hp} {h : Heap} {a : Addr}
theorem rd_of {u : HO} (ok : HOk P w H h) (e : Rd H a u) : ObjOk P w H h a u := e.ok ok
theorem dk_rd {kvs : List (Key × V)} (ok : HOk P w H h) (e : Rd H a (.dK kvs)) : kvs.length ≤ sizeLine ∧ (a == sysModules) = false ∧ ∃ vs, KV kvs vs ∧ h.DictOf (mixKind P w) a vs :=
  show ObjOk P w H h a (.dK kvs) from rd_of ok e
theorem dk_of {kvs : List (Key × V)} (ok : HOk P w H h) (e : H a = some (.dK kvs)) : kvs.length ≤ sizeLine ∧ (a == sysModules) = false ∧ ∃ vs, KV kvs vs ∧ h.DictOf (mixKind P w) a vs := dk_rd ok (.inl e)
/-- a tracked tuple of ints and texts is a key -/
theorem key_of {ks : List Key} (ok : HOk P w H h) (e : H a = some (.tup (ks.map kV))) : (tupleKind (mixKind P w)).is h ks a := by
  obtain ⟨_, its, r, o, h1, h2, n, h3⟩ := (show ObjOk P w H h a (.tup (ks.map kV)) from ok a _ e)
  exact ⟨o, its.toArray, n, h1, h2, h3, by simpa using items_are r⟩
theorem dt_rd {kvs : List (List Key × V)} (ok : HOk P w H h) (e : Rd H a (.dT kvs)) : kvs.length ≤ sizeLine ∧ (a == sysModules) = false ∧
    ∃ xs, KT H kvs xs ∧ h.DictOfH (tupleKind (mixKind P w)) a xs := by
  obtain ⟨z, y, xs, r, o, es, ep, h1, h2, h3, h4, h5⟩ := (show ObjOk P w H h a (.dT kvs) from rd_of ok e)
  refine ⟨z, y, xs, r, o, es, ep, h1, h2, h3, h4, fun x hx => ?_, h5⟩
  have all : ∀ {l : List (List Key × V)} {m : List (List Key × Addr × Value)}, KT H l m → ∀ x ∈ m, (tupleKind (mixKind P w)).is h x.1 x.2.1 := by
    intro l m q
    induction q with
    | nil => intro x hx; exact nomatch hx
    | @cons p q ps qs hq t ih =>
      intro x hx
      rcases List.mem_cons.mp hx with e | hx
      · subst e
        exact key_of ok (by rw [← hq.1]; exact hq.2.1)
      · exact ih x hx
  exact all r x hx
theorem dt_of {kvs : List (List Key × V)} (ok : HOk P w H h) (e : H a = some (.dT kvs)) : kvs.length ≤ sizeLine ∧ (a == sysModules) = false ∧
    ∃ xs, KT H kvs xs ∧ h.DictOfH (tupleKind (mixKind P w)) a xs := dt_rd ok (.inl e)
end

/-- what the dict at a holds at the key y -/
def DGet (H : Hp) (a : Addr) (y : V) (r : Option V) : Prop :=
  (∃ kvs k, Rd H a (.dK kvs) ∧ y = kV k ∧ r = valV kvs k) ∨ ∃ kvs k b, Rd H a (.dT kvs) ∧ y = .ref b ∧ H b = some (.tup (k.map kV)) ∧ r = valV kvs k
/-- the heap behind a[y] = v -/
def DPut (H : Hp) (a : Addr) (y v : V) (H' : Hp) : Prop :=
  (∃ kvs k, H a = some (.dK kvs) ∧ y = kV k ∧ kvs.length < sizeLine ∧ H' = upd H a (.dK (putK kvs k v))) ∨
  ∃ kvs k b, H a = some (.dT kvs) ∧ y = .ref b ∧ H b = some (.tup (k.map kV)) ∧ kvs.length < sizeLine ∧ H' = upd H a (.dT (putK kvs k v))
theorem DGet.t {H : Hp} {a b : Addr} {kvs : List (List Key × V)} {k : List Key} (e : H a = some (.dT kvs)) (eb : H b = some (.tup (k.map kV))) : DGet H a (.ref b) (valV kvs k) := .inr ⟨kvs, k, b, .inl e, rfl, eb, rfl⟩
theorem DPut.t {H : Hp} {a b : Addr} {kvs : List (List Key × V)} {k : List Key} {v : V} (e : H a = some (.dT kvs)) (eb : H b = some (.tup (k.map kV))) (hl : kvs.length < sizeLine) :
    DPut H a (.ref b) v (upd H a (.dT (putK kvs k v))) := .inr ⟨kvs, k, b, e, rfl, eb, hl, rfl⟩

section
variable {X : Cx} {pins : List (Addr × Obj)} {σ : St} {H : Hp} {s : Shared} {a : Addr} {y v : V} {u r : Value} {o : Option V} {A : Around} {E : Value → Shared → Prop}

theorem Inv.big (I : Inv X pins σ H s) : sysModules < s.heap.objs.size := by
  have h : mainGlobals < s.heap.objs.size := (I.mod.glob.keeps I.bk).lt
  exact Nat.lt_trans (by decide) h

/-- d[y], there -/
theorem d_getItem {Q : Value → Shared → Prop} (hu : A.units + 1 < cLine) (I : Inv X pins σ H s) (g : DGet H a y (some v)) (ry : RelV y u) (h : ∀ w' s', Inv X pins σ H s' → RelV v w' → Q w' s') :
    wpAny (model X.prog X.w) A (getItem (.ref a) u) Q E s := by
  rcases g with ⟨kvs, k, e, ey, l⟩ | ⟨kvs, k, b, e, ey, eb, l⟩
  · subst ey
    obtain ⟨z, hd, vs, rel, dd⟩ := dk_rd I.hok e
    obtain ⟨w', hw, rw'⟩ := RelO.some_of (v := v) (o := valueAt vs k) (by rw [l]; exact rel.val k)
    exact wpAny_getItem_of (kV_is ry) dd.mapOf hw (h w' _ (I.tok _) rw')
  · subst ey
    cases (show u = Value.ref b from ry)
    obtain ⟨z, hd, xs, rel, dd⟩ := dt_rd I.hok e
    obtain ⟨w', hw, rw'⟩ := RelO.some_of (v := v) (o := (atKey xs k).map (·.2)) (by rw [l]; exact rel.val k)
    obtain ⟨p, hp, hp2⟩ := Option.map_eq_some_iff.mp hw
    refine wpAny_getItem_heap (tupleKind_room_in1 hu) (key_of I.hok eb) dd hp ?_
    rw [hp2]
    exact h w' _ (I.tok _) rw'
theorem d_notIn {Q : Value → Shared → Prop} (hu : A.units + 1 < cLine) (I : Inv X pins σ H s) (g : DGet H a y o) (ry : RelV y u) (h : ∀ s', Inv X pins σ H s' → Q (.bool (!o.isSome)) s') :
    wpAny (model X.prog X.w) A (compareOp .NotIn u (.ref a)) Q E s := by
  rcases g with ⟨kvs, k, e, ey, l⟩ | ⟨kvs, k, b, e, ey, eb, l⟩
  · subst ey
    obtain ⟨z, hd, vs, rel, dd⟩ := dk_rd I.hok e
    refine wpAny_notIn_of (kV_is ry) hd dd.mapOf ?_
    rw [← (rel.val k).isSome_eq, ← l]
    exact h _ (I.tok _)
  · subst ey
    cases (show u = Value.ref b from ry)
    obtain ⟨z, hd, xs, rel, dd⟩ := dt_rd I.hok e
    refine wpAny_notIn_heap (tupleKind_room_in1 hu) (key_of I.hok eb) hd dd ?_
    have q := (rel.val k).isSome_eq
    rw [Option.isSome_map] at q
    rw [← q, ← l]
    exact h _ (I.tok _)
/-- a dict's object is replaced -/
theorem d_write {h' : Heap} {t' : Nat} {ob : HO} (I : Inv X pins σ H s) (mu : Mut (H a)) (hs : Heap.SameBut a s.heap h') (he : ∃ q, h'.get? a = some q) (new : ObjOk X.prog X.w (upd H a ob) h' a ob) :
    Inv X pins σ (upd H a ob) { s with heap := h', toks := t' } :=
  I.write (x := a) (e := a) mu (.inl rfl) (fun b q hb z => (hs.2 b hb).trans z) he new
theorem dk_new {P : Program} {w : World} {H' : Hp} {h' : Heap} {kvs : List (Key × V)} {vs : List (Key × Value)} (z : kvs.length ≤ sizeLine) (hd : (a == sysModules) = false) (rel : KV kvs vs) (dd : h'.DictOf (mixKind P w) a vs) :
    ObjOk P w H' h' a (.dK kvs) := ⟨z, hd, vs, rel, dd⟩
/-- d[y] = v -/
theorem d_setItem {H' : Hp} {Q : Unit → Shared → Prop} (hu : A.units + 1 < cLine) (I : Inv X pins σ H s) (g : DPut H a y v H') (ry : RelV y u) (rv : RelV v r) (h : ∀ s', Inv X pins σ H' s' → Q () s') :
    wpAny (model X.prog X.w) A (setItem (.ref a) u r) Q E s := by
  rcases g with ⟨kvs, k, e, ey, l, eH⟩ | ⟨kvs, k, b, e, ey, eb, l, eH⟩
  · subst ey eH
    obtain ⟨z, hd, vs, rel, dd⟩ := dk_of I.hok e
    have hz : vs.length ≤ sizeLine := by rw [← rel.length]; exact z
    have hl : (putK kvs k v).length ≤ sizeLine := by have := length_putK kvs k v; omega
    refine wpAny_setItem_pairs (hsz := hz) (kV_is ry) dd fun h' dd' hs => h _ ?_
    have he : ∃ q, h'.get? a = some q := let ⟨q, _, _, hq, _⟩ := dd'; ⟨q, hq⟩
    exact d_write I (by rw [e]; exact True.intro) hs he (dk_new hl hd (rel.put k rv) dd')
  · subst ey eH
    cases (show u = Value.ref b from ry)
    obtain ⟨z, hd, xs, rel, dd⟩ := dt_of I.hok e
    have hz : xs.length ≤ sizeLine := by rw [← Paired.length rel]; exact z
    have hl : (putK kvs k v).length ≤ sizeLine := by have := length_putK kvs k v; omega
    refine wpAny_setItem_heap (hsz := hz) (tupleKind_room_in1 hu) (key_of I.hok eb) dd fun h' dd' hs => h _ ?_
    obtain ⟨q, es, ep, hq, h2, h3, h4, _, h5⟩ := dd'
    refine d_write I (by rw [e]; exact True.intro) hs ⟨q, hq⟩ ⟨hl, hd, _, (rel.put k eb rv).keeps fun c ys ec => ?_, q, es, ep, hq, h2, h3, h4, h5⟩
    rw [upd_ne (ne_of ec e (fun z => nomatch z))]
    exact ec
end

section
variable {X : Cx} {pins : List (Addr × Obj)} {σ : St} {H : Hp} {s : Shared} {a : Addr} {kvs : List (Key × V)} {k : Key} {u : Value} {A : Around} {E : Value → Shared → Prop}
end

/-! ### readings and rules -/
/-- the element of a subscription, not a slice -/
def NoSl (i : Expr) : Prop := ∀ ov iv, subscripted i false ov iv = operate [ov, iv] (getItem ov iv)
theorem subD_of {prog : Program} {w : World} {A : Around} {E : Value → Shared → Prop} {s : Shared} {env : Env} {value slice : Expr} {pos : Pos} {T id : String} {Q : Value → Shared → Prop}
    (hl : typeLookup (.type T) "__getitem__" = pure (some (.builtin id))) (hs : NoSl slice)
    (h : wpAny (model prog w) A (eval value env) (fun o s₁ => wpAny (model prog w) A (eval slice env) (fun i s₂ => s₂.TypeIs o T ∧ wpAny (model prog w) A (getItem o i) Q E s₂) E s₁) E s) :
    wpAny (model prog w) A (eval (.Subscript value slice pos) env) Q E s := by
  refine Subscript_ (wpAny_mono h (fun o s₁ h₁ => wpAny_mono h₁ (fun i s₂ h₂ => ?_) fun _ _ x => x) fun _ _ x => x)
  obtain ⟨hT, h₂⟩ := h₂
  unfold subscriptTail
  refine wpAny_bind ?_
  rw [getitemInPython_of_ne hT.not_modules]
  refine wpAny_bind (wpAny_specialOf hT hl ?_)
  have fin : wpAny (model prog w) A (subscripted slice false o i) (fun r s₃ => wpAny (model prog w) A (letTemporaryGo value o r >>= fun _ => pure r) Q E s₃) E s₂ := by
    rw [hs o i]
    exact wpAny_operating (wpAny_mono h₂ (fun r s₃ h₃ => wpAny_bind (wpAny_letTemporaryGo (wpAny_pure h₃))) fun _ _ x => x)
  first
    | exact wpAny_pure (wpAny_bind fin)
    | exact wpAny_bind (wpAny_pure (wpAny_bind fin))
    | exact wpAny_bind fin

theorem dict_typeIs {X : Cx} {pins : List (Addr × Obj)} {σ : St} {H : Hp} {s : Shared} {a : Addr} {y : V} {o : Option V} (I : Inv X pins σ H s) (g : DGet H a y o) : s.TypeIs (.ref a) "dict" := by
  rcases g with ⟨kvs, k, e, _, _⟩ | ⟨kvs, k, b, e, _, _, _⟩
  · obtain ⟨_, _, vs, _, dd⟩ := dk_rd I.hok e
    exact dd.typeIs
  · obtain ⟨_, _, xs, _, dd⟩ := dt_rd I.hok e
    exact dd.typeIs

/-- d[y] -/
def tDGet (td ty : TE) : TE := fun σ H Q => td σ H fun x H1 => ty σ H1 fun y H2 => ∃ a v, x = .ref a ∧ DGet H2 a y (some v) ∧ Q v H2
def tDNotIn (ty td : TE) : TE := fun σ H Q => ty σ H fun y H1 => td σ H1 fun x H2 => ∃ a o, x = .ref a ∧ DGet H2 a y o ∧ Q (.bl (!o.isSome)) H2
/-- d[y] = v -/
def sDPut (td ty tv : TE) : TS := fun D σ H => tv σ H fun v H1 => td σ H1 fun x H2 => ty σ H2 fun y H3 => ∃ a H4, x = .ref a ∧ DPut H3 a y v H4 ∧ D.nx σ H4

section
variable {X : Cx} {o i e value : Expr} {pos pos' tpos : Pos} {td ty tv : TE}
theorem pe_dget (hu : X.A.units + 1 < cLine) (ho : PE X o td) (hi : PE X i ty) (hs : NoSl i) : PE X (.Subscript o i pos) (tDGet td ty) := by
  intro pins s σ H Q I h
  refine subD_of PySem.F.slot_dict_getitem.lookup hs (thn (ho pins s σ H _ I h) fun u s1 ⟨x, H1, I1, rx, q1⟩ => thn (hi pins s1 σ H1 _ I1 q1) fun iv s2 ⟨y, H2, I2, ry, a, v, ex, g, q2⟩ => ?_)
  subst ex
  obtain rfl : u = Value.ref a := rx
  exact ⟨dict_typeIs I2 g, d_getItem hu I2 g ry fun w' s3 I3 rw' => ⟨v, H2, I3, rw', q2⟩⟩
theorem pc_dnotin (hu : X.A.units + 1 < cLine) (hi : PE X i ty) (ho : PE X o td) : PC X .NotIn i o (tDNotIn ty td) := by
  intro pins s σ H Q I h
  refine thn (hi pins s σ H _ I h) fun iv s1 ⟨y, H1, I1, ry, q1⟩ => thn (ho pins s1 σ H1 _ I1 q1) fun u s2 ⟨x, H2, I2, rx, a, ov, ex, g, q2⟩ => ?_
  subst ex
  obtain rfl : u = Value.ref a := rx
  exact d_notIn hu I2 g ry fun s3 I3 => ⟨.bl (!ov.isSome), H2, I3, rfl, q2⟩
theorem ps_dput (hu : X.A.units + 1 < cLine) (ho : PE X o td) (hi : PE X i ty) (hv : PE X value tv) (hs : swapsWith value (some (.Subscript o i pos')) pos.line X.env = pure false) :
    PS X (.Assign [.Subscript o i pos'] value pos) (sDPut td ty tv) := by
  intro pins s σ H D I h
  refine wpAny_Assign_Subscript (thn (hv pins s σ H _ I h) fun r s1 ⟨v, H1, I1, rv, q1⟩ => thn (ho pins s1 σ H1 _ I1 q1) fun u s2 ⟨x, H2, I2, rx, q2⟩ => thn (hi pins s2 σ H2 _ I2 q2) fun iv s3 ⟨y, H3, I3, ry, a, H4, ex, g, q3⟩ => ?_) hs
  subst ex
  obtain rfl : u = Value.ref a := rx
  exact d_setItem hu I3 g ry rv fun s4 I4 => ⟨σ, H4, I4, q3⟩
end

/-! ### displays -/
theorem dt_empty {P : Program} {w : World} {H : Hp} (h : Heap) (hb : sysModules < h.objs.size) : ObjOk P w H (h.push { cls := .type "dict", data := .dict #[] }) h.objs.size (.dT []) :=
  ⟨Nat.zero_le _, beq_eq_false_iff_ne.mpr (Ne.symm (Nat.ne_of_lt hb)), [], .nil, _, #[], 0, Heap.get?_push_size _ rfl, ⟨rfl, rfl, rfl⟩, rfl, rfl, List.nodup_nil⟩
def tDNewT : TE := fun _ H Q => ∀ p, H p = none → Q (.ref p) (upd H p (.dT []))
section
variable {X : Cx} {pos : Pos}
theorem pe_dnewT : PE X (.Dict [] [] pos) tDNewT := fun pins s σ H Q I h =>
  wpAny_Dict_empty ⟨.ref s.heap.objs.size, _, I.laid (a := s.heap.objs.size) (o := .dT []) (t' := s.toks) (fun _ _ q => Heap.get?_push_of_some _ q) (Nat.le_refl _) (dt_empty s.heap I.big), rfl, h _ (I.hok.fresh (Nat.le_refl _))⟩
end

/-! ### methods -/
structure M2 (X : Cx) (o : Expr) (m : Str) (apos : Pos) (e f : Expr) (cpos : Pos) : Prop where
  base : attributeBase o m X.env (eval o X.env) = eval o X.env
  few : ((backTo cpos (starEach [e, f] X.env)).all (fun x => !x.1) && (backToKw cpos (keywordEach [] X.env)).all (fun x => x.1.isSome)
    && decide (([e, f] : List Expr).length + ([] : List Keyword).length + (if ([] : List Keyword).isEmpty then 0 else 1) < 30)) = true
  line : (apos.endLine == cpos.line) = true
  trees : backTo cpos (starEach [e, f] X.env) = [(false, eval e X.env), (false, eval f X.env)]

/-- a is a dict, whatever its keys -/
def IsD (H : Hp) (a : Addr) : Prop := (∃ kvs, Rd H a (.dK kvs)) ∨ ∃ kvs, Rd H a (.dT kvs)
theorem isD_at {X : Cx} {pins : List (Addr × Obj)} {σ : St} {H : Hp} {s : Shared} {a : Addr} (I : Inv X pins σ H s) (d : IsD H a) :
    s.TypeIs (.ref a) "dict" ∧ (∀ b, Value.ref a = .ref b → ∃ ob, s.heap.get? b = some ob ∧ ob.dict = none) ∧ (a == sysModules) = false := by
  rcases d with ⟨kvs, e⟩ | ⟨kvs, e⟩
  · obtain ⟨_, hd, vs, _, dd⟩ := dk_rd I.hok e
    refine ⟨dd.typeIs, fun b q => ?_, hd⟩
    cases q
    obtain ⟨ob, _, _, h1, h2, _⟩ := dd
    exact ⟨ob, h1, h2.2.1⟩
  · obtain ⟨_, hd, xs, _, dd⟩ := dt_rd I.hok e
    refine ⟨dd.typeIs, fun b q => ?_, hd⟩
    cases q
    obtain ⟨ob, _, _, h1, h2, _⟩ := dd
    exact ⟨ob, h1, h2.2.1⟩

section
variable {X : Cx} {pins : List (Addr × Obj)} {σ : St} {H : Hp} {s : Shared} {a : Addr} {y d : V} {u r : Value} {o : Option V} {A : Around} {E : Value → Shared → Prop}
/-- d.get(y, x) -/
theorem d_get2 {Q : Value → Shared → Prop} (hu : A.units + 1 < cLine) (I : Inv X pins σ H s) (g : DGet H a y o) (ry : RelV y u) (rd : RelV d r) (h : ∀ w' s', Inv X pins σ H s' → RelV (o.getD d) w' → Q w' s') :
    wpAny (model X.prog X.w) A (call (.builtin "dict.get") [.ref a, u, r]) Q E s := by
  rcases g with ⟨kvs, k, e, ey, l⟩ | ⟨kvs, k, b, e, ey, eb, l⟩
  · subst ey
    obtain ⟨z, hd, vs, rel, dd⟩ := dk_rd I.hok e
    refine call_meetsIn PySem.F.slot_dict_get dd.typeIs PySem.F.entry_dict_get (PySem.F.args_dict_get_3 _ _ _) (meets_dict_get_default (mixKind X.prog X.w) a (kV_is ry) hd r) ⟨_, dd.mapOf, h _ _ (I.tok _) ?_⟩
    rw [l]
    exact (rel.val k).getD rd
  · subst ey
    cases (show u = Value.ref b from ry)
    obtain ⟨z, hd, xs, rel, dd⟩ := dt_rd I.hok e
    refine call_meetsIn PySem.F.slot_dict_get dd.typeIs PySem.F.entry_dict_get (PySem.F.args_dict_get_3 _ _ _) (meetsH_dict_get_default (tupleKind (mixKind X.prog X.w)) a b hd r) ⟨tupleKind_room_in1 hu, k, xs, key_of I.hok eb, dd, h _ _ (I.tok _) ?_⟩
    rw [l]
    exact (rel.val k).getD rd
end

def tDGet2 (td ty tx : TE) : TE := fun σ H Q => td σ H fun x H1 => ∃ a, x = .ref a ∧ IsD H1 a ∧ ty σ H1 fun y H2 => tx σ H2 fun z H3 => ∃ o, DGet H3 a y o ∧ Q (o.getD z) H3
section
variable {X : Cx} {o e f : Expr} {apos cpos : Pos} {td ty tx : TE}
theorem pe_dget2 (hu : X.A.units + 1 < cLine) (ho : PE X o td) (he : PE X e ty) (hf : PE X f tx) (m : M2 X o "get" apos e f cpos) : PE X (.Call (.Attribute o "get" apos) [e, f] [] cpos) (tDGet2 td ty tx) := by
  intro pins s σ H Q I h
  refine wpAny_Call_method m.base m.few m.line PySem.F.plainAttrs_dict PySem.F.slot_dict_get PySem.F.type_dict_get (thn (ho pins s σ H _ I h) fun u s1 ⟨x, H1, I1, rx, a, ex, d, q1⟩ => ?_)
  subst ex
  obtain rfl : u = Value.ref a := rx
  obtain ⟨t1, t2, _⟩ := isD_at I1 d
  refine ⟨t1, t2, ?_⟩
  rw [m.trees]
  refine Calls.callWith_builtin rfl (Calls.evalArgs_plain (Calls.spliced_cons (thn (he pins s1 σ H1 _ I1 q1) fun iv s2 ⟨y, H2, I2, ry, q2⟩ =>
    Calls.spliced_cons (thn (hf pins s2 σ H2 _ I2 q2) fun fv s3 ⟨z, H3, I3, rz, ov, g, q3⟩ => Calls.spliced_nil ?_))))
  exact d_get2 hu I3 g ry rz fun w' s4 I4 rw' => ⟨_, H3, I4, rw', q3⟩
end

/-! ### dict(d): a copy -/
section
variable {X : Cx} {pins : List (Addr × Obj)} {σ : St} {H : Hp} {s : Shared} {a : Addr} {kvs : List (Key × V)} {A : Around} {E : Value → Shared → Prop}
end

section
variable {X : Cx} {pins : List (Addr × Obj)} {σ : St} {H : Hp} {s : Shared} {a : Addr} {y : V} {u : Value} {A : Around} {E : Value → Shared → Prop}
end
end L2

namespace L2
open PySem PySem.Spec PyProof.Rows

section
variable {prog : Program} {w : World} {A : Around} {E : Value → Shared → Prop}

end

section
variable {X : Cx}
end
end L2

namespace L2
open PySem PySem.Spec PyProof.Rows

section
variable {X : Cx} {pins : List (Addr × Obj)} {σ : St} {H : Hp} {s : Shared} {h' : Heap}

/-! ### locking a thing while a statement runs -/
theorem Inv.lock {d : Addr} {u : HO} (I : Inv X pins σ H s) (h : H d = some u) (mu : Mut (some u)) : ∃ od, Inv X pins σ (upd H d (.frz od u)) s := by
  have x := I.hok d u h
  have ex : ∃ od, s.heap.get? d = some od := by
    cases u with
    | lst xs => obtain ⟨_, _, _, _, e⟩ := x; exact ⟨_, e⟩
    | dK kvs => obtain ⟨_, _, _, _, o, _, _, e, _⟩ := x; exact ⟨o, e⟩
    | dT kvs => obtain ⟨_, _, _, _, o, _, _, e, _⟩ := x; exact ⟨o, e⟩
    | set S n => obtain ⟨o, _, _, _, e, _⟩ := x; exact ⟨o, e⟩
    | ins C dx fs => obtain ⟨_, _, _, e, _⟩ := x; exact ⟨_, e⟩
    | ext φ => obtain ⟨_, ⟨_, e⟩, _⟩ := x; exact ⟨_, e⟩
    | _ => exact False.elim mu
  obtain ⟨od, e⟩ := ex
  have new : ObjOk X.prog X.w (upd H d (.frz od u)) s.heap d (.frz od u) := by
    refine ⟨e, x.stay (fun b v _ q => q) (fun b q => ?_) fun b xs q => ?_⟩
    · rw [upd_ne (fun z => by rw [z, h] at q; cases q; exact mu)]; exact q
    · rw [upd_ne (fun z => by rw [z, h] at q; cases q; exact mu)]; exact q
  exact ⟨od, I.write (x := d) (e := d) (t' := s.toks) (h' := s.heap) (by rw [h]; exact mu) (.inl rfl) (fun b v _ q => q) ⟨od, e⟩ new⟩
theorem Inv.nofrz {d : Addr} {u : HO} (I : Inv X pins σ H s) (h : H d = some u) (mu : Mut (some u)) : ∀ o' u', X.H_0 d ≠ some (.frz o' u') := fun o' u' e => by
  have q := I.base.frzs d o' u' e
  rw [h] at q
  cases q
  exact mu
theorem Inv.unlock {d : Addr} {od : Obj} {u : HO} (I : Inv X pins σ H s) (h : H d = some (.frz od u)) (hn : ∀ o' u', X.H_0 d ≠ some (.frz o' u')) : Inv X pins σ (upd H d u) s := by
  have neH : ∀ b o, H b = some o → (∀ o' u', o ≠ .frz o' u') → b ≠ d := fun b o e hne z => by
    rw [z, h] at e
    cases e
    exact hne _ _ rfl
  have neN : ∀ b, H b = none → b ≠ d := fun b e z => by rw [z, h] at e; cases e
  refine ⟨I.ok, I.os, I.bare, ⟨I.base.keep, I.base.slot, fun b o e n hx => ?_, I.base.there, fun b xs e => ?_, fun b o x e => ?_, fun b ps e => ?_⟩, I.loc, I.cell, ?_, fun x c e => ?_, fun p hp => ?_, fun b o e => ?_, I.len⟩
  · rw [upd_ne (neN b (I.base.free b o e n hx))]; exact I.base.free b o e n hx
  · have q := I.base.tups b xs e
    rw [upd_ne (neH b _ q (fun _ _ z => nomatch z))]; exact q
  · have q := I.base.frzs b o x e
    rw [upd_ne (fun z => by rw [z] at e; exact hn _ _ e)]; exact q
  · obtain ⟨m, q⟩ := I.base.tbls b ps e
    exact ⟨m, by rw [upd_ne (neH b _ q (fun _ _ z => nomatch z))]; exact q⟩
  · rw [upd_ne (neN _ I.free)]; exact I.free
  · rw [upd_ne (neN c (I.freeC x c e))]; exact I.freeC x c e
  · obtain ⟨e, n, r⟩ := I.pin p hp
    exact ⟨e, by rw [upd_ne (neN _ n)]; exact n, r⟩
  · by_cases hb : b = d
    · rw [hb, upd_same] at e
      cases e
      rw [hb]
      obtain ⟨_, x⟩ := I.hok d _ h
      exact x.stay (fun c v _ q => q) (fun c q => by rw [upd_ne (neH c _ q (fun _ _ z => nomatch z))]; exact q) fun c xs q => by rw [upd_ne (neH c _ q (fun _ _ z => nomatch z))]; exact q
    · rw [upd_ne hb] at e
      exact (I.hok b o e).stay (fun c v _ q => q) (fun c q => by rw [upd_ne (neH c _ q (fun _ _ z => nomatch z))]; exact q) fun c xs q => by rw [upd_ne (neH c _ q (fun _ _ z => nomatch z))]; exact q
end
/-- the statement runs while the thing at d is locked (read, not written); d and what stands there are the reading's choice -/
def tLock (t : TS) : TS := fun D σ H => ∃ d u, H d = some u ∧ Mut (some u) ∧ ∀ od, t ⟨fun σ' H' => H' d = some (.frz od u) ∧ D.nx σ' (upd H' d u), fun v H' => H' d = some (.frz od u) ∧ D.rt v (upd H' d u), fun σ' H' => H' d = some (.frz od u) ∧ D.bk σ' (upd H' d u), fun σ' H' => H' d = some (.frz od u) ∧ D.ct σ' (upd H' d u)⟩ σ (upd H d (.frz od u))
def tLockE (t : TE) : TE := fun σ H Q => ∃ d u, H d = some u ∧ Mut (some u) ∧ ∀ od, t σ (upd H d (.frz od u)) fun v H' => H' d = some (.frz od u) ∧ Q v (upd H' d u)
section
variable {X : Cx}
theorem ps_lock {st : Stmt} {t : TS} (h : PS X st t) : PS X st (tLock t) := by
  intro pins s σ H D I hw
  obtain ⟨d, u, hd, mu, hw⟩ := hw
  obtain ⟨od, I1⟩ := I.lock hd mu
  refine thn (h pins s σ _ _ I1 (hw od)) fun f s1 q => ?_
  cases f with
  | next => obtain ⟨σ', H', I2, e, q⟩ := q; exact ⟨σ', _, I2.unlock e (I.nofrz hd mu), q⟩
  | brk => obtain ⟨σ', H', I2, e, q⟩ := q; exact ⟨σ', _, I2.unlock e (I.nofrz hd mu), q⟩
  | cont => obtain ⟨σ', H', I2, e, q⟩ := q; exact ⟨σ', _, I2.unlock e (I.nofrz hd mu), q⟩
  | ret v => obtain ⟨x, σ', H', I2, r, e, q⟩ := q; exact ⟨x, σ', _, I2.unlock e (I.nofrz hd mu), r, q⟩
theorem pe_lock {e : Expr} {t : TE} (h : PE X e t) : PE X e (tLockE t) := by
  intro pins s σ H Q I hw
  obtain ⟨d, u, hd, mu, hw⟩ := hw
  obtain ⟨od, I1⟩ := I.lock hd mu
  refine thn (h pins s σ _ _ I1 (hw od)) fun v s1 ⟨x, H1, I2, r, e2, q⟩ => ?_
  exact ⟨x, _, I2.unlock e2 (I.nofrz hd mu), r, q⟩

/-! ### one iterator just laid -/
theorem pi_one {tg : Expr} {pins : List (Addr × Obj)} {σ : St} {H : Hp} {s : Shared} {R : It → Hp → Prop} {J : It} {tn : Nat → Heap → Prop} {tk : Nat} (I : Inv X pins σ H s) (o : Obj)
    (T : Turn X.prog X.w X.K tg J [s.heap.objs.size] s.heap.objs.size tn) (st : tn 0 (s.heap.push o)) (q : R J H) : PIE X pins σ tg R (.ref s.heap.objs.size) { s with heap := s.heap.push o, toks := tk } := by
  refine ⟨s.heap.objs.size, [s.heap.objs.size], tn, J, H, rfl, I.kept fun b ob e => Heap.get?_push_of_some _ e, T, st, fun b hb => ?_, q⟩
  have e : b = s.heap.objs.size := by simpa using hb
  subst e
  exact I.fpOk (Nat.le_refl _) (I.hok.fresh (Nat.le_refl _))
end

/-! ### range with a step -/
section
variable {X : Cx} {tg : Expr}
end

/-! ### reversed(list) -/
section
variable {X : Cx} {tg : Expr}
end

/-! ### a str -/

/-! ### a dict's keys: any dict's entries -/
section
variable {prog : Program} {w : World} {A : Around} {E : Value → Shared → Prop} {s : Shared}
theorem iter_keys {d : Addr} {o : Obj} {es : Array DictEntry} {ep : Nat} {Q : Value → Shared → Prop} (hd : (d == sysModules) = false) (ho : s.heap.get? d = some o) (hc : o.ExactDict) (hdat : o.data = .dict es ep)
    (hQ : Q (.ref s.heap.objs.size) { s with heap := s.heap.push { cls := .type "dict_keyiterator", data := .fields #[.ref d, .int 0 0, .int es.size 0, .int ep 0] } }) :
    wpAny (model prog w) A (pyIter (.ref d)) Q E s := by
  have hT : s.TypeIs (.ref d) "dict" := ⟨o, ho, hc.1⟩
  refine wpAny_pyIter_slot hT F.slot_dict_iter (wpAny_call_entry F.slot_dict_iter hT F.entry_dict_iter ?_ (F.args_dict_iter_1 _))
  unfold Builtin.«dict.__iter__»
  refine wpAny_bind ?_
  unfold Builtin.Dict.dictSlotNone
  refine wpAny_bind (wpAny_notOrdered_dict hT ?_)
  show wpAny _ _ (pure (Value.ref d)) _ _ s
  refine wpAny_pure ?_
  show wpAny _ _ (Builtin.Dict.showsAll d >>= _) _ _ s
  unfold Builtin.Dict.showsAll
  rw [if_neg (by rw [hd]; exact Bool.false_ne_true)]
  refine wpAny_bind (wpAny_pure ?_)
  refine wpAny_bind (wpAny_dictEntries ho hdat ?_)
  refine wpAny_bind (wpAny_dictEpoch ho hdat ?_)
  refine wpAny_bind (wpAny_newObj_type (wpAny_pure ⟨_, rfl, "dict_keyiterator", _, ⟨_, Heap.get?_push_size _ rfl, rfl⟩, F.slot_dict_keyiterator_next.lookup, ?_⟩))
  simpa [rawInt] using hQ
theorem next_key_item {it d : Addr} {i n ep : Nat} {od : Obj} {es : Array DictEntry} {en : DictEntry} {Q : Option Value → Shared → Prop} (hit : s.heap.IsKeyIter it d i n ep) (hod : s.heap.get? d = some od) (hdd : od.data = .dict es ep)
    (hsz : es.size = n) (hx : es[i]? = some en) (hQ : ∀ h', h'.IsKeyIter it d (i + 1) n ep → Heap.SameBut it s.heap h' → Q (some en.key) { s with heap := h' }) : wpAny (model prog w) A (pyNext (.ref it)) Q E s := by
  obtain ⟨o, ho, hc, hd⟩ := id hit
  unfold pyNext
  refine wpAny_bind (wpAny_attempt (wpAny_callSpecial?_slot (name := Str.ofString "__next__") hit.typeIs F.slot_dict_keyiterator_next
    (wpAny_call_entry F.slot_dict_keyiterator_next hit.typeIs F.entry_dict_keyiterator_next ?_ (F.args_dict_keyiterator_next_1 _))))
  refine wpAny_bind (wpAny_pure ?_)
  refine wpAny_bind ?_
  refine wpAny_bind ?_
  first | refine wpAny_bind (wpAny_typeNameOfWhole_keyiter hit.typeIs (wpAny_pure ?_)) | refine wpAny_bind (wpAny_typeNameOf_keyiter hit.typeIs (wpAny_pure ?_))
  refine wpAny_bind (wpAny_fieldsOf ho hd ?_)
  have hown : Builtin.Dict_items.ownsTuple "dict_keyiterator" = false := by decide
  simp only [hown, Bool.false_eq_true, if_false]
  show wpAny _ _ (if (Value.ref d == Value.none) = true then _ else _) _ _ s
  rw [if_neg (show ¬ ((Value.ref d == Value.none) = true) from Bool.false_ne_true)]
  refine wpAny_bind (wpAny_pure ?_)
  refine wpAny_bind (wpAny_dictEntries hod hdd ?_)
  rw [if_neg (by rw [hsz]; simp)]
  refine wpAny_bind (wpAny_pure ?_)
  refine wpAny_bind (wpAny_dictEpoch hod hdd ?_)
  rw [if_neg (by simp)]
  refine wpAny_pure ?_
  obtain ⟨hlt', hen⟩ := Array.getElem?_eq_some_iff.mp hx
  simp only [show ¬ ((i : Int) < 0) from by omega, if_false, Int.toNat_natCast, Array.getElem?_eq_getElem hlt']
  refine wpAny_bind ?_
  first | refine wpAny_bind (wpAny_typeNameOfWhole_keyiter hit.typeIs (wpAny_pure ?_)) | refine wpAny_bind (wpAny_typeNameOf_keyiter hit.typeIs (wpAny_pure ?_))
  refine wpAny_bind (wpAny_isOneOf_keyiter hit.typeIs ?_)
  show wpAny _ _ (setField (.ref it) 1 (rawInt ((i : Int) + 1)) >>= _) _ _ s
  refine wpAny_bind (wpAny_setField ho hd (by simp) ?_)
  have hit' : (s.heap.update it (Obj.mapFields (·.setIfInBounds 1 (rawInt ((i : Int) + 1))))).IsKeyIter it d (i + 1) n ep :=
    ⟨_, Heap.get?_update_self _ ho (Obj.isFreed_of_fields (Obj.data_mapFields hd _)), (Obj.cls_mapFields ..).trans hc, by rw [Obj.data_mapFields hd]; simp [rawInt]⟩
  refine wpAny_bind (wpAny_holding ?_)
  refine wpAny_bind (wpAny_isOneOf_keyiter (s := { s with heap := s.heap.update it (Obj.mapFields (·.setIfInBounds 1 (rawInt ((i : Int) + 1)))) }) hit'.typeIs ?_)
  show wpAny _ _ (pure es[i].key) _ _ _
  rw [hen]
  exact wpAny_pure (wpAny_pure ⟨_, rfl, wpAny_pure (hQ _ hit' (Heap.SameBut.update ..))⟩)
theorem next_key_end {it d : Addr} {i n ep : Nat} {od : Obj} {es : Array DictEntry} {Q : Option Value → Shared → Prop} (hh : A.handled = none) (hit : s.heap.IsKeyIter it d i n ep) (hod : s.heap.get? d = some od) (hdd : od.data = .dict es ep)
    (hsz : es.size = n) (hge : n ≤ i) (hQ : ∀ h', Heap.ExtBut it s.heap h' → Q none { s with heap := h' }) : wpAny (model prog w) A (pyNext (.ref it)) Q E s := by
  obtain ⟨o, ho, hc, hd⟩ := id hit
  unfold pyNext
  refine wpAny_bind (wpAny_attempt (wpAny_callSpecial?_slot (name := Str.ofString "__next__") hit.typeIs F.slot_dict_keyiterator_next
    (wpAny_call_entry F.slot_dict_keyiterator_next hit.typeIs F.entry_dict_keyiterator_next ?_ (F.args_dict_keyiterator_next_1 _))))
  refine wpAny_bind (wpAny_pure ?_)
  refine wpAny_bind ?_
  refine wpAny_bind ?_
  first | refine wpAny_bind (wpAny_typeNameOfWhole_keyiter hit.typeIs (wpAny_pure ?_)) | refine wpAny_bind (wpAny_typeNameOf_keyiter hit.typeIs (wpAny_pure ?_))
  refine wpAny_bind (wpAny_fieldsOf ho hd ?_)
  have hown : Builtin.Dict_items.ownsTuple "dict_keyiterator" = false := by decide
  simp only [hown, Bool.false_eq_true, if_false]
  show wpAny _ _ (if (Value.ref d == Value.none) = true then _ else _) _ _ s
  rw [if_neg (show ¬ ((Value.ref d == Value.none) = true) from Bool.false_ne_true)]
  refine wpAny_bind (wpAny_pure ?_)
  refine wpAny_bind (wpAny_dictEntries hod hdd ?_)
  rw [if_neg (by rw [hsz]; simp)]
  refine wpAny_bind (wpAny_pure ?_)
  refine wpAny_bind (wpAny_dictEpoch hod hdd ?_)
  rw [if_neg (by simp)]
  refine wpAny_pure ?_
  have hge' : es.size ≤ i := by rw [hsz]; exact hge
  simp only [show ¬ ((i : Int) < 0) from by omega, if_false, Int.toNat_natCast, Array.getElem?_eq_none hge']
  refine wpAny_bind ?_
  first | refine wpAny_bind (wpAny_typeNameOfWhole_keyiter hit.typeIs (wpAny_pure ?_)) | refine wpAny_bind (wpAny_typeNameOf_keyiter hit.typeIs (wpAny_pure ?_))
  show wpAny _ _ (setField (.ref it) 0 .none >>= _) _ _ s
  refine wpAny_bind (wpAny_setField ho hd (by simp) ?_)
  show wpAny _ _ (newExc (.type "StopIteration") [] >>= _) _ _ _
  refine wpAny_bind ?_
  simp only [newExc, newTuple]
  refine wpAny_bind (wpAny_newObj_type ?_ (by size_fits))
  refine wpAny_bind (m := firstArgMember _ _) (wpAny_of_eq (a := Value.none) (by first | rfl | (simp only [firstArgMember]; rfl)) ?_)
  refine wpAny_newObj_type ?_ (by size_fits)
  simp only [raiseNew]
  refine wpAny_bind (wpAny_handled ?_)
  rw [show A.in1.handled = none from hh]
  refine wpAny_bind (wpAny_pure (wpAny_throw ?_))
  refine wpAny_bind (wpAny_isInstance (T := "StopIteration") (b := true) ⟨_, Heap.get?_push_size _ rfl, rfl⟩ isSubtype_stop ?_)
  exact wpAny_pure (hQ _ (((Heap.SameBut.update ..).extBut.push _).push _))
end

/-! ### a locked dict -/
theorem kv_get {κ : Type} {kvs : List (κ × V)} {vs : List (κ × Value)} (h : KV kvs vs) : ∀ {i : Nat} {k : κ} {v : V}, kvs[i]? = some (k, v) → ∃ u, vs[i]? = some (k, u) ∧ RelV v u := by
  unfold KV at h
  induction h with
  | nil => intro i k v e; simp at e
  | @cons a b l₁ l₂ r t ih =>
    intro i k v e
    cases i with
    | zero =>
      simp only [List.getElem?_cons_zero, Option.some.injEq] at e
      subst e
      refine ⟨b.2, ?_, r.2⟩
      simp only [List.getElem?_cons_zero]
      exact congrArg some (Prod.ext r.1.symm rfl)
    | succ j =>
      simp only [List.getElem?_cons_succ] at e ⊢
      exact ih e
theorem paired_get {α β : Type} {G : α → β → Prop} {l₁ : List α} {l₂ : List β} (h : Paired G l₁ l₂) : ∀ {i : Nat} {a : α}, l₁[i]? = some a → ∃ b, l₂[i]? = some b ∧ G a b := by
  induction h with
  | nil => intro i a e; simp at e
  | @cons a b l₁ l₂ r t ih =>
    intro i a' e
    cases i with
    | zero =>
      simp only [List.getElem?_cons_zero, Option.some.injEq] at e
      subst e
      exact ⟨b, rfl, r⟩
    | succ j =>
      simp only [List.getElem?_cons_succ] at e ⊢
      exact ih e
theorem relV_key {k : Key} {u : Value} (h : keyIs k u = true) : RelV (kV k) u := by
  rcases keyIs_shape h with ⟨i, t, rfl, rfl⟩ | ⟨x, t, rfl, rfl⟩
  · exact ⟨t, rfl⟩
  · exact ⟨t, rfl⟩
section
variable {X : Cx} {pins : List (Addr × Obj)} {σ : St} {H : Hp} {s : Shared} {d : Addr} {o : Obj}
theorem Inv.frzK {kvs : List (Key × V)} (I : Inv X pins σ H s) (h : H d = some (.frz o (.dK kvs))) :
    (d == sysModules) = false ∧ s.heap.get? d = some o ∧ o.ExactDict ∧ ∃ (es : Array DictEntry) (ep : Nat) (vs : List (Key × Value)), o.data = .dict es ep ∧ es.size = kvs.length ∧ KV kvs vs ∧ s.heap.DictAt (mixKind X.prog X.w) d vs ep := by
  obtain ⟨hd, z, hs, vs, kv, o', es, ep, ho, hx, hdt, r⟩ := I.hok d _ h
  rw [hd] at ho
  cases ho
  refine ⟨hs, hd, hx, es, ep, vs, hdt, ?_, kv, o, es, hd, hx, hdt, r⟩
  have l1 := r.2.1.length
  have l2 : kvs.length = vs.length := Paired.length kv
  rw [Array.length_toList] at l1
  omega
/-- the same for tuple keys -/
theorem Inv.frzT {kvs : List (List Key × V)} (I : Inv X pins σ H s) (h : H d = some (.frz o (.dT kvs))) :
    (d == sysModules) = false ∧ s.heap.get? d = some o ∧ o.ExactDict ∧ ∃ (es : Array DictEntry) (ep : Nat), o.data = .dict es ep ∧ es.size = kvs.length ∧
      ∀ (i : Nat) (k : List Key) (v : V), kvs[i]? = some (k, v) → ∃ (en : DictEntry) (q : Addr), es[i]? = some en ∧ en.key = .ref q ∧ H q = some (.tup (k.map kV)) := by
  obtain ⟨hd, z, hs, xs, pr, o', es, ep, ho, hx, hdt, he, _⟩ := I.hok d _ h
  rw [hd] at ho
  cases ho
  refine ⟨hs, hd, hx, es, ep, hdt, ?_, fun i k v e => ?_⟩
  · have l1 : es.size = xs.length := size_of_entries he
    have l2 : kvs.length = xs.length := Paired.length pr
    omega
  · obtain ⟨b, hb, e1, e2, _⟩ := paired_get pr e
    have q := entry_at he i
    rw [hb] at q
    exact ⟨_, b.2.1, q, rfl, e2⟩
end

/-- the keys of the locked dict at d, in their order -/
def Itk (d : Addr) (o : Obj) (kvs : List (Key × V)) : It :=
  ⟨fun i H => H d = some (.frz o (.dK kvs)) ∧ i < kvs.length, fun i H x H' => H' = H ∧ ∃ k v, kvs[i]? = some (k, v) ∧ x = kV k, fun i H => H d = some (.frz o (.dK kvs)) ∧ kvs.length ≤ i⟩
/-- .. of tuple keys: the key's own tuple -/
def Itkt (d : Addr) (o : Obj) (kvs : List (List Key × V)) : It :=
  ⟨fun i H => H d = some (.frz o (.dT kvs)) ∧ i < kvs.length, fun i H x H' => H' = H ∧ ∃ (k : List Key) (v : V) (q : Addr), kvs[i]? = some (k, v) ∧ x = .ref q ∧ H q = some (.tup (k.map kV)), fun i H => H d = some (.frz o (.dT kvs)) ∧ kvs.length ≤ i⟩
theorem dict_ep {o : Obj} {es es' : Array DictEntry} {ep ep' : Nat} (h : o.data = .dict es ep) (h' : o.data = .dict es' ep') : es' = es ∧ ep' = ep := by
  rw [h] at h'
  cases h'
  exact ⟨rfl, rfl⟩
section
variable {P : Program} {w : World} {K : PySem.W.Frag} {tg : Expr} {d : Addr} {o : Obj} {es : Array DictEntry} {ep : Nat}
theorem turn_keys {kvs : List (Key × V)} (it : Addr) (hod : o.data = .dict es ep) : Turn P w K tg (Itk d o kvs) [it] it (fun i h => h.IsKeyIter it d i kvs.length ep) where
  mem := by simp
  obj := fun i h st b hb => by
    have e : b = it := by simpa using hb
    subst e
    obtain ⟨oi, e, c, dd⟩ := st
    exact ⟨oi, e, fun v z => by rw [dd] at z; cases z⟩
  keep := fun i h h' st k => st.at fun oi e => k it (by simp) oi e
  item := by
    intro X hP hw hK hc i pins s σ H E I hf st hg
    subst hP hw hK
    obtain ⟨hd, hi⟩ := hg
    obtain ⟨f0, f1, f2, f3, f4, f5⟩ := hf it (by simp)
    obtain ⟨hs, hgd, hx, es', ep', vs, hdt, hsz, kv, hm⟩ := I.frzK hd
    obtain ⟨rfl, rfl⟩ := dict_ep hod hdt
    obtain ⟨⟨k, v⟩, hkv⟩ : ∃ p, kvs[i]? = some p := ⟨kvs[i], List.getElem?_eq_getElem hi⟩
    obtain ⟨u, hu, ru⟩ := kv_get kv hkv
    have hl : kvs.length = vs.length := Paired.length kv
    rw [hl] at st
    refine wpAny_pyNext_dict_item st hm hu fun key h' hkey st' sb => ?_
    have I1 : Inv X pins σ H { s with heap := h' } := I.turned (t' := s.toks) (fun b ob hb e => (sb.2 b hb).trans e) f0 f1 f3 f4 f5
    obtain ⟨oi, e, c, dd⟩ := id st'
    refine ⟨key, rfl, go_of (s := { s with heap := h' }) e c dd (by decide) ⟨kV k, H, I1, relV_key (show keyIs k key = true from hkey), ⟨rfl, k, v, hkv, rfl⟩, ?_, fun b hb => (hf b hb).1⟩⟩
    show h'.IsKeyIter it d (i + 1) kvs.length _
    rw [hl]
    exact st'
  done := by
    intro X hP hw hK hc i pins s σ H E I hf st hg
    subst hP hw hK
    obtain ⟨hd, hi⟩ := hg
    obtain ⟨f0, f1, f2, f3, f4, f5⟩ := hf it (by simp)
    obtain ⟨hs, hgd, hx, es', ep', vs, hdt, hsz, kv, hm⟩ := I.frzK hd
    obtain ⟨rfl, rfl⟩ := dict_ep hod hdt
    exact next_key_end (I.ok.hd hc) st hgd hdt hsz hi fun h' eb => ⟨rfl, I.turned (t' := s.toks) (fun b ob hb e => eb b ob hb e) f0 f1 f3 f4 f5⟩
  self := fun A i s Q E st h => wpAny_pyIter_keyiter st h
theorem turn_keysT {kvs : List (List Key × V)} (it : Addr) (hod : o.data = .dict es ep) : Turn P w K tg (Itkt d o kvs) [it] it (fun i h => h.IsKeyIter it d i kvs.length ep) where
  mem := by simp
  obj := fun i h st b hb => by
    have e : b = it := by simpa using hb
    subst e
    obtain ⟨oi, e, c, dd⟩ := st
    exact ⟨oi, e, fun v z => by rw [dd] at z; cases z⟩
  keep := fun i h h' st k => st.at fun oi e => k it (by simp) oi e
  item := by
    intro X hP hw hK hc i pins s σ H E I hf st hg
    subst hP hw hK
    obtain ⟨hd, hi⟩ := hg
    obtain ⟨f0, f1, f2, f3, f4, f5⟩ := hf it (by simp)
    obtain ⟨hs, hgd, hx, es', ep', hdt, hsz, ent⟩ := I.frzT hd
    obtain ⟨rfl, rfl⟩ := dict_ep hod hdt
    obtain ⟨⟨k, v⟩, hkv⟩ : ∃ p, kvs[i]? = some p := ⟨kvs[i], List.getElem?_eq_getElem hi⟩
    obtain ⟨en, q, hen, hkey, hq⟩ := ent i k v hkv
    refine next_key_item st hgd hdt hsz hen fun h' st' sb => ?_
    have I1 : Inv X pins σ H { s with heap := h' } := I.turned (t' := s.toks) (fun b ob hb e => (sb.2 b hb).trans e) f0 f1 f3 f4 f5
    obtain ⟨oi, e, c, dd⟩ := id st'
    exact ⟨en.key, rfl, go_of (s := { s with heap := h' }) e c dd (by decide) ⟨.ref q, H, I1, hkey, ⟨rfl, k, v, q, hkv, rfl, hq⟩, st', fun b hb => (hf b hb).1⟩⟩
  done := by
    intro X hP hw hK hc i pins s σ H E I hf st hg
    subst hP hw hK
    obtain ⟨hd, hi⟩ := hg
    obtain ⟨f0, f1, f2, f3, f4, f5⟩ := hf it (by simp)
    obtain ⟨hs, hgd, hx, es', ep', hdt, hsz, ent⟩ := I.frzT hd
    obtain ⟨rfl, rfl⟩ := dict_ep hod hdt
    exact next_key_end (I.ok.hd hc) st hgd hdt hsz hi fun h' eb => ⟨rfl, I.turned (t' := s.toks) (fun b ob hb e => eb b ob hb e) f0 f1 f3 f4 f5⟩
  self := fun A i s Q E st h => by
    refine wpAny_pyIter_slot st.typeIs F.slot_dict_keyiterator_iter (wpAny_call_entry F.slot_dict_keyiterator_iter st.typeIs F.entry_dict_keyiterator_iter ?_ (F.args_dict_keyiterator_iter_1 _))
    show wpAny _ _ (ret (.ref it)) _ _ s
    exact wpAny_pure ⟨_, rfl, "dict_keyiterator", _, st.typeIs, F.slot_dict_keyiterator_next.lookup, h⟩
end

/-! ### for k in d, d.keys(), d.values(), d.items() -/
/-- the dict is locked (tLock, or by the caller) -/
def iKeys (td : TE) : TI := fun σ H R => td σ H fun x H1 => ∃ d o, x = .ref d ∧ ((∃ kvs, H1 d = some (.frz o (.dK kvs)) ∧ R (Itk d o kvs) H1) ∨ ∃ kvs, H1 d = some (.frz o (.dT kvs)) ∧ R (Itkt d o kvs) H1)
section
variable {X : Cx} {tg e : Expr} {td : TE} {apos cpos : Pos}
theorem pi_keys (he : PE X e td) : PI X tg e (iKeys td) := by
  intro pins s σ H R I h
  refine thn (he pins s σ H _ I h) fun u s1 ⟨x, H1, I1, rx, d, o, ex, q⟩ => ?_
  subst ex
  obtain rfl : u = Value.ref d := rx
  rcases q with ⟨kvs, hd, q⟩ | ⟨kvs, hd, q⟩
  · obtain ⟨hs, hgd, hx, es, ep, vs, hdt, hsz, kv, hm⟩ := I1.frzK hd
    refine iter_keys hs hgd hx hdt (pi_one (tk := s1.toks) I1 _ (turn_keys _ hdt) ⟨_, Heap.get?_push_size _ rfl, rfl, ?_⟩ q)
    rw [hsz] <;> rfl
  · obtain ⟨hs, hgd, hx, es, ep, hdt, hsz, ent⟩ := I1.frzT hd
    refine iter_keys hs hgd hx hdt (pi_one (tk := s1.toks) I1 _ (turn_keysT _ hdt) ⟨_, Heap.get?_push_size _ rfl, rfl, ?_⟩ q)
    rw [hsz] <;> rfl
end

/-! ### enumerate(list) -/
/-! ### zip(list, list) -/
end L2

section 
namespace Bits
open PySem PyProof.Rows

end Bits
end 

section 
namespace TL
open PySem PySem.Builtin PySem.Builtin.Str PySem.StrLaws

/-! ### the list functions -/

/-! ### the model's split and partition are these -/

/-! ### computing spl and par -/

/-! ### digits -/

/-! ### words: x.split() -/
end TL
end 

namespace L2
open PySem PySem.Spec PyProof.Rows

section
variable {X : Cx} {pins : List (Addr × Obj)} {σ : St} {H : Hp} {s : Shared} {Q : VK}
end

section
variable {X : Cx}

/-! ### of a text alone -/

/-! ### of a text and a text -/

end

section
variable {X : Cx} {o e : Expr} {to te : TE}

end
end L2

namespace L2
open PySem PySem.Spec PyProof.Rows

section
variable {X : Cx}
end

/-! ### slices of a text -/

end L2

namespace Att
open PySem PySem.W PySem.Calls PyProof.Rows

/-! ### the script -/

/-! ### the attachment: holds_open's last premise (the goal 'hc' behind k_head) from a wpAny of the law's body -/

/-! ### rules over ANY heap (no ledger) from facts about the written part K: the library's own take a ledger (News) for what they write -/
section
variable {prog : Program} {w : World} {A : Around} {E : Value → Shared → Prop} {s : Shared} {K : Frag}

/-! the whole heap as the ledger: makes every rule that writes through a ledger a rule over any heap -/

end
end Att

namespace L2
open PySem PySem.Spec PyProof.Rows

end L2

namespace L2
open PySem PySem.Spec PyProof.Rows

end L2

/- THE LAST THEOREM (shape; LID, My.* are yours):
   My.Adr: a structure of the addresses that your layer names (classes, functions); My.Txt K t: a structure (Prop) of the equations over K;
   My.txt_mk : {K} {implicit addresses ..} (e1 : nsIn K mainGlobals "law" = some (some (.ref f))) (e2 : K.lookup f = some ⟨oc, od, .func (fnOf "law" "law" params body scope dV kV doc pm an cdv ct), sl⟩) (e3 : codeIn K cdv "law" = true) .. : ∃ t, My.Txt K t

set_option maxRecDepth 100000 in
set_option maxHeartbeats 0 in
theorem PySem.Challenge.cw_LID_holds : PySem.Challenge.rw_LID.Holds := by
  w_on; o_law; k_head; (case hw => w_witness2)
  k_fill
  refine L2.walk_of (l := PySem.Challenge.rw_LID) (n := 63) (k := 40) (x := "script") (CX := fun w => ..) (sp := fun _ => My.sp_law) rfl (by decide) rfl ⟨rfl, by decide, by decide⟩ (fun w h Y => PySem.W.kIn_of Y) ?F ?S ?C
  case F =>
    intro w mg fa h KX G hmg
    have T : ∃ t, My.Txt (L2.KOf KX) t := by
      dsimp only [L2.KOf]                          -- K must stand as «<heap const> w.params» for k_is
      refine' My.txt_mk ?e1 ?e2 ?e3 ..
      (case e1 => PySem.W.k_is)                    -- in the order: a name -> its address -> its object -> its parts
      (case e2 => PySem.W.k_is)
      ..
    obtain ⟨t, T⟩ := T
    have e0 := hmg.symm.trans (PySem.W.mg_of KX G T.law)
    cases e0                                       -- fa is the law's own address
    exact ⟨_, fun s u => .of_eq rfl, fun base kb nb => My.law_fn T kb nb⟩     -- if «.of_eq rfl» comes too early: refine' ⟨_, ?b, fun base kb nb => My.law_fn T kb nb⟩; exact fun s u => .of_eq rfl
  case S => exact fun w H a ns hl hO hS => ..
  case C => exact ..
(the tactic k_is has no namespace: write k_is) -/

/-! SHORT WORDS over the layer: a def of the text, its body, what a loop and a test want. -/
namespace L2
open PySem PySem.Spec PyProof.Rows

/-! ### the text by places -/
/-- the j-th statement of a class's body -/
def inClass (s : Stmt) (j : Nat) : Stmt := match s with
  | .ClassDef _ _ _ body _ _ _ _ _ _ _ => body.getD j (.Pass ⟨0, 0, 0, 0⟩)
  | _ => .Pass ⟨0, 0, 0, 0⟩
def defArgs (s : Stmt) : Arguments := match s with
  | .FunctionDef _ a _ _ _ _ _ _ _ _ => a
  | _ => { posonlyargs := [], args := [], vararg := none, kwonlyargs := [], kw_defaults := [], kwarg := none, defaults := [] }
def defBody (s : Stmt) : List Stmt := match s with
  | .FunctionDef _ _ b _ _ _ _ _ _ _ => b
  | _ => []
def defScope (s : Stmt) : Scope := match s with
  | .FunctionDef _ _ _ _ _ _ sc _ _ _ => sc
  | _ => { kind := .function, names := [], isGenerator := false, isCoroutine := false }

/-! ### no exception leaves a def -/
abbrev CX0 : CXT := fun _ _ _ _ _ _ => False
abbrev E0 : XK := fun _ _ _ => False
theorem pass0 {X : Cx} : Passes CX0 X E0 := fun _ _ _ _ _ _ _ h => h.elim

/-! ### a def (or method) of the text as it stands behind the top -/
structure Fun (K : PySem.W.Frag) (x qual : Str) (st : Stmt) (f : Addr) (fd : FuncData) : Prop where
  ex : ∃ (oc : Value) (od : Option Addr) (kV doc pm : Value) (an : Option Addr) (cdv ct : Value) (osl : Array (Option Value)),
    fd = PySem.W.fnOf x qual (defArgs st) (defBody st) (defScope st) .none kV doc pm an cdv ct ∧ K.lookup f = some ⟨oc, od, .func fd, osl⟩ ∧ PySem.W.codeIn K cdv qual = true
  kp : PySem.W.keepIn K (.ref f) = true
section
variable {P : Program} {w : World} {K : PySem.W.Frag} {mg : Str → Option Value} {base : Heap}
/-- THE RULE for a def: its body as a term of rules, and the reading of that term -/
theorem Fun.ok {x qual : Str} {st : Stmt} {f : Addr} {fd : FuncData} {N ps : List Str} {k : Nat} {sp : Sp} (F : Fun K x qual st f fd) (S : FnScope N ps (defScope st)) (len : ∀ vs H Q E, sp vs H Q E → vs.length = ps.length)
    (hbody : ∀ (cdv : Value) (A : Around) (outer : List Env) (s : Shared) (H : Hp) (vs : List V) (Q : VK) (E : XK), Room k (A.deeper (envOfC qual (defScope st) s.heap.objs.size f cdv)) → sp vs H Q E →
      ∃ t, PSs (cxOf CX0 P w K mg base N qual (defScope st) f cdv A outer s H E).nox (defBody st) t ∧ t { nx := fun _ H' => Q .non H', rt := Q } (start N vs) H) : FnOk P w K mg base CX0 (k + 1) f fd ps sp := by
  obtain ⟨oc, od, kV, doc, pm, an, cdv, ct, osl, rfl, lk, hcd⟩ := F.ex
  refine fn_of lk hcd S len fun A outer s H vs Q E hr hsp => ?_
  obtain ⟨t, h, q⟩ := hbody cdv A outer s H vs Q E hr hsp
  exact ⟨t, h.nox, q⟩
/-- how its arguments bind (no defaults): h is «fun _ _ _ _ _ _ us hl => match us, hl with | [_, _], _ => rfl», one _ a parameter -/
theorem Fun.binds {x qual : Str} {st : Stmt} {f : Addr} {fd : FuncData} {ps : List Str} (F : Fun K x qual st f fd)
    (h : ∀ (kV doc pm : Value) (an : Option Addr) (cdv ct : Value) (us : List Value), us.length = ps.length → bindArgs (PySem.W.fnOf x qual (defArgs st) (defBody st) (defScope st) .none kV doc pm an cdv ct) ⟨us, []⟩ = pure (ps.zip us)) : Binds K fd ps [] := by
  obtain ⟨oc, od, kV, doc, pm, an, cdv, ct, osl, rfl, lk, hcd⟩ := F.ex
  exact .all (h kV doc pm an cdv ct)
theorem fun_mk {x qual : Str} {st : Stmt} {f : Addr} {oc : Value} {od an : Option Addr} {osl : Array (Option Value)} {kV doc pm cdv ct : Value} (l : K.lookup f = some ⟨oc, od, .func (PySem.W.fnOf x qual (defArgs st) (defBody st) (defScope st) .none kV doc pm an cdv ct), osl⟩)
    (c : PySem.W.codeIn K cdv qual = true) (k : PySem.W.keepIn K (.ref f) = true) : Fun K x qual st f (PySem.W.fnOf x qual (defArgs st) (defBody st) (defScope st) .none kV doc pm an cdv ct) := ⟨⟨oc, od, kV, doc, pm, an, cdv, ct, osl, rfl, l, c⟩, k⟩
end
theorem hu_of {A : Around} {k : Nat} (hr : Room k A) : A.units + 1 < cLine := Nat.lt_of_le_of_lt (Nat.add_le_add_left (by decide : 1 ≤ 64) _) hr.units
theorem small1000 {n : Nat} (h : n ≤ 1000) : n < sizeLine := Nat.lt_of_le_of_lt h (by decide)

/-! ### expressions in short: the name that stands in the i-th slot -/
section
variable {X : Cx}
theorem pv (i : Nat) {x : Str} {pos : Pos} (hN : X.N[i]? = some x := by rfl) (hv : Vis X.env.scope x := by first | exact Or.inl rfl | exact Or.inr (Or.inl rfl) | exact Or.inr (Or.inr rfl)) (hd : (x == ("__debug__" : Str)) = false := by decide)
    (hcd : (x == ("__classdict__" : Str)) = false := by decide) : PE X (.Name x pos) (tVar i) := pe_var hN hv hd hcd
end

/-! ### tests -/
theorem iteF {A B : Prop} (h : B) : if false = true then A else B := by
  rw [if_neg Bool.false_ne_true]
  exact h
theorem iteT {A B : Prop} (h : A) : if true = true then A else B := by
  rw [if_pos rfl]
  exact h
theorem ite2 {c A B : Prop} [Decidable c] (h1 : c → A) (h2 : ¬ c → B) : if c then A else B := by
  by_cases h : c
  · rw [if_pos h]
    exact h1 h
  · rw [if_neg h]
    exact h2 h

/-! ### heaps -/
/-- all that was tracked is as it was -/
def Same (H H' : Hp) : Prop := ∀ b o, H b = some o → H' b = some o
theorem Same.refl (H : Hp) : Same H H := fun _ _ h => h
theorem Same.trans {H H1 H2 : Hp} (a : Same H H1) (b : Same H1 H2) : Same H H2 := fun c o h => b c o (a c o h)
theorem Same.free {H H' : Hp} (e : Same H H') {l : Addr} (h : H' l = Option.none) : H l = Option.none := by
  cases q : H l with
  | none => rfl
  | some o =>
    rw [e l o q] at h
    cases h
theorem Same.seq {K : PySem.W.Frag} {H H' : Hp} {a : Addr} {xs : List V} (e : Same H H') (h : SqL K H a xs) : SqL K H' a xs := by
  rcases h with (h | ⟨o, h⟩) | h
  · exact .inl (.inl (e _ _ h))
  · exact .inl (.inr ⟨o, e _ _ h⟩)
  · exact .inr h

/-! ### a dict's pairs: keys that differ -/
section
variable {κ : Type} [DecidableEq κ]
theorem nd_snoc : ∀ {l : List κ} {k : κ}, l.Nodup → ¬ k ∈ l → (l ++ [k]).Nodup
  | [], k, _, _ => by simp
  | a :: r, k, h, hk => by
    obtain ⟨h1, h2⟩ := List.nodup_cons.mp h
    show (a :: (r ++ [k])).Nodup
    refine List.nodup_cons.mpr ⟨fun m => ?_, nd_snoc h2 fun m => hk (List.mem_cons.mpr (Or.inr m))⟩
    rcases List.mem_append.mp m with q | q
    · exact h1 q
    · exact hk (List.mem_cons.mpr (Or.inl (List.mem_singleton.mp q).symm))
end
/-! ### lists -/
theorem at_of {xs : List V} {z : Int} {j : Nat} {v : V} (e : z = (j : Int)) (h : xs[j]? = some v) : atI xs z = some v := by
  rw [e]
  exact atI_nat h
/-- a new instance and its __init__ leave all that was tracked as it was -/
theorem Same.made {H H1 : Hp} {x dx C : Addr} (nx : H x = Option.none) (nd : H dx = Option.none) (k : ∀ b o, (upd (upd H dx (.own x)) x (.ins C dx [])) b = some o → b ≠ x → H1 b = some o) : Same H H1 := fun b o e =>
  k b o (by rw [upd_ne (ne_of_none e nx), upd_ne (ne_of_none e nd)]; exact e) (ne_of_none e nx)
end L2
namespace L2
open PySem PySem.Spec PyProof.Rows
open PySem.W (WData Codec OpenSpec Well WellAll ReadsW ReadsAllW)
/-! ### an answer as data -/
mutual
/-- x stands for the datum d, lists and tuples all the way -/
inductive Dw (K : PySem.W.Frag) (H : Hp) : V → WData → Prop
  | non : Dw K H .non .none
  | bl (b : Bool) : Dw K H (.bl b) (.bool b)
  | int (i : Int) : Dw K H (.int i) (.int i)
  | str (x : Str) : Dw K H (.str x) (.str x)
  | byt (b : Array UInt8) : Dw K H (.byt b) (.bytes b.toList)
  | lst {a : Addr} {xs : List V} {ds : List WData} : SqL K H a xs → DwAll K H xs ds → Dw K H (.ref a) (.list ds)
  | tup {a : Addr} {xs : List V} {ds : List WData} : SqT K H a xs → DwAll K H xs ds → Dw K H (.ref a) (.tuple ds)
inductive DwAll (K : PySem.W.Frag) (H : Hp) : List V → List WData → Prop
  | nil : DwAll K H [] []
  | cons {v : V} {vs : List V} {d : WData} {ds : List WData} : Dw K H v d → DwAll K H vs ds → DwAll K H (v :: vs) (d :: ds)
end
theorem dw_ints {K : PySem.W.Frag} {H : Hp} : ∀ ns : List Int, DwAll K H (ns.map V.int) (ns.map WData.int)
  | [] => .nil
  | n :: r => .cons (.int n) (dw_ints r)
theorem ints_dw {K : PySem.W.Frag} {H : Hp} : ∀ (ns : List Int) (xs : List V), DwAll K H xs (ns.map WData.int) → xs = ns.map V.int
  | [], xs, h => by
    cases h
    rfl
  | n :: r, xs, h => by
    cases h with
    | cons h1 h2 =>
      cases h1
      rw [ints_dw r _ h2] <;> rfl
section
variable {P : Program} {w : World} {K : PySem.W.Frag} {H : Hp} {h : Heap} {R : PySem.W.WRecords} {cl : Str → Option Addr}
theorem sqL_at {a : Addr} {xs : List V} (hok : HOk P w H h) (KX : K.In h) (q : SqL K H a xs) : ∃ (its : List Value) (o : Obj) (n : Nat), Vals xs its ∧ h.get? a = some o ∧ o.cls = .type "list" ∧ o.data = .seq its.toArray n := by
  rcases q with q | ⟨o, its, n, e, hc, _, hd, _, hv⟩
  · obtain ⟨_, its, n, hv, e⟩ := (show ObjOk P w H h a (.lst xs) from q.ok hok)
    exact ⟨its, _, n, hv, e, rfl, rfl⟩
  · exact ⟨its.toList, o, n, hv, KX _ _ e, hc, by simp [hd]⟩
theorem sqT_at {a : Addr} {xs : List V} (hok : HOk P w H h) (KX : K.In h) (q : SqT K H a xs) : ∃ (its : List Value) (o : Obj) (n : Nat), Vals xs its ∧ h.get? a = some o ∧ o.cls = .type "tuple" ∧ o.data = .seq its.toArray n := by
  rcases q with q | ⟨o, its, n, e, hc, hd, _, hv⟩
  · obtain ⟨_, its, hv, o, e, hc, n, hd⟩ := (show ObjOk P w H h a (.tup xs) from q.ok hok)
    exact ⟨its, o, n, hv, e, hc, hd⟩
  · exact ⟨its.toList, o, n, hv, KX _ _ e, hc, by simp [hd]⟩
mutual
theorem Dw.reads (hok : HOk P w H h) (KX : K.In h) : ∀ (d : WData) (v : V) (u : Value), Dw K H v d → RelV v u → ∃ as, ReadsW R cl h u d as
  | .none, _, _, x, r => by
    cases x
    cases r
    exact ⟨_, ReadsW.none⟩
  | .bool b, _, _, x, r => by
    cases x
    cases r
    exact ⟨_, ReadsW.bool b⟩
  | .int i, _, _, x, r => by
    cases x
    obtain ⟨t, rfl⟩ := r
    exact ⟨_, ReadsW.int i t⟩
  | .str s, _, _, x, r => by
    cases x
    obtain ⟨t, rfl⟩ := r
    exact ⟨_, ReadsW.str s t⟩
  | .bytes b, _, _, x, r => by
    cases x
    obtain ⟨t, rfl⟩ := r
    exact ⟨_, ReadsW.bytes _ t⟩
  | .list ds, _, _, x, r => by
    cases x with
    | lst hs ha =>
      cases r
      obtain ⟨its, o, n, rv, ho, hc, hd⟩ := sqL_at hok KX hs
      obtain ⟨as, hr⟩ := Dw.readsAll hok KX ds _ its ha rv
      exact ⟨_, ReadsW.list ho hc hd hr⟩
  | .tuple ds, _, _, x, r => by
    cases x with
    | tup hs ha =>
      cases r
      obtain ⟨its, o, n, rv, ho, hc, hd⟩ := sqT_at hok KX hs
      obtain ⟨as, hr⟩ := Dw.readsAll hok KX ds _ its ha rv
      exact ⟨_, ReadsW.tuple ho hc hd hr⟩
  | .float _, _, _, x, _ => by cases x
  | .dict _, _, _, x, _ => by cases x
  | .bytearray _, _, _, x, _ => by cases x
  | .set _, _, _, x, _ => by cases x
  | .frozenset _, _, _, x, _ => by cases x
  | .obj _ _, _, _, x, _ => by cases x
theorem Dw.readsAll (hok : HOk P w H h) (KX : K.In h) : ∀ (ds : List WData) (vs : List V) (us : List Value), DwAll K H vs ds → Vals vs us → ∃ as, ReadsAllW R cl h us ds as
  | [], _, _, x, r => by
    cases x
    cases r
    exact ⟨_, ReadsAllW.nil⟩
  | d :: ds, _, _, x, r => by
    cases x with
    | cons h1 h2 =>
      cases r with
      | cons r1 r2 =>
        obtain ⟨as, q1⟩ := Dw.reads hok KX d _ _ h1 r1
        obtain ⟨bs, q2⟩ := Dw.readsAll hok KX ds _ _ h2 r2
        exact ⟨_, ReadsAllW.cons q1 q2⟩
end
end
/-! ### the arguments -/
mutual
/-- data that a codec tells -/
def plW : WData → Bool
  | .none => true
  | .bool _ => true
  | .int _ => true
  | .str _ => true
  | .bytes _ => true
  | .list xs => plWs xs
  | .tuple xs => plWs xs
  | _ => false
def plWs : List WData → Bool
  | [] => true
  | x :: r => plW x && plWs r
end
theorem plWs_map {α : Type} {f : α → WData} (h : ∀ a, plW (f a) = true) : ∀ l : List α, plWs (l.map f) = true
  | [] => rfl
  | x :: r => by
    show (plW (f x) && plWs (r.map f)) = true
    rw [h x, plWs_map h r] <;> rfl
theorem pl_enc : ∀ (c : Codec) (a : c.denote), plW (c.enc a) = true
  | .unit, _ => rfl
  | .bool, _ => rfl
  | .int _ _, _ => rfl
  | .nat _ _, _ => rfl
  | .u8, _ => rfl
  | .bytes _ _, _ => rfl
  | .text _ _ _ _, _ => rfl
  | .list _ _ c, a => plWs_map (fun x => pl_enc c x) a
  | .pair c d, a => by
    show (plW (c.enc a.1) && (plW (d.enc a.2) && true)) = true
    rw [pl_enc c a.1, pl_enc d a.2] <;> rfl
  | .triple c d e, a => by
    show (plW (c.enc a.1) && (plW (d.enc a.2.1) && (plW (e.enc a.2.2) && true))) = true
    rw [pl_enc c a.1, pl_enc d a.2.1, pl_enc e a.2.2] <;> rfl
  | .option c, none => rfl
  | .option c, some x => pl_enc c x
theorem pl_encAll : ∀ (cs : List Codec) (a : Codec.denoteAll cs), plWs (Codec.encAll cs a) = true
  | [], _ => rfl
  | c :: cs, a => by
    show (plW (c.enc a.1) && plWs (Codec.encAll cs a.2)) = true
    rw [pl_enc c a.1, pl_encAll cs a.2] <;> rfl
theorem weight_mem : ∀ {xs : List WData} {d : WData}, d ∈ xs → d.weight ≤ WData.weightAll xs
  | [], d, h => absurd h (by simp)
  | x :: r, d, h => by
    show d.weight ≤ x.weight + 1 + WData.weightAll r
    rcases List.mem_cons.mp h with e | m
    · rw [e]
      omega
    · have z := weight_mem m
      omega
def toV : Value → V
  | .none => .non
  | .bool b => .bl b
  | .int i _ => .int i
  | .str x _ => .str x
  | .bytes b _ => .byt b
  | .ref a => .ref a
  | _ => .non
/-- a value of the arguments, its objects among A -/
def OkU (A : List Addr) : Value → Prop
  | .none => True
  | .bool _ => True
  | .int _ _ => True
  | .str _ _ => True
  | .bytes _ _ => True
  | .ref a => a ∈ A
  | _ => False
theorem OkU.mono {A B : List Addr} (h : ∀ a ∈ A, a ∈ B) : ∀ {u : Value}, OkU A u → OkU B u := fun {u} x => by
  cases u with
  | ref a => exact h a x
  | none => trivial
  | bool b => trivial
  | int i t => trivial
  | str s t => trivial
  | bytes b t => trivial
  | _ => exact False.elim x
theorem relV_toV {A : List Addr} {u : Value} (x : OkU A u) : RelV (toV u) u := by
  cases u with
  | ref a => rfl
  | none => rfl
  | bool b => rfl
  | int i t => exact ⟨t, rfl⟩
  | str s t => exact ⟨t, rfl⟩
  | bytes b t => exact ⟨t, rfl⟩
  | _ => exact False.elim x
theorem vals_toV {A : List Addr} : ∀ {vs : List Value}, (∀ u ∈ vs, OkU A u) → Vals (vs.map toV) vs
  | [], _ => .nil
  | u :: r, h => .cons (relV_toV (h u (List.mem_cons_self ..))) (vals_toV fun x hx => h x (List.mem_cons_of_mem _ hx))
/-- an object of the arguments -/
def ArgOb (h : Heap) (A : List Addr) (a : Addr) : Prop := ∃ vs : List Value, vs.length ≤ sizeLine ∧ (∀ u ∈ vs, OkU A u) ∧
  (h.get? a = some { cls := .type "list", data := .seq vs.toArray } ∨ h.get? a = some { cls := .type "tuple", data := .seq vs.toArray })
theorem ArgOb.mono {h : Heap} {A B : List Addr} {a : Addr} (k : ∀ a ∈ A, a ∈ B) (x : ArgOb h A a) : ArgOb h B a := by
  obtain ⟨vs, h1, h2, h3⟩ := x
  exact ⟨vs, h1, fun u hu => (h2 u hu).mono k, h3⟩
theorem wellAll_len {P : Params} {h : Heap} : ∀ {vs : List Value} {ds : List WData}, WellAll P h vs ds → vs.length = ds.length
  | _, _, .nil => rfl
  | _, _, .cons _ b => by
    show _ + 1 = _ + 1
    rw [wellAll_len b]
theorem well_list {P : Params} {h : Heap} {v : Value} {ds : List WData} (x : Well P h v (.list ds)) : ∃ (a : Addr) (vs : List Value), v = .ref a ∧ h.get? a = some { cls := .type "list", data := .seq vs.toArray } ∧ WellAll P h vs ds := by
  cases x with
  | list ho hall => exact ⟨_, _, rfl, ho, hall⟩
theorem well_tuple {P : Params} {h : Heap} {v : Value} {ds : List WData} (x : Well P h v (.tuple ds)) : ∃ (a : Addr) (vs : List Value), v = .ref a ∧ h.get? a = some { cls := .type "tuple", data := .seq vs.toArray } ∧ WellAll P h vs ds := by
  cases x with
  | tuple ho hall => exact ⟨_, _, rfl, ho, hall⟩
theorem well_cons {P : Params} {h : Heap} {us : List Value} {d : WData} {ds : List WData} (x : WellAll P h us (d :: ds)) : ∃ (v : Value) (vs : List Value), us = v :: vs ∧ Well P h v d ∧ WellAll P h vs ds := by
  cases x with
  | cons a b => exact ⟨_, _, rfl, a, b⟩
theorem line_of {n : Nat} (h : n ≤ 1048576) : n ≤ sizeLine := Nat.le_trans h (by decide)
section
variable {P : Params} {h : Heap}
mutual
theorem area_one : ∀ (d : WData) (v : Value), Well P h v d → plW d = true → d.weight ≤ 1048576 → ∃ A : List Addr, OkU A v ∧ ∀ a ∈ A, ArgOb h A a
  | .none, _, x, _, _ => by
    cases x
    exact ⟨[], trivial, fun a m => absurd m (by simp)⟩
  | .bool b, _, x, _, _ => by
    cases x
    exact ⟨[], trivial, fun a m => absurd m (by simp)⟩
  | .int i, _, x, _, _ => by
    cases x
    exact ⟨[], trivial, fun a m => absurd m (by simp)⟩
  | .str s, _, x, _, _ => by
    cases x
    exact ⟨[], trivial, fun a m => absurd m (by simp)⟩
  | .bytes b, _, x, _, _ => by
    cases x
    exact ⟨[], trivial, fun a m => absurd m (by simp)⟩
  | .list ds, _, x, p, z => by
    obtain ⟨a, vs, rfl, ho, hall⟩ := well_list x
    have z2 : WData.weightAll ds ≤ 1048576 := z
    obtain ⟨A, h1, h2⟩ := area_all ds _ hall p fun d hd => Nat.le_trans (weight_mem hd) z2
    have k : ∀ b ∈ A, b ∈ a :: A := fun b hb => List.mem_cons_of_mem _ hb
    refine ⟨a :: A, List.mem_cons_self .., fun b hb => ?_⟩
    rcases List.mem_cons.mp hb with e | m
    · rw [e]
      exact ⟨vs, line_of (by rw [wellAll_len hall]; exact Nat.le_trans (PySem.W.length_le_weightAllW ds) z2), fun u hu => (h1 u hu).mono k, .inl ho⟩
    · exact (h2 b m).mono k
  | .tuple ds, _, x, p, z => by
    obtain ⟨a, vs, rfl, ho, hall⟩ := well_tuple x
    have z2 : WData.weightAll ds ≤ 1048576 := z
    obtain ⟨A, h1, h2⟩ := area_all ds _ hall p fun d hd => Nat.le_trans (weight_mem hd) z2
    have k : ∀ b ∈ A, b ∈ a :: A := fun b hb => List.mem_cons_of_mem _ hb
    refine ⟨a :: A, List.mem_cons_self .., fun b hb => ?_⟩
    rcases List.mem_cons.mp hb with e | m
    · rw [e]
      exact ⟨vs, line_of (by rw [wellAll_len hall]; exact Nat.le_trans (PySem.W.length_le_weightAllW ds) z2), fun u hu => (h1 u hu).mono k, .inr ho⟩
    · exact (h2 b m).mono k
  | .float _, _, _, p, _ => Bool.noConfusion (show false = true from p)
  | .dict _, _, _, p, _ => Bool.noConfusion (show false = true from p)
  | .bytearray _, _, _, p, _ => Bool.noConfusion (show false = true from p)
  | .set _, _, _, p, _ => Bool.noConfusion (show false = true from p)
  | .frozenset _, _, _, p, _ => Bool.noConfusion (show false = true from p)
  | .obj _ _, _, _, p, _ => Bool.noConfusion (show false = true from p)
theorem area_all : ∀ (ds : List WData) (vs : List Value), WellAll P h vs ds → plWs ds = true → (∀ d ∈ ds, d.weight ≤ 1048576) → ∃ A : List Addr, (∀ u ∈ vs, OkU A u) ∧ ∀ a ∈ A, ArgOb h A a
  | [], _, x, _, _ => by
    cases x
    exact ⟨[], fun u m => absurd m (by simp), fun a m => absurd m (by simp)⟩
  | d :: ds, _, x, p, z => by
    obtain ⟨v, vs, rfl, x1, x2⟩ := well_cons x
    have q : plW d = true ∧ plWs ds = true := Bool.and_eq_true_iff.mp p
    obtain ⟨A, a1, a2⟩ := area_one d v x1 q.1 (z d (List.mem_cons_self ..))
    obtain ⟨B, b1, b2⟩ := area_all ds vs x2 q.2 fun e he => z e (List.mem_cons_of_mem _ he)
    have kA : ∀ b ∈ A, b ∈ A ++ B := fun b hb => List.mem_append.mpr (.inl hb)
    have kB : ∀ b ∈ B, b ∈ A ++ B := fun b hb => List.mem_append.mpr (.inr hb)
    refine ⟨A ++ B, fun u hu => ?_, fun b hb => ?_⟩
    · rcases List.mem_cons.mp hu with e | m
      · rw [e]
        exact a1.mono kA
      · exact (b1 u m).mono kB
    · rcases List.mem_append.mp hb with m | m
      · exact (a2 b m).mono kA
      · exact (b2 b m).mono kB
end
end
/-- what is tracked of an argument's object -/
def hoOf (o : Obj) : Option HO := match o.data with
  | .seq vs _ => if (o.cls == Value.type "list") = true then some (.frz o (.lst (vs.toList.map toV))) else some (.frz o (.tup (vs.toList.map toV)))
  | _ => none
def argH (K : PySem.W.Frag) (h : Heap) (A : List Addr) : Hp := fun b => if b ∈ A then (if (K.lookup b).isNone = true then (h.get? b).bind hoOf else none) else none
/-- nothing is tracked but what is known to the object -/
def OnlyF (H : Hp) : Prop := ∀ b, H b = none ∨ ∃ o u, H b = some (.frz o u)
theorem hoOf_lst (vs : List Value) : hoOf { cls := .type "list", data := .seq vs.toArray } = some (.frz { cls := .type "list", data := .seq vs.toArray } (.lst (vs.map toV))) := by
  show (if (Value.type "list" == Value.type "list") = true then some (HO.frz { cls := .type "list", data := .seq vs.toArray } (.lst (vs.toArray.toList.map toV))) else some (HO.frz { cls := .type "list", data := .seq vs.toArray } (.tup (vs.toArray.toList.map toV)))) = _
  rw [if_pos (beq_self_eq_true _)]
theorem hoOf_tup (vs : List Value) : hoOf { cls := .type "tuple", data := .seq vs.toArray } = some (.frz { cls := .type "tuple", data := .seq vs.toArray } (.tup (vs.map toV))) := by
  show (if (Value.type "tuple" == Value.type "list") = true then some (HO.frz { cls := .type "tuple", data := .seq vs.toArray } (.lst (vs.toArray.toList.map toV))) else some (HO.frz { cls := .type "tuple", data := .seq vs.toArray } (.tup (vs.toArray.toList.map toV)))) = _
  rw [if_neg (by decide)]
section
variable {P : Program} {w : World} {K : PySem.W.Frag} {h : Heap} {A : List Addr}
theorem argH_at {b : Addr} {o : Obj} (hb : b ∈ A) (hk : K.lookup b = none) (e : h.get? b = some o) : argH K h A b = hoOf o := by
  unfold argH
  rw [if_pos hb, hk, if_pos (show (none : Option Obj).isNone = true from rfl), e] <;> rfl
theorem of_argH {b : Addr} {u : HO} (q : argH K h A b = some u) : b ∈ A ∧ K.lookup b = none := by
  unfold argH at q
  by_cases hb : b ∈ A
  · rw [if_pos hb] at q
    cases hk : K.lookup b with
    | none => exact ⟨hb, rfl⟩
    | some o =>
      rw [hk, if_neg (by simp)] at q
      cases q
  · rw [if_neg hb] at q
    cases q
/-- what stands tracked -/
theorem argH_is (ar : ∀ a ∈ A, ArgOb h A a) {b : Addr} {u : HO} (q : argH K h A b = some u) : K.lookup b = none ∧ ∃ vs : List Value, vs.length ≤ sizeLine ∧ (∀ u ∈ vs, OkU A u) ∧
    ((h.get? b = some { cls := .type "list", data := .seq vs.toArray } ∧ u = .frz { cls := .type "list", data := .seq vs.toArray } (.lst (vs.map toV))) ∨
     (h.get? b = some { cls := .type "tuple", data := .seq vs.toArray } ∧ u = .frz { cls := .type "tuple", data := .seq vs.toArray } (.tup (vs.map toV)))) := by
  obtain ⟨hb, hk⟩ := of_argH q
  obtain ⟨vs, h1, h2, h3⟩ := ar b hb
  refine ⟨hk, vs, h1, h2, ?_⟩
  rcases h3 with e | e
  · rw [argH_at hb hk e, hoOf_lst] at q
    exact .inl ⟨e, (Option.some.inj q).symm⟩
  · rw [argH_at hb hk e, hoOf_tup] at q
    exact .inr ⟨e, (Option.some.inj q).symm⟩
theorem argH_only (ar : ∀ a ∈ A, ArgOb h A a) : OnlyF (argH K h A) := fun b => by
  cases q : argH K h A b with
  | none => exact .inl rfl
  | some u =>
    obtain ⟨_, vs, _, _, ⟨_, e⟩ | ⟨_, e⟩⟩ := argH_is ar q
    · exact .inr ⟨_, _, by rw [e]⟩
    · exact .inr ⟨_, _, by rw [e]⟩
theorem argH_ok (ar : ∀ a ∈ A, ArgOb h A a) : HOk P w (argH K h A) h := fun b u q => by
  obtain ⟨_, vs, h1, h2, ⟨e, rfl⟩ | ⟨e, rfl⟩⟩ := argH_is ar q
  · exact ⟨e, by rw [List.length_map]; exact h1, vs, _, vals_toV h2, e⟩
  · exact ⟨e, by rw [List.length_map]; exact h1, vs, vals_toV h2, _, e, rfl, _, rfl⟩
theorem seq_inj {c c' : Value} {vs us : List Value} (e : (some { cls := c, data := .seq vs.toArray } : Option Obj) = some { cls := c', data := .seq us.toArray }) : c = c' ∧ vs = us := by
  have e1 := Option.some.inj e
  have e2 : c = c' := congrArg Obj.cls e1
  have e3 : Data.seq vs.toArray = Data.seq us.toArray := congrArg Obj.data e1
  injection e3 with e4
  refine ⟨e2, ?_⟩
  have e5 := congrArg Array.toList e4
  simpa using e5
/-- a list argument -/
theorem argL (KX : K.In h) (ar : ∀ a ∈ A, ArgOb h A a) {a : Addr} {vs : List Value} (ha : a ∈ A) (e : h.get? a = some { cls := .type "list", data := .seq vs.toArray }) : (∀ u ∈ vs, OkU A u) ∧ SqL K (argH K h A) a (vs.map toV) := by
  obtain ⟨us, h1, h2, h3⟩ := ar a ha
  have hu : us = vs := by
    rcases h3 with q | q
    · rw [e] at q
      exact (seq_inj q).2.symm
    · rw [e] at q
      exact absurd (Value.type.inj (seq_inj q).1) (by decide)
  subst hu
  refine ⟨h2, ?_⟩
  cases hk : K.lookup a with
  | none => exact .inl (.inr ⟨_, by rw [argH_at ha hk e, hoOf_lst]⟩)
  | some o =>
    have e2 := KX a o hk
    rw [e] at e2
    obtain rfl := Option.some.inj e2
    exact .inr ⟨_, us.toArray, _, hk, rfl, rfl, rfl, by rw [List.size_toArray]; exact h1, by simpa using vals_toV h2⟩
theorem argT (KX : K.In h) (ar : ∀ a ∈ A, ArgOb h A a) {a : Addr} {vs : List Value} (ha : a ∈ A) (e : h.get? a = some { cls := .type "tuple", data := .seq vs.toArray }) : (∀ u ∈ vs, OkU A u) ∧ SqT K (argH K h A) a (vs.map toV) := by
  obtain ⟨us, h1, h2, h3⟩ := ar a ha
  have hu : us = vs := by
    rcases h3 with q | q
    · rw [e] at q
      exact absurd (Value.type.inj (seq_inj q).1) (by decide)
    · rw [e] at q
      exact (seq_inj q).2.symm
  subst hu
  refine ⟨h2, ?_⟩
  cases hk : K.lookup a with
  | none => exact .inl (.inr ⟨_, by rw [argH_at ha hk e, hoOf_tup]⟩)
  | some o =>
    have e2 := KX a o hk
    rw [e] at e2
    obtain rfl := Option.some.inj e2
    exact .inr ⟨_, us.toArray, _, hk, rfl, rfl, by rw [List.size_toArray]; exact h1, by simpa using vals_toV h2⟩
mutual
theorem dw_one {Pm : Params} (KX : K.In h) (ar : ∀ a ∈ A, ArgOb h A a) : ∀ (d : WData) (v : Value), Well Pm h v d → plW d = true → OkU A v → Dw K (argH K h A) (toV v) d
  | .none, _, x, _, _ => by
    cases x
    exact .non
  | .bool b, _, x, _, _ => by
    cases x
    exact .bl b
  | .int i, _, x, _, _ => by
    cases x
    exact .int i
  | .str s, _, x, _, _ => by
    cases x
    exact .str s
  | .bytes b, _, x, _, _ => by
    cases x
    have z := Dw.byt (K := K) (H := argH K h A) b.toArray
    exact z
  | .list ds, _, x, p, hu => by
    obtain ⟨a, vs, rfl, ho, hall⟩ := well_list x
    obtain ⟨h2, hs⟩ := argL KX ar hu ho
    exact .lst hs (dw_all KX ar ds _ hall p h2)
  | .tuple ds, _, x, p, hu => by
    obtain ⟨a, vs, rfl, ho, hall⟩ := well_tuple x
    obtain ⟨h2, hs⟩ := argT KX ar hu ho
    exact .tup hs (dw_all KX ar ds _ hall p h2)
  | .float _, _, _, p, _ => Bool.noConfusion (show false = true from p)
  | .dict _, _, _, p, _ => Bool.noConfusion (show false = true from p)
  | .bytearray _, _, _, p, _ => Bool.noConfusion (show false = true from p)
  | .set _, _, _, p, _ => Bool.noConfusion (show false = true from p)
  | .frozenset _, _, _, p, _ => Bool.noConfusion (show false = true from p)
  | .obj _ _, _, _, p, _ => Bool.noConfusion (show false = true from p)
theorem dw_all {Pm : Params} (KX : K.In h) (ar : ∀ a ∈ A, ArgOb h A a) : ∀ (ds : List WData) (vs : List Value), WellAll Pm h vs ds → plWs ds = true → (∀ u ∈ vs, OkU A u) → DwAll K (argH K h A) (vs.map toV) ds
  | [], _, x, _, _ => by
    cases x
    exact .nil
  | d :: ds, _, x, p, hu => by
    obtain ⟨v, vs, rfl, x1, x2⟩ := well_cons x
    have q : plW d = true ∧ plWs ds = true := Bool.and_eq_true_iff.mp p
    exact .cons (dw_one KX ar d v x1 q.1 (hu _ (List.mem_cons_self ..))) (dw_all KX ar ds vs x2 q.2 fun u m => hu u (List.mem_cons_of_mem _ m))
end
end
/-! ### the call -/
theorem spec_call {P : Program} {w : World} {K : PySem.W.Frag} {mg mb : Str → Option Value} {CX : CXT} {k : Nat} {fa : Addr} {fd : FuncData} {ps : List Str} {sp : Sp} {s₁ : Shared} {vals : List Value} {ds : List WData} {R : PySem.W.WRecords} {cl : Str → Option Addr} {d0 : WData}
    (KX : K.In s₁.heap) (hns : s₁.heap.Ns mainGlobals mg) (hb : s₁.heap.Ns builtinsNs mb) (hbb : ∀ x : Str, x ≠ "__name__" → mb x = bootBuiltins x) (hlim : s₁.heap.NoLimit) (hg : s₁.gens = #[])
    (hwl : WellAll w.params s₁.heap vals ds) (hpl : plWs ds = true) (hwt : ∀ d ∈ ds, d.weight ≤ 1048576) (hr : Room k callerA)
    (F : ∀ base : Heap, K.In base → base.Ns mainGlobals mg → FnOk P w K mg base CX k fa fd ps sp) (hbind : ∀ (s : Shared) (us : List Value), us.length = ps.length → BindsTo s fd ⟨us, []⟩ (ps.zip us)) (hlen : ds.length = ps.length)
    (hsp : ∀ (H : Hp) (xs : List V), OnlyF H → DwAll K H xs ds → sp xs H (fun v H' => Dw K H' v d0) fun _ _ _ => False)
    (hCX : ∀ H e s', CX [] H s₁ (fun _ _ _ => False) e s' → False) :
    codeAny (model P w) callerA (.call (.ref fa) ⟨vals, []⟩) (fun r s' => ∃ u as, r = .ok (.ret u) ∧ ReadsW R cl s'.heap u d0 as ∧ OldK s₁.heap s'.heap ∧ s'.os = s₁.os ∧ AllBare s'.gens) s₁ := by
  obtain ⟨A, ho, ar⟩ := area_all ds vals hwl hpl hwt
  have hO : OnlyF (argH K s₁.heap A) := argH_only ar
  have hok : HOk P w (argH K s₁.heap A) s₁.heap := argH_ok ar
  have hS := dw_all KX ar ds vals hwl hpl ho
  have hV := vals_toV ho
  have hK : ∀ b u, argH K s₁.heap A b = some u → K.lookup b = none := fun b u q => (argH_is ar q).1
  have noA : ∀ {b : Addr} {o : Obj} {es : Array DictEntry} {ep : Nat}, s₁.heap.get? b = some o → o.data = .dict es ep → argH K s₁.heap A b = none := fun {b o es ep} e d => by
    cases q : argH K s₁.heap A b with
    | none => rfl
    | some u =>
      obtain ⟨_, vs, _, _, ⟨e2, _⟩ | ⟨e2, _⟩⟩ := argH_is ar q
      · rw [e2] at e
        cases e
        have d' : Data.seq vs.toArray _ = Data.dict es ep := d
        cases d'
      · rw [e2] at e
        cases e
        have d' : Data.seq vs.toArray _ = Data.dict es ep := d
        cases d'
  generalize argH K s₁.heap A = H at hO hok hS hK noA
  have base_of : ∀ {b : Addr} {o : Obj}, s₁.heap.get? b = some o → H b = none → (hidT s₁.heap H).get? b = some o := fun e n => hidT_get e n
  have nsK : ∀ {b : Addr} {m : Str → Option Value}, s₁.heap.Ns b m → (hidT s₁.heap H).Ns b m := fun {b m} ⟨o, es, ep, e, d, r⟩ => ⟨o, es, ep, base_of e (noA e d), d, r⟩
  have nK : ∀ b o, K.lookup b = some o → H b = none := fun b o e => by
    cases q : H b with
    | none => rfl
    | some u =>
      rw [hK b u q] at e
      cases e
  have hKb : K.In (hidT s₁.heap H) := fun b o e => base_of (KX b o e) (nK b o e)
  have hM : Mod K mg (hidT s₁.heap H) := ⟨hKb, nsK hns, ⟨mb, nsK hb, hbb⟩, let ⟨mc, h1, h2⟩ := hlim; ⟨mc, nsK h1, h2⟩⟩
  have e0 : Env0 P w K mg (hidT s₁.heap H) callerA [] s₁ H := ⟨rfl, hM, fun b o e => of_hidT e, Nat.le_of_eq (hidT_size _ _), trivial, fun b hb => absurd (show b ∈ ([] : List Addr) from hb) (by simp), hok, .of_eq hg⟩
  have hl : vals.length = ps.length := by rw [wellAll_len hwl]; exact hlen
  refine codeAny_mono ((F _ hKb (nsK hns)).run callerA [] s₁ H ⟨vals, []⟩ vals (vals.map toV) _ _ hr e0 (hbind s₁ vals hl) hV (hsp H _ hO hS)) fun r s' x => ?_
  cases r with
  | error e => exact (hCX H e s' x).elim
  | ok fl =>
    cases fl with
    | next => exact False.elim x
    | brk => exact False.elim x
    | cont => exact False.elim x
    | ret u =>
      obtain ⟨v, H', os, bare, un, hok', r', q⟩ := x
      have kept : ∀ b o, s₁.heap.get? b = some o → s'.heap.get? b = some o := fun b o e => by
        cases q2 : H b with
        | none => exact un.keep b o e q2 (by intro z; exact absurd (show b ∈ ([] : List Addr) from z) (by simp)) (by simp)
        | some u2 =>
          rcases hO b with z | ⟨ob, u3, z⟩
          · rw [q2] at z
            cases z
          · have z2 := un.frzs b ob _ z
            obtain ⟨e1, _⟩ := hok b _ z
            obtain ⟨e2, _⟩ := hok' b _ z2
            rw [e] at e1
            cases e1
            exact e2
      have KX' : K.In s'.heap := fun b o e => kept b o (KX b o e)
      obtain ⟨as, hrd⟩ := Dw.reads (R := R) (cl := cl) hok' KX' d0 v u q r'
      exact ⟨u, as, rfl, hrd, OldK.of_keep kept, os, bare⟩
/-! ### the row -/
theorem layable_weight {ds : List WData} (h : WData.layableAll ds = true) : ∀ d ∈ ds, d.weight ≤ 1048576 := fun d hd =>
  (PySem.W.layableW_iff.mp (List.all_eq_true.mp h d hd)).2.2
theorem encAll_len : ∀ (cs : List Codec) (a : Codec.denoteAll cs), (Codec.encAll cs a).length = cs.length
  | [], _ => rfl
  | c :: cs, a => by
    show (Codec.encAll cs a.2).length + 1 = cs.length + 1
    rw [encAll_len cs a.2]
/-- the goal that k_headS leaves (case hc), from the promise of the row's def: whatever the arguments that the codecs let and the row asks for, the def gives what stands for enc (f ..) -/
theorem walk_spec {r : OpenSpec} {k : Nat} {q : Program} {loose : List Str} {XP : (Str → Option Value) → Heap → Prop} {YP : World → Heap → Prop} {d : DefRec} {K : Params → PySem.W.Frag} {CX : World → CXT} {ps : List Str} {sp : World → Sp}
    (hwell : r.wellSaid = true) (hdf : d.params.defaults = []) (hlen : r.args.length = ps.length) (hr : Room k callerA)
    (hY : ∀ (w : World) (h : Heap), YP w h → (K w.params).In h)
    (F : ∀ (w : World) (mg : Str → Option Value) (fa : Addr) (h : Heap), YP w h → (K w.params).In h → h.Ns mainGlobals mg → mg d.name = some (.ref fa) →
      ∃ fd : FuncData, (∀ (s : Shared) (us : List Value), us.length = ps.length → BindsTo s fd ⟨us, []⟩ (ps.zip us)) ∧
        ∀ base : Heap, (K w.params).In base → base.Ns mainGlobals mg → FnOk r.prog w (K w.params) mg base (CX w) k fa fd ps (sp w))
    (hsp : ∀ (w : World) (H : Hp) (xs : List V) (a : Codec.denoteAll r.args), OnlyF H → Codec.withinAll r.args a = true → Codec.app r.args r.asked a = true → DwAll (K w.params) H xs (Codec.encAll r.args a) →
      sp w xs H (fun v H' => Dw (K w.params) H' v (r.ret.enc (Codec.app r.args r.f a))) fun _ _ _ => False)
    (hCX : ∀ (w : World) (H : Hp) (s : Shared) (e : Value) (s' : Shared), CX w [] H s (fun _ _ _ => False) e s' → False) :
    PySem.W.WalkOS q loose XP YP r d [] (fun f vs => PySem.call f vs) := by
  intro w s_0 s₁ mg mb G Y fa o pm cd doc dV kV ho hd hcd hD hmg hg args vals as hpre hlay hrd hwl hlo
  obtain ⟨a, e1, e2⟩ := PySem.W.os_pre_some hpre
  obtain ⟨e3, hwi⟩ := Codec.encAll_of_decAll r.args args a e1
  subst e3
  have KX := hY w _ Y
  obtain ⟨fd, hb, hF⟩ := F w mg fa _ Y KX G.T.g hmg
  refine PySem.W.enter_call (codeAny_mono (spec_call (R := []) (cl := classAt s_0.heap) (d0 := r.ret.enc (Codec.app r.args r.f a)) KX G.T.g G.T.b G.T.builtins G.T.nolimit hg hwl (pl_encAll _ _) (layable_weight hlay) hr hF hb (by rw [encAll_len]; exact hlen)
    (fun H xs hO hS => hsp w H xs a hO hwi e2 hS) fun H e s' => hCX w H s₁ e s') fun r' s' hq => ?_)
  obtain ⟨u, as', rfl, h1, h2, h3, h4⟩ := hq
  exact ⟨.inl ⟨u, _, as', rfl, fun _ => rfl, h1, (OpenSpec.post_iff hwell hwi _ _).mpr rfl, fun z => Bool.noConfusion (show false = true from z)⟩, h2, h3, h4⟩
/-- the same where the promise hangs on the written part alone -/
theorem walk_specK {r : OpenSpec} {k : Nat} {q : Program} {loose : List Str} {XP : (Str → Option Value) → Heap → Prop} {YP : World → Heap → Prop} {d : DefRec} {K : Params → PySem.W.Frag} {CX : CXT} {ps : List Str} {sp : PySem.W.Frag → Sp}
    (hwell : r.wellSaid = true) (hdf : d.params.defaults = []) (hlen : r.args.length = ps.length) (hr : Room k callerA)
    (hY : ∀ (w : World) (h : Heap), YP w h → (K w.params).In h)
    (F : ∀ (w : World) (mg : Str → Option Value) (fa : Addr) (h : Heap), YP w h → (K w.params).In h → h.Ns mainGlobals mg → mg d.name = some (.ref fa) →
      ∃ fd : FuncData, (∀ (s : Shared) (us : List Value), us.length = ps.length → BindsTo s fd ⟨us, []⟩ (ps.zip us)) ∧
        ∀ base : Heap, (K w.params).In base → base.Ns mainGlobals mg → FnOk r.prog w (K w.params) mg base CX k fa fd ps (sp (K w.params)))
    (hsp : ∀ (K : PySem.W.Frag) (H : Hp) (xs : List V) (a : Codec.denoteAll r.args), OnlyF H → Codec.withinAll r.args a = true → Codec.app r.args r.asked a = true → DwAll K H xs (Codec.encAll r.args a) →
      sp K xs H (fun v H' => Dw K H' v (r.ret.enc (Codec.app r.args r.f a))) fun _ _ _ => False)
    (hCX : ∀ (H : Hp) (s : Shared) (e : Value) (s' : Shared), CX [] H s (fun _ _ _ => False) e s' → False) :
    PySem.W.WalkOS q loose XP YP r d [] (fun f vs => PySem.call f vs) :=
  walk_spec (K := K) (CX := fun _ => CX) (sp := fun w => sp (K w.params)) hwell hdf hlen hr hY F (fun w H xs a h1 h2 h3 h4 => hsp (K w.params) H xs a h1 h2 h3 h4) fun _ H s e s' => hCX H s e s'
end L2
namespace Ft
open Uw72
/-! ### without repeats, from the left -/
def dd {α : Type} [BEq α] (acc : List α) (x : α) : List α := if acc.contains x then acc else acc ++ [x]
theorem any_rev {α : Type} (p : α → Bool) (l : List α) : l.reverse.any p = l.any p := by simp
theorem dd_loop {α : Type} [BEq α] [LawfulBEq α] : ∀ (l bs : List α), List.eraseDupsBy.loop (· == ·) l bs = l.foldl dd bs.reverse
  | [], bs => by simp [List.eraseDupsBy.loop]
  | a :: l, bs => by
    unfold List.eraseDupsBy.loop
    rw [List.foldl_cons]
    have e : bs.any (fun b => a == b) = bs.reverse.contains a := by
      rw [List.contains_eq_any_beq, any_rev]
    cases h : bs.any (fun b => a == b) with
    | true =>
      simp only [h]
      rw [dd_loop l bs]
      congr 1
      unfold dd
      rw [← e, h]
      simp
    | false =>
      simp only [h]
      rw [dd_loop l (a :: bs)]
      congr 1
      unfold dd
      rw [← e, h]
      simp
theorem eraseDups_dd {α : Type} [BEq α] [LawfulBEq α] (l : List α) : l.eraseDups = l.foldl dd [] := dd_loop l []
theorem dd_new {α : Type} [BEq α] [LawfulBEq α] {acc : List α} {x : α} (h : x ∉ acc) : dd acc x = acc ++ [x] := by
  unfold dd
  rw [if_neg]
  simpa using h
theorem dd_old {α : Type} [BEq α] [LawfulBEq α] {acc : List α} {x : α} (h : x ∈ acc) : dd acc x = acc := by
  unfold dd
  rw [if_pos]
  simpa using h
theorem foldl_dd_apart {α : Type} [BEq α] [LawfulBEq α] : ∀ (l acc : List α), l.Nodup → (∀ x ∈ l, x ∉ acc) → l.foldl dd acc = acc ++ l
  | [], acc, _, _ => by simp
  | a :: l, acc, hn, hd => by
    obtain ⟨h1, h2⟩ := List.nodup_cons.mp hn
    rw [List.foldl_cons, dd_new (hd a (by simp)), foldl_dd_apart l (acc ++ [a]) h2 fun x hx hm => ?_]
    · simp
    · rcases List.mem_append.mp hm with q | q
      · exact hd x (List.mem_cons_of_mem _ hx) q
      · have := List.mem_singleton.mp q
        subst this
        exact h1 hx
theorem mem_foldl_dd {α : Type} [BEq α] [LawfulBEq α] : ∀ (l acc : List α) (x : α), x ∈ l.foldl dd acc ↔ x ∈ acc ∨ x ∈ l
  | [], acc, x => by simp
  | a :: l, acc, x => by
    rw [List.foldl_cons, mem_foldl_dd l _ x]
    by_cases h : a ∈ acc
    · rw [dd_old h]
      simp only [List.mem_cons]
      constructor
      · rintro (q | q)
        · exact .inl q
        · exact .inr (.inr q)
      · rintro (q | q | q)
        · exact .inl q
        · subst q; exact .inl h
        · exact .inr q
    · rw [dd_new h]
      simp only [List.mem_append, List.mem_cons, List.not_mem_nil, or_false, or_assoc]
theorem nodup_dd {α : Type} [BEq α] [LawfulBEq α] {acc : List α} {x : α} (h : acc.Nodup) : (dd acc x).Nodup := by
  by_cases q : x ∈ acc
  · rw [dd_old q]; exact h
  · rw [dd_new q]
    refine List.nodup_append.mpr ⟨h, by simp, fun a ha b hb e => ?_⟩
    have := List.mem_singleton.mp hb
    subst this
    subst e
    exact q ha
theorem nodup_foldl_dd {α : Type} [BEq α] [LawfulBEq α] : ∀ (l acc : List α), acc.Nodup → (l.foldl dd acc).Nodup
  | [], acc, h => h
  | a :: l, acc, h => by
    rw [List.foldl_cons]
    exact nodup_foldl_dd l _ (nodup_dd h)
theorem length_foldl_dd {α : Type} [BEq α] [LawfulBEq α] : ∀ (l acc : List α), (l.foldl dd acc).length ≤ acc.length + l.length
  | [], acc => by simp
  | a :: l, acc => by
    rw [List.foldl_cons]
    have := length_foldl_dd l (dd acc a)
    have h2 : (dd acc a).length ≤ acc.length + 1 := by
      unfold dd
      split
      · omega
      · simp
    simp only [List.length_cons]
    omega

/-! ### rules and stands that may be -/
structure ROk (r : Rules) : Prop where
  lo : 3 ≤ r.full
  hi : r.full ≤ 7
  ov : r.over ≤ 1
  sh : r.shares ≤ 2
def HOkH (r : Rules) (h : Hands) : Prop := h.1 < r.full ∧ h.2 ≤ h.1
structure SOk (r : Rules) (s : Stand) : Prop where
  own : HOkH r s.own
  other : HOkH r s.other
  pos : 0 < s.other.1
theorem hands_max (a b : Nat) : hands a b = (max a b, min a b) := by
  unfold hands
  split <;> (simp only [Prod.mk.injEq]; omega)
theorem hands_comm (a b : Nat) : hands a b = hands b a := by
  rw [hands_max, hands_max, Nat.max_comm, Nat.min_comm]
theorem gets_lt {r : Rules} {a b : Nat} (ha : a < r.full) (hb : b < r.full) : gets r a b < r.full := by
  unfold gets
  split
  · assumption
  · split <;> omega
theorem handsOk {r : Rules} {a b : Nat} (ha : a < r.full) (hb : b < r.full) : HOkH r (hands a b) := by
  rw [hands_max]
  exact ⟨by show max a b < _; omega, by show min a b ≤ max a b; omega⟩
theorem mem_allHands {r : Rules} {h : Hands} : h ∈ allHands r ↔ HOkH r h := by
  unfold allHands HOkH
  rw [List.mem_flatMap]
  constructor
  · rintro ⟨a, ha, hm⟩
    obtain ⟨b, hb, rfl⟩ := List.mem_map.mp hm
    have := List.mem_range.mp ha
    have := List.mem_range.mp hb
    exact ⟨by assumption, by show b ≤ a; omega⟩
  · rintro ⟨h1, h2⟩
    exact ⟨h.1, List.mem_range.mpr h1, List.mem_map.mpr ⟨h.2, List.mem_range.mpr (by omega), rfl⟩⟩
theorem mem_allStands {r : Rules} {s : Stand} : s ∈ allStands r ↔ SOk r s := by
  unfold allStands
  rw [List.mem_flatMap]
  constructor
  · rintro ⟨x, hx, hm⟩
    obtain ⟨y, hy, rfl⟩ := List.mem_map.mp hm
    obtain ⟨hy1, hy2⟩ := List.mem_filter.mp hy
    exact ⟨mem_allHands.mp hx, mem_allHands.mp hy1, by simp at hy2; show 0 < y.1; omega⟩
  · rintro ⟨h1, h2, h3⟩
    exact ⟨s.own, mem_allHands.mpr h1, List.mem_map.mpr ⟨s.other, List.mem_filter.mpr ⟨mem_allHands.mpr h2, by simp; omega⟩, rfl⟩⟩

/-! ### the turns as the program tells them -/
def tapsP (r : Rules) (s : Stand) : List Stand := (taps r s).foldl dd []
def shareAt (s : Stand) (a : Nat) : Stand := ⟨s.other, (a, s.own.1 + s.own.2 - a)⟩
def shareTest (r : Rules) (s : Stand) (a : Nat) : Bool :=
  decide (a ≤ s.own.1 + s.own.2 ∧ (if r.shares = 1 then 1 else 0) ≤ s.own.1 + s.own.2 - a ∧ a ≠ s.own.1)
def sharesUp (r : Rules) (s : Stand) (n : Nat) : List Stand := ((List.range' ((s.own.1 + s.own.2 + 1) / 2) n).filter (shareTest r s)).map (shareAt s)
def sharesP (r : Rules) (s : Stand) : List Stand := if r.shares = 0 then [] else if r.shares = 1 ∧ s.own.2 = 0 then [] else sharesUp r s (r.full - (s.own.1 + s.own.2 + 1) / 2)
def turnsP (r : Rules) (s : Stand) : List Stand := tapsP r s ++ sharesP r s

theorem filterMap_if {α β : Type} (p : α → Prop) [DecidablePred p] (f : α → β) : ∀ l : List α, (l.filterMap fun a => if p a then some (f a) else none) = (l.filter fun a => decide (p a)).map f
  | [] => rfl
  | a :: l => by
    rw [List.filterMap_cons, List.filter_cons]
    by_cases h : p a
    · simp only [h, if_true, decide_true, List.map_cons, filterMap_if p f l]
    · simp only [h, if_false, decide_false, filterMap_if p f l]
      simp
theorem range_split (m n : Nat) : List.range n = List.range (min m n) ++ List.range' m (n - m) := by
  rw [List.range_eq_range', List.range_eq_range']
  by_cases h : m ≤ n
  · have e : min m n = m := by omega
    rw [e]
    have := List.range'_append_1 (s := 0) (m := m) (n := n - m)
    rw [Nat.zero_add] at this
    rw [this]
    congr 1
    omega
  · have e1 : min m n = n := by omega
    have e2 : n - m = 0 := by omega
    rw [e1, e2]
    simp
theorem sharings_eq {r : Rules} {s : Stand} (hr : ROk r) : sharings r s = sharesP r s := by
  unfold sharings sharesP
  by_cases h0 : r.shares = 0
  · rw [if_pos h0, if_pos h0]
  · rw [if_neg h0, if_neg h0]
    have hsh := hr.sh
    show (List.range r.full).filterMap (fun a => if s.own.1 + s.own.2 ≤ 2 * a ∧ a ≤ s.own.1 + s.own.2 ∧ a ≠ s.own.1 ∧ (r.shares = 2 ∨ (a < s.own.1 + s.own.2 ∧ s.own.2 ≠ 0)) then some (⟨s.other, (a, s.own.1 + s.own.2 - a)⟩ : Stand) else none) = _
    rw [filterMap_if (fun a => s.own.1 + s.own.2 ≤ 2 * a ∧ a ≤ s.own.1 + s.own.2 ∧ a ≠ s.own.1 ∧ (r.shares = 2 ∨ (a < s.own.1 + s.own.2 ∧ s.own.2 ≠ 0))) (fun a => (⟨s.other, (a, s.own.1 + s.own.2 - a)⟩ : Stand))]
    by_cases h1 : r.shares = 1 ∧ s.own.2 = 0
    · rw [if_pos h1]
      have e : (List.range r.full).filter (fun a => decide (s.own.1 + s.own.2 ≤ 2 * a ∧ a ≤ s.own.1 + s.own.2 ∧ a ≠ s.own.1 ∧ (r.shares = 2 ∨ (a < s.own.1 + s.own.2 ∧ s.own.2 ≠ 0)))) = [] := by
        rw [List.filter_eq_nil_iff]
        intro a _ hd
        have := of_decide_eq_true hd
        omega
      rw [e]
      rfl
    · rw [if_neg h1]
      unfold sharesUp
      rw [range_split ((s.own.1 + s.own.2 + 1) / 2) r.full, List.filter_append]
      have e : (List.range (min ((s.own.1 + s.own.2 + 1) / 2) r.full)).filter (fun a => decide (s.own.1 + s.own.2 ≤ 2 * a ∧ a ≤ s.own.1 + s.own.2 ∧ a ≠ s.own.1 ∧ (r.shares = 2 ∨ (a < s.own.1 + s.own.2 ∧ s.own.2 ≠ 0)))) = [] := by
        rw [List.filter_eq_nil_iff]
        intro a ha hd
        have := of_decide_eq_true hd
        have := List.mem_range.mp ha
        omega
      rw [e, List.nil_append]
      congr 1
      refine List.filter_congr fun a ha => ?_
      obtain ⟨h2, h3⟩ := List.mem_range'_1.mp ha
      unfold shareTest
      refine decide_eq_decide.mpr ?_
      by_cases hs1 : r.shares = 1
      · rw [if_pos hs1]
        omega
      · rw [if_neg hs1]
        omega
theorem sharesP_mem {r : Rules} {s x : Stand} (hx : x ∈ sharesP r s) : ∃ a, x = ⟨s.other, (a, s.own.1 + s.own.2 - a)⟩ ∧ a < r.full ∧ a ≤ s.own.1 + s.own.2 ∧ s.own.1 + s.own.2 ≤ 2 * a ∧ a ≠ s.own.1 := by
  unfold sharesP at hx
  split at hx
  · cases hx
  · split at hx
    · cases hx
    · unfold sharesUp at hx
      obtain ⟨a, ha, rfl⟩ := List.mem_map.mp hx
      obtain ⟨h1, h2⟩ := List.mem_filter.mp ha
      obtain ⟨h3, h4⟩ := List.mem_range'_1.mp h1
      have h5 := of_decide_eq_true h2
      exact ⟨a, rfl, by omega, h5.1, by omega, h5.2.2⟩
theorem nodup_map_on {α β : Type} {f : α → β} : ∀ {l : List α}, (∀ a ∈ l, ∀ b ∈ l, f a = f b → a = b) → l.Nodup → (l.map f).Nodup
  | [], _, _ => by simp
  | a :: l, hi, hn => by
    obtain ⟨h1, h2⟩ := List.nodup_cons.mp hn
    rw [List.map_cons]
    refine List.nodup_cons.mpr ⟨fun hm => ?_, nodup_map_on (fun x hx y hy => hi x (List.mem_cons_of_mem _ hx) y (List.mem_cons_of_mem _ hy)) h2⟩
    obtain ⟨b, hb, e⟩ := List.mem_map.mp hm
    have := hi b (List.mem_cons_of_mem _ hb) a (by simp) e
    subst this
    exact h1 hb
theorem sharesP_nodup (r : Rules) (s : Stand) : (sharesP r s).Nodup := by
  unfold sharesP
  split
  · simp
  · split
    · simp
    · unfold sharesUp
      refine nodup_map_on (fun a _ b _ e => ?_) (List.Pairwise.filter _ List.nodup_range')
      have := congrArg (fun x : Stand => x.own.1) e
      have e2 : (shareAt s a).other.1 = (shareAt s b).other.1 := by rw [e]
      exact e2
theorem taps_mem {r : Rules} {s x : Stand} (hx : x ∈ taps r s) : ∃ a, (a = s.own.1 ∨ a = s.own.2) ∧ a ≠ 0 ∧ x.other = s.own ∧ ((s.other.1 ≠ 0 ∧ x.own = hands (gets r a s.other.1) s.other.2) ∨ (s.other.2 ≠ 0 ∧ x.own = hands s.other.1 (gets r a s.other.2))) := by
  unfold taps at hx
  obtain ⟨a, ha, hm⟩ := List.mem_flatMap.mp hx
  have ha' : a = s.own.1 ∨ a = s.own.2 := by simpa using ha
  by_cases h0 : a = 0
  · rw [if_pos h0] at hm; cases hm
  · rw [if_neg h0] at hm
    refine ⟨a, ha', h0, ?_⟩
    rcases List.mem_append.mp hm with q | q
    · by_cases hc : s.other.1 = 0
      · rw [if_pos hc] at q; cases q
      · rw [if_neg hc] at q
        have := List.mem_singleton.mp q
        subst this
        exact ⟨rfl, .inl ⟨hc, rfl⟩⟩
    · by_cases hc : s.other.2 = 0
      · rw [if_pos hc] at q; cases q
      · rw [if_neg hc] at q
        have := List.mem_singleton.mp q
        subst this
        exact ⟨rfl, .inr ⟨hc, rfl⟩⟩
/-- the specification's turns are the program's -/
theorem turns_eq {r : Rules} {s : Stand} (hr : ROk r) (hs : SOk r s) : turns r s = turnsP r s := by
  unfold turns turnsP
  by_cases h0 : s.own.1 = 0
  · rw [if_pos h0]
    have h2 : s.own.2 = 0 := by have := hs.own.2; omega
    have e1 : taps r s = [] := by
      unfold taps
      rw [h0, h2]
      rfl
    have e2 : sharesP r s = [] := by
      rw [List.eq_nil_iff_forall_not_mem]
      intro x hx
      obtain ⟨a, _, h3, h4, h5, h6⟩ := sharesP_mem hx
      omega
    unfold tapsP
    rw [e1, e2]
    rfl
  · rw [if_neg h0, eraseDups_dd, List.foldl_append, sharings_eq hr]
    refine foldl_dd_apart _ _ (sharesP_nodup r s) fun x hx hm => ?_
    rcases (mem_foldl_dd _ _ _).mp hm with q | q
    · cases q
    · obtain ⟨a, rfl, _, _, _, hne⟩ := sharesP_mem hx
      obtain ⟨_, _, _, e, _⟩ := taps_mem q
      exact hne (congrArg Prod.fst e)
theorem turnsP_nodup {r : Rules} {s : Stand} (hr : ROk r) (hs : SOk r s) : (turnsP r s).Nodup := by
  unfold turnsP
  refine List.nodup_append.mpr ⟨nodup_foldl_dd _ _ List.nodup_nil, sharesP_nodup r s, fun x hx y hy e => ?_⟩
  subst e
  rcases (mem_foldl_dd _ _ _).mp hx with q | q
  · cases q
  · obtain ⟨a, rfl, _, _, _, hne⟩ := sharesP_mem hy
    obtain ⟨_, _, _, e, _⟩ := taps_mem q
    exact hne (congrArg Prod.fst e)
theorem turnsP_ok {r : Rules} {s x : Stand} (hs : SOk r s) (hx : x ∈ turnsP r s) : SOk r x := by
  rcases List.mem_append.mp hx with q | q
  · rcases (mem_foldl_dd _ _ _).mp q with q | q
    · cases q
    · obtain ⟨a, ha, h0, e, h⟩ := taps_mem q
      have h1 := hs.own
      have h2 := hs.other
      have ha2 : a < r.full := by
        have := h1.1
        have := h1.2
        rcases ha with z | z <;> omega
      have hpos : 0 < s.own.1 := by
        have := h1.2
        rcases ha with z | z <;> omega
      have hc1 := h2.1
      have hc2 : s.other.2 < r.full := Nat.lt_of_le_of_lt h2.2 h2.1
      refine ⟨?_, by rw [e]; exact h1, by rw [e]; exact hpos⟩
      rcases h with ⟨_, e2⟩ | ⟨_, e2⟩
      · rw [e2]; exact handsOk (gets_lt ha2 hc1) hc2
      · rw [e2]; exact handsOk hc1 (gets_lt ha2 hc2)
  · obtain ⟨a, rfl, h1, h2, h3, h4⟩ := sharesP_mem q
    refine ⟨hs.other, ⟨h1, by show s.own.1 + s.own.2 - a ≤ a; omega⟩, ?_⟩
    show 0 < a
    have := hs.own.2
    omega
/-- over and done is to have no turn -/
theorem turnsP_nil {r : Rules} {s : Stand} (hr : ROk r) (hs : SOk r s) : turnsP r s = [] ↔ s.own.1 = 0 := by
  constructor
  · intro h
    refine Decidable.byContradiction fun h0 => ?_
    have hc : s.other.1 ≠ 0 := by have := hs.pos; omega
    have hm : (⟨hands (gets r s.own.1 s.other.1) s.other.2, s.own⟩ : Stand) ∈ taps r s := by
      unfold taps
      refine List.mem_flatMap.mpr ⟨s.own.1, by simp, ?_⟩
      rw [if_neg h0, if_neg hc]
      simp
    have : (⟨hands (gets r s.own.1 s.other.1) s.other.2, s.own⟩ : Stand) ∈ turnsP r s := List.mem_append_left _ ((mem_foldl_dd _ _ _).mpr (.inr hm))
    rw [h] at this
    cases this
  · intro h0
    have e := turns_eq hr hs
    unfold turns at e
    rw [if_pos h0] at e
    exact e.symm
theorem taps_length (r : Rules) (s : Stand) : (taps r s).length ≤ 4 := by
  unfold taps
  simp only [List.flatMap_cons, List.flatMap_nil, List.append_nil, List.length_append]
  have : ∀ a : Nat, (if a = 0 then [] else (if s.other.1 = 0 then [] else [(⟨hands (gets r a s.other.1) s.other.2, s.own⟩ : Stand)]) ++ (if s.other.2 = 0 then [] else [⟨hands s.other.1 (gets r a s.other.2), s.own⟩])).length ≤ 2 := by
    intro a
    split
    · simp
    · split <;> split <;> simp
  have h1 := this s.own.1
  have h2 := this s.own.2
  omega
theorem turnsP_length {r : Rules} (s : Stand) (hr : ROk r) : (turnsP r s).length ≤ 11 := by
  unfold turnsP
  have h1 := length_foldl_dd (taps r s) []
  have h2 := taps_length r s
  have h3 : (sharesP r s).length ≤ 7 := by
    unfold sharesP
    split
    · simp
    · split
      · simp
      · unfold sharesUp
        rw [List.length_map]
        refine Nat.le_trans (List.length_filter_le _ _) ?_
        rw [List.length_range']
        have := hr.hi
        omega
  unfold tapsP
  rw [List.length_append]
  simp only [List.length_nil] at h1
  omega
end Ft
namespace Ft
open Uw72
/-! ### what is told of a stand, over any table -/
section
variable {α : Type} (succ : α → List α)
def toldF (f : α → Nat × Nat) (s : α) : Nat × Nat :=
  if succ s = [] then (2, 0)
  else if (((succ s).map f).filter fun x => x.1 == 2).isEmpty = false then (1, ((((succ s).map f).filter fun x => x.1 == 2).map fun x => x.2).foldl min ((((succ s).map f).filter fun x => x.1 == 2).headD (0, 0)).2 + 1)
  else if ((succ s).map f).all (fun x => x.1 == 1) = true then (2, (((succ s).map f).map fun x => x.2).foldl max 0 + 1)
  else (0, 0)
def val : Nat → α → Nat × Nat
  | 0, _ => (0, 0)
  | k + 1, s => if (val k s).1 = 0 then toldF succ (val k) s else val k s
end
theorem foldl_min_const {c : Nat} : ∀ (l : List Nat), (∀ x ∈ l, x = c) → l.foldl min c = c
  | [], _ => rfl
  | a :: l, h => by
    have ha := h a (by simp)
    rw [List.foldl_cons, ha, Nat.min_self]
    exact foldl_min_const l fun x hx => h x (List.mem_cons_of_mem _ hx)
theorem foldl_max_le {m : Nat} : ∀ (l : List Nat) (a : Nat), a ≤ m → (∀ x ∈ l, x ≤ m) → l.foldl max a ≤ m
  | [], a, ha, _ => ha
  | b :: l, a, ha, h => by
    rw [List.foldl_cons]
    have := h b (by simp)
    exact foldl_max_le l (max a b) (by omega) fun x hx => h x (List.mem_cons_of_mem _ hx)
theorem le_foldl_max : ∀ (l : List Nat) (a : Nat), a ≤ l.foldl max a
  | [], a => Nat.le_refl _
  | b :: l, a => by
    rw [List.foldl_cons]
    have := le_foldl_max l (max a b)
    omega
theorem mem_le_foldl_max : ∀ (l : List Nat) (a x : Nat), x ∈ l → x ≤ l.foldl max a
  | b :: l, a, x, h => by
    rw [List.foldl_cons]
    rcases List.mem_cons.mp h with e | h
    · subst e
      have := le_foldl_max l (max a x)
      omega
    · exact mem_le_foldl_max l _ x h
section
variable {α : Type} {succ : α → List α}
/-- the three ways of what is told -/
theorem toldF_fin {f : α → Nat × Nat} {s : α} (h : succ s = []) : toldF succ f s = (2, 0) := by
  unfold toldF
  rw [if_pos h]
theorem toldF_won {f : α → Nat × Nat} {s : α} {c : Nat} (h : ¬ succ s = []) (h1 : ∃ t ∈ succ s, (f t).1 = 2) (h2 : ∀ t ∈ succ s, (f t).1 = 2 → (f t).2 = c) : toldF succ f s = (1, c + 1) := by
  unfold toldF
  rw [if_neg h]
  obtain ⟨t, ht, e⟩ := h1
  have hm : f t ∈ ((succ s).map f).filter fun x => x.1 == 2 := List.mem_filter.mpr ⟨List.mem_map.mpr ⟨t, ht, rfl⟩, by simp [e]⟩
  have all : ∀ x ∈ ((succ s).map f).filter (fun x => x.1 == 2), x.2 = c := fun x hx => by
    obtain ⟨q1, q2⟩ := List.mem_filter.mp hx
    obtain ⟨u, hu, rfl⟩ := List.mem_map.mp q1
    exact h2 u hu (by simpa using q2)
  generalize ((succ s).map f).filter (fun x => x.1 == 2) = l at hm all
  cases l with
  | nil => cases hm
  | cons a l =>
    rw [if_pos (show (a :: l).isEmpty = false from rfl)]
    have ea : a.2 = c := all a (by simp)
    show (1, ((a :: l).map fun x => x.2).foldl min a.2 + 1) = (1, c + 1)
    rw [ea, foldl_min_const]
    intro x hx
    obtain ⟨y, hy, rfl⟩ := List.mem_map.mp hx
    exact all y hy
theorem no_lost {f : α → Nat × Nat} {s : α} (h1 : ∀ t ∈ succ s, (f t).1 ≠ 2) : ((succ s).map f).filter (fun x => x.1 == 2) = [] := by
  rw [List.filter_eq_nil_iff]
  intro x hx
  obtain ⟨u, hu, rfl⟩ := List.mem_map.mp hx
  have := h1 u hu
  simp [this]
theorem toldF_lost {f : α → Nat × Nat} {s : α} {c : Nat} (h : ¬ succ s = []) (h1 : ∀ t ∈ succ s, (f t).1 = 1) (h2 : ∀ t ∈ succ s, (f t).2 ≤ c) (h3 : ∃ t ∈ succ s, (f t).2 = c) : toldF succ f s = (2, c + 1) := by
  unfold toldF
  rw [if_neg h, no_lost fun t ht => by rw [h1 t ht]; decide, if_neg (by simp), if_pos]
  · congr 2
    obtain ⟨t, ht, e⟩ := h3
    have a1 : (((succ s).map f).map fun x => x.2).foldl max 0 ≤ c := foldl_max_le _ _ (Nat.zero_le _) fun x hx => by
      obtain ⟨y, hy, rfl⟩ := List.mem_map.mp hx
      obtain ⟨u, hu, rfl⟩ := List.mem_map.mp hy
      exact h2 u hu
    have a2 : c ≤ (((succ s).map f).map fun x => x.2).foldl max 0 := mem_le_foldl_max _ _ _ (List.mem_map.mpr ⟨f t, List.mem_map.mpr ⟨t, ht, rfl⟩, e⟩)
    omega
  · rw [List.all_eq_true]
    intro x hx
    obtain ⟨u, hu, rfl⟩ := List.mem_map.mp hx
    simp [h1 u hu]
theorem toldF_none {f : α → Nat × Nat} {s : α} (h : ¬ succ s = []) (h1 : ∀ t ∈ succ s, (f t).1 ≠ 2) (h2 : ∃ t ∈ succ s, (f t).1 ≠ 1) : toldF succ f s = (0, 0) := by
  unfold toldF
  rw [if_neg h, no_lost h1, if_neg (by simp), if_neg]
  rw [List.all_eq_true]
  intro q
  obtain ⟨t, ht, ne⟩ := h2
  have := q (f t) (List.mem_map.mpr ⟨t, ht, rfl⟩)
  exact ne (by simpa using this)

/-- what stands after k rounds: not told, or told at an earlier round, lost at the even ones, won at the odd ones -/
structure Lev (k : Nat) (v : Nat × Nat) : Prop where
  is : v = (0, 0) ∨ (v.1 = 2 ∧ v.2 < k ∧ v.2 % 2 = 0) ∨ (v.1 = 1 ∧ v.2 < k ∧ v.2 % 2 = 1)
theorem val_succ (k : Nat) (s : α) : val succ (k + 1) s = if (val succ k s).1 = 0 then toldF succ (val succ k) s else val succ k s := rfl
theorem val_keep {k : Nat} {s : α} (h : (val succ k s).1 ≠ 0) : val succ (k + 1) s = val succ k s := by
  rw [val_succ, if_neg h]
theorem val_mono {k j : Nat} {s : α} (hkj : k ≤ j) (h : (val succ k s).1 ≠ 0) : val succ j s = val succ k s := by
  induction j with
  | zero =>
    have : k = 0 := by omega
    subst this
    rfl
  | succ j ih =>
    by_cases e : k = j + 1
    · subst e; rfl
    · have := ih (by omega)
      rw [val_keep (by rw [this]; exact h), this]
theorem val_lev : ∀ (k : Nat), (∀ s, Lev k (val succ k s)) ∧ ∀ s, (val succ k s).1 = 0 → (val succ (k + 1) s).1 ≠ 0 → (val succ (k + 1) s).2 = k ∧ ((val succ (k + 1) s).1 = 2 ∧ k % 2 = 0 ∨ (val succ (k + 1) s).1 = 1 ∧ k % 2 = 1)
  | 0 => by
    refine ⟨fun s => ⟨.inl rfl⟩, fun s _ h => ?_⟩
    rw [val_succ, if_pos (show (val succ 0 s).1 = 0 from rfl)] at h ⊢
    by_cases hf : succ s = []
    · rw [toldF_fin hf]
      exact ⟨rfl, .inl ⟨rfl, rfl⟩⟩
    · exfalso
      have hne : succ s ≠ [] := hf
      obtain ⟨t, ht⟩ := List.exists_mem_of_ne_nil _ hne
      rw [toldF_none hf (fun t _ => by show (0 : Nat) ≠ 2; decide) ⟨t, ht, by show (0 : Nat) ≠ 1; decide⟩] at h
      exact h rfl
  | k + 1 => by
    obtain ⟨ih1, ih2⟩ := val_lev k
    have L : ∀ s, Lev (k + 1) (val succ (k + 1) s) := fun s => by
      by_cases h0 : (val succ k s).1 = 0
      · by_cases h1 : (val succ (k + 1) s).1 = 0
        · -- told as (0, 0)
          refine ⟨.inl ?_⟩
          rw [val_succ, if_pos h0] at h1 ⊢
          unfold toldF at h1 ⊢
          split at h1
          · cases h1
          · rename_i hf
            split at h1
            · cases h1
            · rename_i hl
              split at h1
              · cases h1
              · rename_i ha
                rw [if_neg hf, if_neg hl, if_neg ha]
        · obtain ⟨e, h⟩ := ih2 s h0 h1
          rcases h with ⟨h, p⟩ | ⟨h, p⟩
          · exact ⟨.inr (.inl ⟨h, by omega, by rw [e]; exact p⟩)⟩
          · exact ⟨.inr (.inr ⟨h, by omega, by rw [e]; exact p⟩)⟩
      · rw [val_keep h0]
        rcases (ih1 s).is with q | ⟨q1, q2, q3⟩ | ⟨q1, q2, q3⟩
        · exact ⟨.inl q⟩
        · exact ⟨.inr (.inl ⟨q1, by omega, q3⟩)⟩
        · exact ⟨.inr (.inr ⟨q1, by omega, q3⟩)⟩
    refine ⟨L, fun s h0 h1 => ?_⟩
    -- not told at round k + 1
    have h00 : (val succ k s).1 = 0 := Decidable.byContradiction fun q => by
      rw [val_keep q] at h0
      exact q h0
    have hT : (toldF succ (val succ k) s).1 = 0 := by
      have := h0
      rw [val_succ, if_pos h00] at this
      exact this
    have hf : ¬ succ s = [] := fun q => by rw [toldF_fin q] at hT; cases hT
    have e1 : val succ (k + 1 + 1) s = toldF succ (val succ (k + 1)) s := by rw [val_succ, if_pos h0]
    rw [e1] at h1 ⊢
    -- no lost at k
    have nl : ∀ t ∈ succ s, (val succ k t).1 ≠ 2 := fun t ht q => by
      have := hT
      unfold toldF at this
      rw [if_neg hf] at this
      have hm : val succ k t ∈ ((succ s).map (val succ k)).filter fun x => x.1 == 2 := List.mem_filter.mpr ⟨List.mem_map.mpr ⟨t, ht, rfl⟩, by simp [q]⟩
      rw [if_pos] at this
      · cases this
      · cases e : ((succ s).map (val succ k)).filter (fun x => x.1 == 2) with
        | nil => rw [e] at hm; cases hm
        | cons => rfl
    by_cases hl : ∃ t ∈ succ s, (val succ (k + 1) t).1 = 2
    · have h2 : ∀ t ∈ succ s, (val succ (k + 1) t).1 = 2 → (val succ (k + 1) t).2 = k := fun t ht q => by
        have z : (val succ k t).1 = 0 := Decidable.byContradiction fun z => by
          rw [val_keep z] at q
          exact nl t ht q
        exact (ih2 t z (by rw [q]; decide)).1
      rw [toldF_won hf hl h2]
      refine ⟨rfl, .inr ⟨rfl, ?_⟩⟩
      obtain ⟨t, ht, q⟩ := hl
      rcases (L t).is with z | ⟨z1, z2, z3⟩ | ⟨z1, z2, z3⟩
      · rw [z] at q; cases q
      · have := h2 t ht q
        omega
      · omega
    · have nl2 : ∀ t ∈ succ s, (val succ (k + 1) t).1 ≠ 2 := fun t ht q => hl ⟨t, ht, q⟩
      by_cases ha : ∀ t ∈ succ s, (val succ (k + 1) t).1 = 1
      · -- one of them is new
        have hnew : ∃ t ∈ succ s, (val succ k t).1 ≠ 1 := Decidable.byContradiction fun q => by
          have all1 : ∀ t ∈ succ s, (val succ k t).1 = 1 := fun t ht => Decidable.byContradiction fun z => q ⟨t, ht, z⟩
          have := hT
          unfold toldF at this
          rw [if_neg hf, no_lost nl, if_neg (by simp), if_pos] at this
          · cases this
          · rw [List.all_eq_true]
            intro x hx
            obtain ⟨u, hu, rfl⟩ := List.mem_map.mp hx
            simp [all1 u hu]
        obtain ⟨t, ht, q⟩ := hnew
        have z : (val succ k t).1 = 0 := by
          rcases (ih1 t).is with z | ⟨z1, _, _⟩ | ⟨z1, _, _⟩
          · rw [z]
          · exact absurd z1 (nl t ht)
          · exact absurd z1 q
        have hk := ih2 t z (by rw [ha t ht]; decide)
        rw [toldF_lost (c := k) hf ha (fun u hu => ?_) ⟨t, ht, hk.1⟩]
        · refine ⟨rfl, .inl ⟨rfl, ?_⟩⟩
          rcases hk.2 with ⟨w1, _⟩ | ⟨_, w2⟩
          · rw [ha t ht] at w1; cases w1
          · omega
        · rcases (L u).is with z | ⟨z1, z2, z3⟩ | ⟨z1, z2, z3⟩
          · have := ha u hu
            rw [z] at this; cases this
          · omega
          · omega
      · exfalso
        have : ∃ t ∈ succ s, (val succ (k + 1) t).1 ≠ 1 := Decidable.byContradiction fun q => ha fun t ht => Decidable.byContradiction fun z => q ⟨t, ht, z⟩
        rw [toldF_none hf nl2 this] at h1
        exact h1 rfl
theorem val_zero {k : Nat} {s : α} (h : (val succ k s).1 = 0) : val succ k s = (0, 0) := by
  rcases ((val_lev k).1 s).is with z | ⟨z1, _, _⟩ | ⟨z1, _, _⟩
  · exact z
  · rw [z1] at h; cases h
  · rw [z1] at h; cases h
/-- the round at which s is told -/
def At (succ : α → List α) (k : Nat) (s : α) : Prop := (val succ k s).1 = 0 ∧ (val succ (k + 1) s).1 ≠ 0
theorem at_even {k : Nat} {s : α} (h : At succ k s) (hk : k % 2 = 0) : val succ (k + 1) s = (2, k) := by
  obtain ⟨e, z⟩ := (val_lev k).2 s h.1 h.2
  rcases z with ⟨z, _⟩ | ⟨_, z⟩
  · exact Prod.ext z e
  · omega
theorem at_odd {k : Nat} {s : α} (h : At succ k s) (hk : k % 2 = 1) : val succ (k + 1) s = (1, k) := by
  obtain ⟨e, z⟩ := (val_lev k).2 s h.1 h.2
  rcases z with ⟨_, z⟩ | ⟨z, _⟩
  · omega
  · exact Prod.ext z e
/-- those told first: over and done -/
theorem at_zero {s : α} : At succ 0 s ↔ succ s = [] := by
  constructor
  · rintro ⟨_, h⟩
    rw [val_succ, if_pos (show (val succ 0 s).1 = 0 from rfl)] at h
    by_cases hf : succ s = []
    · exact hf
    · exfalso
      obtain ⟨t, ht⟩ := List.exists_mem_of_ne_nil _ hf
      rw [toldF_none hf (fun t _ => by show (0 : Nat) ≠ 2; decide) ⟨t, ht, by show (0 : Nat) ≠ 1; decide⟩] at h
      exact h rfl
  · intro h
    refine ⟨rfl, ?_⟩
    rw [val_succ, if_pos (show (val succ 0 s).1 = 0 from rfl), toldF_fin h]
    decide
/-- won: not told yet, and a turn leads to one that was lost at the round before -/
theorem at_won {k : Nat} {s : α} (hk : k % 2 = 0) : At succ (k + 1) s ↔ (val succ (k + 1) s).1 = 0 ∧ ∃ t ∈ succ s, At succ k t := by
  constructor
  · intro h
    refine ⟨h.1, ?_⟩
    have e := at_odd h (by omega)
    have h0 := h.1
    have h00 : (val succ k s).1 = 0 := Decidable.byContradiction fun q => by
      rw [val_keep q] at h0
      exact q h0
    rw [val_succ, if_pos h0] at e
    have hf : ¬ succ s = [] := fun q => by rw [toldF_fin q] at e; cases e
    by_cases hl : ∃ t ∈ succ s, (val succ (k + 1) t).1 = 2
    · obtain ⟨t, ht, q⟩ := hl
      refine ⟨t, ht, ?_, by rw [q]; decide⟩
      refine Decidable.byContradiction fun z => ?_
      -- told earlier: then s would be told
      have e2 : (val succ k t).1 = 2 := by rw [val_keep z] at q; exact q
      have hT : (toldF succ (val succ k) s).1 = 0 := by
        have := h0
        rw [val_succ, if_pos h00] at this
        exact this
      unfold toldF at hT
      rw [if_neg hf] at hT
      have hm : val succ k t ∈ ((succ s).map (val succ k)).filter fun x => x.1 == 2 := List.mem_filter.mpr ⟨List.mem_map.mpr ⟨t, ht, rfl⟩, by simp [e2]⟩
      rw [if_pos] at hT
      · cases hT
      · cases e : ((succ s).map (val succ k)).filter (fun x => x.1 == 2) with
        | nil => rw [e] at hm; cases hm
        | cons => rfl
    · exfalso
      have nl2 : ∀ t ∈ succ s, (val succ (k + 1) t).1 ≠ 2 := fun t ht q => hl ⟨t, ht, q⟩
      unfold toldF at e
      rw [if_neg hf, no_lost nl2, if_neg (by simp)] at e
      split at e <;> cases e
  · rintro ⟨h0, t, ht, hA⟩
    refine ⟨h0, ?_⟩
    rw [val_succ, if_pos h0]
    have e := at_even hA hk
    unfold toldF
    split
    · decide
    · rw [if_pos]
      · show (1 : Nat) ≠ 0
        decide
      · have hm : val succ (k + 1) t ∈ ((succ s).map (val succ (k + 1))).filter fun x => x.1 == 2 := List.mem_filter.mpr ⟨List.mem_map.mpr ⟨t, ht, rfl⟩, by simp [e]⟩
        cases e : ((succ s).map (val succ (k + 1))).filter (fun x => x.1 == 2) with
        | nil => rw [e] at hm; cases hm
        | cons => rfl
theorem at_lost' {k : Nat} {s : α} (hk : k % 2 = 1) (h : At succ (k + 1) s) : (∀ t ∈ succ s, (val succ (k + 1) t).1 = 1) ∧ ∃ t ∈ succ s, At succ k t := by
  have e := at_even h (by omega)
  have h0 := h.1
  have h00 : (val succ k s).1 = 0 := Decidable.byContradiction fun q => by
    rw [val_keep q] at h0
    exact q h0
  rw [val_succ, if_pos h0] at e
  have hf : ¬ succ s = [] := fun q => by rw [toldF_fin q] at e; injection e with _ e; omega
  have hT : (toldF succ (val succ k) s).1 = 0 := by
    have := h0
    rw [val_succ, if_pos h00] at this
    exact this
  have nl2 : ∀ t ∈ succ s, (val succ (k + 1) t).1 ≠ 2 := fun t ht q => by
    unfold toldF at e
    rw [if_neg hf] at e
    have hm : val succ (k + 1) t ∈ ((succ s).map (val succ (k + 1))).filter fun x => x.1 == 2 := List.mem_filter.mpr ⟨List.mem_map.mpr ⟨t, ht, rfl⟩, by simp [q]⟩
    rw [if_pos] at e
    · cases e
    · cases e : ((succ s).map (val succ (k + 1))).filter (fun x => x.1 == 2) with
      | nil => rw [e] at hm; cases hm
      | cons => rfl
  have ha : ∀ t ∈ succ s, (val succ (k + 1) t).1 = 1 := fun t ht => Decidable.byContradiction fun q => by
    rw [toldF_none hf nl2 ⟨t, ht, q⟩] at e
    cases e
  refine ⟨ha, Classical.byContradiction fun q => ?_⟩
  have all1 : ∀ t ∈ succ s, (val succ k t).1 = 1 := fun t ht => Decidable.byContradiction fun z => by
    by_cases z0 : (val succ k t).1 = 0
    · exact q ⟨t, ht, z0, by rw [ha t ht]; decide⟩
    · have := ha t ht
      rw [val_keep z0] at this
      exact z this
  unfold toldF at hT
  rw [if_neg hf, no_lost (fun t ht => by rw [all1 t ht]; decide), if_neg (by simp), if_pos] at hT
  · cases hT
  · rw [List.all_eq_true]
    intro x hx
    obtain ⟨u, hu, rfl⟩ := List.mem_map.mp hx
    simp [all1 u hu]
theorem told_at : ∀ {k : Nat} {s : α}, (val succ k s).1 ≠ 0 → ∃ j, j < k ∧ At succ j s
  | 0, s, h => absurd rfl h
  | k + 1, s, h => by
    by_cases h0 : (val succ k s).1 = 0
    · exact ⟨k, Nat.lt_succ_self _, h0, h⟩
    · obtain ⟨j, hj, hA⟩ := told_at h0
      exact ⟨j, by omega, hA⟩
/-- lost: each turn leads to one that is won, one of them told at the round before -/
theorem at_lost {k : Nat} {s : α} (hk : k % 2 = 1) : At succ (k + 1) s ↔ (∀ t ∈ succ s, (val succ (k + 1) t).1 = 1) ∧ ∃ t ∈ succ s, At succ k t := by
  constructor
  · exact at_lost' hk
  · rintro ⟨ha, t, ht, hA⟩
    have hf : ¬ succ s = [] := fun e => by rw [e] at ht; cases ht
    have h0 : (val succ (k + 1) s).1 = 0 := Decidable.byContradiction fun q => by
      obtain ⟨j, hj, hAj⟩ := told_at q
      by_cases hp : j % 2 = 1
      · obtain ⟨j', rfl⟩ : ∃ j', j = j' + 1 := ⟨j - 1, by omega⟩
        obtain ⟨_, u, hu, hAu⟩ := (at_won (show j' % 2 = 0 by omega)).mp hAj
        have e1 := at_even hAu (by omega)
        have e2 : val succ (k + 1) u = val succ (j' + 1) u := val_mono (by omega) (by rw [e1]; show (2 : Nat) ≠ 0; decide)
        have := ha u hu
        rw [e2, e1] at this
        cases this
      · by_cases hj0 : j = 0
        · subst hj0
          exact hf (at_zero.mp hAj)
        · obtain ⟨j', rfl⟩ : ∃ j', j = j' + 1 := ⟨j - 1, by omega⟩
          have e1 := (at_lost' (show j' % 2 = 1 by omega) hAj).1 t ht
          have e2 : val succ k t = val succ (j' + 1) t := val_mono (by omega) (by rw [e1]; decide)
          have := hA.1
          rw [e2, e1] at this
          cases this
    refine ⟨h0, ?_⟩
    rw [val_succ, if_pos h0]
    unfold toldF
    rw [if_neg hf, no_lost (fun t ht => by rw [ha t ht]; decide), if_neg (by simp), if_pos]
    · show (2 : Nat) ≠ 0
      decide
    · rw [List.all_eq_true]
      intro x hx
      obtain ⟨u, hu, rfl⟩ := List.mem_map.mp hx
      simp [ha u hu]
/-! ### rounds come to rest -/
def Rest (succ : α → List α) (S : List α) (k : Nat) : Prop := ∀ s ∈ S, val succ (k + 1) s = val succ k s
theorem toldF_congr {f g : α → Nat × Nat} {s : α} (h : ∀ t ∈ succ s, f t = g t) : toldF succ f s = toldF succ g s := by
  have e : (succ s).map f = (succ s).map g := List.map_congr_left h
  unfold toldF
  rw [e]
theorem rest_all {S : List α} (hcl : ∀ s ∈ S, ∀ t ∈ succ s, t ∈ S) {k : Nat} (h : Rest succ S k) : ∀ n, k ≤ n → ∀ s ∈ S, val succ n s = val succ k s := by
  intro n
  induction n with
  | zero =>
    intro hk s _
    have : k = 0 := by omega
    subst this
    rfl
  | succ n ih =>
    intro hk s hs
    by_cases e : k = n + 1
    · subst e; rfl
    · have hkn : k ≤ n := by omega
      have ihs := ih hkn
      rw [val_succ, ihs s hs]
      by_cases h0 : (val succ k s).1 = 0
      · rw [if_pos h0, toldF_congr (g := val succ k) fun t ht => ihs t (hcl s hs t ht)]
        have := h s hs
        rw [val_succ, if_pos h0] at this
        exact this
      · rw [if_neg h0]
def cnt (succ : α → List α) (S : List α) (k : Nat) : Nat := S.countP fun s => decide ((val succ k s).1 ≠ 0)
theorem countP_lt {p q : α → Bool} : ∀ {l : List α}, (∀ x ∈ l, p x = true → q x = true) → (∃ x ∈ l, q x = true ∧ p x = false) → l.countP p < l.countP q
  | [], _, h => by obtain ⟨x, hx, _⟩ := h; cases hx
  | a :: l, h1, h2 => by
    have hl : ∀ x ∈ l, p x = true → q x = true := fun x hx => h1 x (List.mem_cons_of_mem _ hx)
    have le : l.countP p ≤ l.countP q := List.countP_mono_left hl
    rw [List.countP_cons, List.countP_cons]
    obtain ⟨x, hx, qx, px⟩ := h2
    rcases List.mem_cons.mp hx with e | hx
    · subst e
      rw [if_neg (by rw [px]; decide), if_pos qx]
      omega
    · have lt := countP_lt hl ⟨x, hx, qx, px⟩
      by_cases pa : p a = true
      · rw [if_pos pa, if_pos (h1 a (by simp) pa)]
        omega
      · rw [if_neg pa]
        omega
theorem cnt_lt {S : List α} {k : Nat} (h : ¬ Rest succ S k) : cnt succ S k < cnt succ S (k + 1) := by
  have : ∃ s ∈ S, val succ (k + 1) s ≠ val succ k s := Classical.byContradiction fun q => h fun s hs => Classical.byContradiction fun z => q ⟨s, hs, z⟩
  obtain ⟨s, hs, ne⟩ := this
  have h0 : (val succ k s).1 = 0 := Decidable.byContradiction fun q => ne (val_keep q)
  refine countP_lt (fun x _ hx => ?_) ⟨s, hs, ?_, ?_⟩
  · have hx := of_decide_eq_true hx
    exact decide_eq_true (by rw [val_keep hx]; exact hx)
  · refine decide_eq_true fun q => ne ?_
    rw [val_zero q, val_zero h0]
  · exact decide_eq_false fun q => q h0
theorem rest_by {S : List α} : ∃ k, k ≤ S.length ∧ Rest succ S k := Classical.byContradiction fun q => by
  have all : ∀ k, k ≤ S.length → ¬ Rest succ S k := fun k hk hr => q ⟨k, hk, hr⟩
  have grow : ∀ k, k ≤ S.length + 1 → k ≤ cnt succ S k := by
    intro k
    induction k with
    | zero => intro _; exact Nat.zero_le _
    | succ k ih =>
      intro hk
      have h1 := ih (by omega)
      have h2 := cnt_lt (all k (by omega))
      omega
  have h1 := grow (S.length + 1) (Nat.le_refl _)
  have h2 : cnt succ S (S.length + 1) ≤ S.length := List.countP_le_length
  omega
/-- none is told at round k: at rest -/
theorem rest_of_none {S : List α} {k : Nat} (h : ∀ s ∈ S, ¬ At succ k s) : Rest succ S k := fun s hs => by
  by_cases h0 : (val succ k s).1 = 0
  · have h1 : (val succ (k + 1) s).1 = 0 := Decidable.byContradiction fun q => h s hs ⟨h0, q⟩
    rw [val_zero h0, val_zero h1]
  · exact val_keep h0
theorem rest_same {S : List α} (hcl : ∀ s ∈ S, ∀ t ∈ succ s, t ∈ S) {j k : Nat} (hj : Rest succ S j) (hk : Rest succ S k) {s : α} (hs : s ∈ S) : val succ j s = val succ k s := by
  by_cases h : j ≤ k
  · exact (rest_all hcl hj k h s hs).symm
  · exact rest_all hcl hk j (by omega) s hs
end
end Ft
namespace Ft
open Uw72
/-! ### each stand has its own number -/
theorem code_lt {r : Rules} {s : Stand} (hs : SOk r s) : code r s < r.full ^ 4 := by
  have h1 := hs.own.1
  have h2 := hs.other.1
  have h3 : s.own.2 < r.full := Nat.lt_of_le_of_lt hs.own.2 hs.own.1
  have h4 : s.other.2 < r.full := Nat.lt_of_le_of_lt hs.other.2 hs.other.1
  have e : r.full ^ 4 = r.full * r.full * r.full * r.full := by
    rw [Nat.pow_succ, Nat.pow_succ, Nat.pow_succ, Nat.pow_one]
  rw [e]
  unfold code
  have step : ∀ a b n m : Nat, a < m → b < n → a * n + b < m * n := fun a b n m ha hb => by
    have : (a + 1) * n ≤ m * n := Nat.mul_le_mul_right n ha
    rw [Nat.add_mul, Nat.one_mul] at this
    omega
  exact step _ _ _ _ (step _ _ _ _ (step _ _ _ _ h1 h3) h2) h4
theorem digit_inj {a b c d n : Nat} (hb : b < n) (hd : d < n) (h : a * n + b = c * n + d) : a = c ∧ b = d := by
  have hn : 0 < n := by omega
  have e1 : (a * n + b) / n = a := by
    rw [Nat.mul_comm, Nat.mul_add_div hn, Nat.div_eq_of_lt hb, Nat.add_zero]
  have e2 : (c * n + d) / n = c := by
    rw [Nat.mul_comm, Nat.mul_add_div hn, Nat.div_eq_of_lt hd, Nat.add_zero]
  have e : a = c := by rw [← e1, ← e2, h]
  subst e
  exact ⟨rfl, by omega⟩
theorem code_inj {r : Rules} {s t : Stand} (hs : SOk r s) (ht : SOk r t) (h : code r s = code r t) : s = t := by
  have h3 : s.own.2 < r.full := Nat.lt_of_le_of_lt hs.own.2 hs.own.1
  have h4 : s.other.2 < r.full := Nat.lt_of_le_of_lt hs.other.2 hs.other.1
  have k3 : t.own.2 < r.full := Nat.lt_of_le_of_lt ht.own.2 ht.own.1
  have k4 : t.other.2 < r.full := Nat.lt_of_le_of_lt ht.other.2 ht.other.1
  unfold code at h
  obtain ⟨h, e4⟩ := digit_inj h4 k4 h
  obtain ⟨h, e3⟩ := digit_inj hs.other.1 ht.other.1 h
  obtain ⟨e1, e2⟩ := digit_inj h3 k3 h
  obtain ⟨⟨a, b⟩, ⟨c, d⟩⟩ := s
  obtain ⟨⟨a', b'⟩, ⟨c', d'⟩⟩ := t
  simp only at e1 e2 e3 e4
  subst e1 e2 e3 e4
  rfl
theorem nodup_flatMap {α β : Type} {f : α → List β} : ∀ {l : List α}, l.Nodup → (∀ a ∈ l, (f a).Nodup) → (∀ a ∈ l, ∀ b ∈ l, ∀ x, x ∈ f a → x ∈ f b → a = b) → (l.flatMap f).Nodup
  | [], _, _, _ => by simp
  | a :: l, hn, h1, h2 => by
    obtain ⟨hn1, hn2⟩ := List.nodup_cons.mp hn
    rw [List.flatMap_cons]
    refine List.nodup_append.mpr ⟨h1 a (by simp), nodup_flatMap hn2 (fun b hb => h1 b (List.mem_cons_of_mem _ hb)) (fun b hb c hc => h2 b (List.mem_cons_of_mem _ hb) c (List.mem_cons_of_mem _ hc)), fun x hx y hy e => ?_⟩
    subst e
    obtain ⟨b, hb, hxb⟩ := List.mem_flatMap.mp hy
    have := h2 a (by simp) b (List.mem_cons_of_mem _ hb) x hx hxb
    subst this
    exact hn1 hb
theorem allHands_nodup (r : Rules) : (allHands r).Nodup := by
  unfold allHands
  refine nodup_flatMap List.nodup_range (fun a _ => nodup_map_on (fun b _ c _ e => congrArg Prod.snd e) List.nodup_range) fun a _ b _ x hx hy => ?_
  obtain ⟨_, _, rfl⟩ := List.mem_map.mp hx
  obtain ⟨_, _, e⟩ := List.mem_map.mp hy
  exact (congrArg Prod.fst e).symm
theorem allStands_nodup (r : Rules) : (allStands r).Nodup := by
  unfold allStands
  refine nodup_flatMap (allHands_nodup r) (fun a _ => nodup_map_on (fun b _ c _ e => congrArg Stand.other e) (List.Pairwise.filter _ (allHands_nodup r))) fun a _ b _ x hx hy => ?_
  obtain ⟨_, _, rfl⟩ := List.mem_map.mp hx
  obtain ⟨_, _, e⟩ := List.mem_map.mp hy
  exact (congrArg Stand.own e).symm
theorem allHands_length (r : Rules) (h : r.full ≤ 7) : (allHands r).length ≤ 28 := by
  unfold allHands
  have : ∀ n, n ≤ 7 → ((List.range n).flatMap fun a => (List.range (a + 1)).map fun b => (a, b)).length ≤ 28 := by decide
  exact this _ h
theorem allStands_length (r : Rules) (h : r.full ≤ 7) : (allStands r).length ≤ 784 := by
  unfold allStands
  rw [List.length_flatMap]
  have h1 := allHands_length r h
  have h2 : ∀ x ∈ (allHands r).map (fun x => (((allHands r).filter fun y => y.1 != 0).map fun y => (⟨x, y⟩ : Stand)).length), x ≤ 28 := fun x hx => by
    obtain ⟨y, _, rfl⟩ := List.mem_map.mp hx
    rw [List.length_map]
    exact Nat.le_trans (List.length_filter_le _ _) h1
  have key : ∀ l : List Nat, (∀ x ∈ l, x ≤ 28) → l.sum ≤ l.length * 28 := by
    intro l
    induction l with
    | nil => intro _; simp
    | cons a l ih =>
      intro h
      have := ih fun x hx => h x (List.mem_cons_of_mem _ hx)
      have := h a (by simp)
      rw [List.sum_cons, List.length_cons]
      omega
  have := key _ h2
  rw [List.length_map] at this
  omega
theorem stands_closed {r : Rules} : ∀ s ∈ allStands r, ∀ t ∈ turnsP r s, t ∈ allStands r := fun s hs t ht => mem_allStands.mpr (turnsP_ok (mem_allStands.mp hs) ht)

/-! ### the table, round by round -/
theorem getD_set (u : Array (Nat × Nat)) (i j : Nat) (x : Nat × Nat) (h : i < u.size) : (u.set! i x).getD j (0, 0) = if j = i then x else u.getD j (0, 0) := by
  rw [Array.getD_eq_getD_getElem?, Array.getD_eq_getD_getElem?, Array.set!_eq_setIfInBounds, Array.getElem?_setIfInBounds]
  by_cases e : i = j
  · subst e
    simp [h]
  · have e' : ¬ j = i := fun q => e q.symm
    simp [e, e']
theorem fold_set {β : Type} (c : β → Nat) (v : β → Nat × Nat) (p : β → Prop) [DecidablePred p] : ∀ (L : List β) (u : Array (Nat × Nat)), (∀ x ∈ L, c x < u.size) → (L.map c).Nodup →
    (L.foldl (fun u s => if p s then u.set! (c s) (v s) else u) u).size = u.size ∧
    (∀ x ∈ L, (L.foldl (fun u s => if p s then u.set! (c s) (v s) else u) u).getD (c x) (0, 0) = if p x then v x else u.getD (c x) (0, 0)) ∧
    ∀ n, n ∉ L.map c → (L.foldl (fun u s => if p s then u.set! (c s) (v s) else u) u).getD n (0, 0) = u.getD n (0, 0)
  | [], u, _, _ => ⟨rfl, fun x hx => (by cases hx), fun n _ => rfl⟩
  | a :: L, u, hl, hn => by
    rw [List.map_cons] at hn
    obtain ⟨hn1, hn2⟩ := List.nodup_cons.mp hn
    have hsz : (if p a then u.set! (c a) (v a) else u).size = u.size := by
      split
      · simp
      · rfl
    have ha := hl a (by simp)
    obtain ⟨i1, i2, i3⟩ := fold_set c v p L (if p a then u.set! (c a) (v a) else u) (fun x hx => by rw [hsz]; exact hl x (List.mem_cons_of_mem _ hx)) hn2
    have one : ∀ n, (if p a then u.set! (c a) (v a) else u).getD n (0, 0) = if n = c a ∧ p a then v a else u.getD n (0, 0) := fun n => by
      by_cases pa : p a
      · rw [if_pos pa, getD_set _ _ _ _ ha]
        by_cases e : n = c a
        · rw [if_pos e, if_pos ⟨e, pa⟩]
        · rw [if_neg e, if_neg fun q => e q.1]
      · rw [if_neg pa, if_neg fun q => pa q.2]
    rw [List.foldl_cons]
    refine ⟨i1.trans hsz, fun x hx => ?_, fun n hn' => ?_⟩
    · rcases List.mem_cons.mp hx with e | hx
      · subst e
        rw [i3 _ hn1, one]
        by_cases px : p x
        · rw [if_pos ⟨rfl, px⟩, if_pos px]
        · rw [if_neg fun q => px q.2, if_neg px]
      · rw [i2 x hx]
        have ne : c x ≠ c a := fun e => hn1 (by rw [← e]; exact List.mem_map.mpr ⟨x, hx, rfl⟩)
        by_cases px : p x
        · rw [if_pos px, if_pos px]
        · rw [if_neg px, if_neg px, one, if_neg fun q => ne q.1]
    · rw [List.map_cons] at hn'
      have h1 : n ≠ c a := fun e => hn' (by rw [e]; simp)
      have h2 : n ∉ L.map c := fun m => hn' (List.mem_cons_of_mem _ m)
      rw [i3 n h2, one, if_neg fun q => h1 q.1]
theorem codes_nodup (r : Rules) : ((allStands r).map (code r)).Nodup :=
  nodup_map_on (fun a ha b hb e => code_inj (mem_allStands.mp ha) (mem_allStands.mp hb) e) (allStands_nodup r)
theorem round_size (r : Rules) (t : Table) (h : t.size = r.full ^ 4) : (round r t).size = r.full ^ 4 := by
  unfold round
  exact (fold_set (code r) (told r t) (fun s => (worthIn r t s).1 = 0) (allStands r) t (fun x hx => by rw [h]; exact code_lt (mem_allStands.mp hx)) (codes_nodup r)).1.trans h
theorem round_at {r : Rules} {t : Table} (h : t.size = r.full ^ 4) {s : Stand} (hs : s ∈ allStands r) : worthIn r (round r t) s = if (worthIn r t s).1 = 0 then told r t s else worthIn r t s := by
  unfold round
  exact (fold_set (code r) (told r t) (fun s => (worthIn r t s).1 = 0) (allStands r) t (fun x hx => by rw [h]; exact code_lt (mem_allStands.mp hx)) (codes_nodup r)).2.1 s hs
theorem told_val {r : Rules} (hr : ROk r) {t : Table} {k : Nat} (h : ∀ s ∈ allStands r, worthIn r t s = val (turnsP r) k s) {s : Stand} (hs : s ∈ allStands r) : told r t s = toldF (turnsP r) (val (turnsP r) k) s := by
  have ok := mem_allStands.mp hs
  have e : (turns r s).map (worthIn r t) = (turnsP r s).map (val (turnsP r) k) := by
    rw [turns_eq hr ok]
    exact List.map_congr_left fun x hx => h x (stands_closed s hs x hx)
  unfold told toldF
  rw [e]
  by_cases h0 : s.own.1 = 0
  · rw [if_pos ((turnsP_nil hr ok).mpr h0)]
    simp only [h0, if_true]
  · rw [if_neg fun q => h0 ((turnsP_nil hr ok).mp q)]
    simp only [h0, if_false]
def tabs (r : Rules) : Nat → Table
  | 0 => Array.replicate (r.full ^ 4) (0, 0)
  | k + 1 => round r (tabs r k)
theorem tabs_size (r : Rules) : ∀ k, (tabs r k).size = r.full ^ 4
  | 0 => by unfold tabs; simp
  | k + 1 => round_size r _ (tabs_size r k)
theorem tabs_val {r : Rules} (hr : ROk r) : ∀ (k : Nat) (s : Stand), s ∈ allStands r → worthIn r (tabs r k) s = val (turnsP r) k s
  | 0, s, hs => by
    unfold tabs worthIn val
    rw [Array.getD_eq_getD_getElem?]
    simp [code_lt (mem_allStands.mp hs)]
  | k + 1, s, hs => by
    show worthIn r (round r (tabs r k)) s = _
    rw [round_at (tabs_size r k) hs, tabs_val hr k s hs, told_val hr (tabs_val hr k) hs, val_succ]
theorem rounds_tabs (r : Rules) : ∀ (n j : Nat), ∃ k, rounds r n (tabs r j) = tabs r (j + k) ∧ (k = n ∨ tabs r (j + k + 1) = tabs r (j + k))
  | 0, j => ⟨0, rfl, .inl rfl⟩
  | n + 1, j => by
    unfold rounds
    show ∃ k, (if (round r (tabs r j) == tabs r j) = true then tabs r j else rounds r n (round r (tabs r j))) = _ ∧ _
    by_cases e : (round r (tabs r j) == tabs r j) = true
    · rw [if_pos e]
      exact ⟨0, rfl, .inr (eq_of_beq e)⟩
    · rw [if_neg e]
      obtain ⟨k, h1, h2⟩ := rounds_tabs r n (j + 1)
      refine ⟨k + 1, ?_, ?_⟩
      · show rounds r n (tabs r (j + 1)) = _
        rw [h1]
        congr 1
        omega
      · rcases h2 with h2 | h2
        · exact .inl (by omega)
        · refine .inr ?_
          have a1 : j + (k + 1) = j + 1 + k := by omega
          rw [a1]
          exact h2
/-- THE TABLE: what the rounds tell, once they are at rest -/
theorem table_val {r : Rules} (hr : ROk r) {k : Nat} (h : Rest (turnsP r) (allStands r) k) {s : Stand} (hs : s ∈ allStands r) : worthIn r (table r) s = val (turnsP r) k s := by
  obtain ⟨K, h1, h2⟩ := rounds_tabs r ((allStands r).length + 1) 0
  have e : table r = tabs r K := by
    unfold table
    rw [Nat.zero_add] at h1
    exact h1
  rw [e, tabs_val hr K s hs]
  have rK : Rest (turnsP r) (allStands r) K := by
    rcases h2 with h2 | h2
    · obtain ⟨j, hj, hR⟩ := rest_by (succ := turnsP r) (S := allStands r)
      intro x hx
      rw [rest_all stands_closed hR (K + 1) (by omega) x hx, rest_all stands_closed hR K (by omega) x hx]
    · intro x hx
      rw [← tabs_val hr (K + 1) x hx, ← tabs_val hr K x hx]
      rw [Nat.zero_add] at h2
      rw [h2]
  exact rest_same stands_closed rK h hs
/-- told: won or lost, or neither and then (0, 0) -/
theorem table_lev {r : Rules} (hr : ROk r) {s : Stand} (hs : s ∈ allStands r) : worthIn r (table r) s = (0, 0) ∨ (worthIn r (table r) s).1 = 2 ∨ (worthIn r (table r) s).1 = 1 := by
  obtain ⟨j, hj, hR⟩ := rest_by (succ := turnsP r) (S := allStands r)
  rw [table_val hr hR hs]
  rcases ((val_lev j).1 s).is with z | ⟨z, _, _⟩ | ⟨z, _, _⟩
  · exact .inl z
  · exact .inr (.inl z)
  · exact .inr (.inr z)
end Ft
namespace Ft
open Uw72
/-! ### the taps by pieces -/
def oth (s : Stand) (k : Nat) : Nat := if k = 0 then s.other.1 else s.other.2
def ownAt (s : Stand) (i : Nat) : Nat := if i = 0 then s.own.1 else s.own.2
def tapTo (r : Rules) (s : Stand) (a k : Nat) : Stand := ⟨hands (gets r a (oth s k)) (oth s (1 - k)), s.own⟩
def piece (r : Rules) (s : Stand) (a k : Nat) : List Stand := if a = 0 ∨ oth s k = 0 then [] else [tapTo r s a k]
/-- what is found when i hands have tapped, and the next one j times -/
def foundIn (r : Rules) (s : Stand) (a : Nat) (acc : List Stand) : Nat → List Stand
  | 0 => acc
  | j + 1 => (piece r s a j).foldl dd (foundIn r s a acc j)
def foundRow (r : Rules) (s : Stand) : Nat → List Stand
  | 0 => []
  | i + 1 => foundIn r s (ownAt s i) (foundRow r s i) 2
def foundAt (r : Rules) (s : Stand) (i j : Nat) : List Stand := foundIn r s (ownAt s i) (foundRow r s i) j
theorem foundAt_step (r : Rules) (s : Stand) (i j : Nat) : foundAt r s i (j + 1) = (piece r s (ownAt s i) j).foldl dd (foundAt r s i j) := rfl
theorem foundAt_next (r : Rules) (s : Stand) (i : Nat) : foundAt r s (i + 1) 0 = foundAt r s i 2 := rfl
theorem taps_pieces (r : Rules) (s : Stand) : taps r s = piece r s s.own.1 0 ++ piece r s s.own.1 1 ++ (piece r s s.own.2 0 ++ piece r s s.own.2 1) := by
  have one : ∀ a : Nat, (if a = 0 then [] else (if s.other.1 = 0 then [] else [(⟨hands (gets r a s.other.1) s.other.2, s.own⟩ : Stand)]) ++ (if s.other.2 = 0 then [] else [⟨hands s.other.1 (gets r a s.other.2), s.own⟩])) = piece r s a 0 ++ piece r s a 1 := fun a => by
    unfold piece tapTo oth
    by_cases h0 : a = 0
    · simp [h0]
    · by_cases h1 : s.other.1 = 0
      · by_cases h2 : s.other.2 = 0
        · simp [h0, h1, h2]
        · simp [h0, h1, h2, hands_comm]
      · by_cases h2 : s.other.2 = 0
        · simp [h0, h1, h2]
        · simp [h0, h1, h2, hands_comm (gets r a s.other.2)]
  unfold taps
  simp only [List.flatMap_cons, List.flatMap_nil, List.append_nil]
  rw [one, one]
theorem foundAt_all (r : Rules) (s : Stand) : foundAt r s 2 0 = tapsP r s := by
  unfold tapsP
  rw [taps_pieces, List.foldl_append, List.foldl_append, List.foldl_append]
  rfl
theorem foundAt_len (r : Rules) (s : Stand) : ∀ i j, (foundAt r s i j).length ≤ 2 * i + j := by
  have one : ∀ (a k : Nat) (acc : List Stand), ((piece r s a k).foldl dd acc).length ≤ acc.length + 1 := fun a k acc => by
    have := length_foldl_dd (piece r s a k) acc
    have : (piece r s a k).length ≤ 1 := by
      unfold piece
      split <;> simp
    omega
  have up : ∀ i, (foundAt r s i 0).length ≤ 2 * i → ∀ j, (foundAt r s i j).length ≤ 2 * i + j := fun i h0 j => by
    induction j with
    | zero => exact h0
    | succ j ih =>
      rw [foundAt_step]
      have := one (ownAt s i) j (foundAt r s i j)
      omega
  have z : ∀ i, (foundAt r s i 0).length ≤ 2 * i := fun i => by
    induction i with
    | zero => exact Nat.le_refl _
    | succ i ih =>
      rw [foundAt_next]
      have := up i ih 2
      omega
  exact fun i j => up i (z i) j
theorem sharesUp_succ (r : Rules) (s : Stand) (n : Nat) : sharesUp r s (n + 1) = sharesUp r s n ++ (if shareTest r s ((s.own.1 + s.own.2 + 1) / 2 + n) = true then [shareAt s ((s.own.1 + s.own.2 + 1) / 2 + n)] else []) := by
  unfold sharesUp
  rw [List.range'_concat, List.filter_append, List.map_append, Nat.one_mul]
  congr 1
  by_cases h : shareTest r s ((s.own.1 + s.own.2 + 1) / 2 + n) = true
  · simp [h]
  · simp [h]
theorem sharesUp_len (r : Rules) (s : Stand) (n : Nat) : (sharesUp r s n).length ≤ n := by
  unfold sharesUp
  rw [List.length_map]
  refine Nat.le_trans (List.length_filter_le _ _) ?_
  rw [List.length_range']
  exact Nat.le_refl _
end Ft
namespace Ft
open Uw72
/-! ### hands and stands, as the loops find them -/
def handsUp (i j : Nat) : List Hands := ((List.range i).flatMap fun a => (List.range (a + 1)).map fun b => (a, b)) ++ (List.range j).map fun b => (i, b)
theorem handsUp_step (i j : Nat) : handsUp i (j + 1) = handsUp i j ++ [(i, j)] := by
  unfold handsUp
  rw [List.range_succ, List.map_append, List.append_assoc]
  rfl
theorem handsUp_next (i : Nat) : handsUp (i + 1) 0 = handsUp i (i + 1) := by
  unfold handsUp
  rw [List.range_succ, List.flatMap_append, List.range_zero, List.map_nil, List.append_nil, List.flatMap_cons, List.flatMap_nil, List.append_nil, List.range_succ]
theorem handsUp_all (r : Rules) : handsUp r.full 0 = allHands r := by
  unfold handsUp allHands
  simp
theorem handsUp_len : ∀ i, i ≤ 7 → ∀ j, (handsUp i j).length ≤ 8 * i + j := by
  have up : ∀ i, (handsUp i 0).length ≤ 8 * i → ∀ j, (handsUp i j).length ≤ 8 * i + j := fun i h j => by
    induction j with
    | zero => exact h
    | succ j ih =>
      rw [handsUp_step, List.length_append, List.length_singleton]
      omega
  have z : ∀ i, i ≤ 7 → (handsUp i 0).length ≤ 8 * i := fun i => by
    induction i with
    | zero => intro _; exact Nat.le_refl _
    | succ i ih =>
      intro hi
      rw [handsUp_next]
      have := up i (ih (by omega)) (i + 1)
      omega
  exact fun i hi j => up i (z i hi) j
def standsUp (L : List Hands) (i j : Nat) : List Stand :=
  ((L.take i).flatMap fun x => (L.filter fun y => y.1 != 0).map fun y => (⟨x, y⟩ : Stand)) ++
    match L[i]? with
    | none => []
    | some x => ((L.take j).filter fun y => y.1 != 0).map fun y => ⟨x, y⟩
theorem standsUp_step {L : List Hands} {i j : Nat} {x y : Hands} (hi : L[i]? = some x) (hj : L[j]? = some y) : standsUp L i (j + 1) = standsUp L i j ++ (if 0 < y.1 then [⟨x, y⟩] else []) := by
  unfold standsUp
  rw [hi]
  show _ ++ ((L.take (j + 1)).filter fun y => y.1 != 0).map (fun y => (⟨x, y⟩ : Stand)) = (_ ++ ((L.take j).filter fun y => y.1 != 0).map fun y => (⟨x, y⟩ : Stand)) ++ _
  rw [List.take_add_one, hj, List.filter_append, List.map_append, ← List.append_assoc]
  congr 1
  by_cases h : 0 < y.1
  · have h' : (y.1 != 0) = true := by simp; omega
    simp [h, h']
  · have h' : (y.1 != 0) = false := by simp; omega
    simp [h, h']
theorem standsUp_start {L : List Hands} : standsUp L 0 0 = [] := by
  unfold standsUp
  simp
  split <;> rfl
theorem standsUp_next {L : List Hands} {i : Nat} (hi : i < L.length) : standsUp L (i + 1) 0 = standsUp L i L.length := by
  unfold standsUp
  rw [List.take_add_one, List.getElem?_eq_getElem hi, List.flatMap_append, List.take_length]
  simp
  split <;> rfl
theorem standsUp_all (r : Rules) : standsUp (allHands r) (allHands r).length 0 = allStands r := by
  unfold standsUp allStands
  rw [List.take_length, List.getElem?_eq_none (Nat.le_refl _)]
  simp
theorem standsUp_len {L : List Hands} (hL : L.length ≤ 28) : ∀ i, i ≤ L.length → ∀ j, j ≤ L.length → (standsUp L i j).length ≤ 28 * i + j := by
  have z : ∀ l : List Nat, (∀ x ∈ l, x ≤ 28) → l.sum ≤ 28 * l.length := by
    intro l
    induction l with
    | nil => intro _; simp
    | cons a l ih =>
      intro h
      have := ih fun x hx => h x (List.mem_cons_of_mem _ hx)
      have := h a (by simp)
      rw [List.sum_cons, List.length_cons]
      omega
  intro i hi j hj
  unfold standsUp
  rw [List.length_append, List.length_flatMap]
  have h1 : ((L.take i).map fun x => ((L.filter fun y => y.1 != 0).map fun y => (⟨x, y⟩ : Stand)).length).sum ≤ 28 * i := by
    refine Nat.le_trans (z _ fun x hx => ?_) ?_
    · obtain ⟨y, _, rfl⟩ := List.mem_map.mp hx
      rw [List.length_map]
      exact Nat.le_trans (List.length_filter_le _ _) hL
    · rw [List.length_map, List.length_take]
      omega
  have h2 : ∀ o : Option Hands, (match o with | none => ([] : List Stand) | some x => ((L.take j).filter fun (y : Hands) => y.1 != 0).map fun y => ⟨x, y⟩).length ≤ j := by
    intro o
    cases o with
    | none => simp
    | some x =>
      show (((L.take j).filter fun y => y.1 != 0).map fun y => (⟨x, y⟩ : Stand)).length ≤ j
      rw [List.length_map]
      refine Nat.le_trans (List.length_filter_le _ _) ?_
      rw [List.length_take]
      omega
  have h2' := h2 L[i]?
  omega
end Ft
namespace Ft
open Uw72
/-! ### those ahead of a stand -/
def srcs (r : Rules) (L : List Stand) (b : Stand) : List Stand := L.filter fun s => decide (b ∈ turnsP r s)
def srcIn (r : Rules) (L : List Stand) (x : Stand) (j : Nat) (b : Stand) : List Stand := srcs r L b ++ if b ∈ (turnsP r x).take j then [x] else []
theorem mem_take_succ {α : Type} {l : List α} {j : Nat} {x y : α} (h : l[j]? = some x) : y ∈ l.take (j + 1) ↔ y ∈ l.take j ∨ y = x := by
  rw [List.take_add_one, h]
  simp
theorem not_mem_take {α : Type} : ∀ {l : List α} {j : Nat} {x : α}, l.Nodup → l[j]? = some x → x ∉ l.take j
  | [], j, x, _, h => by simp at h
  | a :: l, 0, x, _, _ => by simp
  | a :: l, j + 1, x, hn, h => by
    obtain ⟨h1, h2⟩ := List.nodup_cons.mp hn
    have h' : l[j]? = some x := by simpa using h
    intro hm
    rw [List.take_succ_cons] at hm
    rcases List.mem_cons.mp hm with q | q
    · subst q
      exact h1 (List.mem_of_getElem? h')
    · exact not_mem_take h2 h' q
theorem srcIn_zero (r : Rules) (L : List Stand) (x b : Stand) : srcIn r L x 0 b = srcs r L b := by
  unfold srcIn
  simp
theorem srcIn_at {r : Rules} {L : List Stand} {x b : Stand} {j : Nat} (hn : (turnsP r x).Nodup) (h : (turnsP r x)[j]? = some b) : srcIn r L x (j + 1) b = srcIn r L x j b ++ [x] := by
  unfold srcIn
  rw [if_pos ((mem_take_succ h).mpr (.inr rfl)), if_neg (not_mem_take hn h), List.append_nil]
theorem srcIn_ne {r : Rules} {L : List Stand} {x b c : Stand} {j : Nat} (h : (turnsP r x)[j]? = some b) (hc : c ≠ b) : srcIn r L x (j + 1) c = srcIn r L x j c := by
  unfold srcIn
  have : c ∈ (turnsP r x).take (j + 1) ↔ c ∈ (turnsP r x).take j := by
    rw [mem_take_succ h]
    exact ⟨fun q => q.elim id fun z => absurd z hc, .inl⟩
  by_cases q : c ∈ (turnsP r x).take j
  · rw [if_pos q, if_pos (this.mpr q)]
  · rw [if_neg q, if_neg fun z => q (this.mp z)]
theorem srcIn_end {r : Rules} {S : List Stand} {i : Nat} {x b : Stand} (h : S[i]? = some x) : srcs r (S.take (i + 1)) b = srcIn r (S.take i) x (turnsP r x).length b := by
  unfold srcIn srcs
  rw [List.take_length, List.take_add_one, h, List.filter_append]
  congr 1
  by_cases q : b ∈ turnsP r x
  · simp [q]
  · simp [q]
theorem srcIn_len (r : Rules) (L : List Stand) (x b : Stand) (j : Nat) : (srcIn r L x j b).length ≤ L.length + 1 := by
  unfold srcIn srcs
  rw [List.length_append]
  have := List.length_filter_le (fun s => decide (b ∈ turnsP r s)) L
  have h2 : (if b ∈ (turnsP r x).take j then [x] else []).length ≤ 1 := by split <;> simp
  omega
end Ft
namespace Ft
open Uw72
/-! ### how many turns lead to some stands -/
def dec (r : Rules) (L : List Stand) (x : Stand) : Nat := L.countP fun t => decide (t ∈ turnsP r x)
def decIn (r : Rules) (S L : List Stand) (t : Stand) (j : Nat) (x : Stand) : Nat := dec r L x + if x ∈ (srcs r S t).take j then 1 else 0
theorem mem_srcs {r : Rules} {S : List Stand} {t x : Stand} : x ∈ srcs r S t ↔ x ∈ S ∧ t ∈ turnsP r x := by
  unfold srcs
  rw [List.mem_filter, decide_eq_true_eq]
theorem srcs_nodup {r : Rules} {S : List Stand} (h : S.Nodup) (t : Stand) : (srcs r S t).Nodup := List.Pairwise.filter _ h
theorem decIn_zero (r : Rules) (S L : List Stand) (t x : Stand) : decIn r S L t 0 x = dec r L x := by
  unfold decIn
  simp
theorem decIn_at {r : Rules} {S L : List Stand} {t b : Stand} {j : Nat} (hn : (srcs r S t).Nodup) (h : (srcs r S t)[j]? = some b) : decIn r S L t (j + 1) b = decIn r S L t j b + 1 := by
  unfold decIn
  rw [if_pos ((mem_take_succ h).mpr (.inr rfl)), if_neg (not_mem_take hn h)]
theorem decIn_ne {r : Rules} {S L : List Stand} {t b c : Stand} {j : Nat} (h : (srcs r S t)[j]? = some b) (hc : c ≠ b) : decIn r S L t (j + 1) c = decIn r S L t j c := by
  unfold decIn
  have : c ∈ (srcs r S t).take (j + 1) ↔ c ∈ (srcs r S t).take j := by
    rw [mem_take_succ h]
    exact ⟨fun q => q.elim id fun z => absurd z hc, .inl⟩
  by_cases q : c ∈ (srcs r S t).take j
  · rw [if_pos q, if_pos (this.mpr q)]
  · rw [if_neg q, if_neg fun z => q (this.mp z)]
theorem decIn_end {r : Rules} {S ws : List Stand} {i : Nat} {t x : Stand} (h : ws[i]? = some t) (hx : x ∈ S) : dec r (ws.take (i + 1)) x = decIn r S (ws.take i) t (srcs r S t).length x := by
  unfold decIn dec
  rw [List.take_length, List.take_add_one, h, List.countP_append]
  congr 1
  by_cases q : t ∈ turnsP r x
  · rw [if_pos (mem_srcs.mpr ⟨hx, q⟩)]
    simp [q]
  · rw [if_neg fun z => q (mem_srcs.mp z).2]
    simp [q]
theorem dec_take_le (r : Rules) (ws : List Stand) (i : Nat) (x : Stand) : dec r (ws.take i) x ≤ dec r ws x := by
  unfold dec
  conv => rhs; rw [← List.take_append_drop i ws, List.countP_append]
  omega
theorem decIn_le {r : Rules} {S ws : List Stand} {i j : Nat} {t x : Stand} (h : ws[i]? = some t) (hx : x ∈ S) : decIn r S (ws.take i) t j x ≤ dec r ws x := by
  refine Nat.le_trans ?_ (dec_take_le r ws (i + 1) x)
  rw [decIn_end (S := S) h hx]
  unfold decIn
  rw [List.take_length]
  by_cases q : x ∈ (srcs r S t).take j
  · rw [if_pos q, if_pos (List.mem_of_mem_take q)]
    exact Nat.le_refl _
  · rw [if_neg q]
    omega
end Ft
namespace Ft
open Uw72
/-! ### one turn of the program's rounds: 2 j, then 2 j + 1 -/
abbrev vl (r : Rules) (k : Nat) (s : Stand) : Nat × Nat := val (turnsP r) k s
abbrev AtR (r : Rules) (k : Nat) (s : Stand) : Prop := At (turnsP r) k s
/-- how many turns lead to stands that are not won -/
def left (r : Rules) (k : Nat) (s : Stand) : Nat := (turnsP r s).countP fun t => decide ((vl r k t).1 ≠ 1)
theorem left_zero (r : Rules) (s : Stand) : left r 0 s = (turnsP r s).length := by
  unfold left
  rw [List.countP_eq_length]
  intro t _
  exact decide_eq_true (show (0 : Nat) ≠ 1 by decide)
theorem val_not_at {r : Rules} {k : Nat} {s : Stand} (h : ¬ AtR r k s) : vl r (k + 1) s = vl r k s := by
  by_cases h0 : (val (turnsP r) k s).1 = 0
  · have h1 : (val (turnsP r) (k + 1) s).1 = 0 := Decidable.byContradiction fun q => h ⟨h0, q⟩
    exact (val_zero h1).trans (val_zero h0).symm
  · exact val_keep h0
theorem lost_next {r : Rules} {j : Nat} {ls : List Stand} {S : List Stand} (hls : ∀ x, x ∈ ls ↔ x ∈ S ∧ AtR r (2 * j) x) {s : Stand} (hs : s ∈ S) : (if s ∈ ls then (2, 2 * j) else vl r (2 * j) s) = vl r (2 * j + 1) s := by
  by_cases h : s ∈ ls
  · rw [if_pos h]
    exact (at_even ((hls s).mp h).2 (by omega)).symm
  · rw [if_neg h]
    exact (val_not_at fun q => h ((hls s).mpr ⟨hs, q⟩)).symm
theorem won_next {r : Rules} {j : Nat} {ws : List Stand} {S : List Stand} (hws : ∀ x, x ∈ ws ↔ x ∈ S ∧ AtR r (2 * j + 1) x) {s : Stand} (hs : s ∈ S) : (if s ∈ ws then (1, 2 * j + 1) else vl r (2 * j + 1) s) = vl r (2 * (j + 1)) s := by
  have e : 2 * (j + 1) = 2 * j + 1 + 1 := by omega
  rw [e]
  by_cases h : s ∈ ws
  · rw [if_pos h]
    exact (at_odd ((hws s).mp h).2 (by omega)).symm
  · rw [if_neg h]
    exact (val_not_at fun q => h ((hws s).mpr ⟨hs, q⟩)).symm
theorem ws_is {r : Rules} {j : Nat} {ls ws S : List Stand} (hcl : ∀ s ∈ S, ∀ t ∈ turnsP r s, t ∈ S) (hls : ∀ x, x ∈ ls ↔ x ∈ S ∧ AtR r (2 * j) x) (hws : ∀ x, x ∈ ws ↔ (∃ t ∈ ls, x ∈ srcs r S t) ∧ (x ∈ S → (vl r (2 * j + 1) x).1 = 0)) :
    ∀ x, x ∈ ws ↔ x ∈ S ∧ AtR r (2 * j + 1) x := fun x => by
  rw [hws x]
  constructor
  · rintro ⟨⟨t, ht, hx⟩, h0⟩
    obtain ⟨hxS, htx⟩ := mem_srcs.mp hx
    exact ⟨hxS, (at_won (by omega)).mpr ⟨h0 hxS, t, htx, ((hls t).mp ht).2⟩⟩
  · rintro ⟨hxS, hA⟩
    obtain ⟨h0, t, ht, hAt⟩ := (at_won (by omega)).mp hA
    exact ⟨⟨t, (hls t).mpr ⟨hcl x hxS t ht, hAt⟩, mem_srcs.mpr ⟨hxS, ht⟩⟩, fun _ => h0⟩
/-- counting the common ones from either side -/
theorem countP_swap {α : Type} [DecidableEq α] : ∀ {l m : List α}, l.Nodup → m.Nodup → (l.countP fun x => decide (x ∈ m)) = m.countP fun x => decide (x ∈ l)
  | [], m, _, _ => by
    rw [List.countP_nil]
    symm
    rw [List.countP_eq_zero]
    intro x _
    simp
  | a :: l, m, hn, hm => by
    obtain ⟨h1, h2⟩ := List.nodup_cons.mp hn
    have ih := countP_swap h2 hm
    rw [List.countP_cons, ih]
    -- m's members in a :: l: those in l, and a
    have key : ∀ {m : List α}, m.Nodup → (m.countP fun x => decide (x ∈ a :: l)) = (m.countP fun x => decide (x ∈ l)) + if a ∈ m then 1 else 0 := by
      intro m
      induction m with
      | nil => intro _; simp
      | cons b m ihm =>
        intro hm
        obtain ⟨k1, k2⟩ := List.nodup_cons.mp hm
        rw [List.countP_cons, List.countP_cons, ihm k2]
        by_cases e : b = a
        · subst e
          have : b ∉ l := h1
          simp [this, k1]
        · have e' : ¬ a = b := fun q => e q.symm
          by_cases q : b ∈ l
          · simp [e, e', q]; omega
          · simp [e, e', q]
    rw [key hm]
    congr 1
    by_cases q : a ∈ m
    · simp [q]
    · simp [q]
theorem countP_split {α : Type} {p q s : α → Bool} : ∀ {l : List α}, (∀ x ∈ l, p x = true ↔ q x = true ∨ s x = true) → (∀ x ∈ l, ¬ (q x = true ∧ s x = true)) → l.countP p = l.countP q + l.countP s
  | [], _, _ => rfl
  | a :: l, h1, h2 => by
    rw [List.countP_cons, List.countP_cons, List.countP_cons, countP_split (fun x hx => h1 x (List.mem_cons_of_mem _ hx)) fun x hx => h2 x (List.mem_cons_of_mem _ hx)]
    have a1 := h1 a (by simp)
    have a2 := h2 a (by simp)
    cases hp : p a <;> cases hq : q a <;> cases hs : s a <;> simp_all <;> omega
theorem left_next {r : Rules} {j : Nat} {ws S : List Stand} (hcl : ∀ s ∈ S, ∀ t ∈ turnsP r s, t ∈ S) (hnd : ∀ x ∈ S, (turnsP r x).Nodup) (hn : ws.Nodup) (hws : ∀ x, x ∈ ws ↔ x ∈ S ∧ AtR r (2 * j + 1) x) {x : Stand} (hx : x ∈ S) :
    left r (2 * j) x = left r (2 * (j + 1)) x + dec r ws x := by
  have e : dec r ws x = (turnsP r x).countP fun t => decide (t ∈ ws) := countP_swap hn (hnd x hx)
  rw [e]
  unfold left
  have e2 : 2 * (j + 1) = 2 * j + 1 + 1 := by omega
  rw [e2]
  refine countP_split (fun t ht => ?_) fun t ht h => ?_
  · have htS := hcl x hx t ht
    rw [decide_eq_true_eq, decide_eq_true_eq, decide_eq_true_eq]
    constructor
    · intro h
      by_cases q : t ∈ ws
      · exact .inr q
      · refine .inl ?_
        have n1 : ¬ AtR r (2 * j + 1) t := fun z => q ((hws t).mpr ⟨htS, z⟩)
        rw [val_not_at n1]
        by_cases z : AtR r (2 * j) t
        · have z2 : vl r (2 * j + 1) t = (2, 2 * j) := at_even z (by omega)
          rw [z2]
          show (2 : Nat) ≠ 1
          decide
        · rw [val_not_at z]
          exact h
    · rintro (h | h)
      · intro z
        refine h ?_
        have z1 : (val (turnsP r) (2 * j) t).1 ≠ 0 := by
          have z' : (val (turnsP r) (2 * j) t).1 = 1 := z
          rw [z']
          decide
        have z2 : vl r (2 * j + 1 + 1) t = vl r (2 * j) t := val_mono (by omega) z1
        rw [z2]
        exact z
      · intro z
        have h1 := ((hws t).mp h).2.1
        have z' : (val (turnsP r) (2 * j) t).1 = 1 := z
        have z2 : val (turnsP r) (2 * j + 1) t = val (turnsP r) (2 * j) t := val_keep (by rw [z']; decide)
        rw [z2, z'] at h1
        cases h1
  · obtain ⟨h1, h2⟩ := h
    rw [decide_eq_true_eq] at h1 h2
    refine h1 ?_
    have z : vl r (2 * j + 1 + 1) t = (1, 2 * j + 1) := at_odd ((hws t).mp h2).2 (by omega)
    rw [z]
theorem ls_next {r : Rules} {j : Nat} {ws S ls : List Stand} (hcl : ∀ s ∈ S, ∀ t ∈ turnsP r s, t ∈ S) (hnd : ∀ x ∈ S, (turnsP r x).Nodup) (hn : ws.Nodup) (hws : ∀ x, x ∈ ws ↔ x ∈ S ∧ AtR r (2 * j + 1) x)
    (hls : ∀ x, x ∈ ls ↔ x ∈ S ∧ 0 < dec r ws x ∧ ((left r (2 * j) x : Nat) : Int) = (dec r ws x : Nat)) : ∀ x, x ∈ ls ↔ x ∈ S ∧ AtR r (2 * (j + 1)) x := fun x => by
  rw [hls x]
  have e2 : 2 * (j + 1) = 2 * j + 1 + 1 := by omega
  constructor
  · rintro ⟨hx, h1, h2⟩
    refine ⟨hx, ?_⟩
    have hl := left_next hcl hnd hn hws hx
    have h0 : left r (2 * (j + 1)) x = 0 := by omega
    rw [e2] at h0 ⊢
    refine (at_lost (by omega)).mpr ⟨fun t ht => ?_, ?_⟩
    · unfold left at h0
      rw [List.countP_eq_zero] at h0
      have := h0 t ht
      rw [decide_eq_true_eq] at this
      exact Decidable.byContradiction this
    · have e : dec r ws x = (turnsP r x).countP fun t => decide (t ∈ ws) := countP_swap hn (hnd x hx)
      rw [e, List.countP_pos_iff] at h1
      obtain ⟨t, ht, h1⟩ := h1
      rw [decide_eq_true_eq] at h1
      exact ⟨t, ht, ((hws t).mp h1).2⟩
  · rintro ⟨hx, hA⟩
    refine ⟨hx, ?_⟩
    have hl := left_next hcl hnd hn hws hx
    rw [e2] at hA
    obtain ⟨h1, t, ht, hAt⟩ := (at_lost (by omega)).mp hA
    have h0 : left r (2 * (j + 1)) x = 0 := by
      rw [e2]
      unfold left
      rw [List.countP_eq_zero]
      intro t ht
      rw [decide_eq_true_eq]
      exact fun q => q (h1 t ht)
    refine ⟨?_, by omega⟩
    have e : dec r ws x = (turnsP r x).countP fun t => decide (t ∈ ws) := countP_swap hn (hnd x hx)
    rw [e, List.countP_pos_iff]
    exact ⟨t, ht, decide_eq_true ((hws t).mpr ⟨hcl x hx t ht, hAt⟩)⟩
theorem cnt_next {r : Rules} {j : Nat} {S : List Stand} {x : Stand} (hx : x ∈ S) (hA : AtR r (2 * j) x) : S.length - cnt (turnsP r) S (2 * (j + 1)) < S.length - cnt (turnsP r) S (2 * j) := by
  have mono : ∀ k, cnt (turnsP r) S k ≤ cnt (turnsP r) S (k + 1) := fun k => by
    unfold cnt
    refine List.countP_mono_left fun y _ h => ?_
    have h := of_decide_eq_true h
    exact decide_eq_true (by rw [val_keep h]; exact h)
  have h1 : cnt (turnsP r) S (2 * j) < cnt (turnsP r) S (2 * j + 1) := cnt_lt fun q => by
    have := q x hx
    have h2 := hA.2
    rw [this] at h2
    exact h2 hA.1
  have h2 := mono (2 * j + 1)
  have h3 : cnt (turnsP r) S (2 * j + 1 + 1) ≤ S.length := List.countP_le_length
  have e2 : 2 * (j + 1) = 2 * j + 1 + 1 := by omega
  rw [e2]
  omega
end Ft
namespace Ft
open Uw72
/-! ### a list of calls -/
def encC : Call → List Int
  | .rules f o s => [0, f, o, s]
  | .stand a b c d => [1, a, b, c, d]
  | .turns => [2]
  | .take k => [3, k]
  | .worth => [4]
  | .good => [5]
  | .play n => [6, n]
  | .kinds => [7]
  | .hardest => [8]
def runC : Uw72.St → List Call → List (List Int)
  | _, [] => []
  | g, k :: ks => (Uw72.step g k).2 :: runC (Uw72.step g k).1 ks
theorem within_of {z : Int} (h : PyInside.within 0 4294967295 z = true) : ∃ n : Nat, z = (n : Int) ∧ n < 2 ^ 32 := by
  unfold PyInside.within at h
  rw [Bool.and_eq_true, decide_eq_true_eq, decide_eq_true_eq] at h
  exact ⟨z.toNat, by omega, by omega⟩
theorem nat_ok {n : Nat} (h : n < 2 ^ 32) : Uw72Neutral.nat (n : Int) = true := by
  unfold Uw72Neutral.nat
  rw [Bool.and_eq_true, decide_eq_true_eq, decide_eq_true_eq]
  constructor <;> omega
theorem len_zero {α : Type} {l : List α} (h : l.length = 0) : l = [] := List.eq_nil_of_length_eq_zero h
theorem len_one {α : Type} {l : List α} (h : l.length = 1) : ∃ a, l = [a] := by
  match l, h with
  | [a], _ => exact ⟨a, rfl⟩
theorem len_three {α : Type} {l : List α} (h : l.length = 3) : ∃ a b c, l = [a, b, c] := by
  match l, h with
  | [a, b, c], _ => exact ⟨a, b, c, rfl⟩
theorem len_four {α : Type} {l : List α} (h : l.length = 4) : ∃ a b c d, l = [a, b, c, d] := by
  match l, h with
  | [a, b, c, d], _ => exact ⟨a, b, c, d, rfl⟩
theorem callOf_of {l : List Int} {ns : List Nat} (e : l = ns.map fun (n : Nat) => (n : Int)) (h : ∀ n ∈ ns, n < 2 ^ 32) : Uw72Neutral.callOf l = Uw72Neutral.callIn ns := by
  subst e
  unfold Uw72Neutral.callOf
  have h1 : (ns.map fun (n : Nat) => (n : Int)).all Uw72Neutral.nat = true := by
    rw [List.all_eq_true]
    intro x hx
    obtain ⟨n, hn, rfl⟩ := List.mem_map.mp hx
    exact nat_ok (h n hn)
  have h2 : (ns.map fun (n : Nat) => (n : Int)).map Int.toNat = ns := by
    rw [List.map_map]
    have : ns.map (Int.toNat ∘ fun (n : Nat) => (n : Int)) = ns.map id := List.map_congr_left fun a _ => rfl
    rw [this, List.map_id]
  rw [h1, if_neg (by decide), h2]
theorem one_call {c : List (List Int)} (h : PyFlat.okCall PyUw72.shape c) (hb : PyInside.call PyUw72.bound c = true) : ∃ k : Call, c = [encC k] ∧ PyUw72.whole c = [encC k] ∧ Uw72Neutral.callOf (encC k) = some k := by
  obtain ⟨p, a, xs, rfl, hs⟩ := h
  have hw : PyInside.each (PyUw72.bound p).1 a = true := by
    have hb : (PyInside.each (PyUw72.bound p).1 a && PyInside.lists (PyUw72.bound p).2 xs) = true := hb
    rw [Bool.and_eq_true] at hb
    exact hb.1
  clear hb
  unfold PyUw72.shape at hs
  by_cases h0 : p = 0
  · subst h0
    have hs : (3, 0) = (a.length, xs.length) := Option.some.inj hs
    injection hs with e1 e2
    obtain ⟨x, y, z, rfl⟩ := len_three e1.symm
    obtain rfl := len_zero e2.symm
    have hb : (PyInside.within 0 4294967295 x && (PyInside.within 0 4294967295 y && (PyInside.within 0 4294967295 z && true))) = true := hw
    simp only [Bool.and_eq_true] at hb
    obtain ⟨n1, rfl, b1⟩ := within_of hb.1
    obtain ⟨n2, rfl, b2⟩ := within_of hb.2.1
    obtain ⟨n3, rfl, b3⟩ := within_of hb.2.2.1
    exact ⟨.rules n1 n2 n3, rfl, rfl, callOf_of (ns := [0, n1, n2, n3]) rfl (by simp; omega)⟩
  rw [if_neg h0] at hs
  by_cases h1 : p = 1
  · subst h1
    have hs : (4, 0) = (a.length, xs.length) := Option.some.inj hs
    injection hs with e1 e2
    obtain ⟨x, y, z, u, rfl⟩ := len_four e1.symm
    obtain rfl := len_zero e2.symm
    have hb : (PyInside.within 0 4294967295 x && (PyInside.within 0 4294967295 y && (PyInside.within 0 4294967295 z && (PyInside.within 0 4294967295 u && true)))) = true := hw
    simp only [Bool.and_eq_true] at hb
    obtain ⟨n1, rfl, b1⟩ := within_of hb.1
    obtain ⟨n2, rfl, b2⟩ := within_of hb.2.1
    obtain ⟨n3, rfl, b3⟩ := within_of hb.2.2.1
    obtain ⟨n4, rfl, b4⟩ := within_of hb.2.2.2.1
    exact ⟨.stand n1 n2 n3 n4, rfl, rfl, callOf_of (ns := [1, n1, n2, n3, n4]) rfl (by simp; omega)⟩
  rw [if_neg h1] at hs
  by_cases h2 : p = 2
  · subst h2
    have hs : (0, 0) = (a.length, xs.length) := Option.some.inj hs
    injection hs with e1 e2
    obtain rfl := len_zero e1.symm
    obtain rfl := len_zero e2.symm
    exact ⟨.turns, rfl, rfl, rfl⟩
  rw [if_neg h2] at hs
  by_cases h3 : p = 3
  · subst h3
    have hs : (1, 0) = (a.length, xs.length) := Option.some.inj hs
    injection hs with e1 e2
    obtain ⟨x, rfl⟩ := len_one e1.symm
    obtain rfl := len_zero e2.symm
    have hb : (PyInside.within 0 4294967295 x && true) = true := hw
    simp only [Bool.and_eq_true] at hb
    obtain ⟨n1, rfl, b1⟩ := within_of hb.1
    exact ⟨.take n1, rfl, rfl, callOf_of (ns := [3, n1]) rfl (by simp; omega)⟩
  rw [if_neg h3] at hs
  by_cases h4 : p = 4
  · subst h4
    have hs : (0, 0) = (a.length, xs.length) := Option.some.inj hs
    injection hs with e1 e2
    obtain rfl := len_zero e1.symm
    obtain rfl := len_zero e2.symm
    exact ⟨.worth, rfl, rfl, rfl⟩
  rw [if_neg h4] at hs
  by_cases h5 : p = 5
  · subst h5
    have hs : (0, 0) = (a.length, xs.length) := Option.some.inj hs
    injection hs with e1 e2
    obtain rfl := len_zero e1.symm
    obtain rfl := len_zero e2.symm
    exact ⟨.good, rfl, rfl, rfl⟩
  rw [if_neg h5] at hs
  by_cases h6 : p = 6
  · subst h6
    have hs : (1, 0) = (a.length, xs.length) := Option.some.inj hs
    injection hs with e1 e2
    obtain ⟨x, rfl⟩ := len_one e1.symm
    obtain rfl := len_zero e2.symm
    have hb : (PyInside.within 0 4294967295 x && true) = true := hw
    simp only [Bool.and_eq_true] at hb
    obtain ⟨n1, rfl, b1⟩ := within_of hb.1
    exact ⟨.play n1, rfl, rfl, callOf_of (ns := [6, n1]) rfl (by simp; omega)⟩
  rw [if_neg h6] at hs
  by_cases h7 : p = 7
  · subst h7
    have hs : (0, 0) = (a.length, xs.length) := Option.some.inj hs
    injection hs with e1 e2
    obtain rfl := len_zero e1.symm
    obtain rfl := len_zero e2.symm
    exact ⟨.kinds, rfl, rfl, rfl⟩
  rw [if_neg h7] at hs
  by_cases h8 : p = 8
  · subst h8
    have hs : (0, 0) = (a.length, xs.length) := Option.some.inj hs
    injection hs with e1 e2
    obtain rfl := len_zero e1.symm
    obtain rfl := len_zero e2.symm
    exact ⟨.hardest, rfl, rfl, rfl⟩
  rw [if_neg h8] at hs
  cases hs
theorem all_calls : ∀ {cs : List (List (List Int))}, (∀ c ∈ cs, PyFlat.okCall PyUw72.shape c) → PyInside.calls PyUw72.bound cs = true →
    ∃ ks : List Call, cs = ks.map (fun k => [encC k]) ∧ cs.map PyUw72.whole = ks.map (fun k => [encC k]) ∧ ∀ k ∈ ks, Uw72Neutral.callOf (encC k) = some k
  | [], _, _ => ⟨[], rfl, rfl, fun k hk => by cases hk⟩
  | c :: cs, h, hb => by
    have hb : (PyInside.call PyUw72.bound c && PyInside.calls PyUw72.bound cs) = true := hb
    rw [Bool.and_eq_true] at hb
    obtain ⟨k, e1, e2, e3⟩ := one_call (h c (by simp)) hb.1
    obtain ⟨ks, i1, i2, i3⟩ := all_calls (fun c hc => h c (List.mem_cons_of_mem _ hc)) hb.2
    refine ⟨k :: ks, by rw [List.map_cons, ← e1, ← i1], by rw [List.map_cons, List.map_cons, ← e2, ← i2], fun q hq => ?_⟩
    rcases List.mem_cons.mp hq with z | z
    · subst z; exact e3
    · exact i3 q z
theorem put_enc : ∀ ks : List Call, PyFlat.put (ks.map fun k => [encC k]) = ks.flatMap encC
  | [] => rfl
  | k :: ks => by
    show (encC k ++ []) ++ PyFlat.put (ks.map fun k => [encC k]) = _
    rw [put_enc ks, List.append_nil, List.flatMap_cons]
theorem played_run : ∀ (ks : List Call) (g : Uw72.St), (∀ k ∈ ks, Uw72Neutral.callOf (encC k) = some k) → PyFlat.played (fun s c => Uw72Neutral.step s (c.headD [])) g (ks.map fun k => [encC k]) = runC g ks
  | [], g, _ => rfl
  | k :: ks, g, h => by
    have e : Uw72Neutral.step g (encC k) = Uw72.step g k := by
      unfold Uw72Neutral.step
      rw [h k (by simp)]
      rfl
    show (Uw72Neutral.step g (encC k)).2 :: PyFlat.played _ (Uw72Neutral.step g (encC k)).1 _ = _
    rw [e, played_run ks _ fun q hq => h q (List.mem_cons_of_mem _ hq)]
    rfl
/-- what is asked, as calls -/
theorem asked_calls {l : List Int} (h : PyUw72.answers_asked l = true) : ∃ ks : List Call, l = ks.flatMap encC ∧ PyUw72.answers l = PyFlat.told (runC Uw72.init ks) ∧ (PyUw72.answers l).length ≤ 10000000 := by
  unfold PyUw72.answers_asked at h
  cases e : PyFlat.calls PyUw72.shape l.length l with
  | none => rw [e] at h; cases h
  | some raw =>
    rw [e] at h
    simp only [Bool.and_eq_true] at h
    obtain ⟨⟨⟨⟨_, _⟩, hb⟩, _⟩, hsh⟩ := h
    obtain ⟨e1, hok⟩ := PyFlat.put_calls _ _ _ e
    obtain ⟨ks, i1, i2, i3⟩ := all_calls hok hb
    refine ⟨ks, by rw [e1, i1, put_enc], ?_, of_decide_eq_true hsh⟩
    unfold PyUw72.answers PyUw72.calls
    rw [e]
    show PyFlat.told (PyFlat.played _ _ (raw.map PyUw72.whole)) = _
    rw [i2, played_run ks _ i3]
    rfl
end Ft
/-! RULES that the layer lacks: x not in a list of tuples, list.extend of a tuple, list(d) of a dict whose keys are tuples -/
namespace L2
open PySem PySem.Spec PyProof.Rows
section
variable {X : Cx}
def rNotInD (K : PySem.W.Frag) : R2 := fun x y H Q => ∃ xs d, Dp K H y (.list xs) ∧ Dp K H x d ∧ PyData.canLayAll0 xs = true ∧ SeqAt.shaped d = true ∧ Q (.bl (!xs.any fun z => PyData.eqv z d)) H
theorem op_notInD (hu : X.A.units + 65 < cLine) : OpR X (compareOp .NotIn) (rNotInD X.K) := by
  intro pins s σ H x y v u Q I rx ry h
  obtain ⟨xs, d, hy, hx, sy, sx, q⟩ := h
  obtain ⟨as, r1⟩ := Dp.reads I (.list xs) y u hy ry
  obtain ⟨bs, r2⟩ := Dp.reads I d x v hx rx
  exact SeqAt.notIn_list_reads r1 r2 sy (SeqAt.canLay_of_shaped sx) (room_in_shaped sx hu) ⟨.bl _, H, I, rfl, q⟩
theorem extend_tupM (l : Addr) (items : Array Value) (n : Nat) (b : Addr) (o : Obj) (items2 : Array Value) (n2 : Nat) (hlong : ¬(!items.isEmpty && Builtin.List.listTooLong (items.size + items2.size)) = true) (hs1 : items.size ≤ sizeLine) (hs2 : items.size + items2.size ≤ sizeLine + 1) :
    Meets (Builtin.«list.extend» ⟨[.ref l, .ref b], []⟩) (fun _ R s => s.heap.get? l = some { cls := .type "list", dict := none, data := .seq items n, slots := #[] } ∧ s.heap.get? b = some o ∧ o.cls = .type "tuple" ∧ o.data = .seq items2 n2 ∧
      R (.ok (.ret Value.none)) { s with heap := s.heap.update l (Obj.mapSeq fun x => x ++ items2), toks := s.toks }) :=
  .of_wp fun prog w A R s h => by
    obtain ⟨hl, hb, hc, hd, h⟩ := h
    show wpAny _ _ (Builtin.List.listExtendWith (.ref l) (.ref b) .none) _ _ s
    unfold Builtin.List.listExtendWith
    refine wpAny_bind (wpAny_typeOf (T := "tuple") ⟨o, hb, hc⟩ ?_)
    have h1 : (Builtin.List.listSameRef (.ref l) (.ref b) || Value.type "tuple" == Value.type "list" || Value.type "tuple" == Value.type "tuple") = true := by simp
    simp only [h1, if_true]
    refine wpAny_bind ?_
    unfold Builtin.List.listItems
    refine wpAny_bind (wpAny_seqItems hb hd (wpAny_pure ?_))
    refine wpAny_bind ?_
    refine wpAny_bind (wpAny_seqItems hl rfl (wpAny_pure ?_))
    rw [if_neg hlong]
    show wpAny _ _ (updateSeq l (· ++ items2) >>= fun _ => ret .none) _ _ s
    refine wpAny_bind (wpAny_updateSeq hl rfl ?_ hs1 (by show (items ++ items2).size ≤ sizeLine + 1; rw [Array.size_append]; exact hs2))
    exact wpAny_pure ⟨_, rfl, h⟩
/-- l.extend(t), t a tuple -/
def rExtendT : V → List V → Hp → VK → Prop := fun x vs H Q => ∃ l b xs zs, x = .ref l ∧ vs = [.ref b] ∧ H l = some (.lst xs) ∧ H b = some (.tup zs) ∧ xs.length + zs.length ≤ sizeLine ∧ Q .non (upd H l (.lst (xs ++ zs)))
theorem mt_extendT : MtM X "list.extend" rExtendT := by
  intro pins s σ H x vs v us Q I rx rv h
  obtain ⟨l, b, xs, zs, rfl, rfl, hH, hB, hz, q⟩ := h
  cases rx
  obtain ⟨u, rfl, ru⟩ := rv.one
  cases ru
  obtain ⟨z, its, n, r, hl, e⟩ := I.lstM hH
  obtain ⟨its2, r2, ⟨o2, ho2, hc2, n2, hd2⟩, z2⟩ := I.tuple (SqT.of hB)
  have hl2 := r2.length
  have hsz : its.toArray.size + its2.toArray.size ≤ sizeLine := by rw [List.size_toArray, List.size_toArray]; omega
  have hlong : ¬ (!its.toArray.isEmpty && Builtin.List.listTooLong (its.toArray.size + its2.toArray.size)) = true := by
    rw [notLongL hsz, Bool.and_false]
    exact Bool.false_ne_true
  refine call_meets F.slot_list_extend ⟨_, e, rfl⟩ F.entry_list_extend (F.args_list_extend_2 _ _)
    (extend_tupM l its.toArray n b o2 its2.toArray n2 hlong (by rw [List.size_toArray]; omega) (by omega)) ⟨e, ho2, hc2, hd2, ?_⟩
  refine ⟨.non, _, I.lset (its' := its ++ its2) hH e (by simp) (r.append r2) ?_, rfl, q⟩
  rw [List.length_append]
  omega

/-! ### list(d), the keys tuples -/
theorem walks_keysT {prog : Program} {w : World} {A : Around} (hh : A.handled = none) (it d : Addr) (hne : d ≠ it) {o : Obj} {es : Array DictEntry} {ep : Nat} (hdd : o.data = .dict es ep) :
    Walks prog w A it [it, d] [it] es.size (fun i v => ∃ en, es[i]? = some en ∧ en.key = v) (fun i h => h.IsKeyIter it d i es.size ep ∧ h.get? d = some o) where
  sub := fun b hb => by simp at hb; simp [hb]
  frame := fun _ _ _ st hk => ⟨st.1.at fun o e => hk it (by simp) o e, hk d (by simp) _ st.2⟩
  item := fun i s Q E hi st hQ => by
    obtain ⟨en, hx⟩ : ∃ p, es[i]? = some p := ⟨es[i], by simp [hi]⟩
    refine next_key_item st.1 st.2 hdd rfl hx fun h' hit' hs' => ?_
    exact hQ en.key h' s.toks ⟨en, hx, rfl⟩ ⟨hit', hs'.extBut d _ hne st.2⟩ fun b o hb e => hs'.extBut b o (fun h => hb (by simp [h])) e
  done := fun s Q E st hQ => next_key_end hh st.1 st.2 hdd rfl (Nat.le_refl _) fun h' he' => hQ h' s.toks fun b o hb e => he' b o (fun h => hb (by simp [h])) e
  self := fun i s Q E st h => by
    refine wpAny_pyIter_slot st.1.typeIs F.slot_dict_keyiterator_iter (wpAny_call_entry F.slot_dict_keyiterator_iter st.1.typeIs F.entry_dict_keyiterator_iter ?_ (F.args_dict_keyiterator_iter_1 _))
    show wpAny _ _ (ret (.ref it)) _ _ s
    exact wpAny_pure ⟨_, rfl, "dict_keyiterator", _, st.1.typeIs, F.slot_dict_keyiterator_next.lookup, h⟩
theorem src_keysT {prog : Program} {w : World} {d : Addr} {o : Obj} {es : Array DictEntry} {ep : Nat} (lo : (d == sysModules) = false) (hx : o.ExactDict) (hdd : o.data = .dict es ep) :
    PySem.W.KdlSrc prog w "dict" d d es.size (fun i v => ∃ en, es[i]? = some en ∧ en.key = v) (fun h => h.get? d = some o) where
  type := fun _ hm => ⟨o, hm, hx.1⟩
  there := fun _ hm => ⟨Heap.lt_size hm, Heap.lt_size hm⟩
  keep := fun _ _ hm hk => hk d (.inl rfl) o hm
  notList := by decide
  notTuple := by decide
  hint := fun _ _ _ _ hm hq => PySem.W.kdl_hint_dict ⟨o, hm, hx.1⟩ hq
  iter := fun A s hh hm => ⟨_, _, (fun _ _ hq => iter_keys lo hm hx hdd hq), walks_keysT hh _ d (Nat.ne_of_lt (Heap.lt_size hm)) hdd, ⟨⟨_, Heap.get?_push_size _ rfl, rfl, rfl⟩, Heap.get?_push_of_some _ hm⟩⟩
/-- list(d): the keys' own tuples, in their order -/
theorem call_listT (hcalm : X.calm = true) : CallR X (.type "list") (fun xs H Q => ∃ (a : Addr) (kvs : List (List Key × V)), xs = [.ref a] ∧ H a = some (.dT kvs) ∧
    ∀ (l : Addr) (vs : List V), H l = none → vs.length = kvs.length → (∀ (i : Nat) (k : List Key) (v : V), kvs[i]? = some (k, v) → ∃ q, vs[i]? = some (.ref q) ∧ H q = some (.tup (k.map kV))) → Q (.ref l) (upd H l (.lst vs))) := by
  intro pins s σ H xs us Q I r h
  obtain ⟨a, kvs, ex, ha, q⟩ := h
  subst ex
  obtain ⟨u, eu, rx⟩ := vals1 r
  subst eu
  cases rx
  obtain ⟨z, hs, ps, pr, o, es, ep, ho, hx, hdt, he, _⟩ := I.hok a _ ha
  have l1 : es.size = ps.length := size_of_entries he
  have l2 : kvs.length = ps.length := Paired.length pr
  have ent : ∀ (i : Nat) (k : List Key) (v : V), kvs[i]? = some (k, v) → ∃ (en : DictEntry) (q : Addr), es[i]? = some en ∧ en.key = .ref q ∧ H q = some (.tup (k.map kV)) := fun i k v e => by
    obtain ⟨b, hb, e1, e2, _⟩ := paired_get pr e
    have q := entry_at he i
    rw [hb] at q
    exact ⟨_, b.2.1, q, rfl, e2⟩
  refine PySem.W.kdl_call (src_keysT hs hx hdt) (I.ok.hd hcalm) ho (by omega) fun h' tk acc c hk hS hacc => ?_
  have hsz : acc.size = es.size := hacc.1
  -- the items are refs
  have refs : ∀ (j : Nat) (v : Value), acc[j]? = some v → ∃ (q : Addr) (k : List Key) (x : V), v = .ref q ∧ kvs[j]? = some (k, x) ∧ H q = some (.tup (k.map kV)) := fun j v hv => by
    obtain ⟨en, hen, ek⟩ := hacc.2 j v hv
    have hj : j < kvs.length := by
      have := (Array.getElem?_eq_some_iff.mp hen).1
      omega
    obtain ⟨en', q', e1, e2, e3⟩ := ent j kvs[j].1 kvs[j].2 (List.getElem?_eq_getElem hj)
    rw [hen] at e1
    cases e1
    exact ⟨q', kvs[j].1, kvs[j].2, by rw [← ek, e2], List.getElem?_eq_getElem hj, e3⟩
  have mk : ∀ (l : List Value), (∀ (j : Nat) (v : Value), l[j]? = some v → ∃ q : Addr, v = .ref q) → ∃ vs : List V, Vals vs l := by
    intro l
    induction l with
    | nil => intro _; exact ⟨[], .nil⟩
    | cons v l ih =>
      intro hl
      obtain ⟨q, eq⟩ := hl 0 v rfl
      obtain ⟨vs, hv⟩ := ih fun j v e => hl (j + 1) v (by simpa using e)
      exact ⟨.ref q :: vs, .cons eq hv⟩
  obtain ⟨vs, hvs⟩ := mk acc.toList fun j v e => by
    rw [Array.getElem?_toList] at e
    obtain ⟨q, _, _, eq, _⟩ := refs j v e
    exact ⟨q, eq⟩
  have hlen : vs.length = kvs.length := by
    rw [hvs.length, Array.length_toList]
    omega
  have hf : H s.heap.objs.size = none := I.hok.fresh (Nat.le_refl _)
  refine ⟨.ref s.heap.objs.size, _, I.laid (t' := tk) (o := .lst vs) hk (Nat.le_refl _) ?_, rfl, q _ vs hf hlen fun i k v e => ?_⟩
  · exact ⟨by omega, acc.toList, c, hvs, by simpa using hS⟩
  · obtain ⟨en, q', e1, e2, e3⟩ := ent i k v e
    have hi : i < vs.length := by
      have := (List.getElem?_eq_some_iff.mp e).1
      omega
    obtain ⟨w', hw, rw'⟩ := hvs.get (List.getElem?_eq_getElem hi)
    rw [Array.getElem?_toList] at hw
    obtain ⟨q2, k2, x2, ew, ek, hq2⟩ := refs i w' hw
    subst ew
    rw [e] at ek
    cases ek
    have ev : vs[i] = .ref q2 := by
      cases hvi : vs[i] with
      | ref b =>
        rw [hvi] at rw'
        cases rw'
        rfl
      | non => rw [hvi] at rw'; cases rw'
      | bl b => rw [hvi] at rw'; cases rw'
      | int b => rw [hvi] at rw'; obtain ⟨_, z⟩ := rw'; cases z
      | str b => rw [hvi] at rw'; obtain ⟨_, z⟩ := rw'; cases z
      | byt b => rw [hvi] at rw'; obtain ⟨_, z⟩ := rw'; cases z
      | flt b => rw [hvi] at rw'; obtain ⟨_, z⟩ := rw'; cases z
      | ty b => rw [hvi] at rw'; cases rw'
    exact ⟨q2, by rw [List.getElem?_eq_getElem hi, ev], hq2⟩
end
end L2
namespace L2
open PySem PySem.Spec PyProof.Rows
/-! ### loops over a locked dict whose keys are tuples -/
theorem for_keysT {d : Addr} {o : Obj} {kvs : List (List Key × V)} {g : TG} {tb : TS} {D : Ends} {σ : St} {H : Hp} (Pv : Nat → St → Hp → Prop) (h0 : Pv 0 σ H) (hl : ∀ i σ H, i ≤ kvs.length → Pv i σ H → H d = some (.frz o (.dT kvs)))
    (hs : ∀ i k v q σ H, kvs[i]? = some (k, v) → H q = some (.tup (k.map kV)) → Pv i σ H → g (.ref q) σ H fun σ2 H2 => tb { D with nx := Pv (i + 1), ct := Pv (i + 1), bk := D.nx } σ2 H2) (hd : ∀ σ H, Pv kvs.length σ H → D.nx σ H) :
    ∃ W : Nat → Nat → St → Hp → Prop, (∃ m, W 0 m σ H) ∧ ∀ i m σ H, W i m σ H →
      ((Itkt d o kvs).stop i H ∧ D.nx σ H) ∨ ((Itkt d o kvs).go i H ∧ ∃ N : St → Hp → Prop, (∀ σ' H', N σ' H' → ∃ m', m' < m ∧ W (i + 1) m' σ' H') ∧ ∀ x H', (Itkt d o kvs).yld i H x H' → g x σ H' fun σ2 H2 => tb { D with nx := N, ct := N, bk := D.nx } σ2 H2) := by
  refine ⟨fun i m σ H => m = kvs.length - i ∧ i ≤ kvs.length ∧ Pv i σ H, ⟨kvs.length, by simp, Nat.zero_le _, h0⟩, ?_⟩
  rintro i m σ H ⟨rfl, hi, p⟩
  have q := hl i σ H hi p
  by_cases hlt : i < kvs.length
  · refine .inr ⟨⟨q, hlt⟩, Pv (i + 1), fun σ' H' p' => ⟨kvs.length - (i + 1), by omega, rfl, hlt, p'⟩, fun x H' y => ?_⟩
    obtain ⟨e, k, v, b, hk, ex, hb⟩ := y
    subst e ex
    exact hs i k v b σ _ hk hb p
  · have e : i = kvs.length := by omega
    subst e
    exact .inl ⟨⟨q, Nat.le_refl _⟩, hd σ H p⟩
theorem lc_keysT {d : Addr} {o : Obj} {kvs : List (List Key × V)} {g : TG} {tt : TT} {te : TE} {vs : List Nat} {σ : St} {H1 : Hp} {D : Addr} {Qd : Hp → Prop} (Pv : Nat → Hp → Prop) (h0 : Pv 0 (upd H1 D (.lst []))) (hl : ∀ i H, i ≤ kvs.length → Pv i H → H d = some (.frz o (.dT kvs)))
    (hs : ∀ i k v q H, kvs[i]? = some (k, v) → H q = some (.tup (k.map kV)) → Pv i H → g (.ref q) (wipe σ vs) H fun σ2 H2 => wipe σ2 vs = wipe σ vs ∧ tt σ2 H2 fun b H3 =>
      if b = true then te σ2 H3 fun y H4 => ∃ acc, H4 D = some (.lst acc) ∧ acc.length < sizeLine ∧ Pv (i + 1) (upd H4 D (.lst (acc ++ [y]))) else Pv (i + 1) H3) (hd : ∀ H, Pv kvs.length H → Qd H) :
    ∃ W : Nat → Nat → Hp → Prop, (∃ m, W 0 m (upd H1 D (.lst []))) ∧ ∀ i m H, W i m H →
      ((Itkt d o kvs).stop i H ∧ Qd H) ∨ ((Itkt d o kvs).go i H ∧ ∃ Nx : Hp → Prop, (∀ H', Nx H' → ∃ m', m' < m ∧ W (i + 1) m' H') ∧ ∀ x H', (Itkt d o kvs).yld i H x H' → g x (wipe σ vs) H' fun σ2 H2 => wipe σ2 vs = wipe σ vs ∧ tt σ2 H2 fun b H3 =>
        if b = true then te σ2 H3 fun y H4 => ∃ acc, H4 D = some (.lst acc) ∧ acc.length < sizeLine ∧ Nx (upd H4 D (.lst (acc ++ [y]))) else Nx H3) := by
  refine ⟨fun i m H => m = kvs.length - i ∧ i ≤ kvs.length ∧ Pv i H, ⟨kvs.length, by simp, Nat.zero_le _, h0⟩, ?_⟩
  rintro i m H ⟨rfl, hi, p⟩
  have q := hl i H hi p
  by_cases hlt : i < kvs.length
  · refine .inr ⟨⟨q, hlt⟩, Pv (i + 1), fun H' p' => ⟨kvs.length - (i + 1), by omega, rfl, hlt, p'⟩, fun x H' y => ?_⟩
    obtain ⟨e, k, v, b, hk, ex, hb⟩ := y
    subst e ex
    exact hs i k v b _ hk hb p
  · have e : i = kvs.length := by omega
    subst e
    exact .inl ⟨⟨q, Nat.le_refl _⟩, hd H p⟩
end L2

namespace Ft
open PySem PySem.Spec PyProof.Rows L2 Uw72
/-! ### a stand as a tuple, lists of stands -/
abbrev svals (s : Stand) : List V := [.int s.own.1, .int s.own.2, .int s.other.1, .int s.other.2]
abbrev skey (s : Stand) : List Key := [.inl s.own.1, .inl s.own.2, .inl s.other.1, .inl s.other.2]
theorem skey_inj {s t : Stand} (h : skey s = skey t) : s = t := by
  obtain ⟨⟨a, b⟩, ⟨c, d⟩⟩ := s
  obtain ⟨⟨a', b'⟩, ⟨c', d'⟩⟩ := t
  simp only [skey, List.cons.injEq, Sum.inl.injEq, Int.natCast_inj, and_true] at h
  obtain ⟨rfl, rfl, rfl, rfl⟩ := h
  rfl
def StAt (H : Hp) (v : V) (s : Stand) : Prop := ∃ p, v = .ref p ∧ H p = some (.tup (svals s))
abbrev StsAt (H : Hp) : List V → List Stand → Prop := Paired (StAt H)
/-- at a stands the list of these stands -/
def LsAt (H : Hp) (a : Addr) (ss : List Stand) : Prop := ∃ vs, H a = some (.lst vs) ∧ StsAt H vs ss
/-- tuples stay -/
def Tups (H H' : Hp) : Prop := ∀ b xs, H b = some (.tup xs) → H' b = some (.tup xs)
theorem Tups.refl (H : Hp) : Tups H H := fun _ _ h => h
theorem Tups.trans {H H1 H2 : Hp} (a : Tups H H1) (b : Tups H1 H2) : Tups H H2 := fun c xs h => b c xs (a c xs h)
theorem Tups.of {H H' : Hp} (h : Same H H') : Tups H H' := fun b xs e => h b _ e
theorem Same.new {H : Hp} {p : Addr} {o : HO} (h : H p = none) : Same H (upd H p o) := fun b u e => by
  rw [upd_ne (ne_of_none e h)]
  exact e
theorem Tups.upd {H H' : Hp} {p : Addr} {o : HO} (h : Tups H H') (hp : ∀ xs, H' p ≠ some (.tup xs)) : Tups H (upd H' p o) := fun b xs e => by
  have q := h b xs e
  rw [upd_ne (fun z => by subst z; exact hp xs q)]
  exact q
theorem Same.upd {H H' : Hp} {p : Addr} {o : HO} (h : Same H H') (hp : H p = none) : Same H (upd H' p o) := fun b u e => by
  rw [upd_ne (ne_of_none e hp)]
  exact h b u e
theorem StAt.mono {H H' : Hp} {v : V} {s : Stand} (h : StAt H v s) (t : Tups H H') : StAt H' v s := by
  obtain ⟨p, e, q⟩ := h
  exact ⟨p, e, t p _ q⟩
theorem StsAt.mono {H H' : Hp} {vs : List V} {ss : List Stand} (h : StsAt H vs ss) (t : Tups H H') : StsAt H' vs ss := Paired.mapP h fun _ _ q => q.mono t
theorem LsAt.mono {H H' : Hp} {a : Addr} {ss : List Stand} (h : LsAt H a ss) (t : Same H H') : LsAt H' a ss := by
  obtain ⟨vs, e, q⟩ := h
  exact ⟨vs, t a _ e, StsAt.mono q (Tups.of t)⟩
theorem paired_length {α β : Type} {R : α → β → Prop} : ∀ {l : List α} {m : List β}, Paired R l m → l.length = m.length
  | _, _, .nil => rfl
  | _, _, .cons _ t => by rw [List.length_cons, List.length_cons, paired_length t]
theorem paired_snoc {α β : Type} {R : α → β → Prop} {a : α} {b : β} (h : R a b) : ∀ {l : List α} {m : List β}, Paired R l m → Paired R (l ++ [a]) (m ++ [b])
  | _, _, .nil => .cons h .nil
  | _, _, .cons r t => .cons r (paired_snoc h t)
theorem paired_append {α β : Type} {R : α → β → Prop} : ∀ {l l' : List α} {m m' : List β}, Paired R l m → Paired R l' m' → Paired R (l ++ l') (m ++ m')
  | _, _, _, _, .nil, s => s
  | _, _, _, _, .cons r t, s => .cons r (paired_append t s)
theorem paired_get' {α β : Type} {R : α → β → Prop} : ∀ {l : List α} {m : List β}, Paired R l m → ∀ {i : Nat} {a : α}, l[i]? = some a → ∃ b, m[i]? = some b ∧ R a b
  | _, _, .nil, i, a, e => by simp at e
  | _, _, .cons r t, 0, a, e => by simp at e; subst e; exact ⟨_, rfl, r⟩
  | _, _, .cons r t, i + 1, a, e => by simpa using paired_get' t (by simpa using e)
theorem paired_getR {α β : Type} {R : α → β → Prop} : ∀ {l : List α} {m : List β}, Paired R l m → ∀ {i : Nat} {b : β}, m[i]? = some b → ∃ a, l[i]? = some a ∧ R a b
  | _, _, .nil, i, a, e => by simp at e
  | _, _, .cons r t, 0, a, e => by simp at e; subst e; exact ⟨_, rfl, r⟩
  | _, _, .cons r t, i + 1, a, e => by simpa using paired_getR t (by simpa using e)
/-! ### in a list of stands -/
abbrev sdat (s : Stand) : PyData := .tuple [.int s.own.1, .int s.own.2, .int s.other.1, .int s.other.2]
theorem StAt.dp {K : PySem.W.Frag} {H : Hp} {v : V} {s : Stand} (h : StAt H v s) : Dp K H v (sdat s) := by
  obtain ⟨p, rfl, e⟩ := h
  exact .tup (SqT.of e) (.cons (.int _) (.cons (.int _) (.cons (.int _) (.cons (.int _) .nil))))
theorem StsAt.dp {K : PySem.W.Frag} {H : Hp} : ∀ {vs : List V} {ss : List Stand}, StsAt H vs ss → DpAll K H vs (ss.map sdat)
  | _, _, .nil => .nil
  | _, _, .cons r t => .cons r.dp (StsAt.dp t)
theorem LsAt.dp {K : PySem.W.Frag} {H : Hp} {a : Addr} {ss : List Stand} (h : LsAt H a ss) : Dp K H (.ref a) (.list (ss.map sdat)) := by
  obtain ⟨vs, e, q⟩ := h
  exact .lst (SqL.of e) (StsAt.dp q)
theorem sdat_lay : ∀ ss : List Stand, PyData.canLayAll0 (ss.map sdat) = true
  | [] => rfl
  | s :: ss => by
    rw [List.map_cons, PyData.canLayAll0, sdat_lay ss]
    rfl
theorem sdat_eqv (s t : Stand) : PyData.eqv (sdat s) (sdat t) = decide (s = t) := by
  have e : PyData.eqv (sdat s) (sdat t) = (((s.own.1 : Int) == t.own.1) && (((s.own.2 : Int) == t.own.2) && (((s.other.1 : Int) == t.other.1) && (((s.other.2 : Int) == t.other.2) && true)))) := by
    simp [sdat, PyData.eqv, PyData.eqvAll]
  rw [e]
  obtain ⟨⟨a, b⟩, ⟨c, d⟩⟩ := s
  obtain ⟨⟨a', b'⟩, ⟨c', d'⟩⟩ := t
  simp only [Bool.and_true, Uw72.Stand.mk.injEq, Prod.mk.injEq]
  rw [Bool.eq_iff_iff]
  simp only [Bool.and_eq_true, beq_iff_eq, decide_eq_true_eq, Int.natCast_inj]
  constructor
  · rintro ⟨h1, h2, h3, h4⟩; exact ⟨⟨h1, h2⟩, h3, h4⟩
  · rintro ⟨⟨h1, h2⟩, h3, h4⟩; exact ⟨h1, h2, h3, h4⟩
theorem sdat_any (s : Stand) : ∀ ss : List Stand, ((ss.map sdat).any fun z => PyData.eqv z (sdat s)) = ss.contains s
  | [] => rfl
  | t :: ss => by
    rw [List.map_cons, List.any_cons, sdat_eqv, sdat_any s ss, List.contains_cons]
    congr 1
    by_cases h : t = s
    · subst h; simp
    · have h' : ¬ s = t := fun q => h q.symm
      rw [decide_eq_false h]
      exact (beq_eq_false_iff_ne.mpr h').symm
theorem sdat_shaped (s : Stand) : SeqAt.shaped (sdat s) = true := by
  unfold SeqAt.shaped
  rw [Bool.and_eq_true]
  refine ⟨rfl, ?_⟩
  simp [sdat, PyData.depth, PyData.depthAll]
/-! ### dicts keyed by stands -/
end Ft
/-! RULES that the layer lacks: t < u of tuples of numbers, min of a list of such tuples -/
namespace L2
open PySem PySem.Spec PyProof.Rows
/-- which of two lists of numbers, as long as one another, comes first -/
def lexLt : List Int → List Int → Bool
  | x :: xs, y :: ys => if x == y then lexLt xs ys else decide (x < y)
  | _, _ => false
theorem lt_ints {prog : Program} {w : World} {A : Around} {E : Value → Shared → Prop} {s : Shared} {Q : Value → Shared → Prop} (a b : Int) (t u : Tok) (h : Q (.bool (decide (a < b))) s) : wpAny (model prog w) A (richCompare .Lt (.int a t) (.int b u)) Q E s :=
  CmpOf.ints_lt (P := fun i v => (i = 0 ∧ v = .int a t) ∨ (i = 1 ∧ v = .int b u)) (fun i => if i = 0 then a else b) (fun i v q => q.elim (fun z => ⟨t, by rw [z.1, z.2]; rfl⟩) (fun z => ⟨u, by rw [z.1, z.2]; rfl⟩)) 0 1 _ _ s Q E (.inl ⟨rfl, rfl⟩) (.inr ⟨rfl, rfl⟩) h
theorem lt_tupsM (l b : Addr) (its its2 : List Value) (xs ys : List Int) (n n2 : Nat) (dd dd2 : Option Addr) (sl sl2 : Array (Option Value)) (hx : Vals (xs.map V.int) its) (hy : Vals (ys.map V.int) its2) (hlen : xs.length = ys.length) :
    Meets (Builtin.«tuple.__lt__» ⟨[.ref l, .ref b], []⟩) (fun A R s => s.heap.get? l = some { cls := .type "tuple", dict := dd, data := .seq its.toArray n, slots := sl } ∧ s.heap.get? b = some { cls := .type "tuple", dict := dd2, data := .seq its2.toArray n2, slots := sl2 } ∧ R (.ok (.ret (.bool (lexLt xs ys)))) s) :=
  .of_wp fun prog w A R s h => by
    obtain ⟨hp, g, d, tk, os⟩ := s
    obtain ⟨hl, hb, h⟩ := h
    have f2 := AutoSeq1.sub_tuple_tuple
    wp_walk using AutoSeq1.wpAny_loadPart' hl, AutoSeq1.wpAny_loadPart' hb, wpAny_forIn_list _ (fun rest c s' => c.1 = none ∧ s' = ⟨hp, g, d, tk, os⟩ ∧ ∃ (us ws : List Value) (xs' ys' : List Int), rest = us.zip ws ∧ Vals (xs'.map V.int) us ∧ Vals (ys'.map V.int) ws ∧ xs'.length = ys'.length ∧
      R (.ok (.ret (.bool (lexLt xs' ys')))) ⟨hp, g, d, tk, os⟩) _
    case turn =>
      rintro ⟨y, x⟩ rest c s' ⟨hc, rfl, us, ws, xs', ys', hz, h1, h2, h3, hR⟩
      match xs', ys', us, ws, h1, h2, h3, hz, hR with
      | [], _, _, _, h1, _, _, hz, _ => cases h1; cases hz
      | i :: xs', j :: ys', u :: us, w' :: ws, .cons r1 h1, .cons r2 h2, h3, hz, hR =>
        obtain ⟨t1, rfl⟩ := r1
        obtain ⟨t2, rfl⟩ := r2
        injection hz with e1 e2
        injection e1 with e1 e3
        subst e1 e3 e2
        refine wpAny_bind (SeqAt.EqAt.int_int i t1 j t2 prog w _ _ ?_)
        cases hij : i == j with
        | true =>
          wp_walk
          refine ⟨rfl, rfl, us, ws, xs', ys', rfl, h1, h2, by simpa using h3, ?_⟩
          simpa [lexLt, hij] using hR
        | false =>
          wp_walk using lt_ints i j t1 t2
          refine ⟨_, rfl, ?_⟩
          simpa [lexLt, hij] using hR
    case fin =>
      rintro ⟨b1, b2⟩ s' ⟨hc, rfl, us, ws, xs', ys', hz, h1, h2, h3, hR⟩
      simp only at hc
      subst hc
      have e : lexLt xs' ys' = false := by
        match xs', ys', us, ws, h1, h2, h3, hz with
        | [], [], _, _, _, _, _, _ => rfl
        | i :: xs', j :: ys', u :: us, w' :: ws, h1, h2, h3, hz => cases hz
      rw [e] at hR
      have e1 : its.length = its2.length := by
        have a1 := hx.length
        have a2 := hy.length
        rw [List.length_map] at a1 a2
        omega
      wp_walk
      exact ⟨_, rfl, by simpa [Builtin.Tuple.tupleCompareSizes, e1] using hR⟩
    case h => exact ⟨rfl, rfl, its, its2, xs, ys, by simp, hx, hy, hlen, h⟩
end L2
namespace L2
open PySem PySem.Spec PyProof.Rows
/-! ### len(d), the keys tuples -/
theorem meets_lenT {prog : Program} {w : World} {d : Addr} {n : Nat} (lo : (d == sysModules) = false) :
    MeetsIn prog w (Builtin.«dict.__len__» ⟨[.ref d], []⟩) (fun _ R s => (∃ o es ep, s.heap.get? d = some o ∧ o.data = .dict es ep ∧ es.size = n) ∧ R (.ok (.ret (.int n s.toks))) { s with toks := s.toks + 1 }) :=
  .of_wp fun A R s ⟨⟨o, es, ep, ho, hdt, hz⟩, h⟩ => by
    unfold Builtin.«dict.__len__»
    show wpAny _ _ (dictSize d >>= _) _ _ s
    unfold dictSize
    refine wpAny_bind (wpAny_bind (wpAny_dictEntries ho hdt (wpAny_pure ?_)))
    refine wpAny_bind (m := Builtin.Dict.pendingCount d) (wpAny_pendingCount_other lo (wpAny_ret_mkInt ?_))
    rw [Nat.add_zero, hz]
    exact h
theorem call_lenT {X : Cx} : CallR X (.builtin "len") (fun xs H Q => ∃ (a : Addr) (kvs : List (List Key × V)), xs = [.ref a] ∧ H a = some (.dT kvs) ∧ Q (.int kvs.length) H) := by
  intro pins s σ H xs us Q I r h
  obtain ⟨a, kvs, ex, ha, q⟩ := h
  subst ex
  obtain ⟨u, eu, rx⟩ := vals1 r
  subst eu
  cases rx
  obtain ⟨z, hs, ps, pr, o, es, ep, ho, hx, hdt, he, _⟩ := I.hok a _ ha
  have l1 : es.size = ps.length := size_of_entries he
  have l2 : kvs.length = ps.length := Paired.length pr
  have ty : s.TypeIs (.ref a) "dict" := ⟨o, ho, hx.1⟩
  rw [sizeLine_eq] at z
  refine Calls.call_function_entry kind_len plain_len entry_len (args_len1 _) ?_
  unfold Builtin.«len»
  refine wpAny_bind (m := oneArg "len" _) (wpAny_pure ?_)
  refine wpAny_bind (m := callSpecial? (.ref a) (Str.ofString "__len__")) (wpAny_callSpecial?_slot ty F.slot_dict_len (call_meetsIn F.slot_dict_len ty F.entry_dict_len (F.args_dict_len_1 _) (meets_lenT (n := kvs.length) hs) ⟨⟨o, es, ep, ho, hdt, by omega⟩, ?_⟩))
  show wpAny _ _ _ _ _ { s with toks := s.toks + 1 }
  refine wpAny_bind (wpAny_holding (wpAny_pure (wpAny_bind (wpAny_letGo ?_))))
  have h0 : ¬ ((kvs.length : Nat) : Int) < 0 := by omega
  have h1 : ¬ ((kvs.length : Nat) : Int) ≥ 2 ^ 63 := by omega
  show wpAny _ _ (if ((kvs.length : Nat) : Int) < 0 then _ else if ((kvs.length : Nat) : Int) ≥ 2 ^ 63 then _ else _) _ _ _
  rw [if_neg h0, if_neg h1]
  exact wpAny_bind (wpAny_mkInt (wpAny_pure ⟨_, rfl, .int kvs.length, H, I.tok _, ⟨_, rfl⟩, q⟩))
end L2
namespace L2
open PySem PySem.Spec PyProof.Rows
/-- what stood in h stands in h' -/
def Old (h h' : Heap) : Prop := ∀ b o, h.get? b = some o → h'.get? b = some o
theorem min_name : (toString "min" ++ toString ".loop" : String) = "min.loop" := by decide
section
variable {prog : Program} {w : World} {A : Around}
/-- the comparison of two items of the list, in any heap in which all that was there is there -/
def LtIn (prog : Program) (w : World) (A : Around) (h0 : Heap) (its : Array Value) (lt : Nat → Nat → Bool) : Prop :=
  ∀ (i j : Nat) (u v : Value) (s : Shared) (Q : Value → Shared → Prop) (E : Value → Shared → Prop), Old h0 s.heap → its[i]? = some u → its[j]? = some v → Q (.bool (lt i j)) s → wpAny (model prog w) A (richCompare .Lt u v) Q E s
theorem minLoop {h0 : Heap} {its : Array Value} {lt : Nat → Nat → Bool} {l I S : Addr} (W : Walks prog w A.in1 I [I, l] [I] its.size (fun i v => its[i]? = some v) (fun i h => h.IsListIter I l i ∧ h.IsList l its)) (cmp : LtIn prog w A.in1 h0 its lt) (nS : S ∉ [I, l]) (oI : h0.get? I = none) (oS : h0.get? S = none) {R : Result → Shared → Prop} :
    ∀ (left j : Nat) (s : Shared) (best : Value) (c : Nat), j + 1 + left = its.size → Old h0 s.heap → (s.heap.IsListIter I l (j + 1) ∧ s.heap.IsList l its) → its[argBest lt j]? = some best →
      s.heap.get? S = some { cls := .type "list", dict := none, data := .seq #[best, best] c, slots := #[] } → (∀ (v : Value) (h' : Heap) (tk : Nat), its[argBest lt (its.size - 1)]? = some v → Old h0 h' → R (.ok (.ret v)) { s with heap := h', toks := tk }) →
      codeAny (model prog w) A (.builtin "min.loop" ⟨[.ref I, .none, .ref S], []⟩) R s := by
  have nI : S ∉ [I] := fun z => nS (W.sub _ z)
  have old : ∀ {h h' : Heap}, Old h0 h → (∀ b o, b ∉ [I] → h.get? b = some o → h'.get? b = some o) → Old h0 h' := fun {h h'} a k b o e => k b o (fun z => by
    rw [List.mem_singleton] at z
    rw [z, oI] at e
    cases e) (a b o e)
  have oldS : ∀ {h : Heap} (f : Obj → Obj), Old h0 h → Old h0 (h.update S f) := fun {h} f a b o e => (Heap.get?_update_other _ _ (fun z : S = b => by rw [← z, oS] at e; cases e)).trans (a b o e)
  intro left
  induction left with
  | zero =>
    intro j s best c hn hO st hb hS hR
    have hj : j + 1 = its.size := by omega
    have hj1 : its.size - 1 = j := by omega
    refine codeAny_builtin F.entry_min_loop ?_
    rw [Around.under_plainId F.plain_min_loop _]
    show wpAny _ A.in1 (seqItems? (.ref S) >>= _) _ _ _
    refine wpAny_bind (wpAny_seqItems hS rfl ?_)
    show wpAny _ A.in1 (tryCatch (pyNext (.ref I)) _ >>= _) _ _ _
    refine wpAny_bind (wpAny_tryCatch (W.done s _ _ (by rw [← hj]; exact st) fun h1 tk k1 => ?_))
    have hS1 := k1 S _ nI hS
    show wpAny _ A.in1 (updateSeq S (fun _ => #[]) >>= _) _ _ ({ s with heap := h1, toks := tk } : Shared)
    refine wpAny_bind (wpAny_updateSeq hS1 rfl (wpAny_bind (wpAny_letGo (wpAny_pure ?_))))
    exact hR best _ tk (by rw [hj1]; exact hb) (oldS _ (old hO k1))
  | succ left ih =>
    intro j s best c hn hO st hb hS hR
    refine codeAny_builtin F.entry_min_loop ?_
    rw [Around.under_plainId F.plain_min_loop _]
    show wpAny _ A.in1 (seqItems? (.ref S) >>= _) _ _ _
    refine wpAny_bind (wpAny_seqItems hS rfl ?_)
    show wpAny _ A.in1 (tryCatch (pyNext (.ref I)) _ >>= _) _ _ _
    refine wpAny_bind (wpAny_tryCatch (W.item (j + 1) s _ _ (by omega) st fun v h1 tk hv st1 k1 => ?_))
    have hS1 := k1 S _ nI hS
    have hO1 := old hO k1
    show wpAny _ A.in1 (tryCatch (holding [v, v] (richCompare .Lt v best >>= _)) _ >>= _) _ _ ({ s with heap := h1, toks := tk } : Shared)
    refine wpAny_bind (wpAny_tryCatch (wpAny_holding (wpAny_bind (cmp (j + 1) (argBest lt j) v best _ _ _ hO1 hv hb (wpAny_bind (wpAny_holding (wpAny_truthy_bool (wpAny_bind (wpAny_letGo (wpAny_pure ?_))))))))))
    cases hl : lt (j + 1) (argBest lt j) with
    | true =>
      simp only [if_true]
      refine wpAny_bind (wpAny_updateSeq hS1 rfl (wpAny_bind (wpAny_letGo ?_)))
      rw [min_name]
      refine wpAny_pure ⟨plainId_quiet F.plain_min_loop _, ih (j + 1) _ v _ (by omega) (oldS _ hO1) (W.frame _ _ _ st1 fun b hb o e => (Heap.get?_update_other _ _ (fun z : S = b => nS (by rw [z]; exact hb))).trans e) ?_ (Heap.get?_update_self _ hS1 rfl) fun v' h2 tk2 e2 o2 => hR v' h2 tk2 e2 o2⟩
      simp only [argBest, hl, if_true]
      exact hv
    | false =>
      simp only [Bool.false_eq_true, if_false]
      refine wpAny_bind (wpAny_letGo ?_)
      rw [min_name]
      refine wpAny_pure ⟨plainId_quiet F.plain_min_loop _, ih (j + 1) _ best c (by omega) hO1 st1 ?_ hS1 fun v' h2 tk2 e2 o2 => hR v' h2 tk2 e2 o2⟩
      simp only [argBest, hl, Bool.false_eq_true, if_false]
      exact hb
/-- min(l): the first of the least -/
theorem min_call {l : Addr} {its : Array Value} {lt : Nat → Nat → Bool} {s : Shared} {Q : Value → Shared → Prop} {E : Value → Shared → Prop} (hh : A.handled = none) (hl : s.heap.IsList l its) (hne : 0 < its.size) (cmp : LtIn prog w A.in1 s.heap its lt)
    (h : ∀ (v : Value) (h' : Heap) (tk : Nat), its[argBest lt (its.size - 1)]? = some v → Old s.heap h' → Q v { s with heap := h', toks := tk }) : wpAny (model prog w) A (call (.builtin "min") [.ref l]) Q E s := by
  have hlt : l < s.heap.objs.size := let ⟨_, e, _⟩ := hl; Heap.lt_size e
  have none_at : ∀ n, s.heap.objs.size ≤ n → s.heap.get? n = none := fun n hn => by
    cases e : s.heap.get? n with
    | none => rfl
    | some o => exact absurd (Heap.lt_size e) (Nat.not_lt.mpr hn)
  refine call_function_tree F.kind_min F.plain_min F.entry_min (F.args_min1 _) ?_
  show wpAny _ A.in1 (Builtin.Builtins.bindParams "min" ["key", "default"] 0 ⟨[], []⟩ >>= _) _ _ _
  refine wpAny_bind (wpAny_of_eq (show Builtin.Builtins.bindParams "min" ["key", "default"] 0 ⟨[], []⟩ = pure [none, none] from rfl) (wpAny_bind (wpAny_pure (wpAny_bind (wpAny_pyIter_list hl ?_)))))
  refine wpAny_bind (wpAny_newObj_type ?_)
  rw [min_name]
  have W := Walks.list (prog := prog) (w := w) (A := A.in1) hh s.heap.objs.size l (Nat.ne_of_lt hlt) its
  generalize ho1 : ({ cls := .type "list_iterator", data := .fields #[.ref l, .int 0 0] } : Obj) = o1
  have z1 : (s.heap.push o1).objs.size = s.heap.objs.size + 1 := Heap.size_push ..
  have nS : (s.heap.push o1).objs.size ∉ [s.heap.objs.size, l] := fun z => by
    rw [z1] at z
    simp only [List.mem_cons, List.not_mem_nil, or_false] at z
    rcases z with z | z
    · exact Nat.succ_ne_self _ z
    · rw [← z] at hlt
      exact Nat.not_lt.mpr (Nat.le_succ _) hlt
  refine wpAny_pure ⟨plainId_quiet F.plain_min_loop _, codeAny_builtin F.entry_min_loop ?_⟩
  rw [Around.under_plainId F.plain_min_loop _]
  have hS : ((s.heap.push o1).push { cls := .type "list", data := .seq #[] }).get? (s.heap.push o1).objs.size = some { cls := .type "list", dict := none, data := .seq #[] 0, slots := #[] } := Heap.get?_push_size _ rfl
  have st0 : (s.heap.push o1).IsListIter s.heap.objs.size l 0 ∧ (s.heap.push o1).IsList l its := by
    subst ho1
    exact ⟨⟨_, Heap.get?_push_size _ rfl, rfl, rfl⟩, hl.push _⟩
  have st2 := W.frame _ _ ((s.heap.push o1).push { cls := .type "list", data := .seq #[] }) st0 fun b _ o e => Heap.get?_push_of_some _ e
  have k2 : Old s.heap ((s.heap.push o1).push { cls := .type "list", data := .seq #[] }) := fun b o e => Heap.get?_push_of_some _ (Heap.get?_push_of_some _ e)
  show wpAny _ A.in1 (seqItems? (.ref (s.heap.push o1).objs.size) >>= _) _ _ ({ s with heap := (s.heap.push o1).push { cls := .type "list", data := .seq #[] } } : Shared)
  refine wpAny_bind (wpAny_seqItems hS rfl ?_)
  show wpAny _ A.in1 (tryCatch (pyNext (.ref s.heap.objs.size)) _ >>= _) _ _ _
  refine wpAny_bind (wpAny_tryCatch (W.item 0 _ _ _ hne st2 fun v h1 tk hv st1 k1 => ?_))
  have nI : (s.heap.push o1).objs.size ∉ [s.heap.objs.size] := fun z => nS (W.sub _ z)
  have hS1 := k1 _ _ nI hS
  have o1' : Old s.heap h1 := fun b o e => k1 b o (fun z => by
    rw [List.mem_singleton] at z
    rw [z, none_at _ (Nat.le_refl _)] at e
    cases e) (k2 b o e)
  have nz : s.heap.get? (s.heap.push o1).objs.size = none := none_at _ (by rw [z1]; exact Nat.le_succ _)
  show wpAny _ A.in1 (updateSeq (s.heap.push o1).objs.size (fun _ => #[v, v]) >>= _) _ _ ({ s with heap := h1, toks := tk } : Shared)
  refine wpAny_bind (wpAny_updateSeq hS1 rfl ?_)
  rw [min_name]
  refine wpAny_pure ⟨plainId_quiet F.plain_min_loop _, minLoop W cmp nS (none_at _ (Nat.le_refl _)) nz (its.size - 1) 0 _ v _ (by omega) ?_ (W.frame _ _ _ st1 fun b hb o e => (Heap.get?_update_other _ _ (fun z : (s.heap.push o1).objs.size = b => nS (by rw [z]; exact hb))).trans e) hv (Heap.get?_update_self _ hS1 rfl) fun v' h2 tk2 e2 o2 => h v' h2 tk2 e2 o2⟩
  intro b o e
  exact (Heap.get?_update_other _ _ (fun z : (s.heap.push o1).objs.size = b => by rw [← z, nz] at e; cases e)).trans (o1' b o e)
end
end L2
namespace Ft
open PySem PySem.Spec PyProof.Rows L2 Uw72
def sInts (s : Stand) : List Int := [s.own.1, s.own.2, s.other.1, s.other.2]
/-- told first: by its four numbers, where they differ first the lower -/
def sLt (s t : Stand) : Bool := L2.lexLt (sInts s) (sInts t)
theorem sLt_iff (s t : Stand) : sLt s t = true ↔ s.own.1 < t.own.1 ∨ (s.own.1 = t.own.1 ∧ (s.own.2 < t.own.2 ∨ (s.own.2 = t.own.2 ∧ (s.other.1 < t.other.1 ∨ (s.other.1 = t.other.1 ∧ s.other.2 < t.other.2))))) := by
  unfold sLt sInts
  simp only [L2.lexLt, beq_iff_eq]
  split
  · split
    · split
      · split
        · simp; omega
        · rw [decide_eq_true_eq]; omega
      · rw [decide_eq_true_eq]; omega
    · rw [decide_eq_true_eq]; omega
  · rw [decide_eq_true_eq]; omega
theorem sLt_trans {a b c : Stand} (h1 : sLt a b = true) (h2 : sLt b c = true) : sLt a c = true := by
  rw [sLt_iff] at h1 h2 ⊢
  omega
theorem best_le (x : Nat → Stand) : ∀ k, argBest (fun i j => sLt (x i) (x j)) k ≤ k ∧ ∀ j, j ≤ k → sLt (x j) (x (argBest (fun i j => sLt (x i) (x j)) k)) = false
  | 0 => ⟨Nat.le_refl _, fun j hj => by
    have : j = 0 := by omega
    subst this
    show sLt (x 0) (x 0) = false
    rw [Bool.eq_false_iff]
    intro h
    rw [sLt_iff] at h
    omega⟩
  | k + 1 => by
    obtain ⟨h1, h2⟩ := best_le x k
    show (if sLt (x (k + 1)) (x (argBest (fun i j => sLt (x i) (x j)) k)) = true then k + 1 else argBest (fun i j => sLt (x i) (x j)) k) ≤ k + 1 ∧ ∀ j, j ≤ k + 1 → sLt (x j) (x (if sLt (x (k + 1)) (x (argBest (fun i j => sLt (x i) (x j)) k)) = true then k + 1 else argBest (fun i j => sLt (x i) (x j)) k)) = false
    by_cases h : sLt (x (k + 1)) (x (argBest (fun i j => sLt (x i) (x j)) k)) = true
    · rw [if_pos h]
      refine ⟨Nat.le_refl _, fun j hj => ?_⟩
      rw [Bool.eq_false_iff]
      intro z
      by_cases e : j = k + 1
      · subst e
        rw [sLt_iff] at z
        omega
      · have q := h2 j (by omega)
        rw [sLt_trans z h] at q
        cases q
    · rw [if_neg h]
      refine ⟨by omega, fun j hj => ?_⟩
      by_cases e : j = k + 1
      · subst e
        exact Bool.eq_false_iff.mpr h
      · exact h2 j (by omega)
section
variable {X : Cx}
/-- min of a list of stands -/
def rMinT : List V → Hp → VK → Prop := fun vs H Q => ∃ (a : Addr) (ls : List Stand), vs = [.ref a] ∧ LsAt H a ls ∧ ls ≠ [] ∧ ∀ (p : Addr) (m : Stand), m ∈ ls → (∀ y ∈ ls, sLt y m = false) → H p = some (.tup (svals m)) → Q (.ref p) H
theorem cr_minT (hc : X.calm = true) (hu : X.A.units + 65 < cLine) : CallR X (.builtin "min") rMinT := by
  intro pins s σ H vs us Q I r h
  obtain ⟨a, ls, rfl, ⟨ws, hw, hst⟩, hne, q⟩ := h
  obtain ⟨z, its, n, rv, _, hl⟩ := I.lstM hw
  rw [Vals.ref1 r]
  have hlen : its.length = ls.length := by rw [← rv.length, paired_length hst]
  have nth : ∀ (i : Nat) (u : Value), its.toArray[i]? = some u → ∃ (p : Addr) (x : Stand), u = .ref p ∧ ls[i]? = some x ∧ H p = some (.tup (svals x)) := fun i u e => by
    rw [List.getElem?_toArray] at e
    have hi : i < ws.length := by
      have := (List.getElem?_eq_some_iff.mp e).1
      rw [rv.length]
      exact this
    obtain ⟨x, hx, p, ep, hp⟩ := paired_get' hst (List.getElem?_eq_getElem hi)
    obtain ⟨u', hu', ru⟩ := rv.get (List.getElem?_eq_getElem hi)
    rw [e] at hu'
    cases hu'
    rw [ep] at ru
    cases ru
    exact ⟨p, x, rfl, hx, hp⟩
  have ls0 : 0 < ls.length := by
    cases ls with
    | nil => exact absurd rfl hne
    | cons x ls => exact Nat.succ_pos _
  have getD : ∀ {i : Nat} {x : Stand}, ls[i]? = some x → ls.getD i firstStand = x := fun {i x} e => by rw [List.getD_eq_getElem?_getD, e]; rfl
  have cmp : LtIn X.prog X.w X.A.in1 s.heap its.toArray (fun i j => sLt (ls.getD i firstStand) (ls.getD j firstStand)) := fun i j u v s' Q' E' old hi hj hq => by
    obtain ⟨p1, x1, rfl, e1, t1⟩ := nth i u hi
    obtain ⟨p2, x2, rfl, e2, t2⟩ := nth j v hj
    simp only [getD e1, getD e2] at hq
    obtain ⟨its1, r1, ⟨⟨c1, d1, dt1, sl1⟩, g1, k1, n1, f1⟩, _⟩ := I.tuple (SqT.of t1)
    obtain ⟨its2, r2, ⟨⟨c2, d2, dt2, sl2⟩, g2, k2, n2, f2⟩, _⟩ := I.tuple (SqT.of t2)
    simp only at k1 k2 f1 f2
    subst k1 k2 f1 f2
    exact richCompare_meets_room (op := .Lt) ⟨_, old _ _ g1, rfl⟩ ⟨_, old _ _ g2, rfl⟩ F.slot_tuple_lt F.entry_tuple_lt (F.args_tuple_lt_2 _ _) (lt_tupsM p1 p2 its1 its2 (sInts x1) (sInts x2) n1 n2 d1 d2 sl1 sl2 r1 r2 rfl)
      ⟨old _ _ g1, old _ _ g2, show Value.bool (sLt x1 x2) ≠ Value.notImplemented ∧ Q' (.bool (sLt x1 x2)) s' from ⟨(fun z => nomatch z), hq⟩⟩ (show X.A.in1.units < cLine from by have : X.A.in1.units ≤ X.A.units + 1 := Nat.le_refl _; omega)
  have isL : s.heap.IsList a its.toArray := ⟨_, hl, rfl, n, rfl⟩
  refine min_call (lt := fun i j => sLt (ls.getD i firstStand) (ls.getD j firstStand)) (I.ok.hd hc) isL (by rw [List.size_toArray]; omega) cmp fun v h' tk hv old => ?_
  obtain ⟨p, x, rfl, ex, tx⟩ := nth _ _ hv
  obtain ⟨b1, b2⟩ := best_le (fun i => ls.getD i firstStand) (its.toArray.size - 1)
  refine ⟨.ref p, H, I.kept (t' := tk) old, rfl, q p x (List.mem_of_getElem? ex) (fun y hy => ?_) tx⟩
  obtain ⟨j, hj, ej⟩ := List.getElem_of_mem hy
  have b3 := b2 j (by rw [List.size_toArray]; omega)
  simp only [getD ex] at b3
  rw [getD (i := j) (x := y) (by rw [List.getElem?_eq_getElem hj, ej])] at b3
  exact b3
end
end Ft
namespace Ft
open Uw72
/-- worth and length of a stand by the specification's table -/
abbrev wt (r : Rules) (s : Stand) : Nat × Nat := worthIn r (table r) s
theorem wt_lev {r : Rules} (hr : ROk r) {s : Stand} (hs : SOk r s) : wt r s = (0, 0) ∨ (wt r s).1 = 2 ∨ (wt r s).1 = 1 := table_lev hr (mem_allStands.mpr hs)
/-- there is always a stand that's won -/
theorem some_won {r : Rules} (hr : ROk r) : ∃ s ∈ allStands r, (wt r s).1 = 1 := by
  have hlo := hr.lo
  have hs0 : SOk r ⟨(r.full - 1, 0), (1, 0)⟩ := ⟨⟨by show r.full - 1 < r.full; omega, Nat.zero_le _⟩, ⟨by show 1 < r.full; omega, Nat.zero_le _⟩, Nat.one_pos⟩
  have ht0 : SOk r ⟨(0, 0), (r.full - 1, 0)⟩ := ⟨⟨by show 0 < r.full; omega, Nat.zero_le _⟩, ⟨by show r.full - 1 < r.full; omega, Nat.zero_le _⟩, by show 0 < r.full - 1; omega⟩
  have hg : gets r (r.full - 1) 1 = 0 := by
    unfold gets
    rw [if_neg (by omega)]
    split
    · rfl
    · omega
  have hm : (⟨(0, 0), (r.full - 1, 0)⟩ : Stand) ∈ turnsP r ⟨(r.full - 1, 0), (1, 0)⟩ := by
    unfold turnsP tapsP
    refine List.mem_append_left _ ?_
    rw [mem_foldl_dd]
    right
    unfold taps
    rw [List.mem_flatMap]
    refine ⟨r.full - 1, by simp, ?_⟩
    rw [if_neg (by omega)]
    refine List.mem_append_left _ ?_
    show _ ∈ (if (1 : Nat) = 0 then [] else [_])
    rw [if_neg (by decide), List.mem_singleton]
    show _ = Stand.mk (hands (gets r (r.full - 1) 1) 0) (r.full - 1, 0)
    rw [hg]
    rfl
  have a0 : At (turnsP r) 0 (⟨(0, 0), (r.full - 1, 0)⟩ : Stand) := at_zero.mpr ((turnsP_nil hr ht0).mpr rfl)
  have v1 : (val (turnsP r) 1 (⟨(r.full - 1, 0), (1, 0)⟩ : Stand)).1 = 0 := Decidable.byContradiction fun q => by
    obtain ⟨j, hj, hA⟩ := told_at q
    have : j = 0 := by omega
    subst this
    rw [at_zero.mp hA] at hm
    cases hm
  have a1 : At (turnsP r) 1 (⟨(r.full - 1, 0), (1, 0)⟩ : Stand) := (at_won (k := 0) rfl).mpr ⟨v1, _, hm, a0⟩
  have v2 := at_odd a1 rfl
  obtain ⟨k, _, hk⟩ := rest_by (succ := turnsP r) (S := allStands r)
  refine ⟨_, mem_allStands.mpr hs0, ?_⟩
  have e1 := table_val hr hk (mem_allStands.mpr hs0)
  have e2 := rest_all stands_closed hk (max k 2) (Nat.le_max_left _ _) _ (mem_allStands.mpr hs0)
  have e3 := val_mono (succ := turnsP r) (Nat.le_max_right k 2) (by rw [v2]; decide)
  show (worthIn r (table r) _).1 = 1
  rw [e1, ← e2, e3, v2]
/-! ### good turns -/
/-- worth and length of those to which good turns lead -/
def sought (w : Nat × Nat) : Int × Int := if w.1 = 1 then (2, (w.2 : Int) - 1) else if w.1 = 2 then (1, (w.2 : Int) - 1) else (w.1, w.2)
theorem sought_test {w x : Nat × Nat} (hw : w = (0, 0) ∨ w.1 = 2 ∨ w.1 = 1) (hx : x = (0, 0) ∨ x.1 = 2 ∨ x.1 = 1) :
    (((x.1 : Int) == (sought w).1) && ((x.2 : Int) == (sought w).2)) = (if w.1 = 1 then x.1 == 2 && x.2 + 1 == w.2 else if w.1 = 2 then x.1 == 1 && x.2 + 1 == w.2 else x.1 == 0) := by
  unfold sought
  by_cases h1 : w.1 = 1
  · rw [if_pos h1, if_pos h1, Bool.eq_iff_iff]
    simp only [Bool.and_eq_true, beq_iff_eq]
    omega
  · rw [if_neg h1, if_neg h1]
    by_cases h2 : w.1 = 2
    · rw [if_pos h2, if_pos h2, Bool.eq_iff_iff]
      simp only [Bool.and_eq_true, beq_iff_eq]
      omega
    · rw [if_neg h2, if_neg h2]
      have hw : w = (0, 0) := hw.resolve_right fun z => z.elim h2 h1
      subst hw
      rw [Bool.eq_iff_iff]
      simp only [Bool.and_eq_true, beq_iff_eq]
      rcases hx with hx | hx | hx
      · subst hx; simp
      · rw [hx]; simp
      · rw [hx]; simp
/-- whether the k-th turn is good, as the program asks it -/
def goodAt (r : Rules) (s : Stand) (k : Nat) : Bool := (((wt r ((turnsP r s).getD k s)).1 : Int) == (sought (wt r s)).1) && (((wt r ((turnsP r s).getD k s)).2 : Int) == (sought (wt r s)).2)
def goodP (r : Rules) (s : Stand) (n : Nat) : List Nat := (List.range n).filter (goodAt r s)
theorem good_eq {r : Rules} (hr : ROk r) {s : Stand} (hs : SOk r s) : good r (table r) s = goodP r s (turnsP r s).length := by
  unfold good goodP
  rw [turns_eq hr hs]
  simp only [List.length_map]
  refine List.filter_congr fun k hk => ?_
  rw [List.mem_range] at hk
  have e : ((turnsP r s).map (worthIn r (table r))).getD k (0, 0) = wt r ((turnsP r s).getD k s) := by
    rw [List.getD_eq_getElem?_getD, List.getD_eq_getElem?_getD, List.getElem?_map, List.getElem?_eq_getElem hk]
    rfl
  have hx : SOk r ((turnsP r s).getD k s) := by
    rw [List.getD_eq_getElem?_getD, List.getElem?_eq_getElem hk]
    exact turnsP_ok hs (List.getElem_mem hk)
  show _ = goodAt r s k
  unfold goodAt
  rw [sought_test (wt_lev hr hs) (wt_lev hr hx)]
  rw [e]
theorem goodP_lt {r : Rules} {s : Stand} {n k : Nat} (h : k ∈ goodP r s n) : k < n := by
  unfold goodP at h
  rw [List.mem_filter, List.mem_range] at h
  exact h.1
theorem goodP_succ (r : Rules) (s : Stand) (n : Nat) : goodP r s (n + 1) = goodP r s n ++ (if goodAt r s n = true then [n] else []) := by
  unfold goodP
  rw [List.range_succ, List.filter_append]
  congr 1
  by_cases h : goodAt r s n = true
  · rw [if_pos h, List.filter_cons, if_pos h]; rfl
  · rw [if_neg h, List.filter_cons, if_neg h]; rfl
theorem goodP_len (r : Rules) (s : Stand) (n : Nat) : (goodP r s n).length ≤ n := by
  unfold goodP
  refine Nat.le_trans (List.length_filter_le _ _) ?_
  rw [List.length_range]
  exact Nat.le_refl _
/-- playing one turn more, from the front -/
theorem play_stop {r : Rules} {s : Stand} (h : good r (table r) s = []) : ∀ n, play r (table r) n s = (0, s)
  | 0 => rfl
  | n + 1 => by unfold play; rw [h]
theorem play_go {r : Rules} {s : Stand} {i : Nat} {l : List Nat} (h : good r (table r) s = i :: l) (n : Nat) : play r (table r) (n + 1) s = ((play r (table r) n ((turns r s).getD i s)).1 + 1, (play r (table r) n ((turns r s).getD i s)).2) := by
  conv => lhs; unfold play
  rw [h]
/-! ### all stands, by their numbers -/
theorem hands_sorted (r : Rules) : (allHands r).Pairwise fun x y => x.1 < y.1 ∨ (x.1 = y.1 ∧ x.2 < y.2) := by
  unfold allHands
  rw [List.pairwise_flatMap]
  refine ⟨fun a _ => ?_, ?_⟩
  · rw [List.pairwise_map]
    exact List.Pairwise.imp (fun h => Or.inr ⟨rfl, h⟩) List.pairwise_lt_range
  · refine List.Pairwise.imp (fun {a b} h x hx y hy => ?_) List.pairwise_lt_range
    obtain ⟨i, _, rfl⟩ := List.mem_map.mp hx
    obtain ⟨j, _, rfl⟩ := List.mem_map.mp hy
    exact Or.inl h
theorem stands_sorted (r : Rules) : (allStands r).Pairwise fun x y => sLt x y = true := by
  unfold allStands
  rw [List.pairwise_flatMap]
  refine ⟨fun a _ => ?_, ?_⟩
  · rw [List.pairwise_map]
    refine List.Pairwise.imp (fun {x y} h => ?_) ((hands_sorted r).filter _)
    rw [sLt_iff]
    show a.1 < a.1 ∨ (a.1 = a.1 ∧ (a.2 < a.2 ∨ (a.2 = a.2 ∧ (x.1 < y.1 ∨ (x.1 = y.1 ∧ x.2 < y.2)))))
    omega
  · refine List.Pairwise.imp (fun {a b} h x hx y hy => ?_) (hands_sorted r)
    obtain ⟨i, _, rfl⟩ := List.mem_map.mp hx
    obtain ⟨j, _, rfl⟩ := List.mem_map.mp hy
    rw [sLt_iff]
    show a.1 < b.1 ∨ (a.1 = b.1 ∧ (a.2 < b.2 ∨ _))
    omega
/-! ### the hardest -/
theorem most_fold (f : Stand → Nat) : ∀ (l pre : List Stand) (m : Stand), (∃ a b, pre = a ++ m :: b ∧ (∀ y ∈ a, f y < f m) ∧ ∀ y ∈ pre, f y ≤ f m) →
    ∃ m', l.foldl (fun m x => match m with | none => some x | some y => if f y < f x then some x else some y) (some m) = some m' ∧ ∃ a b, pre ++ l = a ++ m' :: b ∧ (∀ y ∈ a, f y < f m') ∧ ∀ y ∈ pre ++ l, f y ≤ f m'
  | [], pre, m, h => ⟨m, rfl, by rw [List.append_nil]; exact h⟩
  | x :: l, pre, m, ⟨a, b, e, h1, h2⟩ => by
    rw [List.foldl_cons]
    have ea : pre ++ x :: l = (pre ++ [x]) ++ l := by simp
    rw [ea]
    show ∃ m', l.foldl _ (if f m < f x then some x else some m) = some m' ∧ _
    by_cases h : f m < f x
    · rw [if_pos h]
      refine most_fold f l (pre ++ [x]) x ⟨pre, [], rfl, fun y hy => Nat.lt_of_le_of_lt (h2 y hy) h, fun y hy => ?_⟩
      rcases List.mem_append.mp hy with z | z
      · exact Nat.le_of_lt (Nat.lt_of_le_of_lt (h2 y z) h)
      · rw [List.mem_singleton.mp z]; exact Nat.le_refl _
    · rw [if_neg h]
      refine most_fold f l (pre ++ [x]) m ⟨a, b ++ [x], by rw [e]; simp, h1, fun y hy => ?_⟩
      rcases List.mem_append.mp hy with z | z
      · exact h2 y z
      · rw [List.mem_singleton.mp z]; omega
theorem most_is (f : Stand → Nat) {l : List Stand} (hl : l ≠ []) : ∃ m, mostBy f l = some m ∧ m ∈ l ∧ (∀ y ∈ l, f y ≤ f m) ∧ ∃ a b, l = a ++ m :: b ∧ ∀ y ∈ a, f y < f m := by
  cases l with
  | nil => exact absurd rfl hl
  | cons x l =>
    obtain ⟨m, e, a, b, ep, h1, h2⟩ := most_fold f l [x] x ⟨[], [], rfl, fun y hy => (by cases hy), fun y hy => by rw [List.mem_singleton.mp hy]; exact Nat.le_refl _⟩
    refine ⟨m, e, ?_, h2, a, b, ep, h1⟩
    have : m ∈ [x] ++ l := by rw [ep]; simp
    exact this
/-- the first of those of the greatest length -/
theorem hardest_is {r : Rules} (hr : ROk r) {m : Stand} {L : Nat} (hm : m ∈ allStands r) (h1 : wt r m = (1, L)) (h2 : ∀ s ∈ allStands r, (wt r s).1 = 1 → (wt r s).2 ≤ L) (h3 : ∀ s ∈ allStands r, wt r s = (1, L) → sLt s m = false) :
    mostBy (fun s => (wt r s).2) ((allStands r).filter fun s => (wt r s).1 == 1) = some m := by
  have hin : m ∈ (allStands r).filter fun s => (wt r s).1 == 1 := List.mem_filter.mpr ⟨hm, by rw [h1]; rfl⟩
  obtain ⟨x, e, hx, g1, a, b, ep, g2⟩ := most_is (fun s => (wt r s).2) (l := (allStands r).filter fun s => (wt r s).1 == 1) (List.ne_nil_of_mem hin)
  rw [e]
  obtain ⟨hxS, hx1⟩ := List.mem_filter.mp hx
  have hx1 : (wt r x).1 = 1 := eq_of_beq hx1
  have q1 : (wt r x).2 ≤ L := h2 x hxS hx1
  have q2 : (wt r m).2 ≤ (wt r x).2 := g1 m hin
  have q3 : (wt r m).2 = L := by rw [h1]
  have hxL : wt r x = (1, L) := Prod.ext hx1 (by show (wt r x).2 = L; omega)
  have sor : ((allStands r).filter fun s => (wt r s).1 == 1).Pairwise fun x y => sLt x y = true := (stands_sorted r).filter _
  rw [ep] at sor hin
  rcases List.mem_append.mp hin with z | z
  · have q4 : (wt r m).2 < (wt r x).2 := g2 m z
    omega
  · rcases List.mem_cons.mp z with z | z
    · rw [z]
    · have q5 := (List.pairwise_cons.mp (List.pairwise_append.mp sor).2.1).1 m z
      rw [h3 x hxS hxL] at q5
      cases q5
/-! ### kinds -/
theorem filter_len {p : Stand → Bool} {T S : List Stand} (hT : T.Nodup) (hS : S.Nodup) (h : ∀ s, s ∈ T ↔ s ∈ S ∧ p s = true) : T.length = (S.filter p).length :=
  ((List.perm_ext_iff_of_nodup hT (hS.filter _)).mpr fun s => by rw [h s, List.mem_filter]).length_eq
theorem three_len (f : Stand → Nat) : ∀ l : List Stand, (∀ s ∈ l, f s = 0 ∨ f s = 1 ∨ f s = 2) → l.length = (l.filter fun s => f s == 1).length + (l.filter fun s => f s == 2).length + (l.filter fun s => f s == 0).length ∧
    (l.filter fun s => !(f s == 0)).length = (l.filter fun s => f s == 1).length + (l.filter fun s => f s == 2).length
  | [], _ => ⟨rfl, rfl⟩
  | s :: l, h => by
    obtain ⟨i1, i2⟩ := three_len f l fun t ht => h t (List.mem_cons_of_mem _ ht)
    simp only [List.filter_cons, List.length_cons]
    rcases h s (by simp) with e | e | e <;> rw [e] <;> simp <;> omega
theorem map_filter_len (f : Stand → Nat) (k : Nat) (l : List Stand) : ((l.map f).filter fun x => x == k).length = (l.filter fun s => f s == k).length := by
  rw [List.filter_map, List.length_map]
  rfl
end Ft
namespace Ft
open PySem PySem.Spec PyProof.Rows L2 Uw72
/-! ### the text by places -/
def top (i : Nat) : Stmt := PySem.Challenge.pw_fingertaps_s01_answers.main.body.getD i (.Pass ⟨0, 0, 0, 0⟩)
abbrev sTwo : Stmt := top 17
abbrev sTapped : Stmt := top 18
/-- names of the builtins are not the module's -/
structure Blt (mg : Str → Option Value) : Prop where
  max : mg "max" = none
  min : mg "min" = none
  rng : mg "range" = none
  len : mg "len" = none
  lst : mg "list" = none
section
variable {P : Program} {w : World} {K : PySem.W.Frag} {mg : Str → Option Value} {base : Heap}
/-! ### two_hands -/
def spTwo : Sp := fun vs H Q _ => ∃ a b : Nat, vs = [.int a, .int b] ∧ ∀ (H' : Hp) (p : Addr), Same H H' → H p = none → H' p = some (.tup [.int (hands a b).1, .int (hands a b).2]) → Q (.ref p) H'
theorem scTwo : FnScope ["one", "other"] ["one", "other"] (defScope sTwo) := ⟨rfl, rfl, rfl, by decide +kernel, rfl, by decide +kernel, by decide +kernel⟩
theorem ok_two {f : Addr} {fd : FuncData} (F : Fun K "two_hands" "two_hands" sTwo f fd) (B : Blt mg) : FnOk P w K mg base CX0 1 f fd ["one", "other"] spTwo := by
  refine F.ok scTwo (fun vs H Q E h => ?_) (fun cdv A outer s H vs Q E hr h => ?_)
  · obtain ⟨a, b, rfl, _⟩ := h
    rfl
  · obtain ⟨a, b, rfl, k⟩ := h
    refine ⟨_, pss_one (ps_ret (pe_tup (pa_cons (pe_callB (call_max2 rfl) rfl B.max PyProof.Rows.boot_max (pa_cons (pv 0) (pa_cons (pv 1) pa_nil))) (pa_cons (pe_callB (call_min2 rfl) rfl B.min PyProof.Rows.boot_min (pa_cons (pv 0) (pa_cons (pv 1) pa_nil))) pa_nil)))), ?_⟩
    refine ⟨_, rfl, _, rfl, a, b, rfl, _, rfl, _, rfl, a, b, rfl, (by show 2 ≤ sizeLine; decide), fun p hp => ?_⟩
    refine k _ p (Same.new hp) hp ?_
    rw [upd_same, hands_max]
    have e1 : (if (b : Int) > a then (b : Int) else a) = ((max a b : Nat) : Int) := by split <;> omega
    have e2 : (if (b : Int) < a then (b : Int) else a) = ((min a b : Nat) : Int) := by split <;> omega
    rw [e1, e2]
/-! ### tapped_hand -/
def spTapped : Sp := fun vs H Q _ => ∃ (h g : Nat) (r : Rules), vs = [.int h, .int g, .int r.full, .int r.over] ∧ Q (.int (gets r g h)) H
theorem scTapped : FnScope ["hand", "fingers", "full", "over", "together"] ["hand", "fingers", "full", "over"] (defScope sTapped) := ⟨rfl, rfl, rfl, by decide +kernel, rfl, by decide +kernel, by decide +kernel⟩
theorem ok_tapped {f : Addr} {fd : FuncData} (F : Fun K "tapped_hand" "tapped_hand" sTapped f fd) : FnOk P w K mg base CX0 1 f fd ["hand", "fingers", "full", "over"] spTapped := by
  refine F.ok scTapped (fun vs H Q E h => ?_) (fun cdv A outer s H vs Q E hr h => ?_)
  · obtain ⟨a, b, r, rfl, _⟩ := h
    rfl
  · obtain ⟨a, b, r, rfl, k⟩ := h
    refine ⟨_, pss_cons (ps_set (i := 4) scTapped.nd rfl (Or.inl rfl) (pe_op op_add (pv 0) (pv 1)))
      (pss_cons (ps_if (pt_cmpR op_lt (pv 4) (pv 2) (nomark _)) (pss_one (ps_ret (pv 4))) pss_nil)
      (pss_cons (ps_if (pt_cmpR op_eq (pv 3) pe_int (nomark _)) (pss_one (ps_ret pe_int)) pss_nil)
      (pss_one (ps_ret (pe_op op_sub (pv 4) (pv 2)))))), ?_⟩
    refine ⟨_, rfl, _, rfl, _, _, rfl, rfl, ?_⟩
    refine ⟨_, rfl, _, rfl, _, _, rfl, rfl, _, rfl, ?_⟩
    unfold gets at k
    refine ite2 (fun h1 => ?_) (fun h1 => ?_)
    · have h1 := of_decide_eq_true h1
      rw [if_pos (by omega)] at k
      refine ⟨_, rfl, ?_⟩
      have e : ((a : Int) + b) = ((b + a : Nat) : Int) := by omega
      show Q (.int ((a : Int) + b)) H
      rw [e]
      exact k
    · have h1 := of_decide_eq_false (Bool.eq_false_iff.mpr h1)
      rw [if_neg (by omega)] at k
      refine ⟨_, rfl, rfl, _, rfl, ?_⟩
      refine ite2 (fun h2 => ?_) (fun h2 => ?_)
      · have h2 := of_decide_eq_true h2
        rw [if_pos (by injection h2 with h2; omega)] at k
        exact k
      · have h2 := of_decide_eq_false (Bool.eq_false_iff.mpr h2)
        rw [if_neg (fun q => h2 (by rw [q]; rfl))] at k
        refine ⟨_, rfl, _, rfl, _, _, rfl, rfl, ?_⟩
        have e : ((a : Int) + b - r.full) = ((b + a - r.full : Nat) : Int) := by omega
        show Q (.int ((a : Int) + b - r.full)) H
        rw [e]
        exact k
end
end Ft
namespace Ft
open PySem PySem.Spec PyProof.Rows L2 Uw72
/-- a def of the module: what it is, how it binds, its name -/
structure Def (K : PySem.W.Frag) (mg : Str → Option Value) (x : Str) (st : Stmt) (ps : List Str) (f : Addr) (fd : FuncData) : Prop where
  F : Fun K x x st f fd
  b : Binds K fd ps []
  m : mg x = some (.ref f)
abbrev sTaps : Stmt := top 19
theorem hu65 {A : Around} {k : Nat} (hr : Room k A) : A.units + 65 < cLine := by have := hr.un; omega
section
variable {P : Program} {w : World} {K : PySem.W.Frag} {mg : Str → Option Value} {base : Heap}
theorem LsAt.snoc {H : Hp} {l q : Addr} {ss : List Stand} {x : Stand} {vs : List V} (hl : H l = some (.lst vs)) (hv : StsAt H vs ss) (hq : H q = some (.tup (svals x))) : LsAt (upd H l (.lst (vs ++ [.ref q]))) l (ss ++ [x]) := by
  have t : Tups H (upd H l (.lst (vs ++ [.ref q]))) := (Tups.refl H).upd fun xs e => by rw [hl] at e; cases e
  exact ⟨_, upd_same, paired_snoc ⟨q, rfl, t q _ hq⟩ (StsAt.mono hv t)⟩
def spTaps : Sp := fun vs H Q _ => ∃ (p : Addr) (s : Stand) (r : Rules), vs = [.ref p, .int r.full, .int r.over] ∧ H p = some (.tup (svals s)) ∧ ∀ (H' : Hp) (l : Addr), Same H H' → H l = none → LsAt H' l (tapsP r s) → Q (.ref l) H'
theorem scTaps : FnScope ["stand", "full", "over", "own", "others", "found", "fingers", "k", "hand", "behind"] ["stand", "full", "over"] (defScope sTaps) := ⟨rfl, rfl, rfl, by decide +kernel, rfl, by decide +kernel, by decide +kernel⟩
theorem ok_taps {f f1 f2 : Addr} {fd fd1 fd2 : FuncData} (F : Fun K "stands_by_taps" "stands_by_taps" sTaps f fd) (B : Blt mg) (D1 : Def K mg "two_hands" sTwo ["one", "other"] f1 fd1) (D2 : Def K mg "tapped_hand" sTapped ["hand", "fingers", "full", "over"] f2 fd2) :
    FnOk P w K mg base CX0 2 f fd ["stand", "full", "over"] spTaps := by
  have G1 : FnOk P w K mg base CX0 1 f1 fd1 ["one", "other"] spTwo := ok_two D1.F B
  have G2 : FnOk P w K mg base CX0 1 f2 fd2 ["hand", "fingers", "full", "over"] spTapped := ok_tapped D2.F
  refine F.ok scTaps (fun vs H Q E h => ?_) (fun cdv A outer s H vs Q E hr h => ?_)
  · obtain ⟨p, s, r, rfl, _⟩ := h
    rfl
  · obtain ⟨p, st, r, rfl, hp, k⟩ := h
    refine ⟨_, pss_cons (ps_set (i := 3) scTaps.nd rfl (Or.inl rfl) (pe_slice sl_tup (pv 0) po_none (po_some pe_int)))
      (pss_cons (ps_set (i := 4) scTaps.nd rfl (Or.inl rfl) (pe_slice sl_tup (pv 0) (po_some pe_int) po_none))
      (pss_cons (ps_set (i := 5) scTaps.nd rfl (Or.inl rfl) (pe_lst pa_nil))
      (pss_cons (ps_for PassesOwn.never rfl (pi_tup (pv 3)) (pg_name (i := 6) scTaps.nd rfl (Or.inl rfl))
        (pss_one (ps_for PassesOwn.never rfl (pi_range1 rfl B.rng (pa_cons pe_int pa_nil)) (pg_name (i := 7) scTaps.nd rfl (Or.inl rfl))
          (pss_cons (ps_if (pw_or (pt_cmpR op_eq (pv 6) pe_int (nomark _)) (pw_or1 (pt_cmpR op_eq (pe_ix ix_tup (pv 4) (pv 7) (fun _ _ => rfl)) pe_int (nomark _)))).pt (pss_one ps_continue) pss_nil)
          (pss_cons (ps_set (i := 8) scTaps.nd rfl (Or.inl rfl) (pe_call G2 hr rfl D2.m D2.F.kp D2.b .nil pass0 (pa_cons (pe_ix ix_tup (pv 4) (pv 7) (fun _ _ => rfl)) (pa_cons (pv 6) (pa_cons (pv 1) (pa_cons (pv 2) pa_nil))))))
          (pss_cons (ps_set (i := 9) scTaps.nd rfl (Or.inl rfl) (pe_op op_catT (pe_call G1 hr rfl D1.m D1.F.kp D1.b .nil pass0 (pa_cons (pv 8) (pa_cons (pe_ix ix_tup (pv 4) (pe_op op_sub pe_int (pv 7)) (fun _ _ => rfl)) pa_nil))) (pv 3)))
          (pss_one (ps_if (pt_cmpR (op_notInD (hu65 hr)) (pv 9) (pv 5) rfl)
            (pss_one (ps_expr (pe_bm PySem.F.plainAttrs_list PySem.F.slot_list_append PySem.F.type_list_append mt_append (pv 5) (pa_cons (pv 9) pa_nil)))) pss_nil))))))))
      (pss_one (ps_ret (pv 5)))))), ?_⟩
    -- own, others, found
    refine ⟨_, rfl, 2, rfl, p, svals st, rfl, SqT.of hp, (by simp [HT.sIx]), fun po hpo => ?_⟩
    have s1 := Same.new (o := .tup (cutV (svals st) none (some 2))) hpo
    refine ⟨_, rfl, 2, rfl, p, svals st, rfl, SqT.of (s1 _ _ hp), (by simp [HT.sIx]), fun pq hpq => ?_⟩
    have s2 := Same.new (o := .tup (cutV (svals st) (some 2) none)) hpq
    refine ⟨Nat.zero_le _, fun l hl => ?_⟩
    have s3 := Same.new (o := .lst []) hl
    have s13 := (s1.trans s2).trans s3
    have hl0 : H l = none := (s1.trans s2).free hl
    have po3 := s3 _ _ (s2 _ _ (upd_same (H := H) (a := po) (o := .tup (cutV (svals st) none (some 2)))))
    have pq3 := s3 _ _ (upd_same (a := pq) (o := .tup (cutV (svals st) (some 2) none)))
    -- for fingers in own
    refine ⟨_, rfl, po, rfl, ⟨_, SqT.of po3⟩, for_tup (K := K) (a := po) (xs := [.int st.own.1, .int st.own.2]) (fun i σ H' => ∃ v6 v7 v8 v9 : Option V, σ = [some (.ref p), some (.int r.full), some (.int r.over), some (.ref po), some (.ref pq), some (.ref l), v6, v7, v8, v9] ∧
      Same H H' ∧ H' po = some (.tup [.int st.own.1, .int st.own.2]) ∧ H' pq = some (.tup [.int st.other.1, .int st.other.2]) ∧ LsAt H' l (foundAt r st i 0))
      ⟨none, none, none, none, rfl, s13, po3, pq3, [], upd_same, .nil⟩ (fun i σ H' _ ⟨_, _, _, _, _, _, q, _, _⟩ => SqT.of q) ?_ ?_⟩
    · rintro i y σ H' hi ⟨v6, v7, v8, v9, rfl, sH, hpo, hpq, hl⟩
      obtain ⟨hi2, rfl⟩ : i < 2 ∧ y = .int (ownAt st i) := by
        match i, hi with
        | 0, hi => exact ⟨by decide, (Option.some.inj hi).symm⟩
        | 1, hi => exact ⟨by decide, (Option.some.inj hi).symm⟩
      -- for k in range(2)
      refine ⟨2, rfl, by decide, by decide, for_range (lo := 0) (n := 2) (fun j σ H' => ∃ v7 v8 v9 : Option V, σ = [some (.ref p), some (.int r.full), some (.int r.over), some (.ref po), some (.ref pq), some (.ref l), some (.int (ownAt st i)), v7, v8, v9] ∧
        Same H H' ∧ H' po = some (.tup [.int st.own.1, .int st.own.2]) ∧ H' pq = some (.tup [.int st.other.1, .int st.other.2]) ∧ LsAt H' l (foundAt r st i j))
        ⟨v7, v8, v9, rfl, sH, hpo, hpq, hl⟩ ?_ ?_⟩
      · rintro j σ H' hj ⟨v7, v8, v9, rfl, sH, hpo, hpq, hl⟩
        have hat : ([.int st.other.1, .int st.other.2] : List V)[j]? = some (.int (oth st j)) := by
          match j, hj with
          | 0, _ => rfl
          | 1, _ => rfl
        have hat2 : ([.int st.other.1, .int st.other.2] : List V)[1 - j]? = some (.int (oth st (1 - j))) := by
          match j, hj with
          | 0, _ => rfl
          | 1, _ => rfl
        have ej : (0 : Int) + (j : Int) = (j : Int) := by omega
        refine ⟨_, rfl, rfl, _, rfl, ?_⟩
        refine ite2 (fun h0 => ?_) (fun h0 => ?_)
        · -- continue: no fingers
          have h0 := of_decide_eq_true h0
          injection h0 with h0
          refine iteT ⟨_, _, _, rfl, sH, hpo, hpq, ?_⟩
          rw [foundAt_step, piece, if_pos (.inl (by omega))]
          exact hl
        · have h0 := of_decide_eq_false (Bool.eq_false_iff.mpr h0)
          have h0 : ownAt st i ≠ 0 := fun q => h0 (by rw [q]; rfl)
          refine ⟨_, rfl, _, rfl, pq, _, _, _, rfl, rfl, SqT.of hpq, at_of ej hat, rfl, _, rfl, ?_⟩
          refine ite2 (fun h1 => ?_) (fun h1 => ?_)
          · have h1 := of_decide_eq_true h1
            injection h1 with h1
            refine ⟨_, _, _, rfl, sH, hpo, hpq, ?_⟩
            rw [foundAt_step, piece, if_pos (.inr (by omega))]
            exact hl
          · have h1 := of_decide_eq_false (Bool.eq_false_iff.mpr h1)
            have h1 : oth st j ≠ 0 := fun q => h1 (by rw [q]; rfl)
            -- hand, behind
            refine ⟨_, rfl, _, rfl, pq, _, _, _, rfl, rfl, SqT.of hpq, at_of ej hat, _, rfl, _, rfl, _, rfl, oth st j, ownAt st i, r, rfl, ?_⟩
            refine ⟨_, rfl, _, rfl, _, rfl, _, _, rfl, rfl, pq, _, _, _, rfl, rfl, SqT.of hpq, at_of (j := 1 - j) (by show (1 : Int) - (0 + (j : Int)) = ((1 - j : Nat) : Int); omega) hat2, gets r (ownAt st i) (oth st j), oth st (1 - j), rfl, fun H5 q5 s5 f5 t5 => ?_⟩
            refine ⟨_, rfl, q5, po, _, _, rfl, rfl, SqT.of t5, SqT.of (s5 _ _ hpo), (by simp), (by show 4 ≤ sizeLine; decide), (fun z => by cases z), fun _ q6 f6 => ?_⟩
            have s6 : Same H' (upd H5 q6 (.tup (svals (tapTo r st (ownAt st i) j)))) := s5.trans (Same.new f6)
            have t6 : (upd H5 q6 (.tup (svals (tapTo r st (ownAt st i) j)))) q6 = some (.tup (svals (tapTo r st (ownAt st i) j))) := upd_same
            have ls6 := hl.mono s6
            have e : piece r st (ownAt st i) j = [tapTo r st (ownAt st i) j] := by
              unfold piece
              rw [if_neg (fun q => q.elim h0 h1)]
            show _
            refine ⟨_, rfl, _, rfl, _, _, LsAt.dp ls6, StAt.dp ⟨q6, rfl, t6⟩, sdat_lay _, sdat_shaped _, _, rfl, ?_⟩
            rw [sdat_any]
            refine ite2 (fun h2 => ?_) (fun h2 => ?_)
            · obtain ⟨vs, hv, hst⟩ := ls6
              have hlen : vs.length < sizeLine := by
                rw [paired_length hst]
                exact small1000 (Nat.le_trans (foundAt_len r st i j) (by omega))
              refine ⟨_, rfl, .inl ⟨rfl, _, SqL.of hv⟩, _, rfl, l, _, _, rfl, rfl, hv, hlen, ?_⟩
              refine ⟨_, _, _, rfl, Same.upd (sH.trans s6) hl0, ?_, ?_, ?_⟩
              · rw [upd_ne (ne_of (s6 _ _ hpo) hv (by intro z; cases z))]; exact s6 _ _ hpo
              · rw [upd_ne (ne_of (s6 _ _ hpq) hv (by intro z; cases z))]; exact s6 _ _ hpq
              · rw [foundAt_step, e]
                show LsAt _ l (dd (foundAt r st i j) (tapTo r st (ownAt st i) j))
                rw [dd_new (by simpa using h2)]
                exact LsAt.snoc hv hst t6
            · refine ⟨_, _, _, rfl, sH.trans s6, s6 _ _ hpo, s6 _ _ hpq, ?_⟩
              rw [foundAt_step, e]
              show LsAt _ l (dd (foundAt r st i j) (tapTo r st (ownAt st i) j))
              rw [dd_old (by simpa using h2)]
              exact ls6
      · rintro σ H' ⟨v7, v8, v9, rfl, sH, hpo, hpq, hl⟩
        exact ⟨_, _, _, _, rfl, sH, hpo, hpq, hl⟩
    · rintro σ H' ⟨v6, v7, v8, v9, rfl, sH, hpo, hpq, hl⟩
      refine ⟨_, rfl, k H' l sH hl0 ?_⟩
      rw [← foundAt_all]
      exact hl
end
end Ft
namespace L2
open PySem PySem.Spec PyProof.Rows
/-- x if t else y, both written -/
theorem pe_ifC {X : Cx} {a b c : Expr} {pos : Pos} {tA : TT} {x y : V} (hc : PT X c tA) (ha : PE X a (tC x)) (hb : PE X b (tC y)) : PE X (.IfExp c a b pos) (fun σ H Q => tA σ H fun k H1 => Q (if k = true then x else y) H1) := by
  intro pins s σ H Q I h
  refine wpAny_IfExp (thn (hc pins s σ H _ I h) fun d s1 ⟨H1, I1, q1⟩ => ?_)
  cases d with
  | true => exact ha pins s1 σ H1 Q I1 q1
  | false => exact hb pins s1 σ H1 Q I1 q1
end L2
namespace Ft
open PySem PySem.Spec PyProof.Rows L2 Uw72
abbrev sShares : Stmt := top 20
abbrev sByTurns : Stmt := top 21
section
variable {P : Program} {w : World} {K : PySem.W.Frag} {mg : Str → Option Value} {base : Heap}
def spShares : Sp := fun vs H Q _ => ∃ (p : Addr) (s : Stand) (r : Rules), vs = [.ref p, .int r.full, .int r.shares] ∧ ROk r ∧ SOk r s ∧ H p = some (.tup (svals s)) ∧ ∀ (H' : Hp) (l : Addr), Same H H' → H l = none → LsAt H' l (sharesP r s) → Q (.ref l) H'
theorem scShares : FnScope ["stand", "full", "shares", "fingers", "least", "found", "more", "fewer"] ["stand", "full", "shares"] (defScope sShares) := ⟨rfl, rfl, rfl, by decide +kernel, rfl, by decide +kernel, by decide +kernel⟩
theorem ok_shares {f : Addr} {fd : FuncData} (F : Fun K "stands_by_shares" "stands_by_shares" sShares f fd) (B : Blt mg) : FnOk P w K mg base CX0 1 f fd ["stand", "full", "shares"] spShares := by
  refine F.ok scShares (fun vs H Q E h => ?_) (fun cdv A outer s H vs Q E hr h => ?_)
  · obtain ⟨p, s, r, rfl, _⟩ := h
    rfl
  · obtain ⟨p, st, r, rfl, hr0, hs0, hp, k⟩ := h
    refine ⟨_, pss_cons (ps_if (pt_cmpR op_eq (pv 2) pe_int (nomark _)) (pss_one (ps_ret (pe_lst pa_nil))) pss_nil)
      (pss_cons (ps_if (pw_and (pt_cmpR op_eq (pv 2) pe_int (nomark _)) (pw_and1 (pt_cmpR op_eq (pe_ix ix_tup (pv 0) pe_int (fun _ _ => rfl)) pe_int (nomark _)))).pt (pss_one (ps_ret (pe_lst pa_nil))) pss_nil)
      (pss_cons (ps_set (i := 3) scShares.nd rfl (Or.inl rfl) (pe_op op_add (pe_ix ix_tup (pv 0) pe_int (fun _ _ => rfl)) (pe_ix ix_tup (pv 0) pe_int (fun _ _ => rfl))))
      (pss_cons (ps_set (i := 4) scShares.nd rfl (Or.inl rfl) (pe_ifC (pt_cmpR op_eq (pv 2) pe_int (nomark _)) pe_int pe_int))
      (pss_cons (ps_set (i := 5) scShares.nd rfl (Or.inl rfl) (pe_lst pa_nil))
      (pss_cons (ps_for PassesOwn.never rfl (pi_range2 rfl B.rng (pa_cons (pe_op op_fdiv (pe_op op_add (pv 3) pe_int) pe_int) (pa_cons (pv 1) pa_nil))) (pg_name (i := 6) scShares.nd rfl (Or.inl rfl))
        (pss_cons (ps_set (i := 7) scShares.nd rfl (Or.inl rfl) (pe_op op_sub (pv 3) (pv 6)))
        (pss_one (ps_if (pw_and (pt_cmpR op_ge (pv 7) (pv 4) (nomark _)) (pw_and1 (pt_cmpR op_ne (pv 6) (pe_ix ix_tup (pv 0) pe_int (fun _ _ => rfl)) (nomark _)))).pt
          (pss_one (ps_expr (pe_bm PySem.F.plainAttrs_list PySem.F.slot_list_append PySem.F.type_list_append mt_append (pv 5) (pa_cons (pe_op op_catT (pe_slice sl_tup (pv 0) (po_some pe_int) po_none) (pe_tup (pa_cons (pv 6) (pa_cons (pv 7) pa_nil)))) pa_nil)))) pss_nil))))
      (pss_one (ps_ret (pv 5)))))))), ?_⟩
    refine ⟨_, rfl, rfl, _, rfl, ?_⟩
    have none_ : sharesP r st = [] → ∀ D : Ends, D.rt = Q → tRet (tLst tNil) D (L2.start ["stand", "full", "shares", "fingers", "least", "found", "more", "fewer"] [V.ref p, V.int r.full, V.int r.shares]) H := fun e D hD => by
      refine ⟨Nat.zero_le _, fun l hl => ?_⟩
      rw [hD]
      refine k _ l (Same.new hl) hl ?_
      rw [e]
      exact ⟨[], upd_same, .nil⟩
    refine ite2 (fun h0 => ?_) (fun h0 => ?_)
    · have h0 := of_decide_eq_true h0
      injection h0 with h0
      refine none_ ?_ _ rfl
      unfold sharesP
      rw [if_pos (by omega)]
    have h0 := of_decide_eq_false (Bool.eq_false_iff.mpr h0)
    have h0 : r.shares ≠ 0 := fun q => h0 (by rw [q]; rfl)
    have at0 : atI (svals st) 0 = some (.int st.own.1) := rfl
    have at1 : atI (svals st) 1 = some (.int st.own.2) := rfl
    -- behind the second test
    have main : (¬ (r.shares = 1 ∧ st.own.2 = 0)) → tSeq (tAsg (tOp (rI0 fun i j => .int (i + j)) (tOp (rIxT K) (tVar 0) (tC (.int 0))) (tOp (rIxT K) (tVar 0) (tC (.int 1)))) (gName 3))
        (tSeq (tAsg (fun σ H Q => tTest (tOp rEq (tVar 2) (tC (.int 1))) σ H fun k H1 => Q (if k = true then .int 1 else .int 0) H1) (gName 4))
        (tSeq (tAsg (tLst tNil) (gName 5))
        (tSeq (tFor (iRng2 (tCons (tOp (rI CDiv fun i j => .int (i / j)) (tOp (rI0 fun i j => .int (i + j)) (tVar 3) (tC (.int 1))) (tC (.int 2))) (tCons (tVar 1) tNil))) (gName 6)
          (tSeq (tAsg (tOp (rI0 fun i j => .int (i - j)) (tVar 3) (tVar 6)) (gName 7))
            (tIfS (tAnd (tTest (tOp (rI0 fun i j => .bl (decide (j ≤ i))) (tVar 7) (tVar 4))) (tTest (tOp rNe (tVar 6) (tOp (rIxT K) (tVar 0) (tC (.int 0))))))
              (tDrop (tBM K "list" rAppend (tVar 5) (tCons (tOp (rCatT K) (tSl (rSlT K) (tVar 0) (tPart (tC (.int 2))) tNoPart) (tTup (tCons (tVar 6) (tCons (tVar 7) tNil)))) tNil))) tNext)))
        (tRet (tVar 5))))) { nx := fun _ H' => Q .non H', rt := Q } (L2.start ["stand", "full", "shares", "fingers", "least", "found", "more", "fewer"] [V.ref p, V.int r.full, V.int r.shares]) H := by
      intro hn
      refine ⟨_, rfl, p, _, _, _, rfl, rfl, SqT.of hp, at0, _, rfl, p, _, _, _, rfl, rfl, SqT.of hp, at1, _, _, rfl, rfl, ?_⟩
      refine ⟨_, rfl, rfl, _, rfl, ?_⟩
      have eL : (if decide (V.int (r.shares : Int) = V.int 1) = true then V.int 1 else V.int 0) = V.int ((if r.shares = 1 then 1 else 0 : Nat) : Int) := by
        by_cases q : r.shares = 1
        · rw [if_pos q, if_pos (decide_eq_true (by rw [q]; rfl))]; rfl
        · rw [if_neg q, if_neg (by rw [decide_eq_true_eq]; intro z; injection z with z; omega)]; rfl
      dsimp only
      rw [eL]
      refine ⟨Nat.zero_le _, fun l hl => ?_⟩
      have hlo := hr0.lo
      have hhi := hr0.hi
      have ha := hs0.own.1
      have hb := hs0.own.2
      have en : ((r.full : Int) - ((st.own.1 : Int) + st.own.2 + 1) / 2).toNat = r.full - (st.own.1 + st.own.2 + 1) / 2 := by omega
      refine ⟨_, rfl, _, _, rfl, rfl, _, _, rfl, rfl, ⟨by decide, by decide⟩, _, rfl, _, _, rfl, ⟨by omega, by omega, by omega, by omega⟩, ?_⟩
      refine for_range (lo := ((st.own.1 : Int) + st.own.2 + 1) / 2) (n := ((r.full : Int) - ((st.own.1 : Int) + st.own.2 + 1) / 2).toNat) (fun i σ H' => ∃ v6 v7 : Option V, σ = [some (.ref p), some (.int r.full), some (.int r.shares), some (.int ((st.own.1 : Int) + st.own.2)), some (.int ((if r.shares = 1 then 1 else 0 : Nat) : Int)), some (.ref l), v6, v7] ∧
        Same H H' ∧ LsAt H' l (sharesUp r st i)) ⟨none, none, rfl, Same.new hl, [], upd_same, .nil⟩ ?_ ?_
      · rintro i σ H' hi ⟨v6, v7, rfl, sH, hL⟩
        rw [en] at hi
        generalize hm : (st.own.1 + st.own.2 + 1) / 2 + i = m
        have em : ((st.own.1 : Int) + st.own.2 + 1) / 2 + (i : Int) = (m : Int) := by omega
        refine ⟨_, rfl, _, rfl, _, _, rfl, rfl, ?_⟩
        refine ⟨_, rfl, _, rfl, _, _, rfl, rfl, _, rfl, ?_⟩
        have step := sharesUp_succ r st i
        rw [hm] at step
        refine ite2 (fun h1 => ?_) (fun h1 => ?_)
        · have h1 := of_decide_eq_true h1
          rw [em] at h1
          refine ⟨_, rfl, _, rfl, p, _, _, _, rfl, rfl, SqT.of (sH _ _ hp), at0, rfl, _, rfl, ?_⟩
          refine ite2 (fun h2 => ?_) (fun h2 => ?_)
          · have h2 : m ≠ st.own.1 := fun q => by
              rw [Bool.not_eq_true', decide_eq_false_iff_not] at h2
              exact h2 (by show V.int (((st.own.1 : Int) + st.own.2 + 1) / 2 + i) = _; rw [em, q])
            have ht : shareTest r st m = true := by
              unfold shareTest
              refine decide_eq_true ⟨by omega, ?_, h2⟩
              by_cases q : r.shares = 1
              · rw [if_pos q] at h1 ⊢; omega
              · rw [if_neg q] at h1 ⊢; omega
            rw [ht, if_pos rfl] at step
            obtain ⟨vs, hv, hst⟩ := hL
            have hlen : vs.length < sizeLine := by
              rw [paired_length hst]
              exact small1000 (Nat.le_trans (sharesUp_len r st i) (by omega))
            refine ⟨_, rfl, .inl ⟨rfl, _, SqL.of hv⟩, _, rfl, 2, rfl, p, svals st, rfl, SqT.of (sH _ _ hp), (by simp [HT.sIx]), fun q1 f1 => ?_⟩
            refine ⟨_, rfl, _, rfl, (by show 2 ≤ sizeLine; decide), fun q2 f2 => ?_⟩
            have z2 := Same.new (o := .tup [V.int (((st.own.1 : Int) + st.own.2 + 1) / 2 + i), V.int ((st.own.1 : Int) + st.own.2 - (((st.own.1 : Int) + st.own.2 + 1) / 2 + i))]) f2
            refine ⟨q1, q2, _, _, rfl, rfl, SqT.of (z2 _ _ upd_same), SqT.of upd_same, (by simp [cutV, HT.sIx]), (by show 4 ≤ sizeLine; decide), (fun z => by cases z), fun _ q3 f3 => ?_⟩
            have s3 : Same H' _ := ((Same.new f1).trans z2).trans (Same.new (o := .tup (cutV (svals st) (some 2) none ++ [V.int (((st.own.1 : Int) + st.own.2 + 1) / 2 + i), V.int ((st.own.1 : Int) + st.own.2 - (((st.own.1 : Int) + st.own.2 + 1) / 2 + i))])) f3)
            refine ⟨l, _, _, rfl, rfl, s3 _ _ hv, hlen, ?_⟩
            have e3 : cutV (svals st) (some 2) none ++ [V.int (((st.own.1 : Int) + st.own.2 + 1) / 2 + i), V.int ((st.own.1 : Int) + st.own.2 - (((st.own.1 : Int) + st.own.2 + 1) / 2 + i))] = svals (shareAt st m) := by
              rw [em]
              show [V.int st.other.1, V.int st.other.2, V.int (m : Int), V.int ((st.own.1 : Int) + st.own.2 - m)] = [V.int st.other.1, V.int st.other.2, V.int (m : Int), V.int ((st.own.1 + st.own.2 - m : Nat) : Int)]
              have : ((st.own.1 : Int) + st.own.2 - m) = ((st.own.1 + st.own.2 - m : Nat) : Int) := by
                by_cases q : r.shares = 1
                · rw [if_pos q] at h1; omega
                · rw [if_neg q] at h1; omega
              rw [this]
            refine ⟨_, _, rfl, Same.upd (sH.trans s3) hl, ?_⟩
            rw [step]
            refine LsAt.snoc (s3 _ _ hv) (StsAt.mono hst (Tups.of s3)) ?_
            rw [← e3]
            exact upd_same
          · refine ⟨_, _, rfl, sH, ?_⟩
            have h2 : m = st.own.1 := by
              have h2 : V.int (((st.own.1 : Int) + st.own.2 + 1) / 2 + i) = V.int st.own.1 := Decidable.byContradiction fun z => h2 (by rw [decide_eq_false z]; rfl)
              rw [em] at h2
              injection h2 with h2
              omega
            have ht : shareTest r st m = false := decide_eq_false fun z => z.2.2 h2
            rw [ht, if_neg Bool.false_ne_true, List.append_nil] at step
            rw [step]
            exact hL
        · have h1 := of_decide_eq_false (Bool.eq_false_iff.mpr h1)
          rw [em] at h1
          refine iteF ⟨_, _, rfl, sH, ?_⟩
          have ht : shareTest r st m = false := decide_eq_false fun z => by
            obtain ⟨z1, z2, _⟩ := z
            by_cases q : r.shares = 1
            · rw [if_pos q] at h1 z2; omega
            · rw [if_neg q] at h1 z2; omega
          rw [ht, if_neg Bool.false_ne_true, List.append_nil] at step
          rw [step]
          exact hL
      · rintro σ H' ⟨v6, v7, rfl, sH, hL⟩
        refine ⟨_, rfl, k H' l sH hl ?_⟩
        rw [en] at hL
        unfold sharesP
        rw [if_neg h0, if_neg hn]
        exact hL
    refine ⟨_, rfl, rfl, _, rfl, ?_⟩
    refine ite2 (fun h1 => ?_) (fun h1 => ?_)
    · have h1 := of_decide_eq_true h1
      injection h1 with h1
      refine ⟨_, rfl, p, _, _, _, rfl, rfl, SqT.of hp, at1, rfl, _, rfl, ?_⟩
      refine ite2 (fun h2 => ?_) (fun h2 => ?_)
      · have h2 := of_decide_eq_true h2
        injection h2 with h2
        refine none_ ?_ _ rfl
        unfold sharesP
        rw [if_neg h0, if_pos (by omega)]
      · have h2 := of_decide_eq_false (Bool.eq_false_iff.mpr h2)
        exact main fun q => h2 (by rw [q.2]; rfl)
    · have h1 := of_decide_eq_false (Bool.eq_false_iff.mpr h1)
      exact iteF (main fun q => h1 (by rw [q.1]; rfl))
end
end Ft
namespace Ft
open PySem PySem.Spec PyProof.Rows L2 Uw72
abbrev sHands : Stmt := top 22
abbrev sStands : Stmt := top 23
/-- at a stands the list of these hands -/
def HdAt (H : Hp) (v : V) (h : Hands) : Prop := ∃ p, v = .ref p ∧ H p = some (.tup [.int h.1, .int h.2])
def HsAt (H : Hp) (a : Addr) (hs : List Hands) : Prop := ∃ vs, H a = some (.lst vs) ∧ Paired (HdAt H) vs hs
theorem hd_mono {H H' : Hp} {vs : List V} {hs : List Hands} (h : Paired (HdAt H) vs hs) (t : Tups H H') : Paired (HdAt H') vs hs := Paired.mapP h fun _ _ ⟨p, e, q⟩ => ⟨p, e, t p _ q⟩
theorem HsAt.snoc {H : Hp} {l q : Addr} {hs : List Hands} {x : Hands} {vs : List V} (hl : H l = some (.lst vs)) (hv : Paired (HdAt H) vs hs) (hq : H q = some (.tup [.int x.1, .int x.2])) : HsAt (upd H l (.lst (vs ++ [.ref q]))) l (hs ++ [x]) := by
  have t : Tups H (upd H l (.lst (vs ++ [.ref q]))) := (Tups.refl H).upd fun xs e => by rw [hl] at e; cases e
  exact ⟨_, upd_same, paired_snoc ⟨q, rfl, t q _ hq⟩ (hd_mono hv t)⟩
section
variable {P : Program} {w : World} {K : PySem.W.Frag} {mg : Str → Option Value} {base : Heap}
/-! ### stands_by_turns -/
def spByTurns : Sp := fun vs H Q _ => ∃ (p : Addr) (s : Stand) (r : Rules), vs = [.ref p, .int r.full, .int r.over, .int r.shares] ∧ ROk r ∧ SOk r s ∧ H p = some (.tup (svals s)) ∧ ∀ (H' : Hp) (l : Addr), Same H H' → H l = none → LsAt H' l (turnsP r s) → Q (.ref l) H'
theorem scByTurns : FnScope ["stand", "full", "over", "shares"] ["stand", "full", "over", "shares"] (defScope sByTurns) := ⟨rfl, rfl, rfl, by decide +kernel, rfl, by decide +kernel, by decide +kernel⟩
theorem ok_byTurns {f f1 f2 : Addr} {fd fd1 fd2 : FuncData} (F : Fun K "stands_by_turns" "stands_by_turns" sByTurns f fd) (D1 : Def K mg "stands_by_taps" sTaps ["stand", "full", "over"] f1 fd1) (D2 : Def K mg "stands_by_shares" sShares ["stand", "full", "shares"] f2 fd2)
    (G1 : FnOk P w K mg base CX0 2 f1 fd1 ["stand", "full", "over"] spTaps) (G2 : FnOk P w K mg base CX0 1 f2 fd2 ["stand", "full", "shares"] spShares) : FnOk P w K mg base CX0 3 f fd ["stand", "full", "over", "shares"] spByTurns := by
  refine F.ok scByTurns (fun vs H Q E h => ?_) (fun cdv A outer s H vs Q E hr h => ?_)
  · obtain ⟨p, s, r, rfl, _⟩ := h
    rfl
  · obtain ⟨p, st, r, rfl, hr0, hs0, hp, k⟩ := h
    refine ⟨_, pss_one (ps_ret (pe_op op_cat (pe_call G1 hr rfl D1.m D1.F.kp D1.b .nil pass0 (pa_cons (pv 0) (pa_cons (pv 1) (pa_cons (pv 2) pa_nil)))) (pe_call G2 (hr.mono (by decide)) rfl D2.m D2.F.kp D2.b .nil pass0 (pa_cons (pv 0) (pa_cons (pv 1) (pa_cons (pv 3) pa_nil)))))), ?_⟩
    refine ⟨_, rfl, _, rfl, _, rfl, p, st, r, rfl, hp, fun H1 l1 s1 f1 L1 => ?_⟩
    refine ⟨_, rfl, _, rfl, _, rfl, p, st, r, rfl, hr0, hs0, s1 _ _ hp, fun H2 l2 s2 f2 L2 => ?_⟩
    obtain ⟨vs1, h1, q1⟩ := L1
    obtain ⟨vs2, h2, q2⟩ := L2
    have hlen : vs1.length + vs2.length ≤ sizeLine := by
      rw [paired_length q1, paired_length q2]
      have := turnsP_length st hr0
      unfold turnsP at this
      rw [List.length_append] at this
      exact Nat.le_of_lt (small1000 (by omega))
    refine ⟨l1, l2, vs1, vs2, rfl, rfl, s2 _ _ h1, h2, hlen, fun l3 f3 => ?_⟩
    have s3 := Same.new (o := .lst (vs1 ++ vs2)) f3
    refine k _ l3 ((s1.trans s2).trans s3) ((s1.trans s2).free f3) ⟨_, upd_same, ?_⟩
    exact paired_append (StsAt.mono q1 (Tups.of (s2.trans s3))) (StsAt.mono q2 (Tups.of s3))
/-! ### all_hands -/
def spHands : Sp := fun vs H Q _ => ∃ (r : Rules), vs = [.int r.full] ∧ ROk r ∧ ∀ (H' : Hp) (l : Addr), Same H H' → H l = none → HsAt H' l (allHands r) → Q (.ref l) H'
theorem scHands : FnScope ["full", "found", "more", "fewer"] ["full"] (defScope sHands) := ⟨rfl, rfl, rfl, by decide +kernel, rfl, by decide +kernel, by decide +kernel⟩
theorem ok_hands {f : Addr} {fd : FuncData} (F : Fun K "all_hands" "all_hands" sHands f fd) (B : Blt mg) : FnOk P w K mg base CX0 1 f fd ["full"] spHands := by
  refine F.ok scHands (fun vs H Q E h => ?_) (fun cdv A outer s H vs Q E hr h => ?_)
  · obtain ⟨r, rfl, _⟩ := h
    rfl
  · obtain ⟨r, rfl, hr0, k⟩ := h
    have hlo := hr0.lo
    have hhi := hr0.hi
    refine ⟨_, pss_cons (ps_set (i := 1) scHands.nd rfl (Or.inl rfl) (pe_lst pa_nil))
      (pss_cons (ps_for PassesOwn.never rfl (pi_range1 rfl B.rng (pa_cons (pv 0) pa_nil)) (pg_name (i := 2) scHands.nd rfl (Or.inl rfl))
        (pss_one (ps_for PassesOwn.never rfl (pi_range1 rfl B.rng (pa_cons (pe_op op_add (pv 2) pe_int) pa_nil)) (pg_name (i := 3) scHands.nd rfl (Or.inl rfl))
          (pss_one (ps_expr (pe_bm PySem.F.plainAttrs_list PySem.F.slot_list_append PySem.F.type_list_append mt_append (pv 1) (pa_cons (pe_tup (pa_cons (pv 2) (pa_cons (pv 3) pa_nil))) pa_nil)))))))
      (pss_one (ps_ret (pv 1)))), ?_⟩
    refine ⟨Nat.zero_le _, fun l hl => ?_⟩
    refine ⟨_, rfl, _, rfl, by omega, by omega, for_range (lo := 0) (n := (r.full : Int).toNat) (fun i σ H' => ∃ v2 v3 : Option V, σ = [some (.int r.full), some (.ref l), v2, v3] ∧ Same H H' ∧ HsAt H' l (handsUp i 0)) ⟨none, none, rfl, Same.new hl, [], upd_same, .nil⟩ ?_ ?_⟩
    · rintro i σ H' hi ⟨v2, v3, rfl, sH, hL⟩
      have ei : (0 : Int) + (i : Int) = (i : Int) := by omega
      rw [ei]
      have en : ((i : Int) + 1).toNat = i + 1 := by omega
      refine ⟨_, rfl, _, _, rfl, rfl, _, rfl, by omega, by omega, for_range (lo := 0) (n := ((i : Int) + 1).toNat) (fun j σ H' => ∃ v3 : Option V, σ = [some (.int r.full), some (.ref l), some (.int i), v3] ∧ Same H H' ∧ HsAt H' l (handsUp i j)) ⟨v3, rfl, sH, hL⟩ ?_ ?_⟩
      · rintro j σ H' hj ⟨v3, rfl, sH, hL⟩
        have ej : (0 : Int) + (j : Int) = (j : Int) := by omega
        rw [ej]
        obtain ⟨vs, hv, hst⟩ := hL
        have hlen : vs.length < sizeLine := by
          rw [paired_length hst]
          exact small1000 (Nat.le_trans (handsUp_len i (by omega) j) (by omega))
        refine ⟨_, rfl, .inl ⟨rfl, _, SqL.of hv⟩, _, rfl, _, rfl, (by show 2 ≤ sizeLine; decide), fun q fq => ?_⟩
        have sq := Same.new (o := .tup [V.int i, V.int j]) fq
        refine ⟨l, _, _, rfl, rfl, sq _ _ hv, hlen, ?_⟩
        refine ⟨_, rfl, Same.upd (sH.trans sq) hl, ?_⟩
        rw [handsUp_step]
        exact HsAt.snoc (sq _ _ hv) (hd_mono hst (Tups.of sq)) upd_same
      · rintro σ H' ⟨v3, rfl, sH, hL⟩
        rw [en] at hL
        refine ⟨_, _, rfl, sH, ?_⟩
        rw [handsUp_next]
        exact hL
    · rintro σ H' ⟨v2, v3, rfl, sH, hL⟩
      refine ⟨_, rfl, k H' l sH hl ?_⟩
      rw [← handsUp_all]
      exact hL
/-! ### all_stands -/
def spStands : Sp := fun vs H Q _ => ∃ (r : Rules), vs = [.int r.full] ∧ ROk r ∧ ∀ (H' : Hp) (l : Addr), Same H H' → H l = none → LsAt H' l (allStands r) → Q (.ref l) H'
theorem scStands : FnScope ["full", "hands", "found", "own", "others"] ["full"] (defScope sStands) := ⟨rfl, rfl, rfl, by decide +kernel, rfl, by decide +kernel, by decide +kernel⟩
theorem ok_stands {f f1 : Addr} {fd fd1 : FuncData} (F : Fun K "all_stands" "all_stands" sStands f fd) (D1 : Def K mg "all_hands" sHands ["full"] f1 fd1) (G1 : FnOk P w K mg base CX0 1 f1 fd1 ["full"] spHands) : FnOk P w K mg base CX0 2 f fd ["full"] spStands := by
  refine F.ok scStands (fun vs H Q E h => ?_) (fun cdv A outer s H vs Q E hr h => ?_)
  · obtain ⟨r, rfl, _⟩ := h
    rfl
  · obtain ⟨r, rfl, hr0, k⟩ := h
    have hL28 := allHands_length r hr0.hi
    refine ⟨_, pss_cons (ps_set (i := 1) scStands.nd rfl (Or.inl rfl) (pe_call G1 hr rfl D1.m D1.F.kp D1.b .nil pass0 (pa_cons (pv 0) pa_nil)))
      (pss_cons (ps_set (i := 2) scStands.nd rfl (Or.inl rfl) (pe_lst pa_nil))
      (pss_cons (ps_for PassesOwn.never rfl (pi_list (pv 1)) (pg_name (i := 3) scStands.nd rfl (Or.inl rfl))
        (pss_one (ps_for PassesOwn.never rfl (pi_list (pv 1)) (pg_name (i := 4) scStands.nd rfl (Or.inl rfl))
          (pss_one (ps_if (pt_cmpR op_gt (pe_ix ix_tup (pv 4) pe_int (fun _ _ => rfl)) pe_int (nomark _))
            (pss_one (ps_expr (pe_bm PySem.F.plainAttrs_list PySem.F.slot_list_append PySem.F.type_list_append mt_append (pv 2) (pa_cons (pe_op op_catT (pv 3) (pv 4)) pa_nil)))) pss_nil)))))
      (pss_one (ps_ret (pv 2))))), ?_⟩
    refine ⟨_, rfl, r, rfl, hr0, fun H1 a s1 fa HA => ?_⟩
    obtain ⟨hv, ha, hp⟩ := HA
    refine ⟨Nat.zero_le _, fun l hl => ?_⟩
    have s2 := Same.new (o := .lst []) hl
    have s12 := s1.trans s2
    have hl0 : H l = none := s1.free hl
    have nal : a ≠ l := ne_of_none ha hl
    have a2 := s2 _ _ ha
    have hlen := paired_length hp
    have p2 := hd_mono hp (Tups.of s2)
    refine ⟨_, rfl, a, rfl, ⟨_, SqL.of a2⟩, for_list (K := K) (a := a) (xs := hv) (fun i σ H' => ∃ v3 v4 : Option V, σ = [some (.int r.full), some (.ref a), some (.ref l), v3, v4] ∧ Same H H' ∧ H' a = some (.lst hv) ∧ Paired (HdAt H') hv (allHands r) ∧ LsAt H' l (standsUp (allHands r) i 0))
      ⟨none, none, rfl, s12, a2, p2, by rw [standsUp_start]; exact ⟨[], upd_same, .nil⟩⟩ (fun i σ H' _ ⟨_, _, _, _, q, _⟩ => SqL.of q) ?_ ?_⟩
    · rintro i y σ H' hi ⟨v3, v4, rfl, sH, ha, hp, hL⟩
      obtain ⟨x, hx, px, ey, hpx⟩ := paired_get' hp hi
      subst ey
      refine ⟨_, rfl, a, rfl, ⟨_, SqL.of ha⟩, for_list (K := K) (a := a) (xs := hv) (fun j σ H' => ∃ v4 : Option V, σ = [some (.int r.full), some (.ref a), some (.ref l), some (.ref px), v4] ∧ Same H H' ∧ H' a = some (.lst hv) ∧ H' px = some (.tup [.int x.1, .int x.2]) ∧ Paired (HdAt H') hv (allHands r) ∧ LsAt H' l (standsUp (allHands r) i j))
        ⟨v4, rfl, sH, ha, hpx, hp, hL⟩ (fun i σ H' _ ⟨_, _, _, q, _⟩ => SqL.of q) ?_ ?_⟩
      · rintro j z σ H' hj ⟨v4, rfl, sH, ha, hpx, hp, hL⟩
        obtain ⟨y, hy, py, ez, hpy⟩ := paired_get' hp hj
        subst ez
        have step := standsUp_step hx hy
        refine ⟨_, rfl, py, _, _, _, rfl, rfl, SqT.of hpy, rfl, _, _, rfl, rfl, _, rfl, ?_⟩
        refine ite2 (fun h0 => ?_) (fun h0 => ?_)
        · have h0 := of_decide_eq_true h0
          rw [if_pos (by omega)] at step
          obtain ⟨vs, hv', hst⟩ := hL
          have hlen' : vs.length < sizeLine := by
            rw [paired_length hst]
            have hi' := (List.getElem?_eq_some_iff.mp hx).1
            have hj' := (List.getElem?_eq_some_iff.mp hy).1
            exact small1000 (Nat.le_trans (standsUp_len hL28 i (Nat.le_of_lt hi') j (Nat.le_of_lt hj')) (by omega))
          refine ⟨_, rfl, .inl ⟨rfl, _, SqL.of hv'⟩, _, rfl, _, rfl, px, py, _, _, rfl, rfl, SqT.of hpx, SqT.of hpy, (by simp), (by show 4 ≤ sizeLine; decide), (fun z => by cases z), fun _ q fq => ?_⟩
          have sq := Same.new (o := .tup (svals ⟨x, y⟩)) fq
          refine ⟨l, _, _, rfl, rfl, sq _ _ hv', hlen', ?_⟩
          have tq : Tups (upd H' q (.tup (svals ⟨x, y⟩))) (upd (upd H' q (.tup (svals ⟨x, y⟩))) l (.lst (vs ++ [.ref q]))) := (Tups.refl _).upd fun xs e => by rw [sq _ _ hv'] at e; cases e
          refine ⟨_, rfl, Same.upd (sH.trans sq) hl0, ?_, tq _ _ (sq _ _ hpx), hd_mono hp ((Tups.of sq).trans tq), ?_⟩
          · rw [upd_ne nal]
            exact sq _ _ ha
          · rw [step]
            exact LsAt.snoc (sq _ _ hv') (StsAt.mono hst (Tups.of sq)) upd_same
        · have h0 := of_decide_eq_false (Bool.eq_false_iff.mpr h0)
          rw [if_neg (by omega), List.append_nil] at step
          refine ⟨_, rfl, sH, ha, hpx, hp, ?_⟩
          rw [step]
          exact hL
      · rintro σ H' ⟨v4, rfl, sH, ha, hpx, hp, hL⟩
        refine ⟨_, _, rfl, sH, ha, hp, ?_⟩
        rw [standsUp_next (List.getElem?_eq_some_iff.mp hx).1, ← hlen]
        exact hL
    · rintro σ H' ⟨v3, v4, rfl, sH, ha, hp, hL⟩
      refine ⟨_, rfl, k H' l sH hl0 ?_⟩
      rw [hlen, standsUp_all] at hL
      exact hL
end
end Ft
namespace Ft
open PySem PySem.Spec PyProof.Rows L2 Uw72
/-! ### dicts by stands -/
/-- the pairs of a dict: the stands' keys in this order, each value as R says -/
abbrev DS (R : Stand → V → Prop) : List (List Key × V) → List Stand → Prop := Paired fun kv s => kv.1 = skey s ∧ R s kv.2
theorem DS.get {R : Stand → V → Prop} : ∀ {kvs : List (List Key × V)} {S : List Stand}, DS R kvs S → ∀ {s : Stand}, s ∈ S → ∃ v, valV kvs (skey s) = some v ∧ R s v
  | _, _, .nil, s, h => by cases h
  | _, _, .cons (a := kv) (b := t) ⟨e1, e2⟩ q, s, h => by
    by_cases e : kv.1 = skey s
    · rw [valV_pos e]
      have : t = s := skey_inj (e1.symm.trans e)
      subst this
      exact ⟨_, rfl, e2⟩
    · rw [valV_neg e]
      rcases List.mem_cons.mp h with z | z
      · subst z; exact absurd e1 e
      · exact DS.get q z
theorem DS.none {R : Stand → V → Prop} : ∀ {kvs : List (List Key × V)} {S : List Stand}, DS R kvs S → ∀ {s : Stand}, s ∉ S → valV kvs (skey s) = Option.none
  | _, _, .nil, s, h => rfl
  | _, _, .cons (a := kv) (b := t) ⟨e1, e2⟩ q, s, h => by
    have e : ¬ kv.1 = skey s := fun e => h (by rw [← skey_inj (e1.symm.trans e)]; simp)
    rw [valV_neg e]
    exact DS.none q fun z => h (List.mem_cons_of_mem _ z)
theorem DS.imp {R R' : Stand → V → Prop} : ∀ {kvs : List (List Key × V)} {S : List Stand}, DS R kvs S → (∀ s ∈ S, ∀ v, R s v → R' s v) → DS R' kvs S
  | _, _, .nil, _ => .nil
  | _, _, .cons (b := t) ⟨e1, e2⟩ q, h => .cons ⟨e1, h t (by simp) _ e2⟩ (DS.imp q fun s hs => h s (List.mem_cons_of_mem _ hs))
theorem DS.new {R : Stand → V → Prop} {kvs : List (List Key × V)} {S : List Stand} (h : DS R kvs S) {s : Stand} (hs : s ∉ S) {v : V} (hv : R s v) : DS R (putK kvs (skey s) v) (S ++ [s]) := by
  rw [putK_new v (h.none hs)]
  exact paired_snoc ⟨rfl, hv⟩ h
theorem DS.old {R : Stand → V → Prop} {kvs : List (List Key × V)} {S : List Stand} (h : DS R kvs S) {s : Stand} (hs : s ∈ S) {R' : Stand → V → Prop} {v : V} (hv : R' s v) (ho : ∀ t ∈ S, t ≠ s → ∀ u, R t u → R' t u) : DS R' (putK kvs (skey s) v) S := by
  obtain ⟨u, hu, _⟩ := h.get hs
  have any : (kvs.any fun kv => decide (kv.1 = skey s)) = true := by rw [valV_any, hu]; rfl
  unfold putK
  rw [if_pos any]
  have go : ∀ {kvs : List (List Key × V)} {S : List Stand}, DS R kvs S → (∀ t ∈ S, t ≠ s → ∀ u, R t u → R' t u) → DS R' (kvs.map fun kv => if kv.1 = skey s then (kv.1, v) else kv) S := by
    intro kvs S q
    induction q with
    | nil => intro _; exact .nil
    | @cons kv t kvs S z q ih =>
      intro ho
      obtain ⟨e1, e2⟩ := z
      rw [List.map_cons]
      refine .cons ?_ (ih fun t ht => ho t (List.mem_cons_of_mem _ ht))
      by_cases e : kv.1 = skey s
      · rw [if_pos e]
        have : t = s := skey_inj (e1.symm.trans e)
        subst this
        exact ⟨e1, hv⟩
      · rw [if_neg e]
        exact ⟨e1, ho t (by simp) (fun z => e (by rw [e1, z])) _ e2⟩
  exact go h ho
/-- lists under stands -/
def LV (H : Hp) (f : Stand → List Stand) (s : Stand) (v : V) : Prop := ∃ l, v = .ref l ∧ LsAt H l (f s)
abbrev DL (H : Hp) (f : Stand → List Stand) : List (List Key × V) → List Stand → Prop := DS (LV H f)
theorem DL.mono {H H' : Hp} {f : Stand → List Stand} {kvs : List (List Key × V)} {S : List Stand} (h : DL H f kvs S) (t : Same H H') : DL H' f kvs S := DS.imp h fun s _ v ⟨l, e, q⟩ => ⟨l, e, q.mono t⟩
/-- all but what is at d stays -/
def Near (d : Addr) (H H' : Hp) : Prop := ∀ b o, b ≠ d → H b = some o → H' b = some o
theorem Near.of {d : Addr} {H H' : Hp} (h : Same H H') : Near d H H' := fun b o _ e => h b o e
theorem Near.trans {d : Addr} {H H1 H2 : Hp} (a : Near d H H1) (b : Near d H1 H2) : Near d H H2 := fun c o n h => b c o n (a c o n h)
theorem Near.upd {d : Addr} {H H' : Hp} {o : HO} (h : Near d H H') : Near d H (upd H' d o) := fun b u n e => by
  rw [upd_ne n]
  exact h b u n e
theorem Near.new {d : Addr} {H H' : Hp} {p : Addr} {o : HO} (h : Near d H H') (hp : H p = none) : Near d H (L2.upd H' p o) := fun b u n e => by
  rw [upd_ne (ne_of_none e hp)]
  exact h b u n e
theorem Near.tups {d : Addr} {H H' : Hp} (h : Near d H H') (hd : ∀ xs, H d ≠ some (.tup xs)) : Tups H H' := fun b xs e => h b _ (fun z => by subst z; exact hd xs e) e
theorem Near.back {d : Addr} {H H' : Hp} {o : HO} (h : Near d H H') (hd : H d = some o) : Same H (L2.upd H' d o) := fun b u e => by
  by_cases z : b = d
  · subst z
    rw [upd_same, ← hd]
    exact e
  · rw [upd_ne z]
    exact h b u z e
theorem Near.free {d : Addr} {H H' : Hp} (h : Near d H H') {l : Addr} (n : l ≠ d) (e : H' l = none) : H l = none := by
  cases q : H l with
  | none => rfl
  | some o =>
    rw [h l o n q] at e
    cases e
theorem LsAt.near {d : Addr} {H H' : Hp} {a : Addr} {ss : List Stand} (h : LsAt H a ss) (t : Near d H H') (hd : ∀ xs, H d ≠ some (.tup xs)) (ha : a ≠ d) : LsAt H' a ss := by
  obtain ⟨vs, e, q⟩ := h
  exact ⟨vs, t a _ ha e, StsAt.mono q (t.tups hd)⟩
end Ft
namespace Ft
open PySem PySem.Spec PyProof.Rows L2 Uw72
abbrev sAhead : Stmt := top 24
section
variable {P : Program} {w : World} {K : PySem.W.Frag} {mg : Str → Option Value} {base : Heap}
theorem DGet.rt {H : Hp} {a b : Addr} {kvs : List (List Key × V)} {k : List Key} (e : Rd H a (.dT kvs)) (eb : H b = some (.tup (k.map kV))) : DGet H a (.ref b) (valV kvs k) := .inr ⟨kvs, k, b, e, rfl, eb, rfl⟩
theorem len784 {n : Nat} (h : n ≤ 900) : n < sizeLine := small1000 (by omega)
def spAhead : Sp := fun vs H Q _ => ∃ (d : Addr) (kvs : List (List Key × V)) (r : Rules), vs = [.ref d] ∧ ROk r ∧ H d = some (.dT kvs) ∧ DL H (turnsP r) kvs (allStands r) ∧
  ∀ (H' : Hp) (a : Addr) (kvsA : List (List Key × V)), Same H H' → H a = none → H' a = some (.dT kvsA) → DL H' (srcs r (allStands r)) kvsA (allStands r) → Q (.ref a) H'
theorem scAhead : FnScope ["turns", "ahead", "stand", "behind"] ["turns"] (defScope sAhead) := ⟨rfl, rfl, rfl, by decide +kernel, rfl, by decide +kernel, by decide +kernel⟩
theorem ok_ahead {f : Addr} {fd : FuncData} (F : Fun K "stands_ahead" "stands_ahead" sAhead f fd) : FnOk P w K mg base CX0 1 f fd ["turns"] spAhead := by
  refine F.ok scAhead (fun vs H Q E h => ?_) (fun cdv A outer s H vs Q E hr h => ?_)
  · obtain ⟨d, kvs, r, rfl, _⟩ := h
    rfl
  · obtain ⟨d, kvs, r, rfl, hr0, hd, hD, k⟩ := h
    have hu := hu_of hr
    have hSl := allStands_length r hr0.hi
    have hSn := allStands_nodup r
    have hSc := stands_closed (r := r)
    have hSt : ∀ x ∈ allStands r, (turnsP r x).Nodup := fun x hx => turnsP_nodup hr0 (mem_allStands.mp hx)
    generalize hS : allStands r = S at hD k hSl hSn hSc hSt
    have hlenK : kvs.length = S.length := paired_length hD
    have ndt : ∀ xs, H d ≠ some (.tup xs) := fun xs e => by rw [hd] at e; cases e
    refine ⟨_, pss_cons (ps_set (i := 1) scAhead.nd rfl (Or.inl rfl) pe_dnewT)
      (pss_cons (ps_lock (ps_for PassesOwn.never rfl (pi_keys (pv 0)) (pg_name (i := 2) scAhead.nd rfl (Or.inl rfl)) (pss_one (ps_dput hu (pv 1) (pv 2) (pe_lst pa_nil) rfl))))
      (pss_cons (ps_lock (ps_for PassesOwn.never rfl (pi_keys (pv 0)) (pg_name (i := 2) scAhead.nd rfl (Or.inl rfl))
        (pss_one (ps_for PassesOwn.never rfl (pi_list (pe_dget hu (pv 0) (pv 2) (fun _ _ => rfl))) (pg_name (i := 3) scAhead.nd rfl (Or.inl rfl))
          (pss_one (ps_expr (pe_bm PySem.F.plainAttrs_list PySem.F.slot_list_append PySem.F.type_list_append mt_append (pe_dget hu (pv 1) (pv 3) (fun _ _ => rfl)) (pa_cons (pv 2) pa_nil))))))))
      (pss_one (ps_ret (pv 1))))), ?_⟩
    intro a fa
    have nad : d ≠ a := ne_of_none hd fa
    -- for stand in turns: ahead[stand] = []
    refine ⟨d, .dT kvs, (by rw [upd_ne nad]; exact hd), True.intro, fun od => ?_⟩
    refine ⟨_, rfl, d, od, rfl, .inr ⟨kvs, upd_same, for_keysT (fun i σ H' => ∃ (v2 : Option V) (kvsA : List (List Key × V)) (adr : Stand → Addr), σ = [some (.ref d), some (.ref a), v2, none] ∧ Near d H H' ∧ H' d = some (.frz od (.dT kvs)) ∧ H' a = some (.dT kvsA) ∧
        DS (fun s v => v = .ref (adr s)) kvsA (S.take i) ∧ (∀ x ∈ S.take i, H (adr x) = none ∧ H' (adr x) = some (.lst [])) ∧ (∀ x ∈ S.take i, ∀ y ∈ S.take i, adr x = adr y → x = y))
        ⟨none, [], fun _ => 0, rfl, Near.upd (Near.of (Same.new fa)), upd_same, (by rw [upd_ne (Ne.symm nad), upd_same]), .nil, (fun x hx => by cases hx), fun x hx => by cases hx⟩ (fun i σ H' _ ⟨_, _, _, _, _, q, _⟩ => q) ?_ ?_⟩⟩
    · rintro i key v q σ H' hi hq ⟨v2, kvsA, adr, rfl, nH, hdf, ha, hA, hadr, hinj⟩
      obtain ⟨x, hx, ek, _⟩ := paired_get' hD hi
      have ek : key = skey x := ek
      subst ek
      refine ⟨Nat.zero_le _, fun p fp => ?_⟩
      have npd : p ≠ d := fun z => by rw [z, hdf] at fp; cases fp
      have npa : a ≠ p := ne_of_none ha fp
      have hp0 : H p = none := nH.free npd fp
      have hxn : x ∉ S.take i := not_mem_take hSn hx
      have hlA : kvsA.length < sizeLine := by
        rw [paired_length hA, List.length_take]
        exact len784 (by omega)
      refine ⟨_, rfl, _, rfl, a, _, rfl, DPut.t (k := skey x) (show (upd H' p (.lst [])) a = some (.dT kvsA) by rw [upd_ne npa]; exact ha) (show (upd H' p (.lst [])) q = some _ by rw [upd_ne (ne_of_none hq fp)]; exact hq) hlA, ?_⟩
      have etake : S.take (i + 1) = S.take i ++ [x] := by rw [List.take_add_one, hx]; rfl
      refine ⟨_, putK kvsA (skey x) (.ref p), fun t => if t = x then p else adr t, rfl, (nH.new hp0).new fa, ?_, upd_same, ?_, ?_, ?_⟩
      · rw [upd_ne nad, upd_ne (Ne.symm npd)]
        exact hdf
      · rw [etake]
        refine DS.new (DS.imp hA fun t ht v hv => ?_) hxn (by show V.ref p = V.ref (if x = x then p else adr x); rw [if_pos rfl])
        show v = V.ref (if t = x then p else adr t)
        rw [if_neg (fun z => hxn (by rw [← z]; exact ht))]
        exact hv
      · rw [etake]
        intro t ht
        rcases List.mem_append.mp ht with z | z
        · have ne : t ≠ x := fun e => hxn (by rw [← e]; exact z)
          obtain ⟨h1, h2⟩ := hadr t z
          show H (if t = x then p else adr t) = none ∧ (upd (upd H' p (.lst [])) a _) (if t = x then p else adr t) = some (.lst [])
          rw [if_neg ne]
          refine ⟨h1, ?_⟩
          rw [upd_ne (ne_of h2 ha (by intro z; cases z)), upd_ne (ne_of_none h2 fp)]
          exact h2
        · have e := List.mem_singleton.mp z
          subst e
          show H (if t = t then p else adr t) = none ∧ (upd (upd H' p (.lst [])) a _) (if t = t then p else adr t) = some (.lst [])
          rw [if_pos rfl]
          exact ⟨hp0, by rw [upd_ne (Ne.symm npa), upd_same]⟩
      · rw [etake]
        have one : ∀ t ∈ S.take i ++ [x], t ≠ x → t ∈ S.take i := fun t ht ne => (List.mem_append.mp ht).elim id fun z => absurd (List.mem_singleton.mp z) ne
        intro t ht u hu e
        have e : (if t = x then p else adr t) = (if u = x then p else adr u) := e
        by_cases h1 : t = x
        · by_cases h2 : u = x
          · rw [h1, h2]
          · rw [if_pos h1, if_neg h2] at e
            exact absurd (hadr u (one u hu h2)).2 (by rw [← e, fp]; intro z; cases z)
        · by_cases h2 : u = x
          · rw [if_neg h1, if_pos h2] at e
            exact absurd (hadr t (one t ht h1)).2 (by rw [e, fp]; intro z; cases z)
          · rw [if_neg h1, if_neg h2] at e
            exact hinj t (one t ht h1) u (one u hu h2) e
    · rintro σ H1 ⟨v2, kvsA, adr, rfl, nH, hdf, ha, hA, hadr, hinj⟩
      rw [hlenK, List.take_length] at hA hadr hinj
      refine ⟨hdf, ?_⟩
      have sH1 : Same H (upd H1 d (.dT kvs)) := nH.back hd
      have ha1 : (upd H1 d (.dT kvs)) a = some (.dT kvsA) := by rw [upd_ne (Ne.symm nad)]; exact ha
      -- for stand in turns: for behind in turns[stand]: ahead[behind].append(stand)
      refine ⟨d, .dT kvs, upd_same, True.intro, fun od => ?_⟩
      rw [upd_upd]
      refine ⟨_, rfl, d, od, rfl, .inr ⟨kvs, upd_same, for_keysT (fun i σ H' => ∃ (v2 v3 : Option V), σ = [some (.ref d), some (.ref a), v2, v3] ∧ Near d H H' ∧ H' d = some (.frz od (.dT kvs)) ∧ H' a = some (.dT kvsA) ∧ ∀ x ∈ S, LsAt H' (adr x) (srcs r (S.take i) x))
        ⟨v2, none, rfl, nH.upd, upd_same, (by rw [upd_ne (Ne.symm nad)]; exact ha), fun x hx => ⟨[], by rw [upd_ne (ne_of (hadr x hx).2 hdf (by intro z; cases z))]; exact (hadr x hx).2, .nil⟩⟩ (fun i σ H' _ ⟨_, _, _, _, q, _⟩ => q) ?_ ?_⟩⟩
      · rintro i key v q σ H' hi hq ⟨v2, v3, rfl, nH, hdf, ha, hL⟩
        obtain ⟨x, hx, ek, lx, ev, vs, hvs, hst⟩ := paired_get' hD hi
        have ek : key = skey x := ek
        have ev : v = .ref lx := ev
        subst ek ev
        have hxS : x ∈ S := List.mem_of_getElem? hx
        have nld : lx ≠ d := ne_of hvs hd (by intro z; cases z)
        have hget : valV kvs (skey x) = some (.ref lx) := by
          obtain ⟨v', hv', _⟩ := hD.get hxS
          -- the key stands once
          have : valV kvs (skey x) = some (.ref lx) := by
            have key : ∀ {kvs : List (List Key × V)} {S : List Stand}, DL H (turnsP r) kvs S → S.Nodup → ∀ {i : Nat} {v : V}, kvs[i]? = some (skey x, v) → valV kvs (skey x) = some v := by
              intro kvs S q
              induction q with
              | nil => intro _ i v e; simp at e
              | @cons kv t kvs S z q ih =>
                intro hn i v e
                obtain ⟨h1, h2⟩ := List.nodup_cons.mp hn
                cases i with
                | zero =>
                  have e : kv = (skey x, v) := by simpa using e
                  rw [valV_pos (by rw [e]), e]
                | succ i =>
                  have e : kvs[i]? = some (skey x, v) := by simpa using e
                  obtain ⟨y, hy, ey, _⟩ := paired_get' q e
                  have ey : x = y := skey_inj ey
                  rw [valV_neg (fun z' => ?_)]
                  · exact ih h2 e
                  · have : t = x := skey_inj (z.1.symm.trans z')
                    subst this
                    subst ey
                    exact h1 (List.mem_of_getElem? hy)
            exact key hD hSn hi
          exact this
        refine ⟨_, rfl, _, rfl, d, .ref lx, rfl, (by rw [← hget]; exact DGet.rt (.inr ⟨od, hdf⟩) hq), lx, rfl, ⟨_, SqL.of (nH lx _ nld hvs)⟩, for_list (K := K) (a := lx) (xs := vs) (fun j σ H' => ∃ v3 : Option V, σ = [some (.ref d), some (.ref a), some (.ref q), v3] ∧ Near d H H' ∧ H' d = some (.frz od (.dT kvs)) ∧ H' a = some (.dT kvsA) ∧ H' q = some (.tup (svals x)) ∧ ∀ y ∈ S, LsAt H' (adr y) (srcIn r (S.take i) x j y))
          ⟨v3, rfl, nH, hdf, ha, hq, fun y hy => by rw [srcIn_zero]; exact hL y hy⟩ (fun j σ H' _ ⟨_, _, n, _⟩ => SqL.of (n lx _ nld hvs)) ?_ ?_⟩
        · rintro j z σ H' hj ⟨v3, rfl, nH, hdf, ha, hq, hL⟩
          obtain ⟨b, hb, pb, ez, hpb⟩ := paired_get' hst hj
          subst ez
          have hbS : b ∈ S := hSc x hxS b (List.mem_of_getElem? hb)
          have hgb : valV kvsA (skey b) = some (.ref (adr b)) := by
            obtain ⟨v', e1, e2⟩ := hA.get hbS
            rw [e1, e2]
          obtain ⟨ws, hws, hwst⟩ := hL b hbS
          have hpb' : H' pb = some (.tup (svals b)) := nH.tups ndt pb _ hpb
          have hlen : ws.length < sizeLine := by
            rw [paired_length hwst]
            refine len784 (Nat.le_trans (srcIn_len _ _ _ _ _) ?_)
            rw [List.length_take]
            omega
          refine ⟨_, rfl, _, rfl, a, .ref (adr b), rfl, (by rw [← hgb]; exact DGet.t ha hpb'), .inl ⟨rfl, _, SqL.of hws⟩, _, rfl, adr b, _, _, rfl, rfl, hws, hlen, ?_⟩
          have tq : Tups H' (upd H' (adr b) (.lst (ws ++ [.ref q]))) := (Tups.refl _).upd fun xs e => by rw [hws] at e; cases e
          refine ⟨_, rfl, nH.new (hadr b hbS).1, ?_, ?_, tq _ _ hq, fun y hy => ?_⟩
          · rw [upd_ne (ne_of hdf hws (by intro z; cases z))]; exact hdf
          · rw [upd_ne (ne_of ha hws (by intro z; cases z))]; exact ha
          · by_cases e : y = b
            · subst e
              rw [srcIn_at (hSt x hxS) hb]
              exact LsAt.snoc hws hwst hq
            · rw [srcIn_ne hb e]
              obtain ⟨us, hus, hust⟩ := hL y hy
              exact ⟨us, by rw [upd_ne fun z => e (hinj y hy b hbS z)]; exact hus, StsAt.mono hust tq⟩
        · rintro σ H' ⟨v3, rfl, nH, hdf, ha, hq, hL⟩
          refine ⟨_, _, rfl, nH, hdf, ha, fun y hy => ?_⟩
          rw [srcIn_end hx, ← paired_length hst]
          exact hL y hy
      · rintro σ H' ⟨v2, v3, rfl, nH, hdf, ha, hL⟩
        refine ⟨hdf, ?_⟩
        rw [hlenK, List.take_length] at hL
        refine ⟨_, rfl, k _ a kvsA (nH.back hd) fa (by rw [upd_ne (Ne.symm nad)]; exact ha) (DS.imp hA fun x hx v ev => ⟨adr x, ev, ?_⟩)⟩
        refine LsAt.near (hL x hx) (Near.upd (Near.of (Same.refl _))) (fun xs e => by rw [hdf] at e; cases e) fun z => ?_
        have := (hadr x hx).1
        rw [z, hd] at this
        cases this
end
end Ft
namespace Ft
open PySem PySem.Spec PyProof.Rows L2 Uw72
abbrev sWon : Stmt := top 25
theorem nodup_len {α : Type} [DecidableEq α] : ∀ {l m : List α}, l.Nodup → (∀ x ∈ l, x ∈ m) → l.length ≤ m.length
  | [], m, _, _ => Nat.zero_le _
  | a :: l, m, hn, hs => by
    obtain ⟨h1, h2⟩ := List.nodup_cons.mp hn
    have ha := hs a (by simp)
    have := nodup_len (l := l) (m := m.erase a) h2 fun x hx => (List.mem_erase_of_ne (fun e => h1 (by rw [← e]; exact hx))).mpr (hs x (List.mem_cons_of_mem _ hx))
    rw [List.length_erase_of_mem ha] at this
    have : 0 < m.length := List.length_pos_of_mem ha
    rw [List.length_cons]
    omega
theorem paired_of_get {α β : Type} {R : α → β → Prop} : ∀ {l : List α} {m : List β}, l.length = m.length → (∀ (i : Nat) a b, l[i]? = some a → m[i]? = some b → R a b) → Paired R l m
  | [], [], _, _ => .nil
  | a :: l, b :: m, h, g => .cons (g 0 a b rfl rfl) (paired_of_get (by simpa using h) fun i x y e1 e2 => g (i + 1) x y (by simpa using e1) (by simpa using e2))
section
variable {P : Program} {w : World} {K : PySem.W.Frag} {mg : Str → Option Value} {base : Heap}
def spWon : Sp := fun vs H Q _ => ∃ (l a d : Addr) (ls : List Stand) (kvsA kvsS : List (List Key × V)) (r : Rules), vs = [.ref l, .ref a, .ref d] ∧ ROk r ∧ LsAt H l ls ∧ (∀ x ∈ ls, x ∈ allStands r) ∧ H a = some (.dT kvsA) ∧ DL H (srcs r (allStands r)) kvsA (allStands r) ∧ H d = some (.dT kvsS) ∧
  ∀ (H' : Hp) (p : Addr) (ws : List Stand), Same H H' → H p = none → LsAt H' p ws → ws.Nodup → (∀ x, x ∈ ws ↔ (∃ t ∈ ls, x ∈ srcs r (allStands r) t) ∧ valV kvsS (skey x) = none) → Q (.ref p) H'
theorem scWon : FnScope ["lost", "ahead", "settled", "won", "stand", "source"] ["lost", "ahead", "settled"] (defScope sWon) := ⟨rfl, rfl, rfl, by decide +kernel, rfl, by decide +kernel, by decide +kernel⟩
theorem ok_won {f : Addr} {fd : FuncData} (F : Fun K "newly_won" "newly_won" sWon f fd) (B : Blt mg) : FnOk P w K mg base CX0 1 f fd ["lost", "ahead", "settled"] spWon := by
  refine F.ok scWon (fun vs H Q E h => ?_) (fun cdv A outer s H vs Q E hr h => ?_)
  · obtain ⟨l, a, d, ls, kvsA, kvsS, r, rfl, _⟩ := h
    rfl
  · obtain ⟨l, a, d, ls, kvsA, kvsS, r, rfl, hr0, ⟨lv, hl, hls⟩, hsub, ha, hA, hd, k⟩ := h
    have hu := hu_of hr
    have hSl := allStands_length r hr0.hi
    generalize hS : allStands r = S at hsub hA k hSl
    refine ⟨_, pss_cons (ps_set (i := 3) scWon.nd rfl (Or.inl rfl) pe_dnewT)
      (pss_cons (ps_for PassesOwn.never rfl (pi_list (pv 0)) (pg_name (i := 4) scWon.nd rfl (Or.inl rfl))
        (pss_one (ps_for PassesOwn.never rfl (pi_list (pe_dget hu (pv 1) (pv 4) (fun _ _ => rfl))) (pg_name (i := 5) scWon.nd rfl (Or.inl rfl))
          (pss_one (ps_if (pt_cmp (pc_dnotin hu (pv 5) (pv 2)) rfl) (pss_one (ps_dput hu (pv 3) (pv 5) pe_bl rfl)) pss_nil)))))
      (pss_one (ps_ret (pe_callTy (call_listT rfl) rfl B.lst PyProof.Rows.boot_list (pa_cons (pv 3) pa_nil))))), ?_⟩
    intro pw fw
    have s0 := Same.new (o := .dT []) fw
    refine ⟨_, rfl, l, rfl, ⟨_, SqL.of (s0 _ _ hl)⟩, for_list (K := K) (a := l) (xs := lv) (fun i σ H' => ∃ (v4 v5 : Option V) (kvsW : List (List Key × V)) (ws : List Stand), σ = [some (.ref l), some (.ref a), some (.ref d), some (.ref pw), v4, v5] ∧ Same H H' ∧ H' pw = some (.dT kvsW) ∧
        DS (fun _ _ => True) kvsW ws ∧ ws.Nodup ∧ ∀ x, x ∈ ws ↔ (∃ t ∈ ls.take i, x ∈ srcs r S t) ∧ valV kvsS (skey x) = none)
      ⟨none, none, [], [], rfl, s0, upd_same, .nil, List.nodup_nil, fun x => ⟨fun z => (by cases z), fun z => (by obtain ⟨⟨t, ht, _⟩, _⟩ := z; cases ht)⟩⟩ (fun i σ H' _ ⟨_, _, _, _, _, q, _⟩ => SqL.of (q _ _ hl)) ?_ ?_⟩
    · rintro i y σ H' hi ⟨v4, v5, kvsW, ws, rfl, sH, hw, hW, hn, hm⟩
      obtain ⟨t, ht, pt, ey, hpt⟩ := paired_get' hls hi
      subst ey
      have htS : t ∈ S := hsub t (List.mem_of_getElem? ht)
      obtain ⟨v, hv, la, ev, vs, hvs, hst⟩ := hA.get htS
      subst ev
      refine ⟨_, rfl, _, rfl, a, .ref la, rfl, (by rw [← hv]; exact DGet.t (sH _ _ ha) (sH _ _ hpt)), la, rfl, ⟨_, SqL.of (sH _ _ hvs)⟩, for_list (K := K) (a := la) (xs := vs) (fun j σ H' => ∃ (v5 : Option V) (kvsW : List (List Key × V)) (ws : List Stand), σ = [some (.ref l), some (.ref a), some (.ref d), some (.ref pw), some (.ref pt), v5] ∧ Same H H' ∧ H' pw = some (.dT kvsW) ∧
          DS (fun _ _ => True) kvsW ws ∧ ws.Nodup ∧ ∀ x, x ∈ ws ↔ ((∃ t ∈ ls.take i, x ∈ srcs r S t) ∨ x ∈ (srcs r S t).take j) ∧ valV kvsS (skey x) = none)
        ⟨v5, kvsW, ws, rfl, sH, hw, hW, hn, fun x => by rw [hm x]; simp⟩ (fun j σ H' _ ⟨_, _, _, _, q, _⟩ => SqL.of (q _ _ hvs)) ?_ ?_⟩
      · rintro j z σ H' hj ⟨v5, kvsW, ws, rfl, sH, hw, hW, hn, hm⟩
        obtain ⟨b, hb, pb, ez, hpb⟩ := paired_get' hst hj
        subst ez
        refine ⟨_, rfl, _, rfl, d, _, rfl, DGet.t (k := skey b) (sH _ _ hd) (sH _ _ hpb), _, rfl, ?_⟩
        refine ite2 (fun h0 => ?_) (fun h0 => ?_)
        · have h0 : valV kvsS (skey b) = none := by
            cases q : valV kvsS (skey b) with
            | none => rfl
            | some u => rw [q] at h0; cases h0
          have hlW : kvsW.length < sizeLine := by
            rw [paired_length hW]
            refine len784 (Nat.le_trans (nodup_len (m := S) hn fun x hx => ?_) (by omega))
            obtain ⟨z, _⟩ := (hm x).mp hx
            rcases z with ⟨t', _, z⟩ | z
            · exact (List.mem_filter.mp z).1
            · exact (List.mem_filter.mp (List.mem_of_mem_take z)).1
          refine ⟨_, rfl, _, rfl, pw, _, rfl, DPut.t (k := skey b) hw (sH _ _ hpb) hlW, ?_⟩
          by_cases hbw : b ∈ ws
          · refine ⟨_, _, ws, rfl, Same.upd sH fw, upd_same, DS.old hW hbw True.intro (fun _ _ _ _ _ => True.intro), hn, fun x => ?_⟩
            rw [hm x, mem_take_succ hb]
            constructor
            · rintro ⟨z | z, e⟩
              · exact ⟨.inl z, e⟩
              · exact ⟨.inr (.inl z), e⟩
            · rintro ⟨z | z | z, e⟩
              · exact ⟨.inl z, e⟩
              · exact ⟨.inr z, e⟩
              · subst z
                exact (hm x).mp hbw
          · refine ⟨_, _, ws ++ [b], rfl, Same.upd sH fw, upd_same, DS.new hW hbw True.intro, nd_snoc hn hbw, fun x => ?_⟩
            rw [List.mem_append, List.mem_singleton, hm x, mem_take_succ hb]
            constructor
            · rintro (⟨z | z, e⟩ | z)
              · exact ⟨.inl z, e⟩
              · exact ⟨.inr (.inl z), e⟩
              · subst z
                exact ⟨.inr (.inr rfl), h0⟩
            · rintro ⟨z | z | z, e⟩
              · exact .inl ⟨.inl z, e⟩
              · exact .inl ⟨.inr z, e⟩
              · exact .inr z
        · have h0 : valV kvsS (skey b) ≠ none := fun q => h0 (by rw [q]; rfl)
          refine ⟨_, kvsW, ws, rfl, sH, hw, hW, hn, fun x => ?_⟩
          rw [hm x, mem_take_succ hb]
          constructor
          · rintro ⟨z | z, e⟩
            · exact ⟨.inl z, e⟩
            · exact ⟨.inr (.inl z), e⟩
          · rintro ⟨z | z | z, e⟩
            · exact ⟨.inl z, e⟩
            · exact ⟨.inr z, e⟩
            · subst z
              exact absurd e h0
      · rintro σ H' ⟨v5, kvsW, ws, rfl, sH, hw, hW, hn, hm⟩
        refine ⟨_, _, kvsW, ws, rfl, sH, hw, hW, hn, fun x => ?_⟩
        rw [hm x, paired_length hst, List.take_length]
        constructor
        · rintro ⟨⟨t', h1, h2⟩ | z, e⟩
          · exact ⟨⟨t', (mem_take_succ ht).mpr (.inl h1), h2⟩, e⟩
          · exact ⟨⟨t, (mem_take_succ ht).mpr (.inr rfl), z⟩, e⟩
        · rintro ⟨⟨t', h1, h2⟩, e⟩
          rcases (mem_take_succ ht).mp h1 with z | z
          · exact ⟨.inl ⟨t', z, h2⟩, e⟩
          · subst z
            exact ⟨.inr h2, e⟩
    · rintro σ H' ⟨v4, v5, kvsW, ws, rfl, sH, hw, hW, hn, hm⟩
      rw [paired_length hls, List.take_length] at hm
      refine ⟨_, rfl, pw, kvsW, rfl, hw, fun p vs fp hlen hv => ?_⟩
      have sp := Same.new (o := .lst vs) fp
      refine k _ p ws (sH.trans sp) (sH.free fp) ⟨vs, upd_same, paired_of_get (by rw [hlen, paired_length hW]) fun i x b e1 e2 => ?_⟩ hn hm
      obtain ⟨kv, ekv, ek, _⟩ := paired_getR hW e2
      obtain ⟨q, e3, e4⟩ := hv i kv.1 kv.2 ekv
      rw [e1] at e3
      cases e3
      exact ⟨q, rfl, sp _ _ (by rw [ek] at e4; exact e4)⟩
end
end Ft
namespace Ft
open PySem PySem.Spec PyProof.Rows L2 Uw72
abbrev sLost : Stmt := top 26
section
variable {P : Program} {w : World} {K : PySem.W.Frag} {mg : Str → Option Value} {base : Heap}
def spLost : Sp := fun vs H Q _ => ∃ (l a u : Addr) (ws : List Stand) (kvsA kvsU : List (List Key × V)) (r : Rules) (c : Stand → Int), vs = [.ref l, .ref a, .ref u] ∧ ROk r ∧ LsAt H l ws ∧ ws.Nodup ∧ (∀ x ∈ ws, x ∈ allStands r) ∧ a ≠ u ∧ H a = some (.dT kvsA) ∧ DL H (srcs r (allStands r)) kvsA (allStands r) ∧
  H u = some (.dT kvsU) ∧ DS (fun s v => v = .int (c s)) kvsU (allStands r) ∧ (∀ x ∈ allStands r, (dec r ws x : Int) ≤ c x) ∧
  ∀ (H' : Hp) (p : Addr) (kvsU' : List (List Key × V)) (ls : List Stand), Near u H H' → H p = none → H' u = some (.dT kvsU') → DS (fun s v => v = .int (c s - dec r ws s)) kvsU' (allStands r) → LsAt H' p ls → ls.Nodup → (∀ x, x ∈ ls ↔ x ∈ allStands r ∧ 0 < dec r ws x ∧ c x = dec r ws x) → Q (.ref p) H'
theorem scLost : FnScope ["won", "ahead", "unsettled", "lost", "stand", "source"] ["won", "ahead", "unsettled"] (defScope sLost) := ⟨rfl, rfl, rfl, by decide +kernel, rfl, by decide +kernel, by decide +kernel⟩
theorem ok_lost {f : Addr} {fd : FuncData} (F : Fun K "newly_lost" "newly_lost" sLost f fd) : FnOk P w K mg base CX0 1 f fd ["won", "ahead", "unsettled"] spLost := by
  refine F.ok scLost (fun vs H Q E h => ?_) (fun cdv A outer s H vs Q E hr h => ?_)
  · obtain ⟨l, a, u, ws, kvsA, kvsU, r, c, rfl, _⟩ := h
    rfl
  · obtain ⟨l, a, u, ws, kvsA, kvsU, r, c, rfl, hr0, ⟨lv, hl, hls⟩, hwn, hsub, nau, ha, hA, hu0, hU, hdec, k⟩ := h
    have hu := hu_of hr
    have hSl := allStands_length r hr0.hi
    have hSn := allStands_nodup r
    generalize hS : allStands r = S at hsub hA hU hdec k hSl hSn
    have hlenU : kvsU.length = S.length := paired_length hU
    have nut : ∀ xs, H u ≠ some (.tup xs) := fun xs e => by rw [hu0] at e; cases e
    have nlu : l ≠ u := ne_of hl hu0 (by intro z; cases z)
    refine ⟨_, pss_cons (ps_set (i := 3) scLost.nd rfl (Or.inl rfl) (pe_lst pa_nil))
      (pss_cons (ps_for PassesOwn.never rfl (pi_list (pv 0)) (pg_name (i := 4) scLost.nd rfl (Or.inl rfl))
        (pss_one (ps_for PassesOwn.never rfl (pi_list (pe_dget hu (pv 1) (pv 4) (fun _ _ => rfl))) (pg_name (i := 5) scLost.nd rfl (Or.inl rfl))
          (pss_cons (ps_dput hu (pv 2) (pv 5) (pe_op op_sub (pe_dget hu (pv 2) (pv 5) (fun _ _ => rfl)) pe_int) rfl)
          (pss_one (ps_if (pt_cmpR op_eq (pe_dget hu (pv 2) (pv 5) (fun _ _ => rfl)) pe_int (nomark _))
            (pss_one (ps_expr (pe_bm PySem.F.plainAttrs_list PySem.F.slot_list_append PySem.F.type_list_append mt_append (pv 3) (pa_cons (pv 5) pa_nil)))) pss_nil))))))
      (pss_one (ps_ret (pv 3)))), ?_⟩
    refine ⟨Nat.zero_le _, fun p fp => ?_⟩
    have s0 := Same.new (o := .lst []) fp
    have npu : p ≠ u := fun z => by rw [z, hu0] at fp; cases fp
    refine ⟨_, rfl, l, rfl, ⟨_, SqL.of (s0 _ _ hl)⟩, for_list (K := K) (a := l) (xs := lv) (fun i σ H' => ∃ (v4 v5 : Option V) (kvsU' : List (List Key × V)) (ls : List Stand), σ = [some (.ref l), some (.ref a), some (.ref u), some (.ref p), v4, v5] ∧ Near u H H' ∧ H' u = some (.dT kvsU') ∧
        DS (fun s v => v = .int (c s - dec r (ws.take i) s)) kvsU' S ∧ LsAt H' p ls ∧ ls.Nodup ∧ ∀ x, x ∈ ls ↔ x ∈ S ∧ 0 < dec r (ws.take i) x ∧ c x = dec r (ws.take i) x)
      ⟨none, none, kvsU, [], rfl, Near.of s0, s0 _ _ hu0, DS.imp hU (fun s _ v e => by rw [e]; simp [dec]), ⟨[], upd_same, .nil⟩, List.nodup_nil, fun x => ⟨fun z => (by cases z), fun z => (by have := z.2.1; simp [dec] at this)⟩⟩ (fun i σ H' _ ⟨_, _, _, _, _, q, _⟩ => SqL.of (q _ _ nlu hl)) ?_ ?_⟩
    · rintro i y σ H' hi ⟨v4, v5, kvsU', ls, rfl, nH, hu', hU', hL, hn, hm⟩
      obtain ⟨t, ht, pt, ey, hpt⟩ := paired_get' hls hi
      subst ey
      have htS : t ∈ S := hsub t (List.mem_of_getElem? ht)
      obtain ⟨v, hv, la, ev, vs, hvs, hst⟩ := hA.get htS
      subst ev
      have nla : la ≠ u := ne_of hvs hu0 (by intro z; cases z)
      refine ⟨_, rfl, _, rfl, a, .ref la, rfl, (by rw [← hv]; exact DGet.t (nH _ _ nau ha) (nH.tups nut _ _ hpt)), la, rfl, ⟨_, SqL.of (nH _ _ nla hvs)⟩, for_list (K := K) (a := la) (xs := vs) (fun j σ H' => ∃ (v5 : Option V) (kvsU' : List (List Key × V)) (ls : List Stand), σ = [some (.ref l), some (.ref a), some (.ref u), some (.ref p), some (.ref pt), v5] ∧ Near u H H' ∧ H' u = some (.dT kvsU') ∧
          DS (fun s v => v = .int (c s - decIn r S (ws.take i) t j s)) kvsU' S ∧ LsAt H' p ls ∧ ls.Nodup ∧ ∀ x, x ∈ ls ↔ x ∈ S ∧ 0 < decIn r S (ws.take i) t j x ∧ c x = decIn r S (ws.take i) t j x)
        ⟨v5, kvsU', ls, rfl, nH, hu', DS.imp hU' (fun s _ v e => by rw [e, decIn_zero]), hL, hn, fun x => by rw [hm x, decIn_zero]⟩ (fun j σ H' _ ⟨_, _, _, _, q, _⟩ => SqL.of (q _ _ nla hvs)) ?_ ?_⟩
      · rintro j z σ H' hj ⟨v5, kvsU', ls, rfl, nH, hu', hU', hL, hn, hm⟩
        obtain ⟨b, hb, pb, ez, hpb⟩ := paired_get' hst hj
        subst ez
        have hbS : b ∈ S := (mem_srcs.mp (List.mem_of_getElem? hb)).1
        have hpb' := nH.tups nut _ _ hpb
        obtain ⟨v, hvb, evb⟩ := hU'.get hbS
        subst evb
        have hat := decIn_at (L := ws.take i) (srcs_nodup hSn t) hb
        have hle := decIn_le (r := r) (j := j + 1) ht hbS
        have hcb := hdec b hbS
        generalize eold : decIn r S (ws.take i) t j b = old at hat hvb
        have hlU : kvsU'.length < sizeLine := by
          rw [paired_length hU']
          exact len784 (by omega)
        refine ⟨_, rfl, _, rfl, u, _, rfl, (by rw [← hvb]; exact DGet.t hu' hpb'), _, _, rfl, rfl, _, rfl, _, rfl, u, _, rfl, DPut.t (k := skey b) hu' hpb' hlU, ?_⟩
        have hU2 : DS (fun s v => v = .int (c s - decIn r S (ws.take i) t (j + 1) s)) (putK kvsU' (skey b) (.int (c b - old - 1))) S := DS.old hU' hbS (by rw [hat]; congr 1; omega) fun x hx ne v e => by rw [e, decIn_ne hb ne]
        obtain ⟨v2, hv2, ev2⟩ := hU2.get hbS
        have hpb2 : (upd H' u (.dT (putK kvsU' (skey b) (.int (c b - old - 1))))) pb = some (.tup (svals b)) := by
          rw [upd_ne (ne_of hpb' hu' (by intro z; cases z))]
          exact hpb'
        subst ev2
        refine ⟨_, rfl, _, rfl, u, _, rfl, (by rw [← hv2]; exact DGet.t upd_same hpb2), rfl, _, rfl, ?_⟩
        obtain ⟨us, hus, hust⟩ := hL
        have npu' : p ≠ u := npu
        have hus2 : (upd H' u (.dT (putK kvsU' (skey b) (.int (c b - old - 1))))) p = some (.lst us) := by rw [upd_ne npu]; exact hus
        have tq : Tups H' (upd H' u (.dT (putK kvsU' (skey b) (.int (c b - old - 1))))) := (Tups.refl _).upd fun xs e => by rw [hu'] at e; cases e
        have hust2 := StsAt.mono hust tq
        rw [hat]
        refine ite2 (fun h0 => ?_) (fun h0 => ?_)
        · have h0 := of_decide_eq_true h0
          injection h0 with h0
          have hbn : b ∉ ls := fun q => by
            have := ((hm b).mp q).2.2
            rw [eold] at this
            omega
          have hlen : us.length < sizeLine := by
            rw [paired_length hust]
            refine len784 (Nat.le_trans (nodup_len (m := S) hn fun x hx => ((hm x).mp hx).1) (by omega))
          refine ⟨_, rfl, .inl ⟨rfl, _, SqL.of hus2⟩, _, rfl, p, _, _, rfl, rfl, hus2, hlen, ?_⟩
          refine ⟨_, _, ls ++ [b], rfl, (nH.upd).new fp, ?_, hU2, LsAt.snoc hus2 hust2 hpb2, nd_snoc hn hbn, fun x => ?_⟩
          · rw [upd_ne (Ne.symm npu), upd_same]
          · rw [List.mem_append, List.mem_singleton]
            by_cases e : x = b
            · subst e
              rw [hat]
              exact ⟨fun _ => ⟨hbS, by omega, by omega⟩, fun _ => .inr rfl⟩
            · rw [decIn_ne hb e, hm x]
              exact ⟨fun q => q.elim id fun z => absurd z e, .inl⟩
        · have h0 := of_decide_eq_false (Bool.eq_false_iff.mpr h0)
          have h0 : c b - ((old + 1 : Nat) : Int) ≠ 0 := fun q => h0 (by rw [q])
          refine ⟨_, _, ls, rfl, nH.upd, upd_same, hU2, ⟨us, hus2, hust2⟩, hn, fun x => ?_⟩
          by_cases e : x = b
          · subst e
            rw [hm x, hat, eold]
            exact ⟨fun q => absurd q.2.2 (by omega), fun q => absurd q.2.2 (by omega)⟩
          · rw [decIn_ne hb e, hm x]
      · rintro σ H' ⟨v5, kvsU', ls, rfl, nH, hu', hU', hL, hn, hm⟩
        rw [paired_length hst] at hU' hm
        refine ⟨_, _, kvsU', ls, rfl, nH, hu', DS.imp hU' (fun x hx v e => by rw [e, decIn_end ht hx]), hL, hn, fun x => ?_⟩
        rw [hm x]
        constructor
        · rintro ⟨h1, h2⟩
          rw [decIn_end ht h1]
          exact ⟨h1, h2⟩
        · rintro ⟨h1, h2⟩
          rw [decIn_end ht h1] at h2
          exact ⟨h1, h2⟩
    · rintro σ H' ⟨v4, v5, kvsU', ls, rfl, nH, hu', hU', hL, hn, hm⟩
      rw [paired_length hls, List.take_length] at hU' hm
      exact ⟨_, rfl, k H' p kvsU' ls nH fp hu' hU' hL hn hm⟩
end
end Ft
namespace Ft
open PySem PySem.Spec PyProof.Rows L2 Uw72
abbrev sSettled : Stmt := top 27
/-- worths and lengths under stands: those that are told, in some order -/
def SetD (H : Hp) (f : Stand → Nat × Nat) (kvs : List (List Key × V)) (S : List Stand) : Prop :=
  ∃ T : List Stand, DS (fun s v => ∃ p, v = .ref p ∧ H p = some (.tup [.int (f s).1, .int (f s).2])) kvs T ∧ T.Nodup ∧ ∀ s, s ∈ T ↔ s ∈ S ∧ (f s).1 ≠ 0
structure Cst (mg : Str → Option Value) : Prop where
  ever : ∃ t, mg "FOR_EVER" = some (.int 0 t)
  won : ∃ t, mg "WON" = some (.int 1 t)
  lost : ∃ t, mg "LOST" = some (.int 2 t)

/-- all but what is at t, which was not there before -/
theorem near_same {H H1 H' : Hp} {t : Addr} (a : Same H H1) (b : Near t H1 H') (ht : H t = none) : Same H H' := fun c o e => b c o (ne_of_none e ht) (a c o e)
theorem DL.near {H H' : Hp} {f : Stand → List Stand} {kvs : List (List Key × V)} {S : List Stand} {t : Addr} {kt : List (List Key × V)} (h : DL H f kvs S) (n : Near t H H') (ht : H t = some (.dT kt)) : DL H' f kvs S :=
  DS.imp h fun s _ v ⟨l, e, vs, hv, q⟩ => ⟨l, e, LsAt.near ⟨vs, hv, q⟩ n (fun xs z => by rw [ht] at z; cases z) (ne_of hv ht (by intro z; cases z))⟩
def Rg (H : Hp) (g : Stand → Nat × Nat) (s : Stand) (v : V) : Prop := ∃ p, v = .ref p ∧ H p = some (.tup [.int (g s).1, .int (g s).2])
theorem set_step {H' : Hp} {t p : Addr} {kvs : List (List Key × V)} {T ls : List Stand} {i : Nat} {x : Stand} {g : Stand → Nat × Nat} {w l : Nat} (ht : H' t = some (.dT kvs)) (hp : H' p = none) (hD : DS (Rg H' g) kvs (T ++ ls.take i)) (hx : ls[i]? = some x) (hn : (T ++ ls).Nodup) (hg : g x = (w, l)) :
    DS (Rg (upd (upd H' p (.tup [.int w, .int l])) t (.dT (putK kvs (skey x) (.ref p)))) g) (putK kvs (skey x) (.ref p)) (T ++ ls.take (i + 1)) := by
  have tq : Tups H' (upd (upd H' p (.tup [.int w, .int l])) t (.dT (putK kvs (skey x) (.ref p)))) := (Tups.of (Same.new hp)).upd fun xs e => by rw [Same.new hp _ _ ht] at e; cases e
  have e : T ++ ls.take (i + 1) = (T ++ ls.take i) ++ [x] := by
    rw [List.take_add_one, hx, List.append_assoc]
    rfl
  rw [e]
  obtain ⟨n1, n2, n3⟩ := List.nodup_append.mp hn
  refine DS.new (DS.imp hD fun s _ v ⟨q, e1, e2⟩ => ⟨q, e1, tq _ _ e2⟩) (fun hm => ?_) ⟨p, rfl, ?_⟩
  · rcases List.mem_append.mp hm with z | z
    · exact n3 x z x (List.mem_of_getElem? hx) rfl
    · exact not_mem_take n2 hx z
  · rw [hg, upd_ne (fun z => by rw [z, ht] at hp; cases hp), upd_same]
/-- behind a loop that told all of ls -/
theorem set_done {H' : Hp} {kvs : List (List Key × V)} {T ls S : List Stand} {f f' : Stand → Nat × Nat} {w l : Nat} (hw : w ≠ 0) (hD : DS (Rg H' fun s => if s ∈ ls then (w, l) else f s) kvs (T ++ ls)) (hn : (T ++ ls).Nodup) (hT : ∀ s, s ∈ T ↔ s ∈ S ∧ (f s).1 ≠ 0) (hls : ∀ x ∈ ls, x ∈ S)
    (hf : ∀ s ∈ S, (if s ∈ ls then (w, l) else f s) = f' s) : SetD H' f' kvs S := by
  have mem : ∀ s, s ∈ T ++ ls → s ∈ S := fun s hs => (List.mem_append.mp hs).elim (fun z => ((hT s).mp z).1) (hls s)
  refine ⟨T ++ ls, DS.imp hD fun s hs v ⟨p, e1, e2⟩ => ⟨p, e1, ?_⟩, hn, fun s => ⟨fun hs => ⟨mem s hs, ?_⟩, fun ⟨hs, h0⟩ => ?_⟩⟩
  · rw [← hf s (mem s hs)]
    exact e2
  · rw [← hf s (mem s hs)]
    by_cases z : s ∈ ls
    · rw [if_pos z]
      exact hw
    · rw [if_neg z]
      exact ((hT s).mp ((List.mem_append.mp hs).resolve_right z)).2
  · rw [← hf s hs] at h0
    by_cases z : s ∈ ls
    · exact List.mem_append_right _ z
    · rw [if_neg z] at h0
      exact List.mem_append_left _ ((hT s).mpr ⟨hs, h0⟩)
theorem SetD.tups {H H' : Hp} {f : Stand → Nat × Nat} {kvs : List (List Key × V)} {S : List Stand} (h : SetD H f kvs S) (t : Tups H H') : SetD H' f kvs S := by
  obtain ⟨T, hD, hn, hm⟩ := h
  exact ⟨T, DS.imp hD fun s _ v ⟨p, e1, e2⟩ => ⟨p, e1, t _ _ e2⟩, hn, hm⟩
theorem SetD.none_iff {H : Hp} {f : Stand → Nat × Nat} {kvs : List (List Key × V)} {S : List Stand} (h : SetD H f kvs S) (x : Stand) : valV kvs (skey x) = none ↔ (x ∈ S → (f x).1 = 0) := by
  obtain ⟨T, hD, hn, hm⟩ := h
  constructor
  · intro e hx
    refine Decidable.byContradiction fun q => ?_
    obtain ⟨v, hv, _⟩ := hD.get ((hm x).mpr ⟨hx, q⟩)
    rw [e] at hv
    cases hv
  · intro h
    refine hD.none fun hx => ?_
    obtain ⟨h1, h2⟩ := (hm x).mp hx
    exact h2 (h h1)
/-- what holds ahead of each turn of the while -/
structure Loop (H : Hp) (r : Rules) (S : List Stand) (a u t : Addr) (j : Nat) (l : Addr) (H' : Hp) : Prop where
  same : Same H H'
  ah : ∃ kvsA, H' a = some (.dT kvsA) ∧ DL H' (srcs r S) kvsA S
  un : ∃ kvsU, H' u = some (.dT kvsU) ∧ DS (fun s v => v = .int (left r (2 * j) s)) kvsU S
  st : ∃ kvsS, H' t = some (.dT kvsS) ∧ SetD H' (vl r (2 * j)) kvsS S
  ls : ∃ ls, LsAt H' l ls ∧ ls.Nodup ∧ ∀ x, x ∈ ls ↔ x ∈ S ∧ AtR r (2 * j) x
section
variable {P : Program} {w : World} {K : PySem.W.Frag} {mg : Str → Option Value} {base : Heap}
def spSettled : Sp := fun vs H Q _ => ∃ (r : Rules), vs = [.int r.full, .int r.over, .int r.shares] ∧ ROk r ∧
  ∀ (H' : Hp) (d : Addr) (kvs : List (List Key × V)), Same H H' → H d = none → H' d = some (.dT kvs) → SetD H' (worthIn r (table r)) kvs (allStands r) → Q (.ref d) H'
theorem scSettled : FnScope ["full", "over", "shares", "turns", "unsettled", "stand", "ahead", "settled", "lost", "length", "won"] ["full", "over", "shares"] (defScope sSettled) := ⟨rfl, rfl, rfl, by decide +kernel, rfl, by decide +kernel, by decide +kernel⟩
def cScope : Scope := { kind := .function, names := [(".0", .local), ("stand", .local), ("len", .globalImplicit), ("turns", .free)], isGenerator := false, isCoroutine := false, more := [] }
/-- the comprehension's test -/
def tLenZ (K : PySem.W.Frag) : TT := tTest (tOp rEq (tCB (fun xs H Q => ∃ p ys, xs = [V.ref p] ∧ (SqL K H p ys ∨ SqT K H p ys) ∧ Q (.int ys.length) H) (tCons (tDGet (tVar 3) (tVar 5)) tNil)) (tC (.int 0)))
theorem cOk : BlkOk ["full", "over", "shares", "turns", "unsettled", "stand", "ahead", "settled", "lost", "length", "won"] (defScope sSettled) cScope [("stand", 5)] := by
  refine ⟨rfl, by decide +kernel, by decide +kernel, by decide +kernel, by decide +kernel⟩
theorem ok_settled {f f1 f2 f3 f4 f5 : Addr} {fd fd1 fd2 fd3 fd4 fd5 : FuncData} (F : Fun K "settled_stands" "settled_stands" sSettled f fd) (B : Blt mg) (C : Cst mg)
    (D1 : Def K mg "all_stands" sStands ["full"] f1 fd1) (D2 : Def K mg "stands_by_turns" sByTurns ["stand", "full", "over", "shares"] f2 fd2) (D3 : Def K mg "stands_ahead" sAhead ["turns"] f3 fd3)
    (D4 : Def K mg "newly_won" sWon ["lost", "ahead", "settled"] f4 fd4) (D5 : Def K mg "newly_lost" sLost ["won", "ahead", "unsettled"] f5 fd5)
    (G1 : FnOk P w K mg base CX0 2 f1 fd1 ["full"] spStands) (G2 : FnOk P w K mg base CX0 3 f2 fd2 ["stand", "full", "over", "shares"] spByTurns) (G3 : FnOk P w K mg base CX0 1 f3 fd3 ["turns"] spAhead)
    (G4 : FnOk P w K mg base CX0 1 f4 fd4 ["lost", "ahead", "settled"] spWon) (G5 : FnOk P w K mg base CX0 1 f5 fd5 ["won", "ahead", "unsettled"] spLost) : FnOk P w K mg base CX0 4 f fd ["full", "over", "shares"] spSettled := by
  refine F.ok scSettled (fun vs H Q E h => ?_) (fun cdv A outer s H vs Q E hr h => ?_)
  · obtain ⟨r, rfl, _⟩ := h
    rfl
  · obtain ⟨r, rfl, hr0, k⟩ := h
    have hu := hu_of hr
    have hr1 : Room 1 _ := hr.mono (by decide)
    have hr2 : Room 2 _ := hr.mono (by decide)
    obtain ⟨tW, hW⟩ := C.won
    obtain ⟨tL, hL⟩ := C.lost
    refine ⟨_, pss_cons (ps_set (i := 3) scSettled.nd rfl (Or.inr rfl) pe_dnewT)
      (pss_cons (ps_set (i := 4) scSettled.nd rfl (Or.inl rfl) pe_dnewT)
      (pss_cons (ps_for PassesOwn.never rfl (pi_list (pe_call G1 hr2 rfl D1.m D1.F.kp D1.b .nil pass0 (pa_cons (pv 0) pa_nil))) (pg_name (i := 5) scSettled.nd rfl (Or.inl rfl))
        (pss_cons (ps_dput hu (pv 3) (pv 5) (pe_call G2 hr rfl D2.m D2.F.kp D2.b .nil pass0 (pa_cons (pv 5) (pa_cons (pv 0) (pa_cons (pv 1) (pa_cons (pv 2) pa_nil))))) rfl)
        (pss_one (ps_dput hu (pv 4) (pv 5) (pe_callB call_len_seq rfl B.len PySem.boot_len (pa_cons (pe_dget hu (pv 3) (pv 5) (fun _ _ => rfl)) pa_nil)) rfl))))
      (pss_cons (ps_set (i := 6) scSettled.nd rfl (Or.inl rfl) (pe_call G3 hr1 rfl D3.m D3.F.kp D3.b .nil pass0 (pa_cons (pv 3) pa_nil)))
      (pss_cons (ps_set (i := 7) scSettled.nd rfl (Or.inl rfl) pe_dnewT)
      (pss_cons (ps_lock (ps_setLc (i := 8) (tt := tLenZ K) rfl scSettled.nd rfl rfl (sw_true rfl rfl rfl rfl) (pi_keys (pv 3)) cOk (fun _ _ _ _ _ => pg_name (i := 5) scSettled.nd rfl (Or.inl rfl))
          (fun _ _ _ _ _ => pts_one (pt_cmpR op_eq (pe_callB call_len_seq rfl B.len PySem.boot_len (pa_cons (pe_dget hu (pv 3) (pv 5) (fun _ _ => rfl)) pa_nil)) pe_int (nomark _))) (fun _ _ _ _ _ => pv 5)))
      (pss_cons (ps_set (i := 9) scSettled.nd rfl (Or.inl rfl) pe_int)
      (pss_cons (ps_while PassesOwn.never (pt_cmpR op_gt (pe_callB call_len_seq rfl B.len PySem.boot_len (pa_cons (pv 8) pa_nil)) pe_int (nomark _))
        (pss_cons (ps_for PassesOwn.never rfl (pi_list (pv 8)) (pg_name (i := 5) scSettled.nd rfl (Or.inl rfl)) (pss_one (ps_dput hu (pv 7) (pv 5) (pe_tup (pa_cons (pe_glob (v := .int 2) rfl hL ⟨_, rfl⟩) (pa_cons (pv 9) pa_nil))) rfl)))
        (pss_cons (ps_set (i := 10) scSettled.nd rfl (Or.inl rfl) (pe_call G4 hr1 rfl D4.m D4.F.kp D4.b .nil pass0 (pa_cons (pv 8) (pa_cons (pv 6) (pa_cons (pv 7) pa_nil)))))
        (pss_cons (ps_for PassesOwn.never rfl (pi_list (pv 10)) (pg_name (i := 5) scSettled.nd rfl (Or.inl rfl)) (pss_one (ps_dput hu (pv 7) (pv 5) (pe_tup (pa_cons (pe_glob (v := .int 1) rfl hW ⟨_, rfl⟩) (pa_cons (pe_op op_add (pv 9) pe_int) pa_nil))) rfl)))
        (pss_cons (ps_set (i := 8) scSettled.nd rfl (Or.inl rfl) (pe_call G5 hr1 rfl D5.m D5.F.kp D5.b .nil pass0 (pa_cons (pv 10) (pa_cons (pv 6) (pa_cons (pv 4) pa_nil)))))
        (pss_one (ps_set (i := 9) scSettled.nd rfl (Or.inl rfl) (pe_op op_add (pv 9) pe_int))))))))
      (pss_one (ps_ret (pv 7)))))))))), ?_⟩
    have hSl := allStands_length r hr0.hi
    have hSn := allStands_nodup r
    have hSc := stands_closed (r := r)
    have hSt : ∀ x ∈ allStands r, (turnsP r x).Nodup := fun x hx => turnsP_nodup hr0 (mem_allStands.mp hx)
    have hSo : ∀ x ∈ allStands r, SOk r x := fun x hx => mem_allStands.mp hx
    have hTab : ∀ k, Rest (turnsP r) (allStands r) k → ∀ x ∈ allStands r, worthIn r (table r) x = vl r k x := fun k hk x hx => table_val hr0 hk hx
    -- turns = {}; unsettled = {}
    intro d fd0
    have s1 := Same.new (o := .dT []) fd0
    intro u fu1
    have s2 := Same.new (o := .dT []) fu1
    have fu0 : H u = none := s1.free fu1
    have ndu : d ≠ u := fun z => by rw [← z, upd_same] at fu1; cases fu1
    -- for stand in all_stands(full)
    refine ⟨_, rfl, r, rfl, hr0, fun H3 ps s3 f3 L3 => ?_⟩
    obtain ⟨pv3, hps, hpst⟩ := L3
    have s13 := (s1.trans s2).trans s3
    have hd3 : H3 d = some (.dT []) := s3 _ _ (s2 _ _ upd_same)
    have hu3 : H3 u = some (.dT []) := s3 _ _ upd_same
    have fps0 : H ps = none := (s1.trans s2).free f3
    refine ⟨ps, rfl, ⟨_, SqL.of hps⟩, for_list (K := K) (a := ps) (xs := pv3) (fun i σ H' => ∃ (v5 : Option V) (kvsT kvsU : List (List Key × V)), σ = [some (.int r.full), some (.int r.over), some (.int r.shares), some (.ref d), some (.ref u), v5, none, none, none, none, none] ∧ Same H H' ∧ H' ps = some (.lst pv3) ∧ StsAt H' pv3 (allStands r) ∧
        H' d = some (.dT kvsT) ∧ DL H' (turnsP r) kvsT ((allStands r).take i) ∧ H' u = some (.dT kvsU) ∧ DS (fun s v => v = .int ((turnsP r s).length : Nat)) kvsU ((allStands r).take i))
      ⟨none, [], [], rfl, s13, hps, hpst, hd3, .nil, hu3, .nil⟩ (fun i σ H' _ ⟨_, _, _, _, _, q, _⟩ => SqL.of q) ?_ ?_⟩
    · rintro i y σ H' hi ⟨v5, kvsT, kvsU, rfl, sH, hps, hpst, hd, hD, hu', hU⟩
      obtain ⟨x, hx, pt, ey, hpt⟩ := paired_get' hpst hi
      subst ey
      have hxS : x ∈ allStands r := List.mem_of_getElem? hx
      have hxn : x ∉ (allStands r).take i := not_mem_take hSn hx
      have etake : (allStands r).take (i + 1) = (allStands r).take i ++ [x] := by rw [List.take_add_one, hx]; rfl
      have hlT : kvsT.length < sizeLine := by rw [paired_length hD, List.length_take]; exact len784 (by omega)
      have hlU : kvsU.length < sizeLine := by rw [paired_length hU, List.length_take]; exact len784 (by omega)
      refine ⟨_, rfl, _, rfl, _, rfl, _, rfl, pt, x, r, rfl, hr0, hSo x hxS, hpt, fun H2 lx s2 f2 L2 => ?_⟩
      refine ⟨_, rfl, _, rfl, d, _, rfl, DPut.t (k := skey x) (s2 _ _ hd) (s2 _ _ hpt) hlT, ?_⟩
      have nlxd : lx ≠ d := fun z => by rw [z, hd] at f2; cases f2
      have n2 : Near d H2 (upd H2 d (.dT (putK kvsT (skey x) (.ref lx)))) := Near.upd (Near.of (Same.refl _))
      have t2 : Tups H2 (upd H2 d (.dT (putK kvsT (skey x) (.ref lx)))) := n2.tups fun xs e => by rw [s2 _ _ hd] at e; cases e
      have hD2 : DL (upd H2 d (.dT (putK kvsT (skey x) (.ref lx)))) (turnsP r) (putK kvsT (skey x) (.ref lx)) ((allStands r).take (i + 1)) := by
        rw [etake]
        exact DS.new (DL.near (hD.mono s2) n2 (s2 _ _ hd)) hxn ⟨lx, rfl, L2.near n2 (fun xs e => by rw [s2 _ _ hd] at e; cases e) nlxd⟩
      obtain ⟨v', hv', lx', ev', us, hus, hust⟩ := hD2.get (s := x) (by rw [etake]; simp)
      subst ev'
      refine ⟨_, rfl, _, rfl, d, _, rfl, (by rw [← hv']; exact DGet.t upd_same (t2 _ _ (s2 _ _ hpt))), lx', us, rfl, .inl (SqL.of hus), _, rfl, _, rfl, u, _, rfl, DPut.t (k := skey x) (by rw [upd_ne (Ne.symm ndu)]; exact s2 _ _ hu') (t2 _ _ (s2 _ _ hpt)) hlU, ?_⟩
      have n3 : Near u (upd H2 d (.dT (putK kvsT (skey x) (.ref lx)))) (upd (upd H2 d (.dT (putK kvsT (skey x) (.ref lx)))) u (.dT (putK kvsU (skey x) (.int (us.length : Nat))))) := Near.upd (Near.of (Same.refl _))
      have hu2 : (upd H2 d (.dT (putK kvsT (skey x) (.ref lx)))) u = some (.dT kvsU) := by rw [upd_ne (Ne.symm ndu)]; exact s2 _ _ hu'
      have t3 := n3.tups fun xs e => by rw [hu2] at e; cases e
      refine ⟨_, _, _, rfl, near_same (near_same (sH.trans s2) n2 fd0) n3 fu0, ?_, StsAt.mono (StsAt.mono (StsAt.mono hpst (Tups.of s2)) t2) t3, ?_, DL.near hD2 n3 hu2, upd_same, ?_⟩
      · rw [upd_ne (fun z => by rw [z, hu'] at hps; cases hps), upd_ne (fun z => by rw [z, hd] at hps; cases hps)]
        exact s2 _ _ hps
      · rw [upd_ne ndu, upd_same]
      · rw [etake]
        refine DS.new hU hxn ?_
        rw [paired_length hust]
    rintro σ H4 ⟨v5, kvsT, kvsU, rfl, s4, hps4, hpst4, hd4, hD4, hu4, hU4⟩
    rw [paired_length hpst4, List.take_length] at hD4 hU4
    -- ahead = stands_ahead(turns); settled = {}
    refine ⟨_, rfl, d, kvsT, r, rfl, hr0, hd4, hD4, fun H5 a kvsA s5 fa4 ha5 hA5 => ?_⟩
    have fa0 : H a = none := s4.free fa4
    intro t ft5
    have ft0 : H t = none := (s4.trans s5).free ft5
    have s6 := Same.new (o := .dT []) ft5
    have nau : a ≠ u := fun z => by rw [z, hu4] at fa4; cases fa4
    have nat : a ≠ t := ne_of_none ha5 ft5
    have nut : u ≠ t := ne_of_none (s5 _ _ hu4) ft5
    have ndt : d ≠ t := ne_of_none (s5 _ _ hd4) ft5
    have hd6 := s6 _ _ (s5 _ _ hd4)
    have hu6 := s6 _ _ (s5 _ _ hu4)
    have ha6 := s6 _ _ ha5
    have hD6 : DL _ (turnsP r) kvsT (allStands r) := hD4.mono (s5.trans s6)
    have hA6 : DL _ (srcs r (allStands r)) kvsA (allStands r) := hA5.mono s6
    have ht6 : (upd H5 t (.dT [])) t = some (.dT []) := upd_same
    have s06 := (s4.trans s5).trans s6
    generalize upd H5 t (.dT []) = H6 at s6 hd6 hu6 ha6 hD6 hA6 ht6 s06
    -- lost = [..]
    refine ⟨d, .dT kvsT, hd6, True.intro, fun od => ?_⟩
    refine ⟨_, rfl, d, od, rfl, .inr ⟨kvsT, upd_same, fun l fl => ?_⟩⟩
    have nld : l ≠ d := fun z => by rw [z, upd_same] at fl; cases fl
    have fl6 : H6 l = none := by rw [upd_ne nld] at fl; exact fl
    have n6 : Near d H6 (upd H6 d (.frz od (.dT kvsT))) := Near.upd (Near.of (Same.refl _))
    have nd6 : ∀ xs, H6 d ≠ some (.tup xs) := fun xs e => by rw [hd6] at e; cases e
    refine lc_keysT (fun i H' => Near d H6 H' ∧ H' d = some (.frz od (.dT kvsT)) ∧ LsAt H' l (((allStands r).take i).filter fun x => decide (turnsP r x = []))) ⟨n6.new fl6, (by rw [upd_ne (Ne.symm nld), upd_same]), [], upd_same, .nil⟩ (fun i H' _ q => q.2.1) ?_ ?_
    · rintro i key v q H' hi hq ⟨nH, hdf, ws, hws, hwst⟩
      obtain ⟨x, hx, ek, lx, ev, us, hus, hust⟩ := paired_get' hD6 hi
      have ek : key = skey x := ek
      have ev : v = .ref lx := ev
      subst ek ev
      have hxS : x ∈ allStands r := List.mem_of_getElem? hx
      obtain ⟨v', hv', lx', ev', us', hus', hust'⟩ := hD6.get hxS
      subst ev'
      have nlx : lx' ≠ d := ne_of hus' hd6 (by intro z; cases z)
      have efil : ((allStands r).take (i + 1)).filter (fun x => decide (turnsP r x = [])) = ((allStands r).take i).filter (fun x => decide (turnsP r x = [])) ++ (if turnsP r x = [] then [x] else []) := by
        rw [List.take_add_one, hx, List.filter_append]
        congr 1
        by_cases z : turnsP r x = []
        · simp [z]
        · simp [z]
      refine ⟨rfl, _, rfl, _, rfl, d, _, rfl, (by rw [← hv']; exact DGet.rt (.inr ⟨od, hdf⟩) hq), lx', us', rfl, .inl (SqL.of (nH _ _ nlx hus')), rfl, _, rfl, ?_⟩
      have elen : us'.length = (turnsP r x).length := paired_length hust'
      refine ite2 (fun h0 => ?_) (fun h0 => ?_)
      · have h0 := of_decide_eq_true h0
        injection h0 with h0
        have z : turnsP r x = [] := List.eq_nil_of_length_eq_zero (by omega)
        rw [if_pos z] at efil
        have hlen : ws.length < sizeLine := by
          rw [paired_length hwst]
          refine len784 (Nat.le_trans (List.length_filter_le _ _) ?_)
          rw [List.length_take]
          omega
        refine ⟨_, rfl, ws, hws, hlen, nH.new fl6, ?_, ?_⟩
        · rw [upd_ne (Ne.symm nld)]
          exact hdf
        · rw [efil]
          exact LsAt.snoc hws hwst hq
      · have h0 := of_decide_eq_false (Bool.eq_false_iff.mpr h0)
        have z : ¬ turnsP r x = [] := fun z => h0 (by rw [elen, z]; rfl)
        rw [if_neg z, List.append_nil] at efil
        exact ⟨nH, hdf, ws, hws, by rw [efil]; exact hwst⟩
    rintro H7 ⟨n7, hdf, L7⟩
    rw [paired_length hD6, List.take_length] at L7
    refine ⟨hdf, ?_⟩
    have s7 : Same H6 (upd H7 d (.dT kvsT)) := n7.back hd6
    have L7' : LsAt (upd H7 d (.dT kvsT)) l ((allStands r).filter fun x => decide (turnsP r x = [])) := L7.near (Near.upd (Near.of (Same.refl _))) (fun xs e => by rw [hdf] at e; cases e) nld
    -- length = 0; while
    have W0 : Loop H r (allStands r) a u t 0 l (upd H7 d (.dT kvsT)) := by
      refine ⟨s06.trans s7, ⟨kvsA, s7 _ _ ha6, hA6.mono s7⟩, ⟨kvsU, s7 _ _ hu6, DS.imp hU4 fun x _ v e => ?_⟩, ⟨[], s7 _ _ ht6, [], .nil, List.nodup_nil, fun x => ⟨fun z => (by cases z), fun z => absurd rfl z.2⟩⟩, _, L7', List.Pairwise.filter _ hSn, fun x => ?_⟩
      · rw [e, Nat.mul_zero, left_zero]
      · rw [List.mem_filter, decide_eq_true_eq]
        exact ⟨fun z => ⟨z.1, at_zero.mpr z.2⟩, fun z => ⟨z.1, at_zero.mp z.2⟩⟩
    refine ⟨fun m σ H' => ∃ (j : Nat) (v5 v10 : Option V) (l : Addr), m = (allStands r).length - cnt (turnsP r) (allStands r) (2 * j) ∧ σ = [some (.int r.full), some (.int r.over), some (.int r.shares), some (.ref d), some (.ref u), v5, some (.ref a), some (.ref t), some (.ref l), some (.int ((2 * j : Nat) : Int)), v10] ∧ Loop H r (allStands r) a u t j l H', ⟨_, 0, _, _, l, rfl, rfl, W0⟩, ?_⟩
    rintro m σ H' ⟨j, v5, v10, l, rfl, rfl, X⟩
    obtain ⟨sH, ⟨kvsA, ha, hA⟩, ⟨kvsU, hu', hU⟩, ⟨kvsS, ht, hSet⟩, ls, ⟨lv, hl, hlst⟩, hln, hlm⟩ := X
    refine ⟨_, rfl, l, lv, rfl, .inl (SqL.of hl), _, _, rfl, rfl, _, rfl, ?_⟩
    refine ite2 (fun h0 => ?_) (fun h0 => ?_)
    · have h0 := of_decide_eq_true h0
      obtain ⟨x0, hx0⟩ : ∃ x, x ∈ ls := List.exists_mem_of_ne_nil _ fun z => by rw [z] at hlst; have := paired_length hlst; rw [this] at h0; simp at h0
      refine ⟨fun σ' H2 => ∃ (v5 v10 : Option V) (l : Addr), σ' = [some (.int r.full), some (.int r.over), some (.int r.shares), some (.ref d), some (.ref u), v5, some (.ref a), some (.ref t), some (.ref l), some (.int ((2 * (j + 1) : Nat) : Int)), v10] ∧ Loop H r (allStands r) a u t (j + 1) l H2,
        fun σ' H2 ⟨v5, v10, l, e, X⟩ => ⟨_, cnt_next ((hlm x0).mp hx0).1 ((hlm x0).mp hx0).2, j + 1, v5, v10, l, rfl, e, X⟩, ?_⟩
      obtain ⟨T, hT, hTn, hTm⟩ := hSet
      have hlS : ∀ x ∈ ls, x ∈ allStands r := fun x hx => ((hlm x).mp hx).1
      have hTl : (T ++ ls).Nodup := List.nodup_append.mpr ⟨hTn, hln, fun x hx y hy e => by subst e; exact ((hTm x).mp hx).2 ((hlm x).mp hy).2.1⟩
      have lenT : ∀ {T ls : List Stand} {i : Nat}, (T ++ ls).Nodup → (∀ x ∈ T ++ ls, x ∈ allStands r) → (T ++ ls.take i).length < sizeLine := fun {T ls i} hn hs => by
        have h1 := nodup_len hn hs
        rw [List.length_append] at h1 ⊢
        rw [List.length_take]
        exact len784 (by omega)
      have ntt : ∀ xs, H' t ≠ some (.tup xs) := fun xs e => by rw [ht] at e; cases e
      have nlt : l ≠ t := ne_of hl ht (by intro z; cases z)
      -- for stand in lost: settled[stand] = (LOST, length)
      refine ⟨_, rfl, l, rfl, ⟨_, SqL.of hl⟩, for_list (K := K) (a := l) (xs := lv) (fun i σ H2 => ∃ (v5 : Option V) (kvs2 : List (List Key × V)), σ = [some (.int r.full), some (.int r.over), some (.int r.shares), some (.ref d), some (.ref u), v5, some (.ref a), some (.ref t), some (.ref l), some (.int ((2 * j : Nat) : Int)), v10] ∧ Near t H' H2 ∧ H2 t = some (.dT kvs2) ∧
          DS (Rg H2 fun s => if s ∈ ls then (2, 2 * j) else vl r (2 * j) s) kvs2 (T ++ ls.take i))
        ⟨v5, kvsS, rfl, Near.of (Same.refl _), ht, (by
          rw [List.take_zero, List.append_nil]
          refine DS.imp hT fun x hx v ⟨p, e1, e2⟩ => ⟨p, e1, ?_⟩
          have nx : x ∉ ls := fun z => ((hTm x).mp hx).2 ((hlm x).mp z).2.1
          simp only [if_neg nx]
          exact e2)⟩ (fun i σ H2 _ ⟨_, _, _, n, _⟩ => SqL.of (n _ _ nlt hl)) ?_ ?_⟩
      · rintro i y σ H2 hi ⟨v5, kvs2, rfl, n2, ht2, hD2⟩
        obtain ⟨x, hx, px, ey, hpx⟩ := paired_get' hlst hi
        subst ey
        have hpx2 := n2.tups ntt _ _ hpx
        refine ⟨_, rfl, (by show 2 ≤ sizeLine; decide), fun p fp => ?_⟩
        have sp := Same.new (o := .tup [V.int ((2 : Nat) : Int), V.int ((2 * j : Nat) : Int)]) fp
        have np0 : p ≠ t := fun z => by rw [z, ht2] at fp; cases fp
        refine ⟨_, rfl, _, rfl, t, _, rfl, DPut.t (k := skey x) (sp _ _ ht2) (sp _ _ hpx2) (by rw [paired_length hD2]; exact lenT hTl fun y hy => (List.mem_append.mp hy).elim (fun z => ((hTm y).mp z).1) (hlS y)), ?_⟩
        exact ⟨_, _, rfl, (n2.new (n2.free np0 fp)).upd, upd_same, set_step ht2 fp hD2 hx hTl (by simp only [if_pos (List.mem_of_getElem? hx)])⟩
      rintro σ H2 ⟨v5, kvs2, rfl, n2, ht2, hD2⟩
      rw [paired_length hlst, List.take_length] at hD2
      have Set2 : SetD H2 (vl r (2 * j + 1)) kvs2 (allStands r) := set_done (by decide) hD2 hTl hTm hlS fun x hx => lost_next hlm hx
      have ha2 := n2 _ _ nat ha
      have hA2 : DL H2 (srcs r (allStands r)) kvsA (allStands r) := hA.near n2 ht
      have hu2 := n2 _ _ nut hu'
      have L2 : LsAt H2 l ls := LsAt.near ⟨lv, hl, hlst⟩ n2 ntt nlt
      have sH2 : Same H H2 := near_same sH n2 ft0
      -- won = newly_won(lost, ahead, settled)
      refine ⟨_, rfl, _, rfl, _, rfl, l, a, t, ls, kvsA, kvs2, r, rfl, hr0, L2, hlS, ha2, hA2, ht2, fun H3 pw ws s3 f3 L3 wn wm => ?_⟩
      have wm := ws_is hSc hlm fun x => by rw [wm x, Set2.none_iff]
      have wS : ∀ x ∈ ws, x ∈ allStands r := fun x hx => ((wm x).mp hx).1
      have Set3 := Set2.tups (Tups.of s3)
      have ht3 := s3 _ _ ht2
      obtain ⟨T, hT, hTn, hTm⟩ := Set3
      obtain ⟨wv, hw, hwst⟩ := L3
      have hTl : (T ++ ws).Nodup := List.nodup_append.mpr ⟨hTn, wn, fun x hx y hy e => by subst e; exact ((hTm x).mp hx).2 ((wm x).mp hy).2.1⟩
      have ntt3 : ∀ xs, H3 t ≠ some (.tup xs) := fun xs e => by rw [ht3] at e; cases e
      have nwt : pw ≠ t := ne_of hw ht3 (by intro z; cases z)
      -- for stand in won: settled[stand] = (WON, length + 1)
      refine ⟨_, rfl, pw, rfl, ⟨_, SqL.of hw⟩, for_list (K := K) (a := pw) (xs := wv) (fun i σ H4 => ∃ (v5 : Option V) (kvs4 : List (List Key × V)), σ = [some (.int r.full), some (.int r.over), some (.int r.shares), some (.ref d), some (.ref u), v5, some (.ref a), some (.ref t), some (.ref l), some (.int ((2 * j : Nat) : Int)), some (.ref pw)] ∧ Near t H3 H4 ∧ H4 t = some (.dT kvs4) ∧
          DS (Rg H4 fun s => if s ∈ ws then (1, 2 * j + 1) else vl r (2 * j + 1) s) kvs4 (T ++ ws.take i))
        ⟨v5, kvs2, rfl, Near.of (Same.refl _), ht3, (by
          rw [List.take_zero, List.append_nil]
          refine DS.imp hT fun x hx v ⟨p, e1, e2⟩ => ⟨p, e1, ?_⟩
          have nx : x ∉ ws := fun z => ((hTm x).mp hx).2 ((wm x).mp z).2.1
          simp only [if_neg nx]
          exact e2)⟩ (fun i σ H4 _ ⟨_, _, _, n, _⟩ => SqL.of (n _ _ nwt hw)) ?_ ?_⟩
      · rintro i y σ H4 hi ⟨v5, kvs4, rfl, n4, ht4, hD4⟩
        obtain ⟨x, hx, px, ey, hpx⟩ := paired_get' hwst hi
        subst ey
        have hpx4 := n4.tups ntt3 _ _ hpx
        refine ⟨_, rfl, _, _, rfl, rfl, (by show 2 ≤ sizeLine; decide), fun p fp => ?_⟩
        have e1 : ((2 * j : Nat) : Int) + 1 = ((2 * j + 1 : Nat) : Int) := by omega
        have sp := Same.new (o := .tup [V.int ((1 : Nat) : Int), V.int ((2 * j + 1 : Nat) : Int)]) fp
        have np0 : p ≠ t := fun z => by rw [z, ht4] at fp; cases fp
        dsimp only
        rw [e1]
        refine ⟨_, rfl, _, rfl, t, _, rfl, DPut.t (k := skey x) (sp _ _ ht4) (sp _ _ hpx4) (by rw [paired_length hD4]; exact lenT hTl fun y hy => (List.mem_append.mp hy).elim (fun z => ((hTm y).mp z).1) (wS y)), ?_⟩
        exact ⟨_, _, rfl, (n4.new (n4.free np0 fp)).upd, upd_same, set_step ht4 fp hD4 hx hTl (by simp only [if_pos (List.mem_of_getElem? hx)])⟩
      rintro σ H4 ⟨v5, kvs4, rfl, n4, ht4, hD4⟩
      rw [paired_length hwst, List.take_length] at hD4
      have Set4 : SetD H4 (vl r (2 * (j + 1))) kvs4 (allStands r) := set_done (by decide) hD4 hTl hTm wS fun x hx => won_next wm hx
      have ha3 := s3 _ _ ha2
      have hu3 := s3 _ _ hu2
      have ha4 := n4 _ _ nat ha3
      have hA4 : DL H4 (srcs r (allStands r)) kvsA (allStands r) := (hA2.mono s3).near n4 ht3
      have hu4 := n4 _ _ nut hu3
      have L4 : LsAt H4 pw ws := LsAt.near ⟨wv, hw, hwst⟩ n4 ntt3 nwt
      have sH4 : Same H H4 := near_same (sH2.trans s3) n4 ft0
      -- lost = newly_lost(won, ahead, unsettled)
      have hdec : ∀ x ∈ allStands r, ((dec r ws x : Nat) : Int) ≤ ((left r (2 * j) x : Nat) : Int) := fun x hx => by
        have := left_next hSc hSt wn wm hx
        omega
      refine ⟨_, rfl, _, rfl, _, rfl, pw, a, u, ws, kvsA, kvsU, r, (fun x => ((left r (2 * j) x : Nat) : Int)), rfl, hr0, L4, wn, wS, nau, ha4, hA4, hu4, hU, hdec, fun H5 pl kvsU' ls' n5 f5 hu5 hU5 L5 ln5 lm5 => ?_⟩
      have lm5 := ls_next hSc hSt wn wm lm5
      -- length = length + 2
      have e2 : ((2 * j : Nat) : Int) + 2 = ((2 * (j + 1) : Nat) : Int) := by omega
      refine ⟨_, rfl, _, _, rfl, rfl, ?_⟩
      dsimp only
      rw [e2]
      have t5 : Tups H4 H5 := n5.tups fun xs e => by rw [hu4] at e; cases e
      refine ⟨_, _, pl, rfl, near_same sH4 n5 fu0, ⟨kvsA, n5 _ _ nau ha4, hA4.near n5 hu4⟩, ⟨kvsU', hu5, DS.imp hU5 fun x hx v e => ?_⟩, ⟨kvs4, n5 _ _ (Ne.symm nut) ht4, Set4.tups t5⟩, ls', L5, ln5, lm5⟩
      rw [e]
      have := left_next hSc hSt wn wm hx
      show V.int (((left r (2 * j) x : Nat) : Int) - (dec r ws x : Nat)) = V.int ((left r (2 * (j + 1)) x : Nat) : Int)
      congr 1
      omega
    · -- behind the while
      have h0 := of_decide_eq_false (Bool.eq_false_iff.mpr h0)
      have e0 : ls = [] := List.eq_nil_of_length_eq_zero (by rw [← paired_length hlst]; omega)
      have hrest : Rest (turnsP r) (allStands r) (2 * j) := rest_of_none fun x hx hA => by
        have := (hlm x).mpr ⟨hx, hA⟩
        rw [e0] at this
        cases this
      refine ⟨_, rfl, k H' t kvsS sH ft0 ht ?_⟩
      obtain ⟨T, hT, hTn, hTm⟩ := hSet
      have ew := hTab _ hrest
      refine ⟨T, DS.imp hT fun x hx v ⟨p, e1, e2⟩ => ⟨p, e1, ?_⟩, hTn, fun x => ?_⟩
      · rw [ew x ((hTm x).mp hx).1]
        exact e2
      · rw [hTm x]
        constructor
        · rintro ⟨h1, h2⟩
          exact ⟨h1, by rw [ew x h1]; exact h2⟩
        · rintro ⟨h1, h2⟩
          exact ⟨h1, by rw [ew x h1] at h2; exact h2⟩
end
end Ft
namespace Ft
open PySem PySem.Spec PyProof.Rows L2 Uw72
abbrev sOut : Stmt := top 28
abbrev sBy : Stmt := top 29
/-- a worth and a length -/
def pvals (w : Nat × Nat) : List V := [.int w.1, .int w.2]
section
variable {P : Program} {w : World} {K : PySem.W.Frag} {mg : Str → Option Value} {base : Heap}
def spOut : Sp := fun vs H Q _ => ∃ (p d : Addr) (kvs : List (List Key × V)) (r : Rules) (s : Stand), vs = [.ref p, .ref d] ∧ ROk r ∧ SOk r s ∧ H p = some (.tup (svals s)) ∧ H d = some (.dT kvs) ∧ SetD H (wt r) kvs (allStands r) ∧
  ∀ (H' : Hp) (q : Addr), Same H H' → H' q = some (.tup (pvals (wt r s))) → Q (.ref q) H'
theorem scOut : FnScope ["stand", "settled"] ["stand", "settled"] (defScope sOut) := ⟨rfl, rfl, rfl, by decide +kernel, rfl, by decide +kernel, by decide +kernel⟩
theorem ok_out {f : Addr} {fd : FuncData} (F : Fun K "outcome_of" "outcome_of" sOut f fd) (C : Cst mg) : FnOk P w K mg base CX0 1 f fd ["stand", "settled"] spOut := by
  refine F.ok scOut (fun vs H Q E h => ?_) (fun cdv A outer s H vs Q E hr h => ?_)
  · obtain ⟨p, d, kvs, r, s, rfl, _⟩ := h
    rfl
  · obtain ⟨p, d, kvs, r, st, rfl, hr0, hs0, hp, hd, hS, k⟩ := h
    have hu := hu_of hr
    obtain ⟨tE, hE⟩ := C.ever
    refine ⟨_, pss_one (ps_ret (pe_dget2 hu (pv 1) (pv 0) (pe_tup (pa_cons (pe_glob (v := .int 0) rfl hE ⟨_, rfl⟩) (pa_cons pe_int pa_nil))) ⟨rfl, rfl, rfl, rfl⟩)), ?_⟩
    refine ⟨_, rfl, d, rfl, .inr ⟨_, .inl hd⟩, _, rfl, (by show 2 ≤ sizeLine; decide), fun t ft => ?_⟩
    have s1 := Same.new (o := .tup [V.int 0, V.int 0]) ft
    refine ⟨valV kvs (skey st), DGet.t (s1 _ _ hd) (s1 _ _ hp), ?_⟩
    have hm : st ∈ allStands r := mem_allStands.mpr hs0
    by_cases e : (wt r st).1 = 0
    · have n : valV kvs (skey st) = none := (hS.none_iff st).mpr fun _ => e
      rw [n]
      have ew : wt r st = (0, 0) := (wt_lev hr0 hs0).resolve_right fun z => by omega
      refine k _ t s1 ?_
      rw [ew]
      exact upd_same
    · obtain ⟨T, hD, hn, hT⟩ := hS
      obtain ⟨v, hv, q, eq, hq⟩ := hD.get ((hT st).mpr ⟨hm, e⟩)
      rw [hv, eq]
      exact k _ q s1 (s1 _ _ hq)
def spBy : Sp := fun vs H Q _ => ∃ (p : Addr) (v : Nat × Nat), vs = [.ref p] ∧ H p = some (.tup (pvals v)) ∧ ∀ (H' : Hp) (q : Addr), Same H H' → H' q = some (.tup [.int (sought v).1, .int (sought v).2]) → Q (.ref q) H'
theorem scBy : FnScope ["outcome"] ["outcome"] (defScope sBy) := ⟨rfl, rfl, rfl, by decide +kernel, rfl, by decide +kernel, by decide +kernel⟩
theorem ok_by {f : Addr} {fd : FuncData} (F : Fun K "outcome_by_good_turns" "outcome_by_good_turns" sBy f fd) (C : Cst mg) : FnOk P w K mg base CX0 1 f fd ["outcome"] spBy := by
  refine F.ok scBy (fun vs H Q E h => ?_) (fun cdv A outer s H vs Q E hr h => ?_)
  · obtain ⟨p, v, rfl, _⟩ := h
    rfl
  · obtain ⟨p, v, rfl, hp, k⟩ := h
    obtain ⟨tW, hW⟩ := C.won
    obtain ⟨tL, hL⟩ := C.lost
    refine ⟨_, pss_cons (ps_if (pt_cmpR op_eq (pe_ix ix_tup (pv 0) pe_int (fun _ _ => rfl)) (pe_glob (v := .int 1) rfl hW ⟨_, rfl⟩) (nomark _))
        (pss_one (ps_ret (pe_tup (pa_cons (pe_glob (v := .int 2) rfl hL ⟨_, rfl⟩) (pa_cons (pe_op op_sub (pe_ix ix_tup (pv 0) pe_int (fun _ _ => rfl)) pe_int) pa_nil))))) pss_nil)
      (pss_cons (ps_if (pt_cmpR op_eq (pe_ix ix_tup (pv 0) pe_int (fun _ _ => rfl)) (pe_glob (v := .int 2) rfl hL ⟨_, rfl⟩) (nomark _))
        (pss_one (ps_ret (pe_tup (pa_cons (pe_glob (v := .int 1) rfl hW ⟨_, rfl⟩) (pa_cons (pe_op op_sub (pe_ix ix_tup (pv 0) pe_int (fun _ _ => rfl)) pe_int) pa_nil))))) pss_nil)
      (pss_one (ps_ret (pv 0)))), ?_⟩
    refine ⟨_, rfl, p, _, _, _, rfl, rfl, SqT.of hp, rfl, rfl, _, rfl, ?_⟩
    unfold sought at k
    refine ite2 (fun h1 => ?_) (fun h1 => ?_)
    · have h1 := of_decide_eq_true h1
      injection h1 with h1
      rw [if_pos (by omega)] at k
      refine ⟨_, rfl, p, _, _, _, rfl, rfl, SqT.of hp, rfl, _, _, rfl, rfl, (by show 2 ≤ sizeLine; decide), fun t ft => ?_⟩
      exact k _ t (Same.new ft) upd_same
    · have h1 := of_decide_eq_false (Bool.eq_false_iff.mpr h1)
      have n1 : ¬ v.1 = 1 := fun z => h1 (by rw [z]; rfl)
      rw [if_neg n1] at k
      refine ⟨_, rfl, p, _, _, _, rfl, rfl, SqT.of hp, rfl, rfl, _, rfl, ?_⟩
      refine ite2 (fun h2 => ?_) (fun h2 => ?_)
      · have h2 := of_decide_eq_true h2
        injection h2 with h2
        rw [if_pos (by omega)] at k
        refine ⟨_, rfl, p, _, _, _, rfl, rfl, SqT.of hp, rfl, _, _, rfl, rfl, (by show 2 ≤ sizeLine; decide), fun t ft => ?_⟩
        exact k _ t (Same.new ft) upd_same
      · have h2 := of_decide_eq_false (Bool.eq_false_iff.mpr h2)
        have n2 : ¬ v.1 = 2 := fun z => h2 (by rw [z]; rfl)
        rw [if_neg n2] at k
        exact ⟨_, rfl, k _ p (Same.refl _) hp⟩
end
end Ft
namespace Ft
open PySem PySem.Spec PyProof.Rows L2 Uw72
abbrev sGame : Stmt := top 30
abbrev sInit : Stmt := inClass sGame 0
abbrev sBegin : Stmt := inClass sGame 1
abbrev sBehind : Stmt := inClass sGame 2
abbrev sByRules : Stmt := inClass sGame 3
/-! ### a game as an object -/
def fl (a b c d : V) : List (Str × V) := [("full", a), ("over", b), ("shares", c), ("now", d)]
def gf (r : Rules) (p : Addr) : List (Str × V) := fl (.int r.full) (.int r.over) (.int r.shares) (.ref p)
theorem k_fo : ¬ ("full" : Str) = "over" := by decide +kernel
theorem k_fs : ¬ ("full" : Str) = "shares" := by decide +kernel
theorem k_fn : ¬ ("full" : Str) = "now" := by decide +kernel
theorem k_os : ¬ ("over" : Str) = "shares" := by decide +kernel
theorem k_on : ¬ ("over" : Str) = "now" := by decide +kernel
theorem k_sn : ¬ ("shares" : Str) = "now" := by decide +kernel
theorem fl_full (a b c d x : V) : putF "full" x (fl a b c d) = fl x b c d := by
  simp only [fl, putF, if_true]
theorem fl_over (a b c d x : V) : putF "over" x (fl a b c d) = fl a x c d := by
  simp only [fl, putF, if_true, if_neg k_fo]
theorem fl_shares (a b c d x : V) : putF "shares" x (fl a b c d) = fl a b x d := by
  simp only [fl, putF, if_true, if_neg k_fs, if_neg k_os]
theorem fl_now (a b c d x : V) : putF "now" x (fl a b c d) = fl a b c x := by
  simp only [fl, putF, if_true, if_neg k_fn, if_neg k_on, if_neg k_sn]
theorem fl_new (a b c d : V) : putF "now" d (putF "shares" c (putF "over" b (putF "full" a []))) = fl a b c d := by
  simp only [fl, putF, if_true, if_neg k_fo, if_neg k_fs, if_neg k_os, if_neg k_fn, if_neg k_on, if_neg k_sn]
theorem fl_begin {fs : List (Str × V)} (h : fs = [] ∨ ∃ a b c d, fs = fl a b c d) (a b c d : V) : putF "now" d (putF "shares" c (putF "over" b (putF "full" a fs))) = fl a b c d := by
  rcases h with rfl | ⟨a', b', c', d', rfl⟩
  · exact fl_new a b c d
  · rw [fl_full, fl_over, fl_shares, fl_now]
theorem fl_no {m : Str} (h1 : ¬ m = "full") (h2 : ¬ m = "over") (h3 : ¬ m = "shares") (h4 : ¬ m = "now") (a b c d : V) : (fl a b c d).lookup m = none := by
  simp only [fl, List.lookup, beq_eq_false_iff_ne.mpr h1, beq_eq_false_iff_ne.mpr h2, beq_eq_false_iff_ne.mpr h3, beq_eq_false_iff_ne.mpr h4]
theorem at_full (a b c d : V) : (fl a b c d).lookup ("full" : Str) = some a := by
  simp only [fl, List.lookup, beq_self_eq_true]
theorem at_over (a b c d : V) : (fl a b c d).lookup ("over" : Str) = some b := by
  simp only [fl, List.lookup, beq_self_eq_true, beq_eq_false_iff_ne.mpr (Ne.symm k_fo)]
theorem at_shares (a b c d : V) : (fl a b c d).lookup ("shares" : Str) = some c := by
  simp only [fl, List.lookup, beq_self_eq_true, beq_eq_false_iff_ne.mpr (Ne.symm k_fs), beq_eq_false_iff_ne.mpr (Ne.symm k_os)]
theorem at_now (a b c d : V) : (fl a b c d).lookup ("now" : Str) = some d := by
  simp only [fl, List.lookup, beq_self_eq_true, beq_eq_false_iff_ne.mpr (Ne.symm k_fn), beq_eq_false_iff_ne.mpr (Ne.symm k_on), beq_eq_false_iff_ne.mpr (Ne.symm k_sn)]
/-- a game stands at a -/
def GameAt (C : Addr) (H : Hp) (a : Addr) (g : Uw72.St) : Prop := ∃ dx p, H a = some (.ins C dx (gf g.rules p)) ∧ H p = some (.tup (svals g.stand))
structure GOk (g : Uw72.St) : Prop where
  r : ROk g.rules
  s : SOk g.rules g.stand
structure Txt (K : PySem.W.Frag) (mg : Str → Option Value) (C : Addr) : Prop where
  cl : Cls K C
  nF : NoAttr K C "full"
  nO : NoAttr K C "over"
  nS : NoAttr K C "shares"
  nN : NoAttr K C "now"
  mgC : mg "Game" = some (.ref C)
/-- a method of Game -/
structure Mth (K : PySem.W.Frag) (C : Addr) (m q : Str) (st : Stmt) (ps : List Str) (f : Addr) (fd : FuncData) : Prop where
  F : Fun K m q st f fd
  b : Binds K fd ps []
  m : Meth K C m f
theorem GameAt.same {C : Addr} {H H' : Hp} {a : Addr} {g : Uw72.St} (h : GameAt C H a g) (s : Same H H') : GameAt C H' a g := by
  obtain ⟨dx, p, h1, h2⟩ := h
  exact ⟨dx, p, s _ _ h1, s _ _ h2⟩
section
variable {P : Program} {w : World} {K : PySem.W.Frag} {mg : Str → Option Value} {base : Heap}
/-! ### begin, __init__ -/
def spBegin (C : Addr) : Sp := fun vs H Q _ => ∃ (a dx : Addr) (fs : List (Str × V)) (f o s : Nat), vs = [.ref a, .int f, .int o, .int s] ∧ H a = some (.ins C dx fs) ∧ (fs = [] ∨ ∃ a b c d, fs = fl a b c d) ∧ ∀ H' : Hp, GameAt C H' a ⟨⟨f, o, s⟩, firstStand⟩ → Near a H H' → Q .non H'
theorem scBegin : FnScope ["self", "full", "over", "shares"] ["self", "full", "over", "shares"] (defScope sBegin) := ⟨rfl, rfl, rfl, by decide +kernel, rfl, by decide +kernel, by decide +kernel⟩
theorem ok_begin {f C : Addr} {fd : FuncData} (F : Fun K "begin" "Game.begin" sBegin f fd) (T : Txt K mg C) : FnOk P w K mg base CX0 1 f fd ["self", "full", "over", "shares"] (spBegin C) := by
  refine F.ok scBegin (fun vs H Q E h => ?_) (fun cdv A outer s H vs Q E hr h => ?_)
  · obtain ⟨a, dx, fs, f, o, s, rfl, _⟩ := h
    rfl
  · obtain ⟨a, dx, fs, nf, no, ns, rfl, ha, hfs, k⟩ := h
    refine ⟨_, pss_cons (ps_fld (pv 0) (pv 1) rfl) (pss_cons (ps_fld (pv 0) (pv 2) rfl) (pss_cons (ps_fld (pv 0) (pv 3) rfl)
      (pss_one (ps_fld (pv 0) (pe_tup (pa_cons pe_int (pa_cons pe_int (pa_cons pe_int (pa_cons pe_int pa_nil))))) rfl)))), ?_⟩
    have l0 : fs.length ≤ 4 := by
      rcases hfs with rfl | ⟨_, _, _, _, rfl⟩
      · exact Nat.zero_le _
      · exact Nat.le_refl _
    have l1 := length_putF "full" (.int nf) fs
    have l2 := length_putF "over" (.int no) (putF "full" (.int nf) fs)
    have l3 := length_putF "shares" (.int ns) (putF "over" (.int no) (putF "full" (.int nf) fs))
    refine ⟨_, rfl, _, rfl, a, C, dx, fs, rfl, ha, T.cl, T.nF, by omega, ?_⟩
    refine ⟨_, rfl, _, rfl, a, C, dx, _, rfl, upd_same, T.cl, T.nO, by omega, ?_⟩
    refine ⟨_, rfl, _, rfl, a, C, dx, _, rfl, upd_same, T.cl, T.nS, by omega, ?_⟩
    refine ⟨(by show 4 ≤ sizeLine; decide), fun p fp => ?_⟩
    have na : a ≠ p := fun z => by rw [← z, upd_same] at fp; cases fp
    refine ⟨_, rfl, a, C, dx, _, rfl, (by rw [upd_ne na]; exact upd_same), T.cl, T.nN, by omega, ?_⟩
    refine k _ ⟨dx, p, ?_, ?_⟩ ?_
    · rw [upd_same, fl_begin hfs]
      rfl
    · rw [upd_ne (Ne.symm na), upd_same]
      rfl
    · intro c o hc e
      rw [upd_ne hc] at *
      have e4 : ∀ v1 v2 v3 : HO, (upd (upd (upd H a v1) a v2) a v3) c = some o := fun v1 v2 v3 => by rw [upd_ne hc, upd_ne hc, upd_ne hc]; exact e
      rw [upd_ne (ne_of_none (e4 _ _ _) fp)]
      exact e4 _ _ _
def spInit (C : Addr) : Sp := fun vs H Q _ => ∃ (a dx : Addr), vs = [.ref a] ∧ H a = some (.ins C dx []) ∧ ∀ H' : Hp, GameAt C H' a init → Near a H H' → Q .non H'
theorem scInit : FnScope ["self"] ["self"] (defScope sInit) := ⟨rfl, rfl, rfl, by decide +kernel, rfl, by decide +kernel, by decide +kernel⟩
theorem ok_init {f f1 C : Addr} {fd fd1 : FuncData} (F : Fun K "__init__" "Game.__init__" sInit f fd) (T : Txt K mg C) (M1 : Mth K C "begin" "Game.begin" sBegin ["self", "full", "over", "shares"] f1 fd1)
    (G1 : FnOk P w K mg base CX0 1 f1 fd1 ["self", "full", "over", "shares"] (spBegin C)) : FnOk P w K mg base CX0 2 f fd ["self"] (spInit C) := by
  refine F.ok scInit (fun vs H Q E h => ?_) (fun cdv A outer s H vs Q E hr h => ?_)
  · obtain ⟨a, dx, rfl, _⟩ := h
    rfl
  · obtain ⟨a, dx, rfl, ha, k⟩ := h
    refine ⟨_, pss_one (ps_expr (pe_meth (pv 0) T.cl M1.m G1 hr M1.b .nil pass0 (pa_cons pe_int (pa_cons pe_int (pa_cons pe_int pa_nil))))), ?_⟩
    exact ⟨_, rfl, a, dx, [], rfl, ha, rfl, a, dx, [], 5, 0, 2, rfl, ha, .inl rfl, fun H' g n => k H' g n⟩
/-! ### stands_behind, settled_by_rules -/
def spBehind (C : Addr) : Sp := fun vs H Q _ => ∃ (a : Addr) (g : Uw72.St), vs = [.ref a] ∧ GOk g ∧ GameAt C H a g ∧ ∀ (H' : Hp) (l : Addr), Same H H' → H l = none → LsAt H' l (turnsP g.rules g.stand) → Q (.ref l) H'
theorem scBehind : FnScope ["self"] ["self"] (defScope sBehind) := ⟨rfl, rfl, rfl, by decide +kernel, rfl, by decide +kernel, by decide +kernel⟩
theorem ok_behind {f f1 C : Addr} {fd fd1 : FuncData} (F : Fun K "stands_behind" "Game.stands_behind" sBehind f fd) (T : Txt K mg C) (D1 : Def K mg "stands_by_turns" sByTurns ["stand", "full", "over", "shares"] f1 fd1)
    (G1 : FnOk P w K mg base CX0 3 f1 fd1 ["stand", "full", "over", "shares"] spByTurns) : FnOk P w K mg base CX0 4 f fd ["self"] (spBehind C) := by
  refine F.ok scBehind (fun vs H Q E h => ?_) (fun cdv A outer s H vs Q E hr h => ?_)
  · obtain ⟨a, g, rfl, _⟩ := h
    rfl
  · obtain ⟨a, g, rfl, hg, ⟨dx, p, ha, hp⟩, k⟩ := h
    refine ⟨_, pss_one (ps_ret (pe_call G1 hr rfl D1.m D1.F.kp D1.b .nil pass0 (pa_cons (pe_fld (pv 0) rfl) (pa_cons (pe_fld (pv 0) rfl) (pa_cons (pe_fld (pv 0) rfl) (pa_cons (pe_fld (pv 0) rfl) pa_nil)))))), ?_⟩
    refine ⟨_, rfl, a, C, dx, _, _, rfl, ha, T.cl, T.nN, at_now _ _ _ _, _, rfl, a, C, dx, _, _, rfl, ha, T.cl, T.nF, at_full _ _ _ _, _, rfl, a, C, dx, _, _, rfl, ha, T.cl, T.nO, at_over _ _ _ _, _, rfl, a, C, dx, _, _, rfl, ha, T.cl, T.nS, at_shares _ _ _ _, ?_⟩
    exact ⟨p, g.stand, g.rules, rfl, hg.r, hg.s, hp, fun H' l s f L => k H' l s f L⟩
def spByRules (C : Addr) : Sp := fun vs H Q _ => ∃ (a : Addr) (g : Uw72.St), vs = [.ref a] ∧ GOk g ∧ GameAt C H a g ∧ ∀ (H' : Hp) (d : Addr) (kvs : List (List Key × V)), Same H H' → H d = none → H' d = some (.dT kvs) → SetD H' (wt g.rules) kvs (allStands g.rules) → Q (.ref d) H'
theorem scByRules : FnScope ["self"] ["self"] (defScope sByRules) := ⟨rfl, rfl, rfl, by decide +kernel, rfl, by decide +kernel, by decide +kernel⟩
theorem ok_byRules {f f1 C : Addr} {fd fd1 : FuncData} (F : Fun K "settled_by_rules" "Game.settled_by_rules" sByRules f fd) (T : Txt K mg C) (D1 : Def K mg "settled_stands" sSettled ["full", "over", "shares"] f1 fd1)
    (G1 : FnOk P w K mg base CX0 4 f1 fd1 ["full", "over", "shares"] spSettled) : FnOk P w K mg base CX0 5 f fd ["self"] (spByRules C) := by
  refine F.ok scByRules (fun vs H Q E h => ?_) (fun cdv A outer s H vs Q E hr h => ?_)
  · obtain ⟨a, g, rfl, _⟩ := h
    rfl
  · obtain ⟨a, g, rfl, hg, ⟨dx, p, ha, hp⟩, k⟩ := h
    refine ⟨_, pss_one (ps_ret (pe_call G1 hr rfl D1.m D1.F.kp D1.b .nil pass0 (pa_cons (pe_fld (pv 0) rfl) (pa_cons (pe_fld (pv 0) rfl) (pa_cons (pe_fld (pv 0) rfl) pa_nil))))), ?_⟩
    refine ⟨_, rfl, a, C, dx, _, _, rfl, ha, T.cl, T.nF, at_full _ _ _ _, _, rfl, a, C, dx, _, _, rfl, ha, T.cl, T.nO, at_over _ _ _ _, _, rfl, a, C, dx, _, _, rfl, ha, T.cl, T.nS, at_shares _ _ _ _, ?_⟩
    exact ⟨g.rules, rfl, hg.r, fun H' d kvs s f hd hS => k H' d kvs s f hd hS⟩
end
end Ft
namespace Ft
open PySem PySem.Spec PyProof.Rows L2 Uw72
abbrev sRules : Stmt := inClass sGame 5
abbrev sStand : Stmt := inClass sGame 6
abbrev sTurns : Stmt := inClass sGame 7
abbrev sTake : Stmt := inClass sGame 8
abbrev sWorth : Stmt := inClass sGame 9
/-- numbers that refuse, and the greatest that may be played -/
structure Cst2 (mg : Str → Option Value) : Prop where
  out : ∃ t, mg "OUT_OF_BOUNDS" = some (.int (-1) t)
  turn : ∃ t, mg "NO_SUCH_TURN" = some (.int (-2) t)
  hand : ∃ t, mg "NO_HAND_LEFT" = some (.int (-3) t)
  most : ∃ t, mg "MOST_PLAYED" = some (.int 50 t)
/-- a call is answered: the game behind it, the numbers in a new list -/
def Done (C : Addr) (H : Hp) (a : Addr) (x : Uw72.St × List Int) (Q : VK) : Prop := ∀ (H' : Hp) (l : Addr), Near a H H' → H l = none → GameAt C H' a x.1 → H' l = some (.lst (x.2.map V.int)) → Q (.ref l) H'
theorem Done.at {C : Addr} {H H1 : Hp} {a : Addr} {x : Uw72.St × List Int} {Q : VK} (h : Done C H a x Q) (n : Near a H H1) (g : GameAt C H1 a x.1) {l : Addr} (hl : H1 l = none) {xs : List V} (e : xs = x.2.map V.int) : Q (.ref l) (upd H1 l (.lst xs)) := by
  subst e
  have nla : l ≠ a := fun z => by
    obtain ⟨dx, p, h1, _⟩ := g
    rw [z, h1] at hl
    cases hl
  exact h _ l (n.trans (Near.of (Same.new hl))) (n.free nla hl) (g.same (Same.new hl)) upd_same
theorem GameAt.now {C : Addr} {H : Hp} {a dx p q : Addr} {r : Rules} {s : Stand} (ha : H a = some (.ins C dx (gf r p))) (hq : H q = some (.tup (svals s))) : GameAt C (upd H a (.ins C dx (putF "now" (.ref q) (gf r p)))) a ⟨r, s⟩ := by
  refine ⟨dx, q, ?_, ?_⟩
  · rw [upd_same]
    unfold gf
    rw [fl_now]
  · rw [upd_ne (fun z => by rw [z, ha] at hq; cases hq)]
    exact hq
theorem no_behind (r : Rules) (p : Addr) : (gf r p).lookup ("stands_behind" : Str) = none := fl_no (by decide +kernel) (by decide +kernel) (by decide +kernel) (by decide +kernel) _ _ _ _
theorem no_begin (r : Rules) (p : Addr) : (gf r p).lookup ("begin" : Str) = none := fl_no (by decide +kernel) (by decide +kernel) (by decide +kernel) (by decide +kernel) _ _ _ _
theorem no_byRules (r : Rules) (p : Addr) : (gf r p).lookup ("settled_by_rules" : Str) = none := fl_no (by decide +kernel) (by decide +kernel) (by decide +kernel) (by decide +kernel) _ _ _ _
section
variable {P : Program} {w : World} {K : PySem.W.Frag} {mg : Str → Option Value} {base : Heap}
/-! ### rules -/
def spRules (C : Addr) : Sp := fun vs H Q _ => ∃ (a : Addr) (g : Uw72.St) (f o s : Nat), vs = [.ref a, .int f, .int o, .int s] ∧ GameAt C H a g ∧ Done C H a (step g (.rules f o s)) Q
theorem scRules : FnScope ["self", "full", "over", "shares"] ["self", "full", "over", "shares"] (defScope sRules) := ⟨rfl, rfl, rfl, by decide +kernel, rfl, by decide +kernel, by decide +kernel⟩
theorem ok_rules {f f1 C : Addr} {fd fd1 : FuncData} (F : Fun K "rules" "Game.rules" sRules f fd) (T : Txt K mg C) (c : Cst2 mg) (M1 : Mth K C "begin" "Game.begin" sBegin ["self", "full", "over", "shares"] f1 fd1)
    (G1 : FnOk P w K mg base CX0 1 f1 fd1 ["self", "full", "over", "shares"] (spBegin C)) : FnOk P w K mg base CX0 2 f fd ["self", "full", "over", "shares"] (spRules C) := by
  refine F.ok scRules (fun vs H Q E h => ?_) (fun cdv A outer s H vs Q E hr h => ?_)
  · obtain ⟨a, g, f, o, s, rfl, _⟩ := h
    rfl
  · obtain ⟨a, g, nf, no, ns, rfl, hG, k⟩ := h
    obtain ⟨tB, hB⟩ := c.out
    refine ⟨_, pss_cons (ps_if (pw_or (pt_cmpR op_lt (pv 1) pe_int (nomark _)) (pw_or (pt_cmpR op_gt (pv 1) pe_int (nomark _)) (pw_or (pt_cmpR op_gt (pv 2) pe_int (nomark _)) (pw_or1 (pt_cmpR op_gt (pv 3) pe_int (nomark _)))))).pt
        (pss_one (ps_ret (pe_lst (pa_cons (pe_glob (v := .int (-1)) rfl hB ⟨_, rfl⟩) pa_nil)))) pss_nil)
      (pss_cons (ps_expr (pe_meth (pv 0) T.cl M1.m G1 hr M1.b .nil pass0 (pa_cons (pv 1) (pa_cons (pv 2) (pa_cons (pv 3) pa_nil)))))
      (pss_one (ps_ret (pe_lst (pa_cons pe_int pa_nil))))), ?_⟩
    have e : step g (.rules nf no ns) = if nf < 3 ∨ 7 < nf ∨ 1 < no ∨ 2 < ns then (g, [-1]) else (⟨⟨nf, no, ns⟩, firstStand⟩, [0]) := rfl
    rw [e] at k
    have bad : (nf < 3 ∨ 7 < nf ∨ 1 < no ∨ 2 < ns) → ∀ l, H l = none → Q (.ref l) (upd H l (.lst [V.int (-1)])) := fun hb l hl => by
      rw [if_pos hb] at k
      exact k.at (Near.of (Same.refl _)) hG hl rfl
    have one : 1 ≤ sizeLine := by decide
    refine ⟨_, rfl, _, _, rfl, rfl, _, rfl, ?_⟩
    refine ite2 (fun h1 => iteT ⟨one, fun l hl => bad (.inl (by have := of_decide_eq_true h1; omega)) l hl⟩) (fun h1 => ?_)
    refine ⟨_, rfl, _, _, rfl, rfl, _, rfl, ?_⟩
    refine ite2 (fun h2 => iteT ⟨one, fun l hl => bad (.inr (.inl (by have := of_decide_eq_true h2; omega))) l hl⟩) (fun h2 => ?_)
    refine ⟨_, rfl, _, _, rfl, rfl, _, rfl, ?_⟩
    refine ite2 (fun h3 => iteT ⟨one, fun l hl => bad (.inr (.inr (.inl (by have := of_decide_eq_true h3; omega)))) l hl⟩) (fun h3 => ?_)
    refine ⟨_, rfl, _, _, rfl, rfl, _, rfl, ?_⟩
    refine ite2 (fun h4 => ⟨one, fun l hl => bad (.inr (.inr (.inr (by have := of_decide_eq_true h4; omega)))) l hl⟩) (fun h4 => ?_)
    have h1 := of_decide_eq_false (Bool.eq_false_iff.mpr h1)
    have h2 := of_decide_eq_false (Bool.eq_false_iff.mpr h2)
    have h3 := of_decide_eq_false (Bool.eq_false_iff.mpr h3)
    have h4 := of_decide_eq_false (Bool.eq_false_iff.mpr h4)
    rw [if_neg (by omega)] at k
    obtain ⟨dx, p, ha, hp⟩ := hG
    refine ⟨_, rfl, a, dx, _, rfl, ha, no_begin _ _, _, rfl, _, rfl, _, rfl, a, dx, _, nf, no, ns, rfl, ha, .inr ⟨_, _, _, _, rfl⟩, fun H1 g1 n1 => ⟨one, fun l hl => ?_⟩⟩
    exact k.at n1 g1 hl rfl
/-! ### stand -/
def spStand (C : Addr) : Sp := fun vs H Q _ => ∃ (a q : Addr) (g : Uw72.St) (x y z u : Nat), vs = [.ref a, .ref q] ∧ GOk g ∧ GameAt C H a g ∧ H q = some (.lst (([(x : Int), y, z, u] : List Int).map V.int)) ∧ Done C H a (step g (.stand x y z u)) Q
theorem scStand : FnScope ["self", "hands"] ["self", "hands"] (defScope sStand) := ⟨rfl, rfl, rfl, by decide +kernel, rfl, by decide +kernel, by decide +kernel⟩
theorem ok_stand {f f1 f2 C : Addr} {fd fd1 fd2 : FuncData} (F : Fun K "stand" "Game.stand" sStand f fd) (B : Blt mg) (T : Txt K mg C) (c : Cst2 mg) (D1 : Def K mg "two_hands" sTwo ["one", "other"] f1 fd1) (M2 : Mth K C "stands_behind" "Game.stands_behind" sBehind ["self"] f2 fd2)
    (G1 : FnOk P w K mg base CX0 1 f1 fd1 ["one", "other"] spTwo) (G2 : FnOk P w K mg base CX0 4 f2 fd2 ["self"] (spBehind C)) : FnOk P w K mg base CX0 5 f fd ["self", "hands"] (spStand C) := by
  refine F.ok scStand (fun vs H Q E h => ?_) (fun cdv A outer s H vs Q E hr h => ?_)
  · obtain ⟨a, q, g, x, y, z, u, rfl, _⟩ := h
    rfl
  · obtain ⟨a, q, g, x, y, z, u, rfl, hg, hG, hq, k⟩ := h
    obtain ⟨tB, hB⟩ := c.out
    obtain ⟨tH, hH⟩ := c.hand
    have hr1 : Room 1 _ := hr.mono (by decide)
    refine ⟨_, pss_cons (ps_if (pt_cmpR op_ge (pe_callB (cr_max rfl) rfl B.max PyProof.Rows.boot_max (pa_cons (pv 1) pa_nil)) (pe_fld (pv 0) rfl) (nomark _)) (pss_one (ps_ret (pe_lst (pa_cons (pe_glob (v := .int (-1)) rfl hB ⟨_, rfl⟩) pa_nil)))) pss_nil)
      (pss_cons (ps_if (pw_and (pt_cmpR op_eq (pe_ix ix_list (pv 1) pe_int (fun _ _ => rfl)) pe_int (nomark _)) (pw_and1 (pt_cmpR op_eq (pe_ix ix_list (pv 1) pe_int (fun _ _ => rfl)) pe_int (nomark _)))).pt (pss_one (ps_ret (pe_lst (pa_cons (pe_glob (v := .int (-3)) rfl hH ⟨_, rfl⟩) pa_nil)))) pss_nil)
      (pss_cons (ps_fld (pv 0) (pe_op op_catT (pe_call G1 hr1 rfl D1.m D1.F.kp D1.b .nil pass0 (pa_cons (pe_ix ix_list (pv 1) pe_int (fun _ _ => rfl)) (pa_cons (pe_ix ix_list (pv 1) pe_int (fun _ _ => rfl)) pa_nil)))
        (pe_call G1 hr1 rfl D1.m D1.F.kp D1.b .nil pass0 (pa_cons (pe_ix ix_list (pv 1) pe_int (fun _ _ => rfl)) (pa_cons (pe_ix ix_list (pv 1) pe_int (fun _ _ => rfl)) pa_nil)))) rfl)
      (pss_one (ps_ret (pe_lst (pa_cons (pe_callB call_len_seq rfl B.len PySem.boot_len (pa_cons (pe_meth0 (pv 0) T.cl M2.m G2 hr M2.b .nil pass0) pa_nil)) pa_nil)))))), ?_⟩
    have e : step g (.stand x y z u) = if [x, y, z, u].any (fun v => decide (g.rules.full ≤ v)) = true then (g, [-1]) else if z = 0 ∧ u = 0 then (g, [-3]) else many { g with stand := ⟨hands x y, hands z u⟩ } := rfl
    rw [e] at k
    obtain ⟨dx, p, ha, hp⟩ := id hG
    have one : 1 ≤ sizeLine := by decide
    refine ⟨_, rfl, q, _, rfl, SqL.of hq, Nat.succ_pos _, fun m hm hM => ?_⟩
    refine ⟨_, rfl, a, C, dx, _, _, rfl, ha, T.cl, T.nF, at_full _ _ _ _, _, _, rfl, rfl, _, rfl, ?_⟩
    simp only [List.mem_cons, List.not_mem_nil, or_false] at hm hM
    have m1 := hM x (by simp)
    have m2 := hM y (by simp)
    have m3 := hM z (by simp)
    have m4 := hM u (by simp)
    refine ite2 (fun h1 => ⟨one, fun l hl => ?_⟩) (fun h1 => ?_)
    · have h1 := of_decide_eq_true h1
      rw [if_pos (by simp only [List.any_cons, List.any_nil, Bool.or_false, Bool.or_eq_true, decide_eq_true_eq]; omega)] at k
      exact k.at (Near.of (Same.refl _)) hG hl rfl
    have h1 := of_decide_eq_false (Bool.eq_false_iff.mpr h1)
    rw [if_neg (by simp only [List.any_cons, List.any_nil, Bool.or_false, Bool.or_eq_true, decide_eq_true_eq]; omega)] at k
    have bx : x < g.rules.full := by omega
    have bY : y < g.rules.full := by omega
    have bz : z < g.rules.full := by omega
    have bu : u < g.rules.full := by omega
    by_cases hzu : z = 0 ∧ u = 0
    · rw [if_pos hzu] at k
      refine ⟨_, rfl, q, _, _, _, rfl, rfl, SqL.of hq, rfl, rfl, _, rfl, ?_⟩
      refine ite2 (fun _ => ?_) (fun n => absurd (decide_eq_true (by rw [hzu.1]; rfl)) n)
      refine ⟨_, rfl, q, _, _, _, rfl, rfl, SqL.of hq, rfl, rfl, _, rfl, ?_⟩
      refine ite2 (fun _ => ⟨one, fun l hl => ?_⟩) (fun n => absurd (decide_eq_true (by rw [hzu.2]; rfl)) n)
      exact k.at (Near.of (Same.refl _)) hG hl rfl
    rw [if_neg hzu] at k
    refine ⟨_, rfl, q, _, _, _, rfl, rfl, SqL.of hq, rfl, rfl, _, rfl, ?_⟩
    refine (fun b => ite2 (fun h2 => ⟨_, rfl, q, _, _, _, rfl, rfl, SqL.of hq, rfl, rfl, _, rfl, ite2 (fun h3 => absurd ⟨by have := of_decide_eq_true h2; injection this with this; omega, by have := of_decide_eq_true h3; injection this with this; omega⟩ hzu) (fun _ => b)⟩) (fun _ => iteF b)) ?_
    refine ⟨_, rfl, q, _, _, _, rfl, rfl, SqL.of hq, rfl, _, rfl, q, _, _, _, rfl, rfl, SqL.of hq, rfl, x, y, rfl, fun H1 p1 s1 f1 t1 => ?_⟩
    refine ⟨_, rfl, q, _, _, _, rfl, rfl, SqL.of (s1 _ _ hq), rfl, _, rfl, q, _, _, _, rfl, rfl, SqL.of (s1 _ _ hq), rfl, z, u, rfl, fun H2 p2 s2 f2 t2 => ?_⟩
    refine ⟨p1, p2, _, _, rfl, rfl, SqT.of (s2 _ _ t1), SqT.of t2, (by simp), (by show 4 ≤ sizeLine; decide), (fun z => by cases z), fun _ p3 f3 => ?_⟩
    have s3 := Same.new (o := .tup (svals ⟨hands x y, hands z u⟩)) f3
    have ha3 := s3 _ _ (s2 _ _ (s1 _ _ ha))
    have s13 := (s1.trans s2).trans s3
    refine ⟨_, rfl, a, C, dx, _, rfl, ha3, T.cl, T.nN, (by show 4 < 1000; decide), ?_⟩
    have hg' : GOk ⟨g.rules, ⟨hands x y, hands z u⟩⟩ := by
      refine ⟨hg.r, handsOk bx bY, handsOk bz bu, ?_⟩
      show 0 < (hands z u).1
      rw [hands_max]
      show 0 < max z u
      omega
    have n4 := (Near.of (d := a) s13).upd (o := .ins C dx (putF "now" (.ref p3) (gf g.rules p)))
    have hG4 := GameAt.now (C := C) (s := ⟨hands x y, hands z u⟩) ha3 upd_same
    obtain ⟨dx4, p4, ha4, hp4⟩ := id hG4
    refine ⟨_, rfl, a, dx4, _, rfl, ha4, no_behind _ _, a, ⟨g.rules, ⟨hands x y, hands z u⟩⟩, rfl, hg', hG4, fun H5 l5 s5 f5 L5 => ?_⟩
    obtain ⟨vs5, h5, st5⟩ := L5
    refine ⟨l5, vs5, rfl, .inl (SqL.of h5), one, fun l hl => ?_⟩
    refine k.at (n4.trans (Near.of s5)) (hG4.same s5) hl ?_
    rw [paired_length st5]
    show _ = [V.int ((turns g.rules ⟨hands x y, hands z u⟩).length : Int)]
    rw [turns_eq hg'.r hg'.s]
end
end Ft
namespace Ft
open PySem PySem.Spec PyProof.Rows L2 Uw72
abbrev sGoodT : Stmt := inClass sGame 4
theorem no_goodT (r : Rules) (p : Addr) : (gf r p).lookup ("good_turns" : Str) = none := fl_no (by decide +kernel) (by decide +kernel) (by decide +kernel) (by decide +kernel) _ _ _ _
abbrev pdat (x y : Int) : PyData := .tuple [.int x, .int y]
theorem pdat_dp {K : PySem.W.Frag} {H : Hp} {q : Addr} {x y : Int} (h : H q = some (.tup [.int x, .int y])) : Dp K H (.ref q) (pdat x y) := .tup (SqT.of h) (.cons (.int _) (.cons (.int _) .nil))
theorem pdat_shaped (x y : Int) : SeqAt.shaped (pdat x y) = true := by
  unfold SeqAt.shaped
  rw [Bool.and_eq_true]
  refine ⟨rfl, ?_⟩
  simp [pdat, PyData.depth, PyData.depthAll]
theorem pdat_eqv (a b c d : Int) : PyData.eqv (pdat a b) (pdat c d) = ((a == c) && (b == d)) := by
  simp [pdat, PyData.eqv, PyData.eqvAll]
section
variable {P : Program} {w : World} {K : PySem.W.Frag} {mg : Str → Option Value} {base : Heap}
/-! ### turns -/
def spTurns (C : Addr) : Sp := fun vs H Q _ => ∃ (a : Addr) (g : Uw72.St), vs = [.ref a] ∧ GOk g ∧ GameAt C H a g ∧ Done C H a (step g .turns) Q
theorem scTurns : FnScope ["self", "stands", "answer", "stand"] ["self"] (defScope sTurns) := ⟨rfl, rfl, rfl, by decide +kernel, rfl, by decide +kernel, by decide +kernel⟩
theorem ok_turns {f f2 C : Addr} {fd fd2 : FuncData} (F : Fun K "turns" "Game.turns" sTurns f fd) (B : Blt mg) (T : Txt K mg C) (M2 : Mth K C "stands_behind" "Game.stands_behind" sBehind ["self"] f2 fd2)
    (G2 : FnOk P w K mg base CX0 4 f2 fd2 ["self"] (spBehind C)) : FnOk P w K mg base CX0 5 f fd ["self"] (spTurns C) := by
  refine F.ok scTurns (fun vs H Q E h => ?_) (fun cdv A outer s H vs Q E hr h => ?_)
  · obtain ⟨a, g, rfl, _⟩ := h
    rfl
  · obtain ⟨a, g, rfl, hg, hG, k⟩ := h
    refine ⟨_, pss_cons (ps_set (i := 1) scTurns.nd rfl (Or.inl rfl) (pe_meth0 (pv 0) T.cl M2.m G2 hr M2.b .nil pass0))
      (pss_cons (ps_set (i := 2) scTurns.nd rfl (Or.inl rfl) (pe_lst (pa_cons (pe_callB call_len_seq rfl B.len PySem.boot_len (pa_cons (pv 1) pa_nil)) pa_nil)))
      (pss_cons (ps_for PassesOwn.never rfl (pi_list (pv 1)) (pg_name (i := 3) scTurns.nd rfl (Or.inl rfl))
        (pss_one (ps_expr (pe_bm PySem.F.plainAttrs_list PySem.F.slot_list_extend PySem.F.type_list_extend mt_extendT (pv 2) (pa_cons (pv 3) pa_nil)))))
      (pss_one (ps_ret (pv 2))))), ?_⟩
    have e : step g .turns = (g, ((turns g.rules g.stand).length : Int) :: Uw72.ints ((turns g.rules g.stand).flatMap four)) := rfl
    rw [e, turns_eq hg.r hg.s] at k
    have hL := turnsP_length g.stand hg.r
    obtain ⟨dx, p, ha, hp⟩ := id hG
    refine ⟨_, rfl, a, dx, _, rfl, ha, no_behind _ _, a, g, rfl, hg, hG, fun H1 l1 s1 f1 L1 => ?_⟩
    obtain ⟨vs1, h1, st1⟩ := L1
    have len1 := paired_length st1
    refine ⟨_, rfl, l1, vs1, rfl, .inl (SqL.of h1), (show 1 ≤ sizeLine by decide), fun l2 f2 => ?_⟩
    have s2 := Same.new (o := .lst [V.int (vs1.length : Nat)]) f2
    have n12 : l1 ≠ l2 := ne_of_none h1 f2
    have fl2 : H l2 = none := s1.free f2
    refine ⟨_, rfl, l1, rfl, ⟨_, SqL.of (s2 _ _ h1)⟩, for_list (K := K) (a := l1) (xs := vs1) (fun i σ H' => ∃ v3 : Option V, σ = [some (.ref a), some (.ref l1), some (.ref l2), v3] ∧ Same H H' ∧ H' l1 = some (.lst vs1) ∧ StsAt H' vs1 (turnsP g.rules g.stand) ∧
        H' l2 = some (.lst ((((turnsP g.rules g.stand).length : Int) :: Uw72.ints (((turnsP g.rules g.stand).take i).flatMap four)).map V.int)))
      ⟨none, rfl, s1.trans s2, s2 _ _ h1, StsAt.mono st1 (Tups.of s2), (by rw [upd_same, len1]; rfl)⟩ (fun i σ H' _ ⟨_, _, _, q, _⟩ => SqL.of q) ?_ ?_⟩
    · rintro i y σ H' hi ⟨v3, rfl, sH, hl1, hst, hl2⟩
      obtain ⟨x, hx, px, ey, hpx⟩ := paired_get' hst hi
      subst ey
      have hlt := (List.getElem?_eq_some_iff.mp hx).1
      have lenF : ∀ l : List Stand, (Uw72.ints (l.flatMap four)).length = 4 * l.length := fun l => by
        induction l with
        | nil => rfl
        | cons z l ih =>
          unfold Uw72.ints at ih ⊢
          rw [List.length_map] at ih ⊢
          rw [List.flatMap_cons, List.length_append, ih, List.length_cons]
          show 4 + _ = _
          omega
      refine ⟨_, rfl, .inl ⟨rfl, _, SqL.of hl2⟩, _, rfl, l2, px, _, _, rfl, rfl, hl2, hpx, ?_, ?_⟩
      · rw [List.length_map, List.length_cons, lenF, List.length_take]
        show _ + 4 ≤ sizeLine
        exact Nat.le_of_lt (small1000 (by omega))
      · have tq : Tups H' (upd H' l2 (.lst ((((turnsP g.rules g.stand).length : Int) :: Uw72.ints (((turnsP g.rules g.stand).take i).flatMap four)).map V.int ++ svals x))) := (Tups.refl _).upd fun xs e => by rw [hl2] at e; cases e
        refine ⟨_, rfl, Same.upd sH fl2, (by rw [upd_ne n12]; exact hl1), StsAt.mono hst tq, ?_⟩
        rw [upd_same, List.take_add_one, hx]
        unfold Uw72.ints
        rw [List.flatMap_append, List.map_append]
        simp [svals, four]
    · rintro σ H' ⟨v3, rfl, sH, hl1, hst, hl2⟩
      rw [len1, List.take_length] at hl2
      refine ⟨_, rfl, k H' l2 (Near.of sH) fl2 (hG.same sH) hl2⟩
/-! ### take -/
def spTake (C : Addr) : Sp := fun vs H Q _ => ∃ (a : Addr) (g : Uw72.St) (n : Nat), vs = [.ref a, .int n] ∧ GOk g ∧ GameAt C H a g ∧ Done C H a (step g (.take n)) Q
theorem scTake : FnScope ["self", "k", "stands"] ["self", "k"] (defScope sTake) := ⟨rfl, rfl, rfl, by decide +kernel, rfl, by decide +kernel, by decide +kernel⟩
theorem ok_take {f f2 C : Addr} {fd fd2 : FuncData} (F : Fun K "take" "Game.take" sTake f fd) (B : Blt mg) (T : Txt K mg C) (c : Cst2 mg) (M2 : Mth K C "stands_behind" "Game.stands_behind" sBehind ["self"] f2 fd2)
    (G2 : FnOk P w K mg base CX0 4 f2 fd2 ["self"] (spBehind C)) : FnOk P w K mg base CX0 5 f fd ["self", "k"] (spTake C) := by
  refine F.ok scTake (fun vs H Q E h => ?_) (fun cdv A outer s H vs Q E hr h => ?_)
  · obtain ⟨a, g, n, rfl, _⟩ := h
    rfl
  · obtain ⟨a, g, n, rfl, hg, hG, k⟩ := h
    obtain ⟨tN, hN⟩ := c.turn
    refine ⟨_, pss_cons (ps_set (i := 2) scTake.nd rfl (Or.inl rfl) (pe_meth0 (pv 0) T.cl M2.m G2 hr M2.b .nil pass0))
      (pss_cons (ps_if (pt_cmpR op_ge (pv 1) (pe_callB call_len_seq rfl B.len PySem.boot_len (pa_cons (pv 2) pa_nil)) (nomark _)) (pss_one (ps_ret (pe_lst (pa_cons (pe_glob (v := .int (-2)) rfl hN ⟨_, rfl⟩) pa_nil)))) pss_nil)
      (pss_cons (ps_fld (pv 0) (pe_ix ix_list (pv 2) (pv 1) (fun _ _ => rfl)) rfl)
      (pss_one (ps_ret (pe_lst (pa_cons (pe_callB call_len_seq rfl B.len PySem.boot_len (pa_cons (pe_meth0 (pv 0) T.cl M2.m G2 hr M2.b .nil pass0) pa_nil)) pa_nil)))))), ?_⟩
    have e : step g (.take n) = match (turns g.rules g.stand)[n]? with | none => (g, [-2]) | some s => many { g with stand := s } := rfl
    rw [e, turns_eq hg.r hg.s] at k
    have one : 1 ≤ sizeLine := by decide
    obtain ⟨dx, p, ha, hp⟩ := id hG
    refine ⟨_, rfl, a, dx, _, rfl, ha, no_behind _ _, a, g, rfl, hg, hG, fun H1 l1 s1 f1 L1 => ?_⟩
    obtain ⟨vs1, h1, st1⟩ := L1
    have len1 := paired_length st1
    refine ⟨_, rfl, _, rfl, l1, vs1, rfl, .inl (SqL.of h1), _, _, rfl, rfl, _, rfl, ?_⟩
    refine ite2 (fun h2 => ⟨one, fun l hl => ?_⟩) (fun h2 => ?_)
    · have h2 := of_decide_eq_true h2
      rw [List.getElem?_eq_none (by omega)] at k
      exact k.at (Near.of s1) (hG.same s1) hl rfl
    · have h2 := of_decide_eq_false (Bool.eq_false_iff.mpr h2)
      have hn : n < (turnsP g.rules g.stand).length := by omega
      obtain ⟨v, hv, q, ev, hq⟩ := paired_getR st1 (List.getElem?_eq_getElem hn)
      subst ev
      rw [List.getElem?_eq_getElem hn] at k
      generalize hx : (turnsP g.rules g.stand)[n] = x at k hq
      have hxo : SOk g.rules x := by rw [← hx]; exact turnsP_ok hg.s (List.getElem_mem hn)
      have ha1 := s1 _ _ ha
      refine ⟨_, rfl, _, rfl, l1, _, _, _, rfl, rfl, SqL.of h1, at_of (j := n) rfl hv, _, rfl, a, C, dx, _, rfl, ha1, T.cl, T.nN, (by show 4 < 1000; decide), ?_⟩
      have hg' : GOk ⟨g.rules, x⟩ := ⟨hg.r, hxo⟩
      have n4 := (Near.of (d := a) s1).upd (o := .ins C dx (putF "now" (.ref q) (gf g.rules p)))
      have hG4 := GameAt.now (C := C) (s := x) ha1 hq
      obtain ⟨dx4, p4, ha4, hp4⟩ := id hG4
      refine ⟨_, rfl, a, dx4, _, rfl, ha4, no_behind _ _, a, ⟨g.rules, x⟩, rfl, hg', hG4, fun H5 l5 s5 f5 L5 => ?_⟩
      obtain ⟨vs5, h5, st5⟩ := L5
      refine ⟨l5, vs5, rfl, .inl (SqL.of h5), one, fun l hl => ?_⟩
      refine k.at (n4.trans (Near.of s5)) (hG4.same s5) hl ?_
      rw [paired_length st5]
      show _ = [V.int ((turns g.rules x).length : Int)]
      rw [turns_eq hg'.r hg'.s]
/-! ### worth -/
def spWorth (C : Addr) : Sp := fun vs H Q _ => ∃ (a : Addr) (g : Uw72.St), vs = [.ref a] ∧ GOk g ∧ GameAt C H a g ∧ Done C H a (step g .worth) Q
theorem scWorth : FnScope ["self"] ["self"] (defScope sWorth) := ⟨rfl, rfl, rfl, by decide +kernel, rfl, by decide +kernel, by decide +kernel⟩
theorem ok_worth {f f1 f2 C : Addr} {fd fd1 fd2 : FuncData} (F : Fun K "worth" "Game.worth" sWorth f fd) (B : Blt mg) (T : Txt K mg C) (D1 : Def K mg "outcome_of" sOut ["stand", "settled"] f1 fd1) (M2 : Mth K C "settled_by_rules" "Game.settled_by_rules" sByRules ["self"] f2 fd2)
    (G1 : FnOk P w K mg base CX0 1 f1 fd1 ["stand", "settled"] spOut) (G2 : FnOk P w K mg base CX0 5 f2 fd2 ["self"] (spByRules C)) : FnOk P w K mg base CX0 6 f fd ["self"] (spWorth C) := by
  refine F.ok scWorth (fun vs H Q E h => ?_) (fun cdv A outer s H vs Q E hr h => ?_)
  · obtain ⟨a, g, rfl, _⟩ := h
    rfl
  · obtain ⟨a, g, rfl, hg, hG, k⟩ := h
    refine ⟨_, pss_one (ps_ret (pe_callTy call_list_of rfl B.lst PyProof.Rows.boot_list (pa_cons (pe_call G1 (hr.mono (by decide)) rfl D1.m D1.F.kp D1.b .nil pass0 (pa_cons (pe_fld (pv 0) rfl) (pa_cons (pe_meth0 (pv 0) T.cl M2.m G2 hr M2.b .nil pass0) pa_nil))) pa_nil))), ?_⟩
    obtain ⟨dx, p, ha, hp⟩ := id hG
    refine ⟨_, rfl, a, C, dx, _, _, rfl, ha, T.cl, T.nN, at_now _ _ _ _, _, rfl, a, dx, _, rfl, ha, no_byRules _ _, a, g, rfl, hg, hG, fun H1 d kvs s1 f1 hd hS => ?_⟩
    refine ⟨p, d, kvs, g.rules, g.stand, rfl, hg.r, hg.s, s1 _ _ hp, hd, hS, fun H2 q s2 hq => ?_⟩
    refine ⟨q, _, rfl, .inr (SqT.of hq), fun l hl => ?_⟩
    exact k.at (Near.of (s1.trans s2)) (hG.same (s1.trans s2)) hl rfl
/-! ### good_turns -/
def spGoodT (C : Addr) : Sp := fun vs H Q _ => ∃ (a d : Addr) (g : Uw72.St) (kvs : List (List Key × V)), vs = [.ref a, .ref d] ∧ GOk g ∧ GameAt C H a g ∧ H d = some (.dT kvs) ∧ SetD H (wt g.rules) kvs (allStands g.rules) ∧
  ∀ (H' : Hp) (l : Addr), Same H H' → H l = none → H' l = some (.lst ((Uw72.ints (good g.rules (table g.rules) g.stand)).map V.int)) → Q (.ref l) H'
theorem scGoodT : FnScope ["self", "settled", "sought", "stands", "k"] ["self", "settled"] (defScope sGoodT) := ⟨rfl, rfl, rfl, by decide +kernel, rfl, by decide +kernel, by decide +kernel⟩
def cGood : Scope := { kind := .function, names := [(".0", .local), ("k", .local), ("outcome_of", .globalImplicit), ("settled", .free), ("sought", .free), ("stands", .free)], isGenerator := false, isCoroutine := false, more := [] }
theorem cGoodOk : BlkOk ["self", "settled", "sought", "stands", "k"] (defScope sGoodT) cGood [("k", 4)] := by
  refine ⟨rfl, by decide +kernel, by decide +kernel, by decide +kernel, by decide +kernel⟩
def tGoodT (K : PySem.W.Frag) : TT := tTest (tOp (rEqD K) (tCall spOut [] E0 (tCons (tOp (rIxL K) (tVar 3) (tVar 4)) (tCons (tVar 1) tNil))) (tVar 2))
theorem ok_goodT {f f1 f2 f3 C : Addr} {fd fd1 fd2 fd3 : FuncData} (F : Fun K "good_turns" "Game.good_turns" sGoodT f fd) (B : Blt mg) (T : Txt K mg C) (D1 : Def K mg "outcome_of" sOut ["stand", "settled"] f1 fd1) (D2 : Def K mg "outcome_by_good_turns" sBy ["outcome"] f2 fd2) (M3 : Mth K C "stands_behind" "Game.stands_behind" sBehind ["self"] f3 fd3)
    (G1 : FnOk P w K mg base CX0 1 f1 fd1 ["stand", "settled"] spOut) (G2 : FnOk P w K mg base CX0 1 f2 fd2 ["outcome"] spBy) (G3 : FnOk P w K mg base CX0 4 f3 fd3 ["self"] (spBehind C)) : FnOk P w K mg base CX0 5 f fd ["self", "settled"] (spGoodT C) := by
  refine F.ok scGoodT (fun vs H Q E h => ?_) (fun cdv A outer s H vs Q E hr h => ?_)
  · obtain ⟨a, d, g, kvs, rfl, _⟩ := h
    rfl
  · obtain ⟨a, d, g, kvs, rfl, hg, hG, hd, hS, k⟩ := h
    have hr1 : Room 1 _ := hr.mono (by decide)
    have hu := hu65 hr
    refine ⟨_, pss_cons (ps_set (i := 2) scGoodT.nd rfl (Or.inr rfl) (pe_call G2 hr1 rfl D2.m D2.F.kp D2.b .nil pass0 (pa_cons (pe_call G1 hr1 rfl D1.m D1.F.kp D1.b .nil pass0 (pa_cons (pe_fld (pv 0) rfl) (pa_cons (pv 1) pa_nil))) pa_nil)))
      (pss_cons (ps_set (i := 3) scGoodT.nd rfl (Or.inr rfl) (pe_meth0 (pv 0) T.cl M3.m G3 hr M3.b .nil pass0))
      (pss_one (ps_ret (pe_lc (tt := tGoodT K) rfl scGoodT.nd (pi_range1 rfl B.rng (pa_cons (pe_callB call_len_seq rfl B.len PySem.boot_len (pa_cons (pv 3) pa_nil)) pa_nil)) cGoodOk (fun _ _ _ _ _ => pg_name (i := 4) scGoodT.nd rfl (Or.inl rfl))
        (fun _ _ _ _ _ => pts_one (pt_cmpR (op_eqD hr.units) (pe_call G1 hr1 rfl D1.m D1.F.kp D1.b .nil pass0 (pa_cons (pe_ix ix_list (pv 3) (pv 4) (fun _ _ => rfl)) (pa_cons (pv 1) pa_nil))) (pv 2) (nomark _))) (fun _ _ _ _ _ => pv 4))))), ?_⟩
    obtain ⟨dx, p, ha, hp⟩ := id hG
    refine ⟨_, rfl, a, C, dx, _, _, rfl, ha, T.cl, T.nN, at_now _ _ _ _, _, rfl, p, d, kvs, g.rules, g.stand, rfl, hg.r, hg.s, hp, hd, hS, fun H1 q1 s1 t1 => ?_⟩
    refine ⟨q1, _, rfl, t1, fun H2 q2 s2 t2 => ?_⟩
    have s12 := s1.trans s2
    have hG2 := hG.same s12
    obtain ⟨dx2, p2, ha2, hp2⟩ := id hG2
    refine ⟨_, rfl, a, dx2, _, rfl, ha2, no_behind _ _, a, g, rfl, hg, hG2, fun H3 l3 s3 f3 L3 => ?_⟩
    obtain ⟨vs3, h3, st3⟩ := L3
    have len3 := paired_length st3
    have hL := turnsP_length g.stand hg.r
    have s13 := s12.trans s3
    have hd3 := s13 _ _ hd
    have hS3 := hS.tups (Tups.of s13)
    have t3 := s3 _ _ t2
    have en : ((vs3.length : Nat) : Int).toNat = (turnsP g.rules g.stand).length := by omega
    refine ⟨_, rfl, l3, vs3, rfl, .inl (SqL.of h3), _, rfl, by omega, by omega, fun D fD => ?_⟩
    have fD0 : H D = none := s13.free fD
    refine lc_range (lo := 0) (n := ((vs3.length : Nat) : Int).toNat) (fun i H' => Same H3 H' ∧ H' D = some (.lst ((Uw72.ints (goodP g.rules g.stand i)).map V.int))) ⟨Same.new fD, upd_same⟩ ?_ ?_
    · rintro i H' hi ⟨sH, hD⟩
      have ei : (0 : Int) + (i : Int) = (i : Int) := by omega
      rw [en] at hi
      obtain ⟨v, hv, q, ev, hq⟩ := paired_getR st3 (List.getElem?_eq_getElem hi)
      subst ev
      have hxo : SOk g.rules (turnsP g.rules g.stand)[i] := turnsP_ok hg.s (List.getElem_mem hi)
      refine ⟨rfl, _, rfl, _, rfl, l3, _, _, _, rfl, rfl, SqL.of (sH _ _ h3), at_of (j := i) ei hv, _, rfl, q, d, kvs, g.rules, (turnsP g.rules g.stand)[i], rfl, hg.r, hxo, sH _ _ hq, sH _ _ hd3, hS3.tups (Tups.of sH), fun H4 q4 s4 t4 => ?_⟩
      refine ⟨_, rfl, _, _, pdat_dp t4, pdat_dp (s4 _ _ (sH _ _ t3)), pdat_shaped _ _, pdat_shaped _ _, _, rfl, ?_⟩
      rw [pdat_eqv]
      have eg : ((((wt g.rules (turnsP g.rules g.stand)[i]).1 : Int) == (sought (wt g.rules g.stand)).1) && (((wt g.rules (turnsP g.rules g.stand)[i]).2 : Int) == (sought (wt g.rules g.stand)).2)) = goodAt g.rules g.stand i := by
        unfold goodAt
        rw [List.getD_eq_getElem?_getD, List.getElem?_eq_getElem hi]
        rfl
      rw [eg]
      have eS := goodP_succ g.rules g.stand i
      refine ite2 (fun h => ?_) (fun h => ?_)
      · rw [if_pos h] at eS
        have hlen : ((Uw72.ints (goodP g.rules g.stand i)).map V.int).length < sizeLine := by
          unfold Uw72.ints
          rw [List.length_map, List.length_map]
          exact small1000 (Nat.le_trans (goodP_len _ _ _) (by omega))
        refine ⟨_, rfl, _, s4 _ _ hD, hlen, Same.upd (sH.trans s4) fD, ?_⟩
        rw [upd_same, eS, ei]
        unfold Uw72.ints
        simp
      · rw [if_neg h, List.append_nil] at eS
        rw [eS]
        exact ⟨sH.trans s4, s4 _ _ hD⟩
    · rintro H' ⟨sH, hD⟩
      rw [en, ← good_eq hg.r hg.s] at hD
      exact k H' D (s13.trans sH) fD0 hD
end
end Ft
namespace Ft
open PySem PySem.Spec PyProof.Rows L2 Uw72
abbrev sGood : Stmt := inClass sGame 10
abbrev sPlay : Stmt := inClass sGame 11
theorem SetD.near {H H' : Hp} {a : Addr} {f : Stand → Nat × Nat} {kvs : List (List Key × V)} {S : List Stand} (h : SetD H f kvs S) (n : Near a H H') (ha : ∀ xs, H a ≠ some (.tup xs)) : SetD H' f kvs S := h.tups (n.tups ha)
section
variable {P : Program} {w : World} {K : PySem.W.Frag} {mg : Str → Option Value} {base : Heap}
/-! ### good -/
def spGood (C : Addr) : Sp := fun vs H Q _ => ∃ (a : Addr) (g : Uw72.St), vs = [.ref a] ∧ GOk g ∧ GameAt C H a g ∧ Done C H a (step g .good) Q
theorem scGood : FnScope ["self", "numbers"] ["self"] (defScope sGood) := ⟨rfl, rfl, rfl, by decide +kernel, rfl, by decide +kernel, by decide +kernel⟩
theorem ok_good {f f1 f2 C : Addr} {fd fd1 fd2 : FuncData} (F : Fun K "good" "Game.good" sGood f fd) (B : Blt mg) (T : Txt K mg C) (M1 : Mth K C "good_turns" "Game.good_turns" sGoodT ["self", "settled"] f1 fd1) (M2 : Mth K C "settled_by_rules" "Game.settled_by_rules" sByRules ["self"] f2 fd2)
    (G1 : FnOk P w K mg base CX0 5 f1 fd1 ["self", "settled"] (spGoodT C)) (G2 : FnOk P w K mg base CX0 5 f2 fd2 ["self"] (spByRules C)) : FnOk P w K mg base CX0 6 f fd ["self"] (spGood C) := by
  refine F.ok scGood (fun vs H Q E h => ?_) (fun cdv A outer s H vs Q E hr h => ?_)
  · obtain ⟨a, g, rfl, _⟩ := h
    rfl
  · obtain ⟨a, g, rfl, hg, hG, k⟩ := h
    refine ⟨_, pss_cons (ps_set (i := 1) scGood.nd rfl (Or.inl rfl) (pe_meth (pv 0) T.cl M1.m G1 hr M1.b .nil pass0 (pa_cons (pe_meth0 (pv 0) T.cl M2.m G2 hr M2.b .nil pass0) pa_nil)))
      (pss_one (ps_ret (pe_op op_cat (pe_lst (pa_cons (pe_callB call_len_seq rfl B.len PySem.boot_len (pa_cons (pv 1) pa_nil)) pa_nil)) (pv 1)))), ?_⟩
    obtain ⟨dx, p, ha, hp⟩ := id hG
    refine ⟨_, rfl, a, dx, _, rfl, ha, no_goodT _ _, _, rfl, a, dx, _, rfl, ha, no_byRules _ _, a, g, rfl, hg, hG, fun H1 d kvs s1 f1 hd hS => ?_⟩
    refine ⟨a, d, g, kvs, rfl, hg, hG.same s1, hd, hS, fun H2 l2 s2 f2 h2 => ?_⟩
    have hlen : ((Uw72.ints (Uw72.good g.rules (table g.rules) g.stand)).map V.int).length = (Uw72.good g.rules (table g.rules) g.stand).length := by
      unfold Uw72.ints
      rw [List.length_map, List.length_map]
    have hl11 : (Uw72.good g.rules (table g.rules) g.stand).length ≤ 11 := by
      rw [good_eq hg.r hg.s]
      exact Nat.le_trans (goodP_len _ _ _) (turnsP_length _ hg.r)
    refine ⟨_, rfl, l2, _, rfl, .inl (SqL.of h2), (show 1 ≤ sizeLine by decide), fun l3 f3 => ?_⟩
    have s3 := Same.new (o := .lst [V.int (((Uw72.ints (Uw72.good g.rules (table g.rules) g.stand)).map V.int).length : Nat)]) f3
    refine ⟨_, rfl, l3, l2, _, _, rfl, rfl, upd_same, s3 _ _ h2, ?_, fun l hl => ?_⟩
    · rw [hlen]
      show 1 + _ ≤ sizeLine
      exact Nat.le_of_lt (small1000 (by omega))
    · have s13 := (s1.trans s2).trans s3
      refine k.at (Near.of s13) (hG.same s13) hl ?_
      rw [hlen]
      rfl
/-! ### play -/
def spPlay (C : Addr) : Sp := fun vs H Q _ => ∃ (a : Addr) (g : Uw72.St) (n : Nat), vs = [.ref a, .int n] ∧ GOk g ∧ GameAt C H a g ∧ Done C H a (step g (.play n)) Q
theorem scPlay : FnScope ["self", "n", "settled", "taken", "numbers"] ["self", "n"] (defScope sPlay) := ⟨rfl, rfl, rfl, by decide +kernel, rfl, by decide +kernel, by decide +kernel⟩
theorem ok_play {f f1 f2 f3 f4 C : Addr} {fd fd1 fd2 fd3 fd4 : FuncData} (F : Fun K "play" "Game.play" sPlay f fd) (B : Blt mg) (T : Txt K mg C) (c : Cst2 mg) (M1 : Mth K C "good_turns" "Game.good_turns" sGoodT ["self", "settled"] f1 fd1) (M2 : Mth K C "settled_by_rules" "Game.settled_by_rules" sByRules ["self"] f2 fd2)
    (M3 : Mth K C "stands_behind" "Game.stands_behind" sBehind ["self"] f3 fd3) (D4 : Def K mg "outcome_of" sOut ["stand", "settled"] f4 fd4)
    (G1 : FnOk P w K mg base CX0 5 f1 fd1 ["self", "settled"] (spGoodT C)) (G2 : FnOk P w K mg base CX0 5 f2 fd2 ["self"] (spByRules C)) (G3 : FnOk P w K mg base CX0 4 f3 fd3 ["self"] (spBehind C)) (G4 : FnOk P w K mg base CX0 1 f4 fd4 ["stand", "settled"] spOut) : FnOk P w K mg base CX0 6 f fd ["self", "n"] (spPlay C) := by
  refine F.ok scPlay (fun vs H Q E h => ?_) (fun cdv A outer s H vs Q E hr h => ?_)
  · obtain ⟨a, g, n, rfl, _⟩ := h
    rfl
  · obtain ⟨a, g, n, rfl, hg, hG, k⟩ := h
    obtain ⟨tB, hB⟩ := c.out
    obtain ⟨tM, hM⟩ := c.most
    refine ⟨_, pss_cons (ps_if (pw_or (pt_cmpR op_lt (pv 1) pe_int (nomark _)) (pw_or1 (pt_cmpR op_gt (pv 1) (pe_glob (v := .int 50) (by exact rfl) hM ⟨_, rfl⟩) (nomark _)))).pt (pss_one (ps_ret (pe_lst (pa_cons (pe_glob (v := .int (-1)) rfl hB ⟨_, rfl⟩) pa_nil)))) pss_nil)
      (pss_cons (ps_set (i := 2) scPlay.nd rfl (Or.inl rfl) (pe_meth0 (pv 0) T.cl M2.m G2 hr M2.b .nil pass0))
      (pss_cons (ps_set (i := 3) scPlay.nd rfl (Or.inl rfl) pe_int)
      (pss_cons (ps_while PassesOwn.never (pt_cmpR op_lt (pv 3) (pv 1) (nomark _))
        (pss_cons (ps_set (i := 4) scPlay.nd rfl (Or.inl rfl) (pe_meth (pv 0) T.cl M1.m G1 hr M1.b .nil pass0 (pa_cons (pv 2) pa_nil)))
        (pss_cons (ps_if (pt_cmpR op_eq (pe_callB call_len_seq rfl B.len PySem.boot_len (pa_cons (pv 4) pa_nil)) pe_int (nomark _)) (pss_one ps_break) pss_nil)
        (pss_cons (ps_fld (pv 0) (pe_ix ix_list (pe_meth0 (pv 0) T.cl M3.m G3 (hr.mono (by decide)) M3.b .nil pass0) (pe_ix ix_list (pv 4) pe_int (fun _ _ => rfl)) (fun _ _ => rfl)) rfl)
        (pss_one (ps_set (i := 3) scPlay.nd rfl (Or.inl rfl) (pe_op op_add (pv 3) pe_int)))))))
      (pss_one (ps_ret (pe_lst (pa_cons (pv 3) (pa_cons (pe_ix ix_tup (pe_call G4 (hr.mono (by decide)) rfl D4.m D4.F.kp D4.b .nil pass0 (pa_cons (pe_fld (pv 0) rfl) (pa_cons (pv 2) pa_nil))) pe_int (fun _ _ => rfl)) pa_nil)))))))), ?_⟩
    have e : step g (.play n) = if n < 1 ∨ 50 < n then (g, [-1]) else ({ g with stand := (Uw72.play g.rules (table g.rules) n g.stand).2 }, Uw72.ints [(Uw72.play g.rules (table g.rules) n g.stand).1, (worthIn g.rules (table g.rules) (Uw72.play g.rules (table g.rules) n g.stand).2).1]) := rfl
    rw [e] at k
    have one : 1 ≤ sizeLine := by decide
    have bad : (n < 1 ∨ 50 < n) → ∀ l, H l = none → Q (.ref l) (upd H l (.lst [V.int (-1)])) := fun hb l hl => by
      rw [if_pos hb] at k
      exact k.at (Near.of (Same.refl _)) hG hl rfl
    refine ⟨_, rfl, _, _, rfl, rfl, _, rfl, ?_⟩
    refine ite2 (fun h1 => iteT ⟨one, fun l hl => bad (.inl (by have := of_decide_eq_true h1; omega)) l hl⟩) (fun h1 => ?_)
    refine ⟨_, rfl, _, _, rfl, rfl, _, rfl, ?_⟩
    refine ite2 (fun h2 => ⟨one, fun l hl => bad (.inr (by have := of_decide_eq_true h2; omega)) l hl⟩) (fun h2 => ?_)
    have h1 := of_decide_eq_false (Bool.eq_false_iff.mpr h1)
    have h2 := of_decide_eq_false (Bool.eq_false_iff.mpr h2)
    rw [if_neg (by omega)] at k
    obtain ⟨dx, p, ha, hp⟩ := id hG
    refine ⟨_, rfl, a, dx, _, rfl, ha, no_byRules _ _, a, g, rfl, hg, hG, fun H1 d kvs s1 f1 hd hS => ?_⟩
    have nda : d ≠ a := fun z => by rw [z, ha] at f1; cases f1
    refine ⟨fun m σ H' => ∃ (t : Nat) (s' : Stand) (v4 : Option V), m = n - t ∧ t ≤ n ∧ σ = [some (.ref a), some (.int n), some (.ref d), some (.int t), v4] ∧ Near a H H' ∧ SOk g.rules s' ∧ GameAt C H' a ⟨g.rules, s'⟩ ∧ H' d = some (.dT kvs) ∧ SetD H' (wt g.rules) kvs (allStands g.rules) ∧
        Uw72.play g.rules (table g.rules) n g.stand = (t + (Uw72.play g.rules (table g.rules) (n - t) s').1, (Uw72.play g.rules (table g.rules) (n - t) s').2),
      ⟨n, 0, g.stand, none, rfl, Nat.zero_le _, rfl, Near.of s1, hg.s, hG.same s1, hd, hS, by rw [Nat.zero_add]; rfl⟩, ?_⟩
    rintro m σ H' ⟨t, s', v4, rfl, ht, rfl, nH, hs', hG', hd', hS', hpl⟩
    obtain ⟨dx', p', ha', hp'⟩ := id hG'
    refine ⟨_, rfl, _, rfl, _, _, rfl, rfl, _, rfl, ?_⟩
    refine ite2 (fun h3 => ?_) (fun h3 => ?_)
    · have h3 := of_decide_eq_true h3
      refine ⟨fun σ' H2 => ∃ (s2 : Stand) (v4 : Option V), σ' = [some (.ref a), some (.int n), some (.ref d), some (.int ((t + 1 : Nat) : Int)), v4] ∧ Near a H H2 ∧ SOk g.rules s2 ∧ GameAt C H2 a ⟨g.rules, s2⟩ ∧ H2 d = some (.dT kvs) ∧ SetD H2 (wt g.rules) kvs (allStands g.rules) ∧
          Uw72.play g.rules (table g.rules) n g.stand = (t + 1 + (Uw72.play g.rules (table g.rules) (n - (t + 1)) s2).1, (Uw72.play g.rules (table g.rules) (n - (t + 1)) s2).2),
        fun σ' H2 ⟨s2, v4, e, r1, r2, r3, r4, r5, r6⟩ => ⟨n - (t + 1), by omega, t + 1, s2, v4, rfl, by omega, e, r1, r2, r3, r4, r5, r6⟩, ?_⟩
      have hg' : GOk ⟨g.rules, s'⟩ := ⟨hg.r, hs'⟩
      refine ⟨_, rfl, a, dx', _, rfl, ha', no_goodT _ _, _, rfl, a, d, ⟨g.rules, s'⟩, kvs, rfl, hg', hG', hd', hS', fun H2 l2 s2 f2 h2 => ?_⟩
      have hlen : ((Uw72.ints (Uw72.good g.rules (table g.rules) s')).map V.int).length = (Uw72.good g.rules (table g.rules) s').length := by
        unfold Uw72.ints
        rw [List.length_map, List.length_map]
      have hG2 := hG'.same s2
      have nH2 := nH.trans (Near.of s2)
      refine ⟨_, rfl, l2, _, rfl, .inl (SqL.of h2), rfl, _, rfl, ?_⟩
      refine ite2 (fun h4 => ?_) (fun h4 => ?_)
      · -- break
        have h4 := of_decide_eq_true h4
        injection h4 with h4
        have h4 : (((Uw72.ints (Uw72.good g.rules (table g.rules) s')).map V.int).length : Int) = 0 := h4
        rw [hlen] at h4
        have z : Uw72.good g.rules (table g.rules) s' = [] := List.eq_nil_of_length_eq_zero (by omega)
        rw [play_stop z] at hpl
        obtain ⟨dx2, p2, ha2, hp2⟩ := id hG2
        refine ⟨_, rfl, _, rfl, a, C, dx2, _, _, rfl, ha2, T.cl, T.nN, at_now _ _ _ _, _, rfl, p2, d, kvs, g.rules, s', rfl, hg.r, hs', hp2, s2 _ _ hd', hS'.tups (Tups.of s2), fun H5 q5 s5 t5 => ?_⟩
        refine ⟨q5, _, _, _, rfl, rfl, SqT.of t5, rfl, (show 2 ≤ sizeLine by decide), fun l hl => ?_⟩
        rw [hpl] at k
        exact k.at (nH2.trans (Near.of s5)) (hG2.same s5) hl rfl
      · have h4 := of_decide_eq_false (Bool.eq_false_iff.mpr h4)
        obtain ⟨dx2, p2, ha2, hp2⟩ := id hG2
        cases z : Uw72.good g.rules (table g.rules) s' with
        | nil => exact absurd (by rw [hlen, z]; rfl) h4
        | cons j js =>
          rw [z] at h2
          have hj : j < (turnsP g.rules s').length := by
            refine goodP_lt (r := g.rules) (s := s') ?_
            rw [← good_eq hg.r hs', z]
            simp
          refine ⟨_, rfl, a, dx2, _, rfl, ha2, no_behind _ _, a, ⟨g.rules, s'⟩, rfl, hg', hG2, fun H3 l3 s3 f3 L3 => ?_⟩
          obtain ⟨vs3, h3', st3⟩ := L3
          obtain ⟨v, hv, q, ev, hq⟩ := paired_getR st3 (List.getElem?_eq_getElem hj)
          subst ev
          have hxo : SOk g.rules (turnsP g.rules s')[j] := turnsP_ok hs' (List.getElem_mem hj)
          have ha3 := s3 _ _ ha2
          refine ⟨_, rfl, l2, _, _, _, rfl, rfl, SqL.of (s3 _ _ h2), at_of (j := 0) rfl rfl, l3, _, _, _, rfl, rfl, SqL.of h3', at_of (j := j) rfl hv, _, rfl, a, C, dx2, _, rfl, ha3, T.cl, T.nN, (by show 4 < 1000; decide), ?_⟩
          have nU : Near a H' (upd H3 a (.ins C dx2 (putF "now" (.ref q) (gf g.rules p2)))) := (Near.of (d := a) (s2.trans s3)).upd
          refine ⟨_, rfl, _, _, rfl, rfl, ?_⟩
          refine ⟨(turnsP g.rules s')[j], _, rfl, nH.trans nU, hxo, GameAt.now ha3 hq, nU _ _ nda hd', hS'.near nU (fun xs e => by rw [ha'] at e; cases e), ?_⟩
          have en : n - t = n - (t + 1) + 1 := by omega
          rw [hpl, en, play_go z, turns_eq hg.r hs', List.getD_eq_getElem?_getD, List.getElem?_eq_getElem hj, Option.getD_some]
          show (t + (_ + 1), _) = _
          refine Prod.ext ?_ rfl
          show t + (_ + 1) = t + 1 + _
          omega
    · have h3 := of_decide_eq_false (Bool.eq_false_iff.mpr h3)
      have en : n - t = 0 := by omega
      rw [en] at hpl
      have hpl : Uw72.play g.rules (table g.rules) n g.stand = (t, s') := hpl
      refine ⟨_, rfl, _, rfl, a, C, dx', _, _, rfl, ha', T.cl, T.nN, at_now _ _ _ _, _, rfl, p', d, kvs, g.rules, s', rfl, hg.r, hs', hp', hd', hS', fun H5 q5 s5 t5 => ?_⟩
      refine ⟨q5, _, _, _, rfl, rfl, SqT.of t5, rfl, (show 2 ≤ sizeLine by decide), fun l hl => ?_⟩
      rw [hpl] at k
      exact k.at (nH.trans (Near.of s5)) (hG'.same s5) hl rfl
end
end Ft
namespace Ft
open PySem PySem.Spec PyProof.Rows L2 Uw72
abbrev sKinds : Stmt := inClass sGame 12
abbrev sHard : Stmt := inClass sGame 13
def cKinds : Scope := { kind := .function, names := [(".0", .local), ("stand", .local), ("WON", .globalImplicit), ("settled", .free)], isGenerator := false, isCoroutine := false, more := [] }
def cMin : Scope := { kind := .function, names := [(".0", .local), ("stand", .local), ("WON", .globalImplicit), ("greatest", .free), ("settled", .free)], isGenerator := false, isCoroutine := false, more := [] }
/-- settled[stand][0] == WON -/
def tWon (K : PySem.W.Frag) : TT := tTest (tOp rEq (tOp (rIxT K) (tDGet (tVar 1) (tVar 4)) (tC (.int 0))) (tC (.int 1)))
def tLen (K : PySem.W.Frag) : TE := tOp (rIxT K) (tDGet (tVar 1) (tVar 4)) (tC (.int 1))
def tMost (K : PySem.W.Frag) : TT := tTest (tOp (rEqD K) (tDGet (tVar 1) (tVar 4)) (tTup (tCons (tC (.int 1)) (tCons (tVar 2) tNil))))
theorem filter_snoc {p : Stand → Bool} {T : List Stand} {i : Nat} {x : Stand} (h : T[i]? = some x) : (T.take (i + 1)).filter p = (T.take i).filter p ++ (if p x = true then [x] else []) := by
  rw [List.take_add_one, h, List.filter_append]
  congr 1
  show [x].filter p = _
  rw [List.filter_cons, List.filter_nil]
/-- what a locked dict of worths tells of its i-th key -/
theorem set_at {H : Hp} {f : Stand → Nat × Nat} {kvs : List (List Key × V)} {T : List Stand} (hD : DS (Rg H f) kvs T) {i : Nat} {key : List Key} {v : V} (hi : kvs[i]? = some (key, v)) : ∃ x, T[i]? = some x ∧ key = skey x ∧ ∃ p, valV kvs (skey x) = some (.ref p) ∧ H p = some (.tup (pvals (f x))) := by
  obtain ⟨x, hx, ek, p, ev, hp⟩ := paired_get' hD hi
  obtain ⟨v', hv', p', ev', hp'⟩ := hD.get (List.mem_of_getElem? hx)
  subst ev'
  exact ⟨x, hx, ek, p', hv', hp'⟩
section
variable {P : Program} {w : World} {K : PySem.W.Frag} {mg : Str → Option Value} {base : Heap}
/-! ### kinds -/
def spKinds (C : Addr) : Sp := fun vs H Q _ => ∃ (a : Addr) (g : Uw72.St), vs = [.ref a] ∧ GOk g ∧ GameAt C H a g ∧ Done C H a (step g .kinds) Q
theorem scKinds : FnScope ["self", "settled", "together", "won", "stand"] ["self"] (defScope sKinds) := ⟨rfl, rfl, rfl, by decide +kernel, rfl, by decide +kernel, by decide +kernel⟩
theorem cKindsOk : BlkOk ["self", "settled", "together", "won", "stand"] (defScope sKinds) cKinds [("stand", 4)] := by
  refine ⟨rfl, by decide +kernel, by decide +kernel, by decide +kernel, by decide +kernel⟩
theorem ok_kinds {f f1 f2 C : Addr} {fd fd1 fd2 : FuncData} (F : Fun K "kinds" "Game.kinds" sKinds f fd) (B : Blt mg) (T : Txt K mg C) (c : Cst mg) (D1 : Def K mg "all_stands" sStands ["full"] f1 fd1) (M2 : Mth K C "settled_by_rules" "Game.settled_by_rules" sByRules ["self"] f2 fd2)
    (G1 : FnOk P w K mg base CX0 2 f1 fd1 ["full"] spStands) (G2 : FnOk P w K mg base CX0 5 f2 fd2 ["self"] (spByRules C)) : FnOk P w K mg base CX0 6 f fd ["self"] (spKinds C) := by
  refine F.ok scKinds (fun vs H Q E h => ?_) (fun cdv A outer s H vs Q E hr h => ?_)
  · obtain ⟨a, g, rfl, _⟩ := h
    rfl
  · obtain ⟨a, g, rfl, hg, hG, k⟩ := h
    obtain ⟨tW, hW⟩ := c.won
    have hu := hu_of hr
    refine ⟨_, pss_cons (ps_set (i := 1) scKinds.nd rfl (Or.inr rfl) (pe_meth0 (pv 0) T.cl M2.m G2 hr M2.b .nil pass0))
      (pss_cons (ps_set (i := 2) scKinds.nd rfl (Or.inl rfl) (pe_callB call_len_seq rfl B.len PySem.boot_len (pa_cons (pe_call G1 (hr.mono (by decide)) rfl D1.m D1.F.kp D1.b .nil pass0 (pa_cons (pe_fld (pv 0) rfl) pa_nil)) pa_nil)))
      (pss_cons (ps_set (i := 3) scKinds.nd rfl (Or.inl rfl) (pe_callB call_len_seq rfl B.len PySem.boot_len (pa_cons (pe_lock (pe_lc (tt := tWon K) rfl scKinds.nd (pi_keys (pv 1)) cKindsOk (fun _ _ _ _ _ => pg_name (i := 4) scKinds.nd rfl (Or.inl rfl))
          (fun _ _ _ _ _ => pts_one (pt_cmpR op_eq (pe_ix ix_tup (pe_dget hu (pv 1) (pv 4) (fun _ _ => rfl)) pe_int (fun _ _ => rfl)) (pe_glob (v := .int 1) rfl hW ⟨_, rfl⟩) (nomark _))) (fun _ _ _ _ _ => pv 4))) pa_nil)))
      (pss_one (ps_ret (pe_lst (pa_cons (pv 2) (pa_cons (pv 3) (pa_cons (pe_op op_sub (pe_callB call_lenT rfl B.len PySem.boot_len (pa_cons (pv 1) pa_nil)) (pv 3)) (pa_cons (pe_op op_sub (pv 2) (pe_callB call_lenT rfl B.len PySem.boot_len (pa_cons (pv 1) pa_nil))) pa_nil))))))))), ?_⟩
    obtain ⟨dx, p, ha, hp⟩ := id hG
    refine ⟨_, rfl, a, dx, _, rfl, ha, no_byRules _ _, a, g, rfl, hg, hG, fun H1 d kvs s1 f1 hd hS => ?_⟩
    refine ⟨_, rfl, a, C, dx, _, _, rfl, s1 _ _ ha, T.cl, T.nF, at_full _ _ _ _, g.rules, rfl, hg.r, fun H2 l2 s2 f2 L2 => ?_⟩
    obtain ⟨vs2, h2, st2⟩ := L2
    refine ⟨l2, vs2, rfl, .inl (SqL.of h2), ?_⟩
    have hd2 := s2 _ _ hd
    have hS2 := hS.tups (Tups.of s2)
    obtain ⟨Ts, hD2, hTn, hTm⟩ := hS2
    have s12 := s1.trans s2
    have hkl := paired_length hD2
    have hSl := allStands_length g.rules hg.r.hi
    have hTl : Ts.length ≤ 784 := Nat.le_trans (nodup_len hTn fun x hx => ((hTm x).mp hx).1) hSl
    -- won
    refine ⟨d, .dT kvs, hd2, True.intro, fun od => ?_⟩
    refine ⟨_, rfl, d, od, rfl, .inr ⟨kvs, upd_same, fun l fl => ?_⟩⟩
    have nld : l ≠ d := fun z => by rw [z, upd_same] at fl; cases fl
    have fl2 : H2 l = none := by rw [upd_ne nld] at fl; exact fl
    have n2 : Near d H2 (upd H2 d (.frz od (.dT kvs))) := Near.upd (Near.of (Same.refl _))
    refine lc_keysT (fun i H' => Near d H2 H' ∧ H' d = some (.frz od (.dT kvs)) ∧ LsAt H' l ((Ts.take i).filter fun x => (wt g.rules x).1 == 1)) ⟨n2.new fl2, (by rw [upd_ne (Ne.symm nld), upd_same]), [], upd_same, .nil⟩ (fun i H' _ q => q.2.1) ?_ ?_
    · rintro i key v q H' hi hq ⟨nH, hdf, ws, hws, hwst⟩
      obtain ⟨x, hx, ek, px, hv, hpx⟩ := set_at hD2 hi
      subst ek
      have npd : px ≠ d := ne_of hpx hd2 (by intro z; cases z)
      have efil := filter_snoc (p := fun x => (wt g.rules x).1 == 1) hx
      refine ⟨rfl, _, rfl, _, rfl, d, _, rfl, (by rw [← hv]; exact DGet.rt (.inr ⟨od, hdf⟩) hq), px, _, _, _, rfl, rfl, SqT.of (nH _ _ npd hpx), rfl, rfl, _, rfl, ?_⟩
      refine ite2 (fun h0 => ?_) (fun h0 => ?_)
      · have h0 := of_decide_eq_true h0
        injection h0 with h0
        have z : ((wt g.rules x).1 == 1) = true := beq_iff_eq.mpr (by omega)
        rw [if_pos z] at efil
        have hlen : ws.length < sizeLine := by
          rw [paired_length hwst]
          refine len784 (Nat.le_trans (List.length_filter_le _ _) ?_)
          rw [List.length_take]
          omega
        refine ⟨_, rfl, ws, hws, hlen, nH.new fl2, (by rw [upd_ne (Ne.symm nld)]; exact hdf), ?_⟩
        rw [efil]
        exact LsAt.snoc hws hwst hq
      · have h0 := of_decide_eq_false (Bool.eq_false_iff.mpr h0)
        have z : ¬ ((wt g.rules x).1 == 1) = true := fun z => h0 (by rw [beq_iff_eq.mp z]; rfl)
        rw [if_neg z, List.append_nil] at efil
        exact ⟨nH, hdf, ws, hws, by rw [efil]; exact hwst⟩
    rintro H3 ⟨n3, hdf, ws, hws, hwst⟩
    rw [hkl, List.take_length] at hwst
    refine ⟨hdf, ?_⟩
    have s3 : Same H2 (upd H3 d (.dT kvs)) := n3.back hd2
    have hws' : (upd H3 d (.dT kvs)) l = some (.lst ws) := by rw [upd_ne nld]; exact hws
    refine ⟨l, ws, rfl, .inl (SqL.of hws'), ?_⟩
    have hd3 : (upd H3 d (.dT kvs)) d = some (.dT kvs) := upd_same
    refine ⟨_, rfl, _, rfl, _, rfl, d, kvs, rfl, hd3, _, rfl, _, _, rfl, rfl, _, rfl, _, rfl, d, kvs, rfl, hd3, _, _, rfl, rfl, (show 4 ≤ sizeLine by decide), fun l9 f9 => ?_⟩
    have s13 := s12.trans s3
    refine k.at (Near.of s13) (hG.same s13) f9 ?_
    have e : step g .kinds = (g, Uw72.ints [((allStands g.rules).map fun s => (wt g.rules s).1).length, (((allStands g.rules).map fun s => (wt g.rules s).1).filter fun x => x == 1).length, (((allStands g.rules).map fun s => (wt g.rules s).1).filter fun x => x == 2).length, (((allStands g.rules).map fun s => (wt g.rules s).1).filter fun x => x == 0).length]) := rfl
    rw [e, map_filter_len, map_filter_len, map_filter_len, List.length_map]
    have q1 := paired_length st2
    have q2 := paired_length hwst
    have lev : ∀ s ∈ allStands g.rules, (wt g.rules s).1 = 0 ∨ (wt g.rules s).1 = 1 ∨ (wt g.rules s).1 = 2 := fun s hs => by
      rcases table_lev hg.r hs with z | z | z
      · left; show (worthIn g.rules (table g.rules) s).1 = 0; rw [z]
      · exact .inr (.inr z)
      · exact .inr (.inl z)
    obtain ⟨q3, q4⟩ := three_len (fun s => (wt g.rules s).1) (allStands g.rules) lev
    have hSn := allStands_nodup g.rules
    have q5 : (Ts.filter fun x => (wt g.rules x).1 == 1).length = ((allStands g.rules).filter fun x => (wt g.rules x).1 == 1).length := filter_len (hTn.filter _) hSn fun s => by
      rw [List.mem_filter, hTm s]
      constructor
      · rintro ⟨⟨z1, z2⟩, z3⟩; exact ⟨z1, z3⟩
      · rintro ⟨z1, z3⟩; exact ⟨⟨z1, by rw [beq_iff_eq.mp z3]; decide⟩, z3⟩
    have q6 : Ts.length = ((allStands g.rules).filter fun x => !((wt g.rules x).1 == 0)).length := filter_len hTn hSn fun s => by
      rw [hTm s]
      simp
    have a1 : (vs2.length : Int) = ((allStands g.rules).length : Int) := by omega
    have a2 : (ws.length : Int) = (((allStands g.rules).filter fun x => (wt g.rules x).1 == 1).length : Int) := by omega
    have a3 : (kvs.length : Int) - ws.length = (((allStands g.rules).filter fun x => (wt g.rules x).1 == 2).length : Int) := by omega
    have a4 : (vs2.length : Int) - kvs.length = (((allStands g.rules).filter fun x => (wt g.rules x).1 == 0).length : Int) := by omega
    show [V.int (vs2.length : Int), V.int (ws.length : Int), V.int ((kvs.length : Int) - ws.length), V.int ((vs2.length : Int) - kvs.length)] = _
    rw [a4, a3, a2, a1]
    rfl
end
end Ft
namespace Ft
open PySem PySem.Spec PyProof.Rows L2 Uw72
/-- won, and of this length, as the program asks it -/
def isMost (r : Rules) (L : Nat) (x : Stand) : Bool := (((wt r x).1 : Int) == 1) && (((wt r x).2 : Int) == (L : Int))
theorem isMost_iff {r : Rules} {L : Nat} {x : Stand} : isMost r L x = true ↔ wt r x = (1, L) := by
  unfold isMost
  rw [Bool.and_eq_true, beq_iff_eq, beq_iff_eq]
  constructor
  · rintro ⟨h1, h2⟩
    exact Prod.ext (by show (wt r x).1 = 1; omega) (by show (wt r x).2 = L; omega)
  · intro h
    rw [h]
    exact ⟨rfl, rfl⟩
section
variable {P : Program} {w : World} {K : PySem.W.Frag} {mg : Str → Option Value} {base : Heap}
def spHard (C : Addr) : Sp := fun vs H Q _ => ∃ (a : Addr) (g : Uw72.St), vs = [.ref a] ∧ GOk g ∧ GameAt C H a g ∧ Done C H a (step g .hardest) Q
theorem scHard : FnScope ["self", "settled", "greatest", "first", "stand"] ["self"] (defScope sHard) := ⟨rfl, rfl, rfl, by decide +kernel, rfl, by decide +kernel, by decide +kernel⟩
theorem cMaxOk : BlkOk ["self", "settled", "greatest", "first", "stand"] (defScope sHard) cKinds [("stand", 4)] := by
  refine ⟨rfl, by decide +kernel, by decide +kernel, by decide +kernel, by decide +kernel⟩
theorem cMinOk : BlkOk ["self", "settled", "greatest", "first", "stand"] (defScope sHard) cMin [("stand", 4)] := by
  refine ⟨rfl, by decide +kernel, by decide +kernel, by decide +kernel, by decide +kernel⟩
theorem ok_hard {f f2 C : Addr} {fd fd2 : FuncData} (F : Fun K "hardest" "Game.hardest" sHard f fd) (B : Blt mg) (T : Txt K mg C) (c : Cst mg) (M2 : Mth K C "settled_by_rules" "Game.settled_by_rules" sByRules ["self"] f2 fd2)
    (G2 : FnOk P w K mg base CX0 5 f2 fd2 ["self"] (spByRules C)) : FnOk P w K mg base CX0 6 f fd ["self"] (spHard C) := by
  refine F.ok scHard (fun vs H Q E h => ?_) (fun cdv A outer s H vs Q E hr h => ?_)
  · obtain ⟨a, g, rfl, _⟩ := h
    rfl
  · obtain ⟨a, g, rfl, hg, hG, k⟩ := h
    obtain ⟨tW, hW⟩ := c.won
    have hu := hu_of hr
    refine ⟨_, pss_cons (ps_set (i := 1) scHard.nd rfl (Or.inr rfl) (pe_meth0 (pv 0) T.cl M2.m G2 hr M2.b .nil pass0))
      (pss_cons (ps_set (i := 2) scHard.nd rfl (Or.inr rfl) (pe_callB (cr_max rfl) rfl B.max PyProof.Rows.boot_max (pa_cons (pe_lock (pe_lc (tt := tWon K) (te := tLen K) rfl scHard.nd (pi_keys (pv 1)) cMaxOk (fun _ _ _ _ _ => pg_name (i := 4) scHard.nd rfl (Or.inl rfl))
          (fun _ _ _ _ _ => pts_one (pt_cmpR op_eq (pe_ix ix_tup (pe_dget hu (pv 1) (pv 4) (fun _ _ => rfl)) pe_int (fun _ _ => rfl)) (pe_glob (v := .int 1) rfl hW ⟨_, rfl⟩) (nomark _))) (fun _ _ _ _ _ => pe_ix ix_tup (pe_dget hu (pv 1) (pv 4) (fun _ _ => rfl)) pe_int (fun _ _ => rfl)))) pa_nil)))
      (pss_cons (ps_set (i := 3) scHard.nd rfl (Or.inl rfl) (pe_callB (cr_minT rfl (hu65 hr)) rfl B.min PyProof.Rows.boot_min (pa_cons (pe_lock (pe_lc (tt := tMost K) rfl scHard.nd (pi_keys (pv 1)) cMinOk (fun _ _ _ _ _ => pg_name (i := 4) scHard.nd rfl (Or.inl rfl))
          (fun _ _ _ _ _ => pts_one (pt_cmpR (op_eqD hr.units) (pe_dget hu (pv 1) (pv 4) (fun _ _ => rfl)) (pe_tup (pa_cons (pe_glob (v := .int 1) rfl hW ⟨_, rfl⟩) (pa_cons (pv 2) pa_nil))) (nomark _))) (fun _ _ _ _ _ => pv 4))) pa_nil)))
      (pss_one (ps_ret (pe_op op_cat (pe_lst (pa_cons (pv 2) pa_nil)) (pe_callTy call_list_of rfl B.lst PyProof.Rows.boot_list (pa_cons (pv 3) pa_nil))))))), ?_⟩
    obtain ⟨dx, p, ha, hp⟩ := id hG
    refine ⟨_, rfl, a, dx, _, rfl, ha, no_byRules _ _, a, g, rfl, hg, hG, fun H1 d kvs s1 f1 hd hS => ?_⟩
    obtain ⟨Ts, hD1, hTn, hTm⟩ := hS
    have hkl := paired_length hD1
    have hSl := allStands_length g.rules hg.r.hi
    have hTl : Ts.length ≤ 784 := Nat.le_trans (nodup_len hTn fun x hx => ((hTm x).mp hx).1) hSl
    -- greatest
    refine ⟨d, .dT kvs, hd, True.intro, fun od => ?_⟩
    refine ⟨_, rfl, d, od, rfl, .inr ⟨kvs, upd_same, fun l fl => ?_⟩⟩
    have nld : l ≠ d := fun z => by rw [z, upd_same] at fl; cases fl
    have fl1 : H1 l = none := by rw [upd_ne nld] at fl; exact fl
    have n1 : Near d H1 (upd H1 d (.frz od (.dT kvs))) := Near.upd (Near.of (Same.refl _))
    refine lc_keysT (fun i H' => Near d H1 H' ∧ H' d = some (.frz od (.dT kvs)) ∧ H' l = some (.lst ((((Ts.take i).filter fun x => (wt g.rules x).1 == 1).map fun x => ((wt g.rules x).2 : Int)).map V.int))) ⟨n1.new fl1, (by rw [upd_ne (Ne.symm nld), upd_same]), upd_same⟩ (fun i H' _ q => q.2.1) ?_ ?_
    · rintro i key v q H' hi hq ⟨nH, hdf, hws⟩
      obtain ⟨x, hx, ek, px, hv, hpx⟩ := set_at hD1 hi
      subst ek
      have npd : px ≠ d := ne_of hpx hd (by intro z; cases z)
      have efil := filter_snoc (p := fun x => (wt g.rules x).1 == 1) hx
      have get : DGet H' d (.ref q) (some (.ref px)) := by rw [← hv]; exact DGet.rt (.inr ⟨od, hdf⟩) hq
      refine ⟨rfl, _, rfl, _, rfl, d, _, rfl, get, px, _, _, _, rfl, rfl, SqT.of (nH _ _ npd hpx), rfl, rfl, _, rfl, ?_⟩
      refine ite2 (fun h0 => ?_) (fun h0 => ?_)
      · have h0 := of_decide_eq_true h0
        injection h0 with h0
        have z : ((wt g.rules x).1 == 1) = true := beq_iff_eq.mpr (by omega)
        rw [if_pos z] at efil
        have hlen : ((((Ts.take i).filter fun x => (wt g.rules x).1 == 1).map fun x => ((wt g.rules x).2 : Int)).map V.int).length < sizeLine := by
          rw [List.length_map, List.length_map]
          refine len784 (Nat.le_trans (List.length_filter_le _ _) ?_)
          rw [List.length_take]
          omega
        refine ⟨_, rfl, _, rfl, d, _, rfl, get, px, _, _, _, rfl, rfl, SqT.of (nH _ _ npd hpx), rfl, _, hws, hlen, nH.new fl1, (by rw [upd_ne (Ne.symm nld)]; exact hdf), ?_⟩
        rw [efil, upd_same, List.map_append, List.map_append]
        rfl
      · have h0 := of_decide_eq_false (Bool.eq_false_iff.mpr h0)
        have z : ¬ ((wt g.rules x).1 == 1) = true := fun z => h0 (by rw [beq_iff_eq.mp z]; rfl)
        rw [if_neg z, List.append_nil] at efil
        exact ⟨nH, hdf, by rw [efil]; exact hws⟩
    rintro H2 ⟨n2, hdf, hws⟩
    rw [hkl, List.take_length] at hws
    refine ⟨hdf, ?_⟩
    have s2 : Same H1 (upd H2 d (.dT kvs)) := n2.back hd
    have hws' : (upd H2 d (.dT kvs)) l = some (.lst (((Ts.filter fun x => (wt g.rules x).1 == 1).map fun x => ((wt g.rules x).2 : Int)).map V.int)) := by rw [upd_ne nld]; exact hws
    have hd2 : (upd H2 d (.dT kvs)) d = some (.dT kvs) := upd_same
    generalize upd H2 d (.dT kvs) = H3 at s2 hws' hd2
    have hD3 : DS (Rg H3 (wt g.rules)) kvs Ts := DS.imp hD1 fun s _ v ⟨p, e1, e2⟩ => ⟨p, e1, s2 _ _ e2⟩
    obtain ⟨x0, hx0, hx1⟩ := some_won hg.r
    have memF : ∀ x, x ∈ (Ts.filter fun x => (wt g.rules x).1 == 1) ↔ x ∈ allStands g.rules ∧ (wt g.rules x).1 = 1 := fun x => by
      rw [List.mem_filter, hTm x, beq_iff_eq]
      constructor
      · rintro ⟨⟨z1, _⟩, z2⟩; exact ⟨z1, z2⟩
      · rintro ⟨z1, z2⟩; exact ⟨⟨z1, by rw [z2]; decide⟩, z2⟩
    refine ⟨l, _, rfl, SqL.of hws', ?_, fun m hm hM => ?_⟩
    · rw [List.length_map]
      exact List.length_pos_of_mem ((memF x0).mpr ⟨hx0, hx1⟩)
    obtain ⟨y, hy, ey⟩ := List.mem_map.mp hm
    obtain ⟨hyS, hy1⟩ := (memF y).mp hy
    subst ey
    generalize hL : (wt g.rules y).2 = L at hm hM
    have hyL : wt g.rules y = (1, L) := Prod.ext hy1 hL
    have hmost : ∀ s ∈ allStands g.rules, (wt g.rules s).1 = 1 → (wt g.rules s).2 ≤ L := fun s hs h1 => by
      have := hM _ (List.mem_map.mpr ⟨s, (memF s).mpr ⟨hs, h1⟩, rfl⟩)
      omega
    -- first
    refine ⟨d, .dT kvs, hd2, True.intro, fun od => ?_⟩
    refine ⟨_, rfl, d, od, rfl, .inr ⟨kvs, upd_same, fun l4 f4 => ?_⟩⟩
    have nld4 : l4 ≠ d := fun z => by rw [z, upd_same] at f4; cases f4
    have fl4 : H3 l4 = none := by rw [upd_ne nld4] at f4; exact f4
    have n4 : Near d H3 (upd H3 d (.frz od (.dT kvs))) := Near.upd (Near.of (Same.refl _))
    refine lc_keysT (fun i H' => Near d H3 H' ∧ H' d = some (.frz od (.dT kvs)) ∧ LsAt H' l4 ((Ts.take i).filter (isMost g.rules L))) ⟨n4.new fl4, (by rw [upd_ne (Ne.symm nld4), upd_same]), [], upd_same, .nil⟩ (fun i H' _ q => q.2.1) ?_ ?_
    · rintro i key v q H' hi hq ⟨nH, hdf, ws, hws, hwst⟩
      obtain ⟨x, hx, ek, px, hv, hpx⟩ := set_at hD3 hi
      subst ek
      have npd : px ≠ d := ne_of hpx hd2 (by intro z; cases z)
      have efil := filter_snoc (p := isMost g.rules L) hx
      have get : DGet H' d (.ref q) (some (.ref px)) := by rw [← hv]; exact DGet.rt (.inr ⟨od, hdf⟩) hq
      refine ⟨rfl, _, rfl, _, rfl, d, _, rfl, get, _, rfl, (show 2 ≤ sizeLine by decide), fun t ft => ?_⟩
      have st := Same.new (o := .tup [V.int 1, V.int (L : Int)]) ft
      have ntd : t ≠ d := fun z => by rw [z, hdf] at ft; cases ft
      have nt : Near d H3 (upd H' t (.tup [V.int 1, V.int (L : Int)])) := nH.trans (Near.of st)
      refine ⟨_, _, pdat_dp (st _ _ (nH _ _ npd hpx)), pdat_dp upd_same, pdat_shaped _ _, pdat_shaped _ _, _, rfl, ?_⟩
      rw [pdat_eqv]
      refine ite2 (fun h0 => ?_) (fun h0 => ?_)
      · have z : isMost g.rules L x = true := h0
        rw [if_pos z] at efil
        have hlen : ws.length < sizeLine := by
          rw [paired_length hwst]
          refine len784 (Nat.le_trans (List.length_filter_le _ _) ?_)
          rw [List.length_take]
          omega
        refine ⟨_, rfl, ws, st _ _ hws, hlen, nt.new fl4, (by rw [upd_ne (Ne.symm nld4)]; exact st _ _ hdf), ?_⟩
        rw [efil]
        exact LsAt.snoc (st _ _ hws) (StsAt.mono hwst (Tups.of st)) (st _ _ hq)
      · have z : ¬ isMost g.rules L x = true := h0
        rw [if_neg z, List.append_nil] at efil
        exact ⟨nt, st _ _ hdf, ws, st _ _ hws, by rw [efil]; exact StsAt.mono hwst (Tups.of st)⟩
    rintro H4 ⟨n5, hdf4, L4⟩
    rw [hkl, List.take_length] at L4
    refine ⟨hdf4, ?_⟩
    have s4 : Same H3 (upd H4 d (.dT kvs)) := n5.back hd2
    have L5 : LsAt (upd H4 d (.dT kvs)) l4 (Ts.filter (isMost g.rules L)) := L4.near (Near.upd (Near.of (Same.refl _))) (fun xs e => by rw [hdf4] at e; cases e) nld4
    generalize upd H4 d (.dT kvs) = H5 at s4 L5
    have memM : ∀ x, x ∈ Ts.filter (isMost g.rules L) ↔ x ∈ allStands g.rules ∧ wt g.rules x = (1, L) := fun x => by
      rw [List.mem_filter, hTm x, isMost_iff]
      constructor
      · rintro ⟨⟨z1, _⟩, z2⟩; exact ⟨z1, z2⟩
      · rintro ⟨z1, z2⟩; exact ⟨⟨z1, by rw [z2]; exact Nat.one_ne_zero⟩, z2⟩
    refine ⟨l4, _, rfl, L5, List.ne_nil_of_mem ((memM y).mpr ⟨hyS, hyL⟩), fun q m hm hmin hq => ?_⟩
    obtain ⟨hmS, hmL⟩ := (memM m).mp hm
    have hard := hardest_is hg.r hmS hmL hmost fun s hs h => hmin s ((memM s).mpr ⟨hs, h⟩)
    have s15 : Same H H5 := (s1.trans s2).trans s4
    refine ⟨_, rfl, (show 1 ≤ sizeLine by decide), fun l6 f6 => ?_⟩
    have s6 := Same.new (o := .lst [V.int (L : Int)]) f6
    refine ⟨_, rfl, q, _, rfl, .inr (SqT.of (s6 _ _ hq)), fun l7 f7 => ?_⟩
    have s7 := Same.new (o := .lst (svals m)) f7
    refine ⟨l6, l7, _, _, rfl, rfl, s7 _ _ upd_same, upd_same, (show 5 ≤ sizeLine by decide), fun l8 f8 => ?_⟩
    have s17 := (s15.trans s6).trans s7
    refine k.at (Near.of s17) (hG.same s17) f8 ?_
    have e : step g .hardest = (g, match mostBy (fun s => (wt g.rules s).2) ((allStands g.rules).filter fun s => (wt g.rules s).1 == 1) with | none => [] | some s => ((wt g.rules s).2 : Int) :: Uw72.ints (four s)) := rfl
    rw [e, hard]
    show _ = (((wt g.rules m).2 : Int) :: Uw72.ints (four m)).map V.int
    rw [hmL]
    rfl
end
end Ft
namespace Ft
open PySem PySem.Spec PyProof.Rows L2 Uw72
abbrev sAnsOf : Stmt := top 31
abbrev sAns : Stmt := top 32
/-! ### calls as numbers -/
def codeC : Call → Nat
  | .rules _ _ _ => 0
  | .stand _ _ _ _ => 1
  | .turns => 2
  | .take _ => 3
  | .worth => 4
  | .good => 5
  | .play _ => 6
  | .kinds => 7
  | .hardest => 8
def argsC : Call → List Int
  | .rules f o s => [f, o, s]
  | .stand a b c d => [a, b, c, d]
  | .take k => [k]
  | .play n => [n]
  | _ => []
theorem enc_eq (k : Call) : encC k = (codeC k : Int) :: argsC k := by cases k <;> rfl
/-- how many numbers there are behind a call's own -/
def behinds : List Int := [3, 4, 0, 1, 0, 0, 1, 0, 0]
theorem behind_at (k : Call) : (behinds.map V.int)[codeC k]? = some (.int (argsC k).length) := by cases k <;> rfl
theorem if_no {i j : Int} {A B : Prop} (h : decide (i = j) = false) (b : B) : if decide (V.int i = V.int j) = true then A else B := by
  rw [if_neg (fun z => of_decide_eq_false h (by have := of_decide_eq_true z; injection this))]
  exact b
theorem if_yes {i : Int} {A B : Prop} (a : A) : if decide (V.int i = V.int i) = true then A else B := by
  rw [if_pos (decide_eq_true rfl)]
  exact a
/-! ### the game stays one that may be -/
theorem play_ok {r : Rules} (hr : ROk r) : ∀ (n : Nat) {s : Stand}, SOk r s → SOk r (Uw72.play r (table r) n s).2
  | 0, s, hs => hs
  | n + 1, s, hs => by
    cases e : Uw72.good r (table r) s with
    | nil => rw [play_stop e]; exact hs
    | cons i l =>
      rw [play_go e]
      refine play_ok hr n ?_
      rw [turns_eq hr hs, List.getD_eq_getElem?_getD]
      cases h : (turnsP r s)[i]? with
      | none => exact hs
      | some x => exact turnsP_ok hs (List.mem_of_getElem? h)
theorem init_ok : GOk init := ⟨⟨by decide, by decide, by decide, by decide⟩, ⟨⟨by decide, by decide⟩, ⟨by decide, by decide⟩, by decide⟩⟩
theorem step_ok {g : Uw72.St} (hg : GOk g) (k : Call) : GOk (step g k).1 := by
  cases k with
  | rules f o s =>
    show GOk (if f < 3 ∨ 7 < f ∨ 1 < o ∨ 2 < s then (g, [-1]) else (⟨⟨f, o, s⟩, firstStand⟩, [0])).1
    by_cases h : f < 3 ∨ 7 < f ∨ 1 < o ∨ 2 < s
    · rw [if_pos h]; exact hg
    · rw [if_neg h]
      have h3 : 3 ≤ f := by omega
      exact ⟨⟨h3, by show f ≤ 7; omega, by show o ≤ 1; omega, by show s ≤ 2; omega⟩, ⟨⟨by show 1 < f; omega, Nat.le_refl _⟩, ⟨by show 1 < f; omega, Nat.le_refl _⟩, Nat.one_pos⟩⟩
  | stand a b c d =>
    show GOk (if [a, b, c, d].any (fun v => decide (g.rules.full ≤ v)) = true then (g, [-1]) else if c = 0 ∧ d = 0 then (g, [-3]) else many { g with stand := ⟨hands a b, hands c d⟩ }).1
    by_cases h : [a, b, c, d].any (fun v => decide (g.rules.full ≤ v)) = true
    · rw [if_pos h]; exact hg
    · rw [if_neg h]
      simp only [List.any_cons, List.any_nil, Bool.or_false, Bool.or_eq_true, decide_eq_true_eq] at h
      by_cases h2 : c = 0 ∧ d = 0
      · rw [if_pos h2]; exact hg
      · rw [if_neg h2]
        have b1 : a < g.rules.full := by omega
        have b2 : b < g.rules.full := by omega
        have b3 : c < g.rules.full := by omega
        have b4 : d < g.rules.full := by omega
        refine ⟨hg.r, handsOk b1 b2, handsOk b3 b4, ?_⟩
        show 0 < (hands c d).1
        rw [hands_max]
        show 0 < max c d
        omega
  | turns => exact hg
  | take k =>
    show GOk (match (turns g.rules g.stand)[k]? with | none => (g, [-2]) | some s => many { g with stand := s }).1
    rw [turns_eq hg.r hg.s]
    cases h : (turnsP g.rules g.stand)[k]? with
    | none => exact hg
    | some x => exact ⟨hg.r, turnsP_ok hg.s (List.mem_of_getElem? h)⟩
  | worth => exact hg
  | good => exact hg
  | play n =>
    show GOk (if n < 1 ∨ 50 < n then (g, [-1]) else ({ g with stand := (Uw72.play g.rules (table g.rules) n g.stand).2 }, Uw72.ints [(Uw72.play g.rules (table g.rules) n g.stand).1, (worthIn g.rules (table g.rules) (Uw72.play g.rules (table g.rules) n g.stand).2).1])).1
    by_cases h : n < 1 ∨ 50 < n
    · rw [if_pos h]; exact hg
    · rw [if_neg h]; exact ⟨hg.r, play_ok hg.r n hg.s⟩
  | kinds => exact hg
  | hardest => exact hg
theorem no_rules (r : Rules) (p : Addr) : (gf r p).lookup ("rules" : Str) = none := fl_no (by decide +kernel) (by decide +kernel) (by decide +kernel) (by decide +kernel) _ _ _ _
theorem no_stand (r : Rules) (p : Addr) : (gf r p).lookup ("stand" : Str) = none := fl_no (by decide +kernel) (by decide +kernel) (by decide +kernel) (by decide +kernel) _ _ _ _
theorem no_turns (r : Rules) (p : Addr) : (gf r p).lookup ("turns" : Str) = none := fl_no (by decide +kernel) (by decide +kernel) (by decide +kernel) (by decide +kernel) _ _ _ _
theorem no_take (r : Rules) (p : Addr) : (gf r p).lookup ("take" : Str) = none := fl_no (by decide +kernel) (by decide +kernel) (by decide +kernel) (by decide +kernel) _ _ _ _
theorem no_worth (r : Rules) (p : Addr) : (gf r p).lookup ("worth" : Str) = none := fl_no (by decide +kernel) (by decide +kernel) (by decide +kernel) (by decide +kernel) _ _ _ _
theorem no_good (r : Rules) (p : Addr) : (gf r p).lookup ("good" : Str) = none := fl_no (by decide +kernel) (by decide +kernel) (by decide +kernel) (by decide +kernel) _ _ _ _
theorem no_play (r : Rules) (p : Addr) : (gf r p).lookup ("play" : Str) = none := fl_no (by decide +kernel) (by decide +kernel) (by decide +kernel) (by decide +kernel) _ _ _ _
theorem no_kinds (r : Rules) (p : Addr) : (gf r p).lookup ("kinds" : Str) = none := fl_no (by decide +kernel) (by decide +kernel) (by decide +kernel) (by decide +kernel) _ _ _ _
theorem no_hard (r : Rules) (p : Addr) : (gf r p).lookup ("hardest" : Str) = none := fl_no (by decide +kernel) (by decide +kernel) (by decide +kernel) (by decide +kernel) _ _ _ _
/-- the calls' numbers -/
structure Cst3 (mg : Str → Option Value) : Prop where
  c0 : ∃ t, mg "RULES" = some (.int 0 t)
  c1 : ∃ t, mg "STAND" = some (.int 1 t)
  c2 : ∃ t, mg "TURNS" = some (.int 2 t)
  c3 : ∃ t, mg "TAKE" = some (.int 3 t)
  c4 : ∃ t, mg "WORTH" = some (.int 4 t)
  c5 : ∃ t, mg "GOOD" = some (.int 5 t)
  c6 : ∃ t, mg "PLAY" = some (.int 6 t)
  c7 : ∃ t, mg "KINDS" = some (.int 7 t)
/-- a method that answers -/
structure MthOk (P : Program) (w : World) (K : PySem.W.Frag) (mg : Str → Option Value) (base : Heap) (C : Addr) (m q : Str) (st : Stmt) (ps : List Str) (n : Nat) (sp : Sp) : Prop where
  ex : ∃ f fd, Mth K C m q st ps f fd ∧ FnOk P w K mg base CX0 n f fd ps sp
section
variable {P : Program} {w : World} {K : PySem.W.Frag} {mg : Str → Option Value} {base : Heap}
def spAnsOf (C : Addr) : Sp := fun vs H Q _ => ∃ (a q : Addr) (g : Uw72.St) (k : Call), vs = [.ref a, .int (codeC k), .ref q] ∧ GOk g ∧ GameAt C H a g ∧ H q = some (.lst ((argsC k).map V.int)) ∧ Done C H a (step g k) Q
theorem scAnsOf : FnScope ["game", "call", "numbers"] ["game", "call", "numbers"] (defScope sAnsOf) := ⟨rfl, rfl, rfl, by decide +kernel, rfl, by decide +kernel, by decide +kernel⟩
theorem ok_ansOf {f C : Addr} {fd : FuncData} (F : Fun K "answer_of" "answer_of" sAnsOf f fd) (T : Txt K mg C) (c : Cst3 mg)
    (E0' : MthOk P w K mg base C "rules" "Game.rules" sRules ["self", "full", "over", "shares"] 2 (spRules C)) (E1 : MthOk P w K mg base C "stand" "Game.stand" sStand ["self", "hands"] 5 (spStand C)) (E2 : MthOk P w K mg base C "turns" "Game.turns" sTurns ["self"] 5 (spTurns C)) (E3 : MthOk P w K mg base C "take" "Game.take" sTake ["self", "k"] 5 (spTake C))
    (E4 : MthOk P w K mg base C "worth" "Game.worth" sWorth ["self"] 6 (spWorth C)) (E5 : MthOk P w K mg base C "good" "Game.good" sGood ["self"] 6 (spGood C)) (E6 : MthOk P w K mg base C "play" "Game.play" sPlay ["self", "n"] 6 (spPlay C)) (E7 : MthOk P w K mg base C "kinds" "Game.kinds" sKinds ["self"] 6 (spKinds C)) (E8 : MthOk P w K mg base C "hardest" "Game.hardest" sHard ["self"] 6 (spHard C)) :
    FnOk P w K mg base CX0 7 f fd ["game", "call", "numbers"] (spAnsOf C) := by
  obtain ⟨f0, fd0, M0, G0⟩ := E0'.ex
  obtain ⟨f1, fd1, M1, G1⟩ := E1.ex
  obtain ⟨f2, fd2, M2, G2⟩ := E2.ex
  obtain ⟨f3, fd3, M3, G3⟩ := E3.ex
  obtain ⟨f4, fd4, M4, G4⟩ := E4.ex
  obtain ⟨f5, fd5, M5, G5⟩ := E5.ex
  obtain ⟨f6, fd6, M6, G6⟩ := E6.ex
  obtain ⟨f7, fd7, M7, G7⟩ := E7.ex
  obtain ⟨f8, fd8, M8, G8⟩ := E8.ex
  refine F.ok scAnsOf (fun vs H Q E h => ?_) (fun cdv A outer s H vs Q E hr h => ?_)
  · obtain ⟨a, q, g, k, rfl, _⟩ := h
    rfl
  · obtain ⟨a, q, g, k, rfl, hg, hG, hq, hk⟩ := h
    obtain ⟨t0, h0⟩ := c.c0
    obtain ⟨t1, h1⟩ := c.c1
    obtain ⟨t2, h2⟩ := c.c2
    obtain ⟨t3, h3⟩ := c.c3
    obtain ⟨t4, h4⟩ := c.c4
    obtain ⟨t5, h5⟩ := c.c5
    obtain ⟨t6, h6⟩ := c.c6
    obtain ⟨t7, h7⟩ := c.c7
    have hr2 : Room 2 _ := hr.mono (by decide)
    have hr5 : Room 5 _ := hr.mono (by decide)
    refine ⟨_, pss_cons (ps_if (pt_cmpR op_eq (pv 1) (pe_glob (v := .int 0) rfl h0 ⟨_, rfl⟩) (nomark _)) (pss_one (ps_ret (pe_meth (pv 0) T.cl M0.m G0 hr2 M0.b .nil pass0 (pa_cons (pe_ix ix_list (pv 2) pe_int (fun _ _ => rfl)) (pa_cons (pe_ix ix_list (pv 2) pe_int (fun _ _ => rfl)) (pa_cons (pe_ix ix_list (pv 2) pe_int (fun _ _ => rfl)) pa_nil)))))) pss_nil)
      (pss_cons (ps_if (pt_cmpR op_eq (pv 1) (pe_glob (v := .int 1) rfl h1 ⟨_, rfl⟩) (nomark _)) (pss_one (ps_ret (pe_meth (pv 0) T.cl M1.m G1 hr5 M1.b .nil pass0 (pa_cons (pv 2) pa_nil)))) pss_nil)
      (pss_cons (ps_if (pt_cmpR op_eq (pv 1) (pe_glob (v := .int 2) rfl h2 ⟨_, rfl⟩) (nomark _)) (pss_one (ps_ret (pe_meth0 (pv 0) T.cl M2.m G2 hr5 M2.b .nil pass0))) pss_nil)
      (pss_cons (ps_if (pt_cmpR op_eq (pv 1) (pe_glob (v := .int 3) rfl h3 ⟨_, rfl⟩) (nomark _)) (pss_one (ps_ret (pe_meth (pv 0) T.cl M3.m G3 hr5 M3.b .nil pass0 (pa_cons (pe_ix ix_list (pv 2) pe_int (fun _ _ => rfl)) pa_nil)))) pss_nil)
      (pss_cons (ps_if (pt_cmpR op_eq (pv 1) (pe_glob (v := .int 4) rfl h4 ⟨_, rfl⟩) (nomark _)) (pss_one (ps_ret (pe_meth0 (pv 0) T.cl M4.m G4 hr M4.b .nil pass0))) pss_nil)
      (pss_cons (ps_if (pt_cmpR op_eq (pv 1) (pe_glob (v := .int 5) rfl h5 ⟨_, rfl⟩) (nomark _)) (pss_one (ps_ret (pe_meth0 (pv 0) T.cl M5.m G5 hr M5.b .nil pass0))) pss_nil)
      (pss_cons (ps_if (pt_cmpR op_eq (pv 1) (pe_glob (v := .int 6) rfl h6 ⟨_, rfl⟩) (nomark _)) (pss_one (ps_ret (pe_meth (pv 0) T.cl M6.m G6 hr M6.b .nil pass0 (pa_cons (pe_ix ix_list (pv 2) pe_int (fun _ _ => rfl)) pa_nil)))) pss_nil)
      (pss_cons (ps_if (pt_cmpR op_eq (pv 1) (pe_glob (v := .int 7) rfl h7 ⟨_, rfl⟩) (nomark _)) (pss_one (ps_ret (pe_meth0 (pv 0) T.cl M7.m G7 hr M7.b .nil pass0))) pss_nil)
      (pss_one (ps_ret (pe_meth0 (pv 0) T.cl M8.m G8 hr M8.b .nil pass0)))))))))), ?_⟩
    obtain ⟨dx, p, ha, hp⟩ := id hG
    cases k with
    | rules x y z =>
      refine ⟨_, rfl, rfl, _, rfl, if_yes ?_⟩
      exact ⟨_, rfl, a, dx, _, rfl, ha, no_rules _ _, _, rfl, q, _, _, _, rfl, rfl, SqL.of hq, rfl, _, rfl, q, _, _, _, rfl, rfl, SqL.of hq, rfl, _, rfl, q, _, _, _, rfl, rfl, SqL.of hq, rfl, a, g, x, y, z, rfl, hG, hk⟩
    | stand x y z u =>
      refine ⟨_, rfl, rfl, _, rfl, if_no rfl ⟨_, rfl, rfl, _, rfl, if_yes ?_⟩⟩
      exact ⟨_, rfl, a, dx, _, rfl, ha, no_stand _ _, _, rfl, a, q, g, x, y, z, u, rfl, hg, hG, hq, hk⟩
    | turns =>
      refine ⟨_, rfl, rfl, _, rfl, if_no rfl ⟨_, rfl, rfl, _, rfl, if_no rfl ⟨_, rfl, rfl, _, rfl, if_yes ?_⟩⟩⟩
      exact ⟨_, rfl, a, dx, _, rfl, ha, no_turns _ _, a, g, rfl, hg, hG, hk⟩
    | take n =>
      refine ⟨_, rfl, rfl, _, rfl, if_no rfl ⟨_, rfl, rfl, _, rfl, if_no rfl ⟨_, rfl, rfl, _, rfl, if_no rfl ⟨_, rfl, rfl, _, rfl, if_yes ?_⟩⟩⟩⟩
      exact ⟨_, rfl, a, dx, _, rfl, ha, no_take _ _, _, rfl, q, _, _, _, rfl, rfl, SqL.of hq, rfl, a, g, n, rfl, hg, hG, hk⟩
    | worth =>
      refine ⟨_, rfl, rfl, _, rfl, if_no rfl ⟨_, rfl, rfl, _, rfl, if_no rfl ⟨_, rfl, rfl, _, rfl, if_no rfl ⟨_, rfl, rfl, _, rfl, if_no rfl ⟨_, rfl, rfl, _, rfl, if_yes ?_⟩⟩⟩⟩⟩
      exact ⟨_, rfl, a, dx, _, rfl, ha, no_worth _ _, a, g, rfl, hg, hG, hk⟩
    | good =>
      refine ⟨_, rfl, rfl, _, rfl, if_no rfl ⟨_, rfl, rfl, _, rfl, if_no rfl ⟨_, rfl, rfl, _, rfl, if_no rfl ⟨_, rfl, rfl, _, rfl, if_no rfl ⟨_, rfl, rfl, _, rfl, if_no rfl ⟨_, rfl, rfl, _, rfl, if_yes ?_⟩⟩⟩⟩⟩⟩
      exact ⟨_, rfl, a, dx, _, rfl, ha, no_good _ _, a, g, rfl, hg, hG, hk⟩
    | play n =>
      refine ⟨_, rfl, rfl, _, rfl, if_no rfl ⟨_, rfl, rfl, _, rfl, if_no rfl ⟨_, rfl, rfl, _, rfl, if_no rfl ⟨_, rfl, rfl, _, rfl, if_no rfl ⟨_, rfl, rfl, _, rfl, if_no rfl ⟨_, rfl, rfl, _, rfl, if_no rfl ⟨_, rfl, rfl, _, rfl, if_yes ?_⟩⟩⟩⟩⟩⟩⟩
      exact ⟨_, rfl, a, dx, _, rfl, ha, no_play _ _, _, rfl, q, _, _, _, rfl, rfl, SqL.of hq, rfl, a, g, n, rfl, hg, hG, hk⟩
    | kinds =>
      refine ⟨_, rfl, rfl, _, rfl, if_no rfl ⟨_, rfl, rfl, _, rfl, if_no rfl ⟨_, rfl, rfl, _, rfl, if_no rfl ⟨_, rfl, rfl, _, rfl, if_no rfl ⟨_, rfl, rfl, _, rfl, if_no rfl ⟨_, rfl, rfl, _, rfl, if_no rfl ⟨_, rfl, rfl, _, rfl, if_no rfl ⟨_, rfl, rfl, _, rfl, if_yes ?_⟩⟩⟩⟩⟩⟩⟩⟩
      exact ⟨_, rfl, a, dx, _, rfl, ha, no_kinds _ _, a, g, rfl, hg, hG, hk⟩
    | hardest =>
      refine ⟨_, rfl, rfl, _, rfl, if_no rfl ⟨_, rfl, rfl, _, rfl, if_no rfl ⟨_, rfl, rfl, _, rfl, if_no rfl ⟨_, rfl, rfl, _, rfl, if_no rfl ⟨_, rfl, rfl, _, rfl, if_no rfl ⟨_, rfl, rfl, _, rfl, if_no rfl ⟨_, rfl, rfl, _, rfl, if_no rfl ⟨_, rfl, rfl, _, rfl, if_no rfl ?_⟩⟩⟩⟩⟩⟩⟩⟩
      exact ⟨_, rfl, a, dx, _, rfl, ha, no_hard _ _, a, g, rfl, hg, hG, hk⟩
end
end Ft
namespace Ft
open PySem PySem.Spec PyProof.Rows L2 Uw72
/-- the tuple of how many numbers are behind a call's own -/
structure Nb (K : PySem.W.Frag) (mg : Str → Option Value) (q : Addr) : Prop where
  m : mg "NUMBERS_BEHIND" = some (.ref q)
  t : ∀ H : Hp, SqT K H q (behinds.map V.int)
theorem told_cons (x : List Int) (l : List (List Int)) : PyFlat.told (x :: l) = ((x.length : Int) :: x) ++ PyFlat.told l := by
  unfold PyFlat.told
  rw [List.flatMap_cons]
theorem enc_len (k : Call) : (encC k).length = 1 + (argsC k).length := by rw [enc_eq, List.length_cons]; omega
theorem cut_args {pre rest : List Int} {k : Call} {i j : Int} (hi : i = ((pre.length + 1 : Nat) : Int)) (hj : j = ((pre.length + 1 + (argsC k).length : Nat) : Int)) : cutV ((pre ++ (encC k ++ rest)).map V.int) (some i) (some j) = (argsC k).map V.int := by
  subst hi hj
  unfold cutV
  rw [HT.sIx_nat, HT.sIx_nat, List.length_map, List.length_append, List.length_append, enc_len]
  have m1 : min (pre.length + 1) (pre.length + (1 + (argsC k).length + rest.length)) = pre.length + 1 := by omega
  have m2 : min (pre.length + 1 + (argsC k).length) (pre.length + (1 + (argsC k).length + rest.length)) = pre.length + 1 + (argsC k).length := by omega
  have m3 : pre.length + 1 + (argsC k).length - (pre.length + 1) = (argsC k).length := by omega
  rw [m1, m2, m3, ← List.map_drop, ← List.map_take, enc_eq]
  have e : (pre ++ ((codeC k : Int) :: argsC k ++ rest)).drop (pre.length + 1) = argsC k ++ rest := by
    rw [← List.drop_drop, List.drop_left]
    rfl
  rw [e, List.take_left]
theorem code_at {pre rest : List Int} {k : Call} : ((pre ++ (encC k ++ rest)).map V.int)[pre.length]? = some (.int (codeC k)) := by
  rw [List.getElem?_map, List.getElem?_append_right (Nat.le_refl _), Nat.sub_self, enc_eq]
  rfl
section
variable {P : Program} {w : World} {K : PySem.W.Frag} {mg : Str → Option Value} {base : Heap}
def spAns (K : PySem.W.Frag) : Sp := fun vs H Q _ => ∃ (a : Addr) (ns : List Int), vs = [.ref a] ∧ SqL K H a (ns.map V.int) ∧ PyUw72.answers_asked ns = true ∧ ns.length ≤ 300 ∧ ∀ (H' : Hp) (p : Addr), H' p = some (.lst ((PyUw72.answers ns).map V.int)) → Q (.ref p) H'
theorem scAns : FnScope ["calls", "game", "given", "at", "call", "behind", "answer"] ["calls"] (defScope sAns) := ⟨rfl, rfl, rfl, by decide +kernel, rfl, by decide +kernel, by decide +kernel⟩
theorem ok_ans {f f1 f2 C qN : Addr} {fd fd1 fd2 : FuncData} (F : Fun K "answers" "answers" sAns f fd) (B : Blt mg) (T : Txt K mg C) (N : Nb K mg qN) (M : Mk K C f1) (bI : Binds K fd1 ["self"] []) (GI : FnOk P w K mg base CX0 2 f1 fd1 ["self"] (spInit C))
    (D2 : Def K mg "answer_of" sAnsOf ["game", "call", "numbers"] f2 fd2) (G2 : FnOk P w K mg base CX0 7 f2 fd2 ["game", "call", "numbers"] (spAnsOf C)) : FnOk P w K mg base CX0 8 f fd ["calls"] (spAns K) := by
  refine F.ok scAns (fun vs H Q E h => ?_) (fun cdv A outer s H vs Q E hr h => ?_)
  · obtain ⟨a, ns, rfl, _⟩ := h
    rfl
  · obtain ⟨a, ns, rfl, hS, hask, hlen, k⟩ := h
    obtain ⟨ks, e1, e2, e3⟩ := asked_calls hask
    refine ⟨_, pss_cons (ps_set (i := 1) scAns.nd rfl (Or.inl rfl) (pe_make0 M GI (hr.mono (by decide)) rfl T.mgC bI .nil pass0))
      (pss_cons (ps_set (i := 2) scAns.nd rfl (Or.inl rfl) (pe_lst pa_nil))
      (pss_cons (ps_set (i := 3) scAns.nd rfl (Or.inl rfl) pe_int)
      (pss_cons (ps_while PassesOwn.never (pt_cmpR op_lt (pv 3) (pe_callB call_len_seq rfl B.len PySem.boot_len (pa_cons (pv 0) pa_nil)) (nomark _))
        (pss_cons (ps_set (i := 4) scAns.nd rfl (Or.inl rfl) (pe_ix ix_list (pv 0) (pv 3) (fun _ _ => rfl)))
        (pss_cons (ps_set (i := 5) scAns.nd rfl (Or.inl rfl) (pe_op op_add (pe_op op_add (pv 3) pe_int) (pe_ix ix_tup (pe_glob (v := .ref qN) rfl N.m rfl) (pv 4) (fun _ _ => rfl))))
        (pss_cons (ps_set (i := 6) scAns.nd rfl (Or.inl rfl) (pe_call G2 hr rfl D2.m D2.F.kp D2.b .nil pass0 (pa_cons (pv 1) (pa_cons (pv 4) (pa_cons (pe_slice sl_list (pv 0) (po_some (pe_op op_add (pv 3) pe_int)) (po_some (pv 5))) pa_nil)))))
        (pss_cons (ps_expr (pe_bm PySem.F.plainAttrs_list PySem.F.slot_list_append PySem.F.type_list_append mt_append (pv 2) (pa_cons (pe_callB call_len_seq rfl B.len PySem.boot_len (pa_cons (pv 6) pa_nil)) pa_nil)))
        (pss_cons (ps_expr (pe_bm PySem.F.plainAttrs_list PySem.F.slot_list_extend PySem.F.type_list_extend mt_extend (pv 2) (pa_cons (pv 6) pa_nil)))
        (pss_one (ps_set (i := 3) scAns.nd rfl (Or.inl rfl) (pv 5)))))))))
      (pss_one (ps_ret (pv 2)))))), ?_⟩
    -- game = Game(); given = []; at = 0
    intro x dx nx ndx nex
    refine ⟨x, dx, rfl, upd_same, fun H1 g1 n1 => ⟨rfl, ?_⟩⟩
    have s1 : Same H H1 := Same.made nx ndx (fun b o e hb => n1 b o hb e)
    refine ⟨Nat.zero_le _, fun gl fg => ?_⟩
    have s2 := Same.new (o := .lst []) fg
    have fgl : H gl = none := s1.free fg
    have ngx : gl ≠ x := fun z => by
      obtain ⟨_, _, q, _⟩ := g1
      rw [z, q] at fg
      cases fg
    refine ⟨fun m σ H' => ∃ (pre : List Int) (rest : List Call) (G : List Int) (g : Uw72.St) (v4 v5 v6 : Option V), m = rest.length ∧ σ = [some (.ref a), some (.ref x), some (.ref gl), some (.int (pre.length : Nat)), v4, v5, v6] ∧ Same H H' ∧ GOk g ∧ GameAt C H' x g ∧ H' gl = some (.lst (G.map V.int)) ∧
        ns = pre ++ rest.flatMap encC ∧ PyUw72.answers ns = G ++ PyFlat.told (runC g rest),
      ⟨_, [], ks, [], init, none, none, none, rfl, rfl, s1.trans s2, init_ok, g1.same s2, upd_same, e1, e2⟩, ?_⟩
    rintro m σ H' ⟨pre, rest, G, g, v4, v5, v6, rfl, rfl, sH, hg, hG, hgl, ens, eans⟩
    refine ⟨_, rfl, _, rfl, a, _, rfl, .inl (sH.seq hS), _, _, rfl, rfl, _, rfl, ?_⟩
    refine ite2 (fun h0 => ?_) (fun h0 => ?_)
    · have h0 := of_decide_eq_true h0
      rw [List.length_map] at h0
      cases rest with
      | nil =>
        rw [List.flatMap_nil, List.append_nil] at ens
        rw [ens] at h0
        omega
      | cons kk rest =>
        rw [List.flatMap_cons] at ens
        refine ⟨fun σ' H2 => ∃ (pre : List Int) (G : List Int) (g : Uw72.St) (v4 v5 v6 : Option V), σ' = [some (.ref a), some (.ref x), some (.ref gl), some (.int (pre.length : Nat)), v4, v5, v6] ∧ Same H H2 ∧ GOk g ∧ GameAt C H2 x g ∧ H2 gl = some (.lst (G.map V.int)) ∧
            ns = pre ++ rest.flatMap encC ∧ PyUw72.answers ns = G ++ PyFlat.told (runC g rest),
          fun σ' H2 ⟨pre, G, g, v4, v5, v6, r1, r2, r3, r4, r5, r6, r7⟩ => ⟨rest.length, Nat.lt_succ_self _, pre, rest, G, g, v4, v5, v6, rfl, r1, r2, r3, r4, r5, r6, r7⟩, ?_⟩
        have hat : (ns.map V.int)[pre.length]? = some (.int (codeC kk)) := by rw [ens]; exact code_at
        refine ⟨_, rfl, _, rfl, a, _, _, _, rfl, rfl, sH.seq hS, at_of (j := pre.length) rfl hat, ?_⟩
        refine ⟨_, rfl, _, _, rfl, rfl, _, rfl, qN, _, _, _, rfl, rfl, N.t _, at_of (j := codeC kk) rfl (behind_at kk), _, _, rfl, rfl, ?_⟩
        refine ⟨_, rfl, _, rfl, _, rfl, _, rfl, _, _, rfl, rfl, _, rfl, _, rfl, _, rfl, a, _, rfl, sH.seq hS, fun q fq => ?_⟩
        have ecut : cutV (ns.map V.int) (some ((pre.length : Nat) + 1 : Int)) (some ((pre.length : Nat) + 1 + ((argsC kk).length : Nat) : Int)) = (argsC kk).map V.int := by
          rw [ens]
          exact cut_args (by omega) (by omega)
        dsimp only
        rw [ecut]
        have s3 := Same.new (o := .lst ((argsC kk).map V.int)) fq
        refine ⟨x, q, g, kk, rfl, hg, hG.same s3, upd_same, fun H3 l n3 f3 g3 h3 => ?_⟩
        rw [show runC g (kk :: rest) = (step g kk).2 :: runC (step g kk).1 rest from rfl, told_cons] at eans
        have lenA : G.length + (1 + (step g kk).2.length) ≤ 10000000 := by
          rw [eans, List.length_append, List.length_append, List.length_cons] at e3
          omega
        have ngl : l ≠ gl := fun z => by rw [z, s3 _ _ hgl] at f3; cases f3
        have hgl3 : H3 gl = some (.lst (G.map V.int)) := n3 _ _ ngx (s3 _ _ hgl)
        have sH3 : Same H H3 := fun b o e => n3 b o (ne_of_none e nx) (s3 _ _ (sH b o e))
        have small : ∀ n : Nat, n ≤ 10000000 → n < sizeLine := fun n hn => by rw [sizeLine_eq]; omega
        refine ⟨_, rfl, .inl ⟨rfl, _, SqL.of hgl3⟩, _, rfl, l, _, rfl, .inl (SqL.of h3), gl, _, _, rfl, rfl, hgl3, small _ (by rw [List.length_map]; omega), ?_⟩
        refine ⟨_, rfl, .inl ⟨rfl, _, SqL.of upd_same⟩, _, rfl, gl, l, _, _, rfl, rfl, upd_same, (by rw [upd_ne ngl]; exact h3), Nat.le_of_lt (small _ (by rw [List.length_append, List.length_map, List.length_map]; show G.length + 1 + _ ≤ _; omega)), ?_⟩
        refine ⟨_, rfl, pre ++ encC kk, G ++ ((((step g kk).2.length : Nat) : Int) :: (step g kk).2), (step g kk).1, some (.int (codeC kk)), some (.int ((pre.length : Int) + 1 + ((argsC kk).length : Int))), some (.ref l), ?_, Same.upd (Same.upd sH3 fgl) fgl, step_ok hg kk, ?_, ?_, ?_, ?_⟩
        · have el : (((pre ++ encC kk).length : Nat) : Int) = (pre.length : Int) + 1 + ((argsC kk).length : Int) := by
            rw [List.length_append, enc_len]
            omega
          rw [el]
          rfl
        · obtain ⟨dx3, p3, ha3, hp3⟩ := g3
          have np : p3 ≠ gl := fun z => by rw [z, hgl3] at hp3; cases hp3
          exact ⟨dx3, p3, by rw [upd_ne (Ne.symm ngx), upd_ne (Ne.symm ngx)]; exact ha3, by rw [upd_ne np, upd_ne np]; exact hp3⟩
        · rw [upd_same, List.map_append, List.length_map]
          simp
        · rw [ens, List.append_assoc]
        · rw [eans, List.append_assoc]
    · have h0 := of_decide_eq_false (Bool.eq_false_iff.mpr h0)
      rw [List.length_map, ens, List.length_append] at h0
      have er : rest = [] := by
        cases rest with
        | nil => rfl
        | cons kk rest =>
          rw [List.flatMap_cons, List.length_append, enc_len] at h0
          omega
      subst er
      have eG : PyUw72.answers ns = G := by
        rw [eans]
        show G ++ [] = G
        rw [List.append_nil]
      refine ⟨_, rfl, k H' gl ?_⟩
      rw [eG]
      exact hgl
end
end Ft
namespace Ft
open PySem PySem.Spec PyProof.Rows L2 Uw72
open PySem.W (Codec)
theorem all_mk {P : Program} {w : World} {K : PySem.W.Frag} {h : Heap} {mg : Str → Option Value} {fa C fm1 fm2 fm3 fm4 fm5 fm6 fm7 fm8 fm9 fm10 fm11 fm12 fm13 fm14 fd1 fd2 fd3 fd4 fd5 fd6 fd7 fd8 fd9 fd10 fd11 fd12 fd13 fd14 fd15 q_NUMBERS_BEHIND : Addr} (X : K.In h) (G : h.Ns mainGlobals mg) (hfa : mg "answers" = some (.ref fa))
    {odm1 anm1 odm2 anm2 odm3 anm3 odm4 anm4 odm5 anm5 odm6 anm6 odm7 anm7 odm8 anm8 odm9 anm9 odm10 anm10 odm11 anm11 odm12 anm12 odm13 anm13 odm14 anm14 odd1 and1 odd2 and2 odd3 and3 odd4 and4 odd5 and5 odd6 and6 odd7 and7 odd8 and8 odd9 and9 odd10 and10 odd11 and11 odd12 and12 odd13 and13 odd14 and14 odd15 and15 od_NUMBERS_BEHIND : Option Addr} {slm1 slm2 slm3 slm4 slm5 slm6 slm7 slm8 slm9 slm10 slm11 slm12 slm13 slm14 sld1 sld2 sld3 sld4 sld5 sld6 sld7 sld8 sld9 sld10 sld11 sld12 sld13 sld14 sld15 sl_NUMBERS_BEHIND : Array (Option Value)} {ocm1 kVm1 dcm1 pmm1 cdm1 ctm1 ocm2 kVm2 dcm2 pmm2 cdm2 ctm2 ocm3 kVm3 dcm3 pmm3 cdm3 ctm3 ocm4 kVm4 dcm4 pmm4 cdm4 ctm4 ocm5 kVm5 dcm5 pmm5 cdm5 ctm5 ocm6 kVm6 dcm6 pmm6 cdm6 ctm6 ocm7 kVm7 dcm7 pmm7 cdm7 ctm7 ocm8 kVm8 dcm8 pmm8 cdm8 ctm8 ocm9 kVm9 dcm9 pmm9 cdm9 ctm9 ocm10 kVm10 dcm10 pmm10 cdm10 ctm10 ocm11 kVm11 dcm11 pmm11 cdm11 ctm11 ocm12 kVm12 dcm12 pmm12 cdm12 ctm12 ocm13 kVm13 dcm13 pmm13 cdm13 ctm13 ocm14 kVm14 dcm14 pmm14 cdm14 ctm14 ocd1 kVd1 dcd1 pmd1 cdd1 ctd1 ocd2 kVd2 dcd2 pmd2 cdd2 ctd2 ocd3 kVd3 dcd3 pmd3 cdd3 ctd3 ocd4 kVd4 dcd4 pmd4 cdd4 ctd4 ocd5 kVd5 dcd5 pmd5 cdd5 ctd5 ocd6 kVd6 dcd6 pmd6 cdd6 ctd6 ocd7 kVd7 dcd7 pmd7 cdd7 ctd7 ocd8 kVd8 dcd8 pmd8 cdd8 ctd8 ocd9 kVd9 dcd9 pmd9 cdd9 ctd9 ocd10 kVd10 dcd10 pmd10 cdd10 ctd10 ocd11 kVd11 dcd11 pmd11 cdd11 ctd11 ocd12 kVd12 dcd12 pmd12 cdd12 ctd12 ocd13 kVd13 dcd13 pmd13 cdd13 ctd13 ocd14 kVd14 dcd14 pmd14 cdd14 ctd14 ocd15 kVd15 dcd15 pmd15 cdd15 ctd15 : Value} {t_RULES t_STAND t_TURNS t_TAKE t_WORTH t_GOOD t_PLAY t_KINDS t_MOST_PLAYED t_OUT_OF_BOUNDS t_NO_SUCH_TURN t_NO_HAND_LEFT t_FOR_EVER t_WON t_LOST u_NUMBERS_BEHIND0 u_NUMBERS_BEHIND1 u_NUMBERS_BEHIND2 u_NUMBERS_BEHIND3 u_NUMBERS_BEHIND4 u_NUMBERS_BEHIND5 u_NUMBERS_BEHIND6 u_NUMBERS_BEHIND7 u_NUMBERS_BEHIND8 : Tok} {n_NUMBERS_BEHIND : Nat}
    (aC : PySem.W.nsIn K mainGlobals "Game" = some (some (.ref C)))
    (am1 : PySem.W.findIn K (.ref C) "__init__" = some (some (.ref fm1)))
    (im1 : PySem.W.isFn K (.ref fm1) = true)
    (lm1 : K.lookup fm1 = some ⟨ocm1, odm1, .func (PySem.W.fnOf "__init__" "Game.__init__" (defArgs (inClass (top 30) 0)) (defBody (inClass (top 30) 0)) (defScope (inClass (top 30) 0)) .none kVm1 dcm1 pmm1 anm1 cdm1 ctm1), slm1⟩)
    (cm1 : PySem.W.codeIn K cdm1 "Game.__init__" = true)
    (km1 : PySem.W.keepIn K (.ref fm1) = true)
    (am2 : PySem.W.findIn K (.ref C) "begin" = some (some (.ref fm2)))
    (im2 : PySem.W.isFn K (.ref fm2) = true)
    (lm2 : K.lookup fm2 = some ⟨ocm2, odm2, .func (PySem.W.fnOf "begin" "Game.begin" (defArgs (inClass (top 30) 1)) (defBody (inClass (top 30) 1)) (defScope (inClass (top 30) 1)) .none kVm2 dcm2 pmm2 anm2 cdm2 ctm2), slm2⟩)
    (cm2 : PySem.W.codeIn K cdm2 "Game.begin" = true)
    (km2 : PySem.W.keepIn K (.ref fm2) = true)
    (am3 : PySem.W.findIn K (.ref C) "stands_behind" = some (some (.ref fm3)))
    (im3 : PySem.W.isFn K (.ref fm3) = true)
    (lm3 : K.lookup fm3 = some ⟨ocm3, odm3, .func (PySem.W.fnOf "stands_behind" "Game.stands_behind" (defArgs (inClass (top 30) 2)) (defBody (inClass (top 30) 2)) (defScope (inClass (top 30) 2)) .none kVm3 dcm3 pmm3 anm3 cdm3 ctm3), slm3⟩)
    (cm3 : PySem.W.codeIn K cdm3 "Game.stands_behind" = true)
    (km3 : PySem.W.keepIn K (.ref fm3) = true)
    (am4 : PySem.W.findIn K (.ref C) "settled_by_rules" = some (some (.ref fm4)))
    (im4 : PySem.W.isFn K (.ref fm4) = true)
    (lm4 : K.lookup fm4 = some ⟨ocm4, odm4, .func (PySem.W.fnOf "settled_by_rules" "Game.settled_by_rules" (defArgs (inClass (top 30) 3)) (defBody (inClass (top 30) 3)) (defScope (inClass (top 30) 3)) .none kVm4 dcm4 pmm4 anm4 cdm4 ctm4), slm4⟩)
    (cm4 : PySem.W.codeIn K cdm4 "Game.settled_by_rules" = true)
    (km4 : PySem.W.keepIn K (.ref fm4) = true)
    (am5 : PySem.W.findIn K (.ref C) "good_turns" = some (some (.ref fm5)))
    (im5 : PySem.W.isFn K (.ref fm5) = true)
    (lm5 : K.lookup fm5 = some ⟨ocm5, odm5, .func (PySem.W.fnOf "good_turns" "Game.good_turns" (defArgs (inClass (top 30) 4)) (defBody (inClass (top 30) 4)) (defScope (inClass (top 30) 4)) .none kVm5 dcm5 pmm5 anm5 cdm5 ctm5), slm5⟩)
    (cm5 : PySem.W.codeIn K cdm5 "Game.good_turns" = true)
    (km5 : PySem.W.keepIn K (.ref fm5) = true)
    (am6 : PySem.W.findIn K (.ref C) "rules" = some (some (.ref fm6)))
    (im6 : PySem.W.isFn K (.ref fm6) = true)
    (lm6 : K.lookup fm6 = some ⟨ocm6, odm6, .func (PySem.W.fnOf "rules" "Game.rules" (defArgs (inClass (top 30) 5)) (defBody (inClass (top 30) 5)) (defScope (inClass (top 30) 5)) .none kVm6 dcm6 pmm6 anm6 cdm6 ctm6), slm6⟩)
    (cm6 : PySem.W.codeIn K cdm6 "Game.rules" = true)
    (km6 : PySem.W.keepIn K (.ref fm6) = true)
    (am7 : PySem.W.findIn K (.ref C) "stand" = some (some (.ref fm7)))
    (im7 : PySem.W.isFn K (.ref fm7) = true)
    (lm7 : K.lookup fm7 = some ⟨ocm7, odm7, .func (PySem.W.fnOf "stand" "Game.stand" (defArgs (inClass (top 30) 6)) (defBody (inClass (top 30) 6)) (defScope (inClass (top 30) 6)) .none kVm7 dcm7 pmm7 anm7 cdm7 ctm7), slm7⟩)
    (cm7 : PySem.W.codeIn K cdm7 "Game.stand" = true)
    (km7 : PySem.W.keepIn K (.ref fm7) = true)
    (am8 : PySem.W.findIn K (.ref C) "turns" = some (some (.ref fm8)))
    (im8 : PySem.W.isFn K (.ref fm8) = true)
    (lm8 : K.lookup fm8 = some ⟨ocm8, odm8, .func (PySem.W.fnOf "turns" "Game.turns" (defArgs (inClass (top 30) 7)) (defBody (inClass (top 30) 7)) (defScope (inClass (top 30) 7)) .none kVm8 dcm8 pmm8 anm8 cdm8 ctm8), slm8⟩)
    (cm8 : PySem.W.codeIn K cdm8 "Game.turns" = true)
    (km8 : PySem.W.keepIn K (.ref fm8) = true)
    (am9 : PySem.W.findIn K (.ref C) "take" = some (some (.ref fm9)))
    (im9 : PySem.W.isFn K (.ref fm9) = true)
    (lm9 : K.lookup fm9 = some ⟨ocm9, odm9, .func (PySem.W.fnOf "take" "Game.take" (defArgs (inClass (top 30) 8)) (defBody (inClass (top 30) 8)) (defScope (inClass (top 30) 8)) .none kVm9 dcm9 pmm9 anm9 cdm9 ctm9), slm9⟩)
    (cm9 : PySem.W.codeIn K cdm9 "Game.take" = true)
    (km9 : PySem.W.keepIn K (.ref fm9) = true)
    (am10 : PySem.W.findIn K (.ref C) "worth" = some (some (.ref fm10)))
    (im10 : PySem.W.isFn K (.ref fm10) = true)
    (lm10 : K.lookup fm10 = some ⟨ocm10, odm10, .func (PySem.W.fnOf "worth" "Game.worth" (defArgs (inClass (top 30) 9)) (defBody (inClass (top 30) 9)) (defScope (inClass (top 30) 9)) .none kVm10 dcm10 pmm10 anm10 cdm10 ctm10), slm10⟩)
    (cm10 : PySem.W.codeIn K cdm10 "Game.worth" = true)
    (km10 : PySem.W.keepIn K (.ref fm10) = true)
    (am11 : PySem.W.findIn K (.ref C) "good" = some (some (.ref fm11)))
    (im11 : PySem.W.isFn K (.ref fm11) = true)
    (lm11 : K.lookup fm11 = some ⟨ocm11, odm11, .func (PySem.W.fnOf "good" "Game.good" (defArgs (inClass (top 30) 10)) (defBody (inClass (top 30) 10)) (defScope (inClass (top 30) 10)) .none kVm11 dcm11 pmm11 anm11 cdm11 ctm11), slm11⟩)
    (cm11 : PySem.W.codeIn K cdm11 "Game.good" = true)
    (km11 : PySem.W.keepIn K (.ref fm11) = true)
    (am12 : PySem.W.findIn K (.ref C) "play" = some (some (.ref fm12)))
    (im12 : PySem.W.isFn K (.ref fm12) = true)
    (lm12 : K.lookup fm12 = some ⟨ocm12, odm12, .func (PySem.W.fnOf "play" "Game.play" (defArgs (inClass (top 30) 11)) (defBody (inClass (top 30) 11)) (defScope (inClass (top 30) 11)) .none kVm12 dcm12 pmm12 anm12 cdm12 ctm12), slm12⟩)
    (cm12 : PySem.W.codeIn K cdm12 "Game.play" = true)
    (km12 : PySem.W.keepIn K (.ref fm12) = true)
    (am13 : PySem.W.findIn K (.ref C) "kinds" = some (some (.ref fm13)))
    (im13 : PySem.W.isFn K (.ref fm13) = true)
    (lm13 : K.lookup fm13 = some ⟨ocm13, odm13, .func (PySem.W.fnOf "kinds" "Game.kinds" (defArgs (inClass (top 30) 12)) (defBody (inClass (top 30) 12)) (defScope (inClass (top 30) 12)) .none kVm13 dcm13 pmm13 anm13 cdm13 ctm13), slm13⟩)
    (cm13 : PySem.W.codeIn K cdm13 "Game.kinds" = true)
    (km13 : PySem.W.keepIn K (.ref fm13) = true)
    (am14 : PySem.W.findIn K (.ref C) "hardest" = some (some (.ref fm14)))
    (im14 : PySem.W.isFn K (.ref fm14) = true)
    (lm14 : K.lookup fm14 = some ⟨ocm14, odm14, .func (PySem.W.fnOf "hardest" "Game.hardest" (defArgs (inClass (top 30) 13)) (defBody (inClass (top 30) 13)) (defScope (inClass (top 30) 13)) .none kVm14 dcm14 pmm14 anm14 cdm14 ctm14), slm14⟩)
    (cm14 : PySem.W.codeIn K cdm14 "Game.hardest" = true)
    (km14 : PySem.W.keepIn K (.ref fm14) = true)
    (ad1 : PySem.W.nsIn K mainGlobals "two_hands" = some (some (.ref fd1)))
    (ld1 : K.lookup fd1 = some ⟨ocd1, odd1, .func (PySem.W.fnOf "two_hands" "two_hands" (defArgs (top 17)) (defBody (top 17)) (defScope (top 17)) .none kVd1 dcd1 pmd1 and1 cdd1 ctd1), sld1⟩)
    (cd1 : PySem.W.codeIn K cdd1 "two_hands" = true)
    (kd1 : PySem.W.keepIn K (.ref fd1) = true)
    (ad2 : PySem.W.nsIn K mainGlobals "tapped_hand" = some (some (.ref fd2)))
    (ld2 : K.lookup fd2 = some ⟨ocd2, odd2, .func (PySem.W.fnOf "tapped_hand" "tapped_hand" (defArgs (top 18)) (defBody (top 18)) (defScope (top 18)) .none kVd2 dcd2 pmd2 and2 cdd2 ctd2), sld2⟩)
    (cd2 : PySem.W.codeIn K cdd2 "tapped_hand" = true)
    (kd2 : PySem.W.keepIn K (.ref fd2) = true)
    (ad3 : PySem.W.nsIn K mainGlobals "stands_by_taps" = some (some (.ref fd3)))
    (ld3 : K.lookup fd3 = some ⟨ocd3, odd3, .func (PySem.W.fnOf "stands_by_taps" "stands_by_taps" (defArgs (top 19)) (defBody (top 19)) (defScope (top 19)) .none kVd3 dcd3 pmd3 and3 cdd3 ctd3), sld3⟩)
    (cd3 : PySem.W.codeIn K cdd3 "stands_by_taps" = true)
    (kd3 : PySem.W.keepIn K (.ref fd3) = true)
    (ad4 : PySem.W.nsIn K mainGlobals "stands_by_shares" = some (some (.ref fd4)))
    (ld4 : K.lookup fd4 = some ⟨ocd4, odd4, .func (PySem.W.fnOf "stands_by_shares" "stands_by_shares" (defArgs (top 20)) (defBody (top 20)) (defScope (top 20)) .none kVd4 dcd4 pmd4 and4 cdd4 ctd4), sld4⟩)
    (cd4 : PySem.W.codeIn K cdd4 "stands_by_shares" = true)
    (kd4 : PySem.W.keepIn K (.ref fd4) = true)
    (ad5 : PySem.W.nsIn K mainGlobals "stands_by_turns" = some (some (.ref fd5)))
    (ld5 : K.lookup fd5 = some ⟨ocd5, odd5, .func (PySem.W.fnOf "stands_by_turns" "stands_by_turns" (defArgs (top 21)) (defBody (top 21)) (defScope (top 21)) .none kVd5 dcd5 pmd5 and5 cdd5 ctd5), sld5⟩)
    (cd5 : PySem.W.codeIn K cdd5 "stands_by_turns" = true)
    (kd5 : PySem.W.keepIn K (.ref fd5) = true)
    (ad6 : PySem.W.nsIn K mainGlobals "all_hands" = some (some (.ref fd6)))
    (ld6 : K.lookup fd6 = some ⟨ocd6, odd6, .func (PySem.W.fnOf "all_hands" "all_hands" (defArgs (top 22)) (defBody (top 22)) (defScope (top 22)) .none kVd6 dcd6 pmd6 and6 cdd6 ctd6), sld6⟩)
    (cd6 : PySem.W.codeIn K cdd6 "all_hands" = true)
    (kd6 : PySem.W.keepIn K (.ref fd6) = true)
    (ad7 : PySem.W.nsIn K mainGlobals "all_stands" = some (some (.ref fd7)))
    (ld7 : K.lookup fd7 = some ⟨ocd7, odd7, .func (PySem.W.fnOf "all_stands" "all_stands" (defArgs (top 23)) (defBody (top 23)) (defScope (top 23)) .none kVd7 dcd7 pmd7 and7 cdd7 ctd7), sld7⟩)
    (cd7 : PySem.W.codeIn K cdd7 "all_stands" = true)
    (kd7 : PySem.W.keepIn K (.ref fd7) = true)
    (ad8 : PySem.W.nsIn K mainGlobals "stands_ahead" = some (some (.ref fd8)))
    (ld8 : K.lookup fd8 = some ⟨ocd8, odd8, .func (PySem.W.fnOf "stands_ahead" "stands_ahead" (defArgs (top 24)) (defBody (top 24)) (defScope (top 24)) .none kVd8 dcd8 pmd8 and8 cdd8 ctd8), sld8⟩)
    (cd8 : PySem.W.codeIn K cdd8 "stands_ahead" = true)
    (kd8 : PySem.W.keepIn K (.ref fd8) = true)
    (ad9 : PySem.W.nsIn K mainGlobals "newly_won" = some (some (.ref fd9)))
    (ld9 : K.lookup fd9 = some ⟨ocd9, odd9, .func (PySem.W.fnOf "newly_won" "newly_won" (defArgs (top 25)) (defBody (top 25)) (defScope (top 25)) .none kVd9 dcd9 pmd9 and9 cdd9 ctd9), sld9⟩)
    (cd9 : PySem.W.codeIn K cdd9 "newly_won" = true)
    (kd9 : PySem.W.keepIn K (.ref fd9) = true)
    (ad10 : PySem.W.nsIn K mainGlobals "newly_lost" = some (some (.ref fd10)))
    (ld10 : K.lookup fd10 = some ⟨ocd10, odd10, .func (PySem.W.fnOf "newly_lost" "newly_lost" (defArgs (top 26)) (defBody (top 26)) (defScope (top 26)) .none kVd10 dcd10 pmd10 and10 cdd10 ctd10), sld10⟩)
    (cd10 : PySem.W.codeIn K cdd10 "newly_lost" = true)
    (kd10 : PySem.W.keepIn K (.ref fd10) = true)
    (ad11 : PySem.W.nsIn K mainGlobals "settled_stands" = some (some (.ref fd11)))
    (ld11 : K.lookup fd11 = some ⟨ocd11, odd11, .func (PySem.W.fnOf "settled_stands" "settled_stands" (defArgs (top 27)) (defBody (top 27)) (defScope (top 27)) .none kVd11 dcd11 pmd11 and11 cdd11 ctd11), sld11⟩)
    (cd11 : PySem.W.codeIn K cdd11 "settled_stands" = true)
    (kd11 : PySem.W.keepIn K (.ref fd11) = true)
    (ad12 : PySem.W.nsIn K mainGlobals "outcome_of" = some (some (.ref fd12)))
    (ld12 : K.lookup fd12 = some ⟨ocd12, odd12, .func (PySem.W.fnOf "outcome_of" "outcome_of" (defArgs (top 28)) (defBody (top 28)) (defScope (top 28)) .none kVd12 dcd12 pmd12 and12 cdd12 ctd12), sld12⟩)
    (cd12 : PySem.W.codeIn K cdd12 "outcome_of" = true)
    (kd12 : PySem.W.keepIn K (.ref fd12) = true)
    (ad13 : PySem.W.nsIn K mainGlobals "outcome_by_good_turns" = some (some (.ref fd13)))
    (ld13 : K.lookup fd13 = some ⟨ocd13, odd13, .func (PySem.W.fnOf "outcome_by_good_turns" "outcome_by_good_turns" (defArgs (top 29)) (defBody (top 29)) (defScope (top 29)) .none kVd13 dcd13 pmd13 and13 cdd13 ctd13), sld13⟩)
    (cd13 : PySem.W.codeIn K cdd13 "outcome_by_good_turns" = true)
    (kd13 : PySem.W.keepIn K (.ref fd13) = true)
    (ad14 : PySem.W.nsIn K mainGlobals "answer_of" = some (some (.ref fd14)))
    (ld14 : K.lookup fd14 = some ⟨ocd14, odd14, .func (PySem.W.fnOf "answer_of" "answer_of" (defArgs (top 31)) (defBody (top 31)) (defScope (top 31)) .none kVd14 dcd14 pmd14 and14 cdd14 ctd14), sld14⟩)
    (cd14 : PySem.W.codeIn K cdd14 "answer_of" = true)
    (kd14 : PySem.W.keepIn K (.ref fd14) = true)
    (ad15 : PySem.W.nsIn K mainGlobals "answers" = some (some (.ref fd15)))
    (ld15 : K.lookup fd15 = some ⟨ocd15, odd15, .func (PySem.W.fnOf "answers" "answers" (defArgs (top 32)) (defBody (top 32)) (defScope (top 32)) .none kVd15 dcd15 pmd15 and15 cdd15 ctd15), sld15⟩)
    (cd15 : PySem.W.codeIn K cdd15 "answers" = true)
    (kd15 : PySem.W.keepIn K (.ref fd15) = true)
    (pg : PySem.W.plainGet K C Str.empty = true)
    (hd : PySem.W.hasDictIn K C = true)
    (po : PySem.W.plainOver K C = true)
    (sa : PySem.W.findIn K (.ref C) "__setattr__" = some (some (.builtin "object.__setattr__")))
    (mk : PySem.W.makesIn K C = true)
    (kc : PySem.W.keepIn K (.ref C) = true)
    (n_full : PySem.W.findIn K (.ref C) "full" = some none)
    (n_over : PySem.W.findIn K (.ref C) "over" = some none)
    (n_shares : PySem.W.findIn K (.ref C) "shares" = some none)
    (n_now : PySem.W.findIn K (.ref C) "now" = some none)
    (v_RULES : PySem.W.nsIn K mainGlobals "RULES" = some (some (.int 0 t_RULES)))
    (v_STAND : PySem.W.nsIn K mainGlobals "STAND" = some (some (.int 1 t_STAND)))
    (v_TURNS : PySem.W.nsIn K mainGlobals "TURNS" = some (some (.int 2 t_TURNS)))
    (v_TAKE : PySem.W.nsIn K mainGlobals "TAKE" = some (some (.int 3 t_TAKE)))
    (v_WORTH : PySem.W.nsIn K mainGlobals "WORTH" = some (some (.int 4 t_WORTH)))
    (v_GOOD : PySem.W.nsIn K mainGlobals "GOOD" = some (some (.int 5 t_GOOD)))
    (v_PLAY : PySem.W.nsIn K mainGlobals "PLAY" = some (some (.int 6 t_PLAY)))
    (v_KINDS : PySem.W.nsIn K mainGlobals "KINDS" = some (some (.int 7 t_KINDS)))
    (v_MOST_PLAYED : PySem.W.nsIn K mainGlobals "MOST_PLAYED" = some (some (.int 50 t_MOST_PLAYED)))
    (v_OUT_OF_BOUNDS : PySem.W.nsIn K mainGlobals "OUT_OF_BOUNDS" = some (some (.int (-1) t_OUT_OF_BOUNDS)))
    (v_NO_SUCH_TURN : PySem.W.nsIn K mainGlobals "NO_SUCH_TURN" = some (some (.int (-2) t_NO_SUCH_TURN)))
    (v_NO_HAND_LEFT : PySem.W.nsIn K mainGlobals "NO_HAND_LEFT" = some (some (.int (-3) t_NO_HAND_LEFT)))
    (v_FOR_EVER : PySem.W.nsIn K mainGlobals "FOR_EVER" = some (some (.int 0 t_FOR_EVER)))
    (v_WON : PySem.W.nsIn K mainGlobals "WON" = some (some (.int 1 t_WON)))
    (v_LOST : PySem.W.nsIn K mainGlobals "LOST" = some (some (.int 2 t_LOST)))
    (p_NUMBERS_BEHIND : PySem.W.nsIn K mainGlobals "NUMBERS_BEHIND" = some (some (.ref q_NUMBERS_BEHIND)))
    (w_NUMBERS_BEHIND : K.lookup q_NUMBERS_BEHIND = some ⟨.type "tuple", od_NUMBERS_BEHIND, .seq #[.int 3 u_NUMBERS_BEHIND0, .int 4 u_NUMBERS_BEHIND1, .int 0 u_NUMBERS_BEHIND2, .int 1 u_NUMBERS_BEHIND3, .int 0 u_NUMBERS_BEHIND4, .int 0 u_NUMBERS_BEHIND5, .int 1 u_NUMBERS_BEHIND6, .int 0 u_NUMBERS_BEHIND7, .int 0 u_NUMBERS_BEHIND8] n_NUMBERS_BEHIND, sl_NUMBERS_BEHIND⟩)
    (z_max : PySem.W.nsIn K mainGlobals "max" = some none)
    (z_min : PySem.W.nsIn K mainGlobals "min" = some none)
    (z_range : PySem.W.nsIn K mainGlobals "range" = some none)
    (z_len : PySem.W.nsIn K mainGlobals "len" = some none)
    (z_list : PySem.W.nsIn K mainGlobals "list" = some none) :
    ∃ fd : FuncData, (∀ (s : Shared) (us : List Value), us.length = (["calls"] : List Str).length → BindsTo s fd ⟨us, []⟩ ((["calls"] : List Str).zip us)) ∧ ∀ base : Heap, K.In base → base.Ns mainGlobals mg → FnOk P w K mg base CX0 8 fa fd ["calls"] (spAns K) := by
  have e := hfa.symm.trans (PySem.W.mg_of X G ad15)
  cases e
  have T : Txt K mg C := ⟨⟨pg, hd, po, sa⟩, n_full, n_over, n_shares, n_now, PySem.W.mg_of X G aC⟩
  have B : Blt mg := ⟨PySem.W.mg_none_of X G z_max, PySem.W.mg_none_of X G z_min, PySem.W.mg_none_of X G z_range, PySem.W.mg_none_of X G z_len, PySem.W.mg_none_of X G z_list⟩
  have c1 : Cst mg := ⟨⟨_, PySem.W.mg_of X G v_FOR_EVER⟩, ⟨_, PySem.W.mg_of X G v_WON⟩, ⟨_, PySem.W.mg_of X G v_LOST⟩⟩
  have c2 : Cst2 mg := ⟨⟨_, PySem.W.mg_of X G v_OUT_OF_BOUNDS⟩, ⟨_, PySem.W.mg_of X G v_NO_SUCH_TURN⟩, ⟨_, PySem.W.mg_of X G v_NO_HAND_LEFT⟩, ⟨_, PySem.W.mg_of X G v_MOST_PLAYED⟩⟩
  have c3 : Cst3 mg := ⟨⟨_, PySem.W.mg_of X G v_RULES⟩, ⟨_, PySem.W.mg_of X G v_STAND⟩, ⟨_, PySem.W.mg_of X G v_TURNS⟩, ⟨_, PySem.W.mg_of X G v_TAKE⟩, ⟨_, PySem.W.mg_of X G v_WORTH⟩, ⟨_, PySem.W.mg_of X G v_GOOD⟩, ⟨_, PySem.W.mg_of X G v_PLAY⟩, ⟨_, PySem.W.mg_of X G v_KINDS⟩⟩
  have N : Nb K mg q_NUMBERS_BEHIND := ⟨PySem.W.mg_of X G p_NUMBERS_BEHIND, fun H => .inr ⟨_, _, _, w_NUMBERS_BEHIND, rfl, rfl, (show 9 ≤ sizeLine by decide), .cons ⟨_, rfl⟩ (.cons ⟨_, rfl⟩ (.cons ⟨_, rfl⟩ (.cons ⟨_, rfl⟩ (.cons ⟨_, rfl⟩ (.cons ⟨_, rfl⟩ (.cons ⟨_, rfl⟩ (.cons ⟨_, rfl⟩ (.cons ⟨_, rfl⟩ (.nil)))))))))⟩⟩
  have Fm1 := fun_mk (st := sInit) lm1 cm1 km1
  have bm1 := Fm1.binds (ps := ["self"]) (fun _ _ _ _ _ _ us hl => match us, hl with | [_], _ => rfl)
  have Fm2 := fun_mk (st := sBegin) lm2 cm2 km2
  have bm2 := Fm2.binds (ps := ["self", "full", "over", "shares"]) (fun _ _ _ _ _ _ us hl => match us, hl with | [_, _, _, _], _ => rfl)
  have M2 : Mth K C "begin" "Game.begin" sBegin ["self", "full", "over", "shares"] fm2 _ := ⟨Fm2, bm2, ⟨am2, im2, km2⟩⟩
  have Fm3 := fun_mk (st := sBehind) lm3 cm3 km3
  have bm3 := Fm3.binds (ps := ["self"]) (fun _ _ _ _ _ _ us hl => match us, hl with | [_], _ => rfl)
  have M3 : Mth K C "stands_behind" "Game.stands_behind" sBehind ["self"] fm3 _ := ⟨Fm3, bm3, ⟨am3, im3, km3⟩⟩
  have Fm4 := fun_mk (st := sByRules) lm4 cm4 km4
  have bm4 := Fm4.binds (ps := ["self"]) (fun _ _ _ _ _ _ us hl => match us, hl with | [_], _ => rfl)
  have M4 : Mth K C "settled_by_rules" "Game.settled_by_rules" sByRules ["self"] fm4 _ := ⟨Fm4, bm4, ⟨am4, im4, km4⟩⟩
  have Fm5 := fun_mk (st := sGoodT) lm5 cm5 km5
  have bm5 := Fm5.binds (ps := ["self", "settled"]) (fun _ _ _ _ _ _ us hl => match us, hl with | [_, _], _ => rfl)
  have M5 : Mth K C "good_turns" "Game.good_turns" sGoodT ["self", "settled"] fm5 _ := ⟨Fm5, bm5, ⟨am5, im5, km5⟩⟩
  have Fm6 := fun_mk (st := sRules) lm6 cm6 km6
  have bm6 := Fm6.binds (ps := ["self", "full", "over", "shares"]) (fun _ _ _ _ _ _ us hl => match us, hl with | [_, _, _, _], _ => rfl)
  have M6 : Mth K C "rules" "Game.rules" sRules ["self", "full", "over", "shares"] fm6 _ := ⟨Fm6, bm6, ⟨am6, im6, km6⟩⟩
  have Fm7 := fun_mk (st := sStand) lm7 cm7 km7
  have bm7 := Fm7.binds (ps := ["self", "hands"]) (fun _ _ _ _ _ _ us hl => match us, hl with | [_, _], _ => rfl)
  have M7 : Mth K C "stand" "Game.stand" sStand ["self", "hands"] fm7 _ := ⟨Fm7, bm7, ⟨am7, im7, km7⟩⟩
  have Fm8 := fun_mk (st := sTurns) lm8 cm8 km8
  have bm8 := Fm8.binds (ps := ["self"]) (fun _ _ _ _ _ _ us hl => match us, hl with | [_], _ => rfl)
  have M8 : Mth K C "turns" "Game.turns" sTurns ["self"] fm8 _ := ⟨Fm8, bm8, ⟨am8, im8, km8⟩⟩
  have Fm9 := fun_mk (st := sTake) lm9 cm9 km9
  have bm9 := Fm9.binds (ps := ["self", "k"]) (fun _ _ _ _ _ _ us hl => match us, hl with | [_, _], _ => rfl)
  have M9 : Mth K C "take" "Game.take" sTake ["self", "k"] fm9 _ := ⟨Fm9, bm9, ⟨am9, im9, km9⟩⟩
  have Fm10 := fun_mk (st := sWorth) lm10 cm10 km10
  have bm10 := Fm10.binds (ps := ["self"]) (fun _ _ _ _ _ _ us hl => match us, hl with | [_], _ => rfl)
  have M10 : Mth K C "worth" "Game.worth" sWorth ["self"] fm10 _ := ⟨Fm10, bm10, ⟨am10, im10, km10⟩⟩
  have Fm11 := fun_mk (st := sGood) lm11 cm11 km11
  have bm11 := Fm11.binds (ps := ["self"]) (fun _ _ _ _ _ _ us hl => match us, hl with | [_], _ => rfl)
  have M11 : Mth K C "good" "Game.good" sGood ["self"] fm11 _ := ⟨Fm11, bm11, ⟨am11, im11, km11⟩⟩
  have Fm12 := fun_mk (st := sPlay) lm12 cm12 km12
  have bm12 := Fm12.binds (ps := ["self", "n"]) (fun _ _ _ _ _ _ us hl => match us, hl with | [_, _], _ => rfl)
  have M12 : Mth K C "play" "Game.play" sPlay ["self", "n"] fm12 _ := ⟨Fm12, bm12, ⟨am12, im12, km12⟩⟩
  have Fm13 := fun_mk (st := sKinds) lm13 cm13 km13
  have bm13 := Fm13.binds (ps := ["self"]) (fun _ _ _ _ _ _ us hl => match us, hl with | [_], _ => rfl)
  have M13 : Mth K C "kinds" "Game.kinds" sKinds ["self"] fm13 _ := ⟨Fm13, bm13, ⟨am13, im13, km13⟩⟩
  have Fm14 := fun_mk (st := sHard) lm14 cm14 km14
  have bm14 := Fm14.binds (ps := ["self"]) (fun _ _ _ _ _ _ us hl => match us, hl with | [_], _ => rfl)
  have M14 : Mth K C "hardest" "Game.hardest" sHard ["self"] fm14 _ := ⟨Fm14, bm14, ⟨am14, im14, km14⟩⟩
  have Fd1 := fun_mk (st := sTwo) ld1 cd1 kd1
  have bd1 := Fd1.binds (ps := ["one", "other"]) (fun _ _ _ _ _ _ us hl => match us, hl with | [_, _], _ => rfl)
  have D1 : Def K mg "two_hands" sTwo ["one", "other"] fd1 _ := ⟨Fd1, bd1, PySem.W.mg_of X G ad1⟩
  have Fd2 := fun_mk (st := sTapped) ld2 cd2 kd2
  have bd2 := Fd2.binds (ps := ["hand", "fingers", "full", "over"]) (fun _ _ _ _ _ _ us hl => match us, hl with | [_, _, _, _], _ => rfl)
  have D2 : Def K mg "tapped_hand" sTapped ["hand", "fingers", "full", "over"] fd2 _ := ⟨Fd2, bd2, PySem.W.mg_of X G ad2⟩
  have Fd3 := fun_mk (st := sTaps) ld3 cd3 kd3
  have bd3 := Fd3.binds (ps := ["stand", "full", "over"]) (fun _ _ _ _ _ _ us hl => match us, hl with | [_, _, _], _ => rfl)
  have D3 : Def K mg "stands_by_taps" sTaps ["stand", "full", "over"] fd3 _ := ⟨Fd3, bd3, PySem.W.mg_of X G ad3⟩
  have Fd4 := fun_mk (st := sShares) ld4 cd4 kd4
  have bd4 := Fd4.binds (ps := ["stand", "full", "shares"]) (fun _ _ _ _ _ _ us hl => match us, hl with | [_, _, _], _ => rfl)
  have D4 : Def K mg "stands_by_shares" sShares ["stand", "full", "shares"] fd4 _ := ⟨Fd4, bd4, PySem.W.mg_of X G ad4⟩
  have Fd5 := fun_mk (st := sByTurns) ld5 cd5 kd5
  have bd5 := Fd5.binds (ps := ["stand", "full", "over", "shares"]) (fun _ _ _ _ _ _ us hl => match us, hl with | [_, _, _, _], _ => rfl)
  have D5 : Def K mg "stands_by_turns" sByTurns ["stand", "full", "over", "shares"] fd5 _ := ⟨Fd5, bd5, PySem.W.mg_of X G ad5⟩
  have Fd6 := fun_mk (st := sHands) ld6 cd6 kd6
  have bd6 := Fd6.binds (ps := ["full"]) (fun _ _ _ _ _ _ us hl => match us, hl with | [_], _ => rfl)
  have D6 : Def K mg "all_hands" sHands ["full"] fd6 _ := ⟨Fd6, bd6, PySem.W.mg_of X G ad6⟩
  have Fd7 := fun_mk (st := sStands) ld7 cd7 kd7
  have bd7 := Fd7.binds (ps := ["full"]) (fun _ _ _ _ _ _ us hl => match us, hl with | [_], _ => rfl)
  have D7 : Def K mg "all_stands" sStands ["full"] fd7 _ := ⟨Fd7, bd7, PySem.W.mg_of X G ad7⟩
  have Fd8 := fun_mk (st := sAhead) ld8 cd8 kd8
  have bd8 := Fd8.binds (ps := ["turns"]) (fun _ _ _ _ _ _ us hl => match us, hl with | [_], _ => rfl)
  have D8 : Def K mg "stands_ahead" sAhead ["turns"] fd8 _ := ⟨Fd8, bd8, PySem.W.mg_of X G ad8⟩
  have Fd9 := fun_mk (st := sWon) ld9 cd9 kd9
  have bd9 := Fd9.binds (ps := ["lost", "ahead", "settled"]) (fun _ _ _ _ _ _ us hl => match us, hl with | [_, _, _], _ => rfl)
  have D9 : Def K mg "newly_won" sWon ["lost", "ahead", "settled"] fd9 _ := ⟨Fd9, bd9, PySem.W.mg_of X G ad9⟩
  have Fd10 := fun_mk (st := sLost) ld10 cd10 kd10
  have bd10 := Fd10.binds (ps := ["won", "ahead", "unsettled"]) (fun _ _ _ _ _ _ us hl => match us, hl with | [_, _, _], _ => rfl)
  have D10 : Def K mg "newly_lost" sLost ["won", "ahead", "unsettled"] fd10 _ := ⟨Fd10, bd10, PySem.W.mg_of X G ad10⟩
  have Fd11 := fun_mk (st := sSettled) ld11 cd11 kd11
  have bd11 := Fd11.binds (ps := ["full", "over", "shares"]) (fun _ _ _ _ _ _ us hl => match us, hl with | [_, _, _], _ => rfl)
  have D11 : Def K mg "settled_stands" sSettled ["full", "over", "shares"] fd11 _ := ⟨Fd11, bd11, PySem.W.mg_of X G ad11⟩
  have Fd12 := fun_mk (st := sOut) ld12 cd12 kd12
  have bd12 := Fd12.binds (ps := ["stand", "settled"]) (fun _ _ _ _ _ _ us hl => match us, hl with | [_, _], _ => rfl)
  have D12 : Def K mg "outcome_of" sOut ["stand", "settled"] fd12 _ := ⟨Fd12, bd12, PySem.W.mg_of X G ad12⟩
  have Fd13 := fun_mk (st := sBy) ld13 cd13 kd13
  have bd13 := Fd13.binds (ps := ["outcome"]) (fun _ _ _ _ _ _ us hl => match us, hl with | [_], _ => rfl)
  have D13 : Def K mg "outcome_by_good_turns" sBy ["outcome"] fd13 _ := ⟨Fd13, bd13, PySem.W.mg_of X G ad13⟩
  have Fd14 := fun_mk (st := sAnsOf) ld14 cd14 kd14
  have bd14 := Fd14.binds (ps := ["game", "call", "numbers"]) (fun _ _ _ _ _ _ us hl => match us, hl with | [_, _, _], _ => rfl)
  have D14 : Def K mg "answer_of" sAnsOf ["game", "call", "numbers"] fd14 _ := ⟨Fd14, bd14, PySem.W.mg_of X G ad14⟩
  have Fd15 := fun_mk (st := sAns) ld15 cd15 kd15
  refine ⟨PySem.W.fnOf "answers" "answers" (defArgs sAns) (defBody sAns) (defScope sAns) .none kVd15 dcd15 pmd15 and15 cdd15 ctd15, fun s us hu => match us, hu with | [_], _ => .of_eq rfl, fun base _ _ => ?_⟩
  have g1 : FnOk P w K mg base CX0 1 fd1 _ ["one", "other"] spTwo := ok_two Fd1 B
  have g3 : FnOk P w K mg base CX0 2 fd3 _ ["stand", "full", "over"] spTaps := ok_taps Fd3 B D1 D2
  have g4 : FnOk P w K mg base CX0 1 fd4 _ ["stand", "full", "shares"] spShares := ok_shares Fd4 B
  have g5 : FnOk P w K mg base CX0 3 fd5 _ ["stand", "full", "over", "shares"] spByTurns := ok_byTurns Fd5 D3 D4 g3 g4
  have g6 : FnOk P w K mg base CX0 1 fd6 _ ["full"] spHands := ok_hands Fd6 B
  have g7 : FnOk P w K mg base CX0 2 fd7 _ ["full"] spStands := ok_stands Fd7 D6 g6
  have g8 : FnOk P w K mg base CX0 1 fd8 _ ["turns"] spAhead := ok_ahead Fd8
  have g9 : FnOk P w K mg base CX0 1 fd9 _ ["lost", "ahead", "settled"] spWon := ok_won Fd9 B
  have g10 : FnOk P w K mg base CX0 1 fd10 _ ["won", "ahead", "unsettled"] spLost := ok_lost Fd10
  have g11 : FnOk P w K mg base CX0 4 fd11 _ ["full", "over", "shares"] spSettled := ok_settled Fd11 B c1 D7 D5 D8 D9 D10 g7 g5 g8 g9 g10
  have g12 : FnOk P w K mg base CX0 1 fd12 _ ["stand", "settled"] spOut := ok_out Fd12 c1
  have g13 : FnOk P w K mg base CX0 1 fd13 _ ["outcome"] spBy := ok_by Fd13 c1
  have k2 : FnOk P w K mg base CX0 1 fm2 _ ["self", "full", "over", "shares"] (spBegin C) := ok_begin Fm2 T
  have k1 : FnOk P w K mg base CX0 2 fm1 _ ["self"] (spInit C) := ok_init Fm1 T M2 k2
  have k3 : FnOk P w K mg base CX0 4 fm3 _ ["self"] (spBehind C) := ok_behind Fm3 T D5 g5
  have k4 : FnOk P w K mg base CX0 5 fm4 _ ["self"] (spByRules C) := ok_byRules Fm4 T D11 g11
  have k5 : FnOk P w K mg base CX0 5 fm5 _ ["self", "settled"] (spGoodT C) := ok_goodT Fm5 B T D12 D13 M3 g12 g13 k3
  have k6 : FnOk P w K mg base CX0 2 fm6 _ ["self", "full", "over", "shares"] (spRules C) := ok_rules Fm6 T c2 M2 k2
  have k7 : FnOk P w K mg base CX0 5 fm7 _ ["self", "hands"] (spStand C) := ok_stand Fm7 B T c2 D1 M3 g1 k3
  have k8 : FnOk P w K mg base CX0 5 fm8 _ ["self"] (spTurns C) := ok_turns Fm8 B T M3 k3
  have k9 : FnOk P w K mg base CX0 5 fm9 _ ["self", "k"] (spTake C) := ok_take Fm9 B T c2 M3 k3
  have k10 : FnOk P w K mg base CX0 6 fm10 _ ["self"] (spWorth C) := ok_worth Fm10 B T D12 M4 g12 k4
  have k11 : FnOk P w K mg base CX0 6 fm11 _ ["self"] (spGood C) := ok_good Fm11 B T M5 M4 k5 k4
  have k12 : FnOk P w K mg base CX0 6 fm12 _ ["self", "n"] (spPlay C) := ok_play Fm12 B T c2 M5 M4 M3 D12 k5 k4 k3 g12
  have k13 : FnOk P w K mg base CX0 6 fm13 _ ["self"] (spKinds C) := ok_kinds Fm13 B T c1 D7 M4 g7 k4
  have k14 : FnOk P w K mg base CX0 6 fm14 _ ["self"] (spHard C) := ok_hard Fm14 B T c1 M4 k4
  have g14 : FnOk P w K mg base CX0 7 fd14 _ ["game", "call", "numbers"] (spAnsOf C) := ok_ansOf Fd14 T c3 ⟨⟨_, _, M6, k6⟩⟩ ⟨⟨_, _, M7, k7⟩⟩ ⟨⟨_, _, M8, k8⟩⟩ ⟨⟨_, _, M9, k9⟩⟩ ⟨⟨_, _, M10, k10⟩⟩ ⟨⟨_, _, M11, k11⟩⟩ ⟨⟨_, _, M12, k12⟩⟩ ⟨⟨_, _, M13, k13⟩⟩ ⟨⟨_, _, M14, k14⟩⟩
  exact ok_ans Fd15 B T N ⟨mk, am1, im1, kc⟩ bm1 k1 D14 g14
end Ft
open PySem PySem.W PyProof.Rows
set_option maxRecDepth 100000 in
set_option maxHeartbeats 0 in
theorem PySem.Challenge.cw_fingertaps_s01_answers_holds : PySem.Challenge.rw_fingertaps_s01_answers.Holds := by
  w_on; k_headS; (case hw => exact ⟨[.list [.int 2]], by decide +kernel, by decide +kernel⟩)
  k_fillS
  refine L2.walk_specK (r := PySem.Challenge.rw_fingertaps_s01_answers) (k := 8) (CX := L2.CX0) (ps := ["calls"]) (sp := Ft.spAns) (by decide +kernel) rfl rfl ⟨rfl, by decide, by decide⟩ (fun w h Y => PySem.W.kIn_of Y) ?F ?S (fun _ _ _ _ z => z)
  case F =>
    intro w mg fa h Y KX G hmg
    refine' Ft.all_mk KX G hmg ?aC ?am1 ?im1 ?lm1 ?cm1 ?km1 ?am2 ?im2 ?lm2 ?cm2 ?km2 ?am3 ?im3 ?lm3 ?cm3 ?km3 ?am4 ?im4 ?lm4 ?cm4 ?km4 ?am5 ?im5 ?lm5 ?cm5 ?km5 ?am6 ?im6 ?lm6 ?cm6 ?km6 ?am7 ?im7 ?lm7 ?cm7 ?km7 ?am8 ?im8 ?lm8 ?cm8 ?km8 ?am9 ?im9 ?lm9 ?cm9 ?km9 ?am10 ?im10 ?lm10 ?cm10 ?km10 ?am11 ?im11 ?lm11 ?cm11 ?km11 ?am12 ?im12 ?lm12 ?cm12 ?km12 ?am13 ?im13 ?lm13 ?cm13 ?km13 ?am14 ?im14 ?lm14 ?cm14 ?km14 ?ad1 ?ld1 ?cd1 ?kd1 ?ad2 ?ld2 ?cd2 ?kd2 ?ad3 ?ld3 ?cd3 ?kd3 ?ad4 ?ld4 ?cd4 ?kd4 ?ad5 ?ld5 ?cd5 ?kd5 ?ad6 ?ld6 ?cd6 ?kd6 ?ad7 ?ld7 ?cd7 ?kd7 ?ad8 ?ld8 ?cd8 ?kd8 ?ad9 ?ld9 ?cd9 ?kd9 ?ad10 ?ld10 ?cd10 ?kd10 ?ad11 ?ld11 ?cd11 ?kd11 ?ad12 ?ld12 ?cd12 ?kd12 ?ad13 ?ld13 ?cd13 ?kd13 ?ad14 ?ld14 ?cd14 ?kd14 ?ad15 ?ld15 ?cd15 ?kd15 ?pg ?hd ?po ?sa ?mk ?kc ?n_full ?n_over ?n_shares ?n_now ?v_RULES ?v_STAND ?v_TURNS ?v_TAKE ?v_WORTH ?v_GOOD ?v_PLAY ?v_KINDS ?v_MOST_PLAYED ?v_OUT_OF_BOUNDS ?v_NO_SUCH_TURN ?v_NO_HAND_LEFT ?v_FOR_EVER ?v_WON ?v_LOST ?p_NUMBERS_BEHIND ?w_NUMBERS_BEHIND ?z_max ?z_min ?z_range ?z_len ?z_list
    (case aC => k_is)
    (case am1 => k_is)
    (case im1 => k_is)
    (case lm1 => k_is)
    (case cm1 => k_is)
    (case km1 => k_is)
    (case am2 => k_is)
    (case im2 => k_is)
    (case lm2 => k_is)
    (case cm2 => k_is)
    (case km2 => k_is)
    (case am3 => k_is)
    (case im3 => k_is)
    (case lm3 => k_is)
    (case cm3 => k_is)
    (case km3 => k_is)
    (case am4 => k_is)
    (case im4 => k_is)
    (case lm4 => k_is)
    (case cm4 => k_is)
    (case km4 => k_is)
    (case am5 => k_is)
    (case im5 => k_is)
    (case lm5 => k_is)
    (case cm5 => k_is)
    (case km5 => k_is)
    (case am6 => k_is)
    (case im6 => k_is)
    (case lm6 => k_is)
    (case cm6 => k_is)
    (case km6 => k_is)
    (case am7 => k_is)
    (case im7 => k_is)
    (case lm7 => k_is)
    (case cm7 => k_is)
    (case km7 => k_is)
    (case am8 => k_is)
    (case im8 => k_is)
    (case lm8 => k_is)
    (case cm8 => k_is)
    (case km8 => k_is)
    (case am9 => k_is)
    (case im9 => k_is)
    (case lm9 => k_is)
    (case cm9 => k_is)
    (case km9 => k_is)
    (case am10 => k_is)
    (case im10 => k_is)
    (case lm10 => k_is)
    (case cm10 => k_is)
    (case km10 => k_is)
    (case am11 => k_is)
    (case im11 => k_is)
    (case lm11 => k_is)
    (case cm11 => k_is)
    (case km11 => k_is)
    (case am12 => k_is)
    (case im12 => k_is)
    (case lm12 => k_is)
    (case cm12 => k_is)
    (case km12 => k_is)
    (case am13 => k_is)
    (case im13 => k_is)
    (case lm13 => k_is)
    (case cm13 => k_is)
    (case km13 => k_is)
    (case am14 => k_is)
    (case im14 => k_is)
    (case lm14 => k_is)
    (case cm14 => k_is)
    (case km14 => k_is)
    (case ad1 => k_is)
    (case ld1 => k_is)
    (case cd1 => k_is)
    (case kd1 => k_is)
    (case ad2 => k_is)
    (case ld2 => k_is)
    (case cd2 => k_is)
    (case kd2 => k_is)
    (case ad3 => k_is)
    (case ld3 => k_is)
    (case cd3 => k_is)
    (case kd3 => k_is)
    (case ad4 => k_is)
    (case ld4 => k_is)
    (case cd4 => k_is)
    (case kd4 => k_is)
    (case ad5 => k_is)
    (case ld5 => k_is)
    (case cd5 => k_is)
    (case kd5 => k_is)
    (case ad6 => k_is)
    (case ld6 => k_is)
    (case cd6 => k_is)
    (case kd6 => k_is)
    (case ad7 => k_is)
    (case ld7 => k_is)
    (case cd7 => k_is)
    (case kd7 => k_is)
    (case ad8 => k_is)
    (case ld8 => k_is)
    (case cd8 => k_is)
    (case kd8 => k_is)
    (case ad9 => k_is)
    (case ld9 => k_is)
    (case cd9 => k_is)
    (case kd9 => k_is)
    (case ad10 => k_is)
    (case ld10 => k_is)
    (case cd10 => k_is)
    (case kd10 => k_is)
    (case ad11 => k_is)
    (case ld11 => k_is)
    (case cd11 => k_is)
    (case kd11 => k_is)
    (case ad12 => k_is)
    (case ld12 => k_is)
    (case cd12 => k_is)
    (case kd12 => k_is)
    (case ad13 => k_is)
    (case ld13 => k_is)
    (case cd13 => k_is)
    (case kd13 => k_is)
    (case ad14 => k_is)
    (case ld14 => k_is)
    (case cd14 => k_is)
    (case kd14 => k_is)
    (case ad15 => k_is)
    (case ld15 => k_is)
    (case cd15 => k_is)
    (case kd15 => k_is)
    (case pg => k_is)
    (case hd => k_is)
    (case po => k_is)
    (case sa => k_is)
    (case mk => k_is)
    (case kc => k_is)
    (case n_full => k_is)
    (case n_over => k_is)
    (case n_shares => k_is)
    (case n_now => k_is)
    (case v_RULES => k_is)
    (case v_STAND => k_is)
    (case v_TURNS => k_is)
    (case v_TAKE => k_is)
    (case v_WORTH => k_is)
    (case v_GOOD => k_is)
    (case v_PLAY => k_is)
    (case v_KINDS => k_is)
    (case v_MOST_PLAYED => k_is)
    (case v_OUT_OF_BOUNDS => k_is)
    (case v_NO_SUCH_TURN => k_is)
    (case v_NO_HAND_LEFT => k_is)
    (case v_FOR_EVER => k_is)
    (case v_WON => k_is)
    (case v_LOST => k_is)
    (case p_NUMBERS_BEHIND => k_is)
    (case w_NUMBERS_BEHIND => k_is)
    (case z_max => k_is)
    (case z_min => k_is)
    (case z_range => k_is)
    (case z_len => k_is)
    (case z_list => k_is)
  case S =>
    intro K H xs a hO hwi hask hx
    cases hx with
    | cons h1 h2 =>
      cases h2
      cases h1 with
      | lst hs ha =>
        have e := L2.ints_dw a.1 _ ha
        subst e
        have q : ((Codec.inLen 0 300 a.1 && a.1.all (Codec.inInt 0 4294967295)) && true) = true := hwi
        rw [Bool.and_eq_true, Bool.and_eq_true] at q
        exact ⟨_, a.1, rfl, hs, hask, (Codec.inNat_iff.mp q.1.1).2, fun H' p hp => .lst (L2.SqL.of hp) (L2.dw_ints _)⟩

import PyProof.Rows.All
import Wide.All
import OpenK.AllK
import Wide.FinOn
import PyProof.EqAt
import PyProof.EqKinds
import PyProof.TupleCall
import KE.BitLaws
import Open.SpecLaws
import KE.OsHead
import KE.OsGo
import PyProof.Rows.SortShellAny
import KE.KSortKeyAny
import KE.KSortTupG
import KE.KItemsList
import KE.KDictOf
import KE.KMinKey
import PySem.Challenge.RW_heavykeys_s01_answers
set_option Elab.async false
set_option linter.all false
section
section
set_option Elab.async false
set_option linter.all false
set_option maxRecDepth 100000
/-! THE HAND LAYER, for ints, bools, texts, own classes, lists, tuples, dicts, comprehensions, walks over dicts, enumerate, zip, reversed, texts, calls, loops. Paste it whole ahead of your own text; what your proof does not reach may be deleted. -/
namespace L2
open PySem PySem.Spec PyProof.Rows

/-- a key: an int or a str -/
abbrev Key := Sum Int Str
def keyIs : Key → Value → Bool
  | .inl k, v => Value.isInt k v
  | .inr x, v => Value.isStrOf x v
def keyH (w : World) : Key → Int
  | .inl k => hashInt k
  | .inr x => hashStr w x
theorem keyIs_shape : ∀ {k : Key} {v : Value}, keyIs k v = true → (∃ i t, k = Sum.inl i ∧ v = Value.int i t) ∨ (∃ x t, k = Sum.inr x ∧ v = Value.str x t)
  | .inl i, v, h => by
    obtain ⟨t, e⟩ := Value.isInt_shape (k := i) (v := v) h
    exact .inl ⟨i, t, rfl, e⟩
  | .inr x, v, h => by
    obtain ⟨t, e⟩ := Value.isStrOf_shape (x := x) (v := v) h
    exact .inr ⟨x, t, rfl, e⟩
theorem keyIs_int (i : Int) (t : Tok) : keyIs (.inl i) (.int i t) = true := by simp [keyIs, Value.isInt]
theorem keyIs_str (x : Str) (t : Tok) : keyIs (.inr x) (.str x t) = true := by simp [keyIs, Value.isStrOf]
theorem key_ll (a b : Int) : decide ((Sum.inl a : Key) = Sum.inl b) = (a == b) := by
  by_cases e : a = b
  · subst e; simp
  · have h : ¬ (Sum.inl a : Key) = Sum.inl b := fun q => e (Sum.inl.inj q)
    rw [decide_eq_false h]
    exact (beq_eq_false_iff_ne.mpr e).symm
theorem key_rr (a b : Str) : decide ((Sum.inr a : Key) = Sum.inr b) = decide (a = b) := by
  by_cases e : a = b
  · subst e; simp
  · have h : ¬ (Sum.inr a : Key) = Sum.inr b := fun q => e (Sum.inr.inj q)
    rw [decide_eq_false h, decide_eq_false e]
theorem key_lr (a : Int) (b : Str) : decide ((Sum.inl a : Key) = Sum.inr b) = false := decide_eq_false (fun q => nomatch q)
theorem key_rl (a : Str) (b : Int) : decide ((Sum.inr a : Key) = Sum.inl b) = false := decide_eq_false (fun q => nomatch q)

def mixKind (prog : Program) (w : World) : PySem.KeyKind prog w Key where
  is := keyIs
  hash := keyH w
  inj := fun v a b ha hb => by
    rcases keyIs_shape ha with ⟨i, t, rfl, rfl⟩ | ⟨x, t, rfl, rfl⟩
    · rcases keyIs_shape hb with ⟨j, u, rfl, e⟩ | ⟨y, u, rfl, e⟩
      · injection e with e1 _; rw [e1]
      · exact nomatch e
    · rcases keyIs_shape hb with ⟨j, u, rfl, e⟩ | ⟨y, u, rfl, e⟩
      · exact nomatch e
      · injection e with e1 _; rw [e1]
  byValue := fun k v h => by
    rcases keyIs_shape h with ⟨i, t, rfl, rfl⟩ | ⟨x, t, rfl, rfl⟩ <;> rfl
  pyHash := fun hv h => by
    rcases keyIs_shape hv with ⟨i, t, rfl, rfl⟩ | ⟨x, t, rfl, rfl⟩
    · exact wpAny_pyHash_int h
    · exact wpAny_pyHash_str h
  eqBool := fun hu hv h => by
    rcases keyIs_shape hu with ⟨i, t, rfl, rfl⟩ | ⟨x, t, rfl, rfl⟩
    · rcases keyIs_shape hv with ⟨j, u, rfl, rfl⟩ | ⟨y, u, rfl, rfl⟩
      · rw [key_ll] at h; exact wpAny_eqBool_int h
      · rw [key_lr] at h; exact SeqAt.EqAt.int_str i t y u _ _ _ _ h
    · rcases keyIs_shape hv with ⟨j, u, rfl, rfl⟩ | ⟨y, u, rfl, rfl⟩
      · rw [key_rl] at h; exact SeqAt.EqAt.str_int x t j u _ _ _ _ h
      · rw [key_rr] at h; exact wpAny_eqBool_str h
  «strs» := fun k x t v h => by
    rcases keyIs_shape h with ⟨i, u, rfl, e⟩ | ⟨y, u, rfl, e⟩
    · exact nomatch e
    · injection e with e1 _
      subst e1
      cases v <;> rfl

theorem mixKind_int (prog : Program) (w : World) (i : Int) (t : Tok) : (mixKind prog w).is (.inl i) (.int i t) = true := keyIs_int i t
theorem mixKind_str (prog : Program) (w : World) (x : Str) (t : Tok) : (mixKind prog w).is (.inr x) (.str x t) = true := keyIs_str x t
end L2

namespace L2
open PySem PySem.Spec PyProof.Rows

/-- a value, without the heap -/
inductive V where
  | non | bl (b : Bool) | int (i : Int) | str (x : Str) | byt (b : Array UInt8) | flt (b : UInt64) | ref (a : Addr) | ty (n : String)
  deriving DecidableEq

def RelV : V → Value → Prop
  | .non, u => u = Value.none
  | .bl b, u => u = Value.bool b
  | .int i, u => ∃ t, u = Value.int i t
  | .str x, u => ∃ t, u = Value.str x t
  | .byt b, u => ∃ t, u = Value.bytes b t
  | .flt b, u => ∃ t, u = Value.float b t
  | .ref a, u => u = Value.ref a
  | .ty n, u => u = Value.type n

abbrev Vals : List V → List Value → Prop := Paired RelV
theorem Vals.length {xs : List V} {us : List Value} (r : Vals xs us) : xs.length = us.length := Paired.length r
theorem Vals.get : ∀ {xs : List V} {us : List Value} {i : Nat} {x : V}, Vals xs us → xs[i]? = some x → ∃ u, us[i]? = some u ∧ RelV x u
  | _, _, _, _, .nil, e => by simp at e
  | _, _, 0, _, .cons r _, e => by simp at e; subst e; exact ⟨_, rfl, r⟩
  | _, _, i + 1, x, .cons _ t, e => by
    obtain ⟨u, h1, h2⟩ := Vals.get (i := i) (x := x) t (by simpa using e)
    exact ⟨u, by simpa using h1, h2⟩
theorem Vals.append : ∀ {xs ys : List V} {us ws : List Value}, Vals xs us → Vals ys ws → Vals (xs ++ ys) (us ++ ws)
  | _, _, _, _, .nil, s => s
  | _, _, _, _, .cons r t, s => .cons r (Vals.append t s)
theorem Vals.take : ∀ {xs : List V} {us : List Value} (n : Nat), Vals xs us → Vals (xs.take n) (us.take n)
  | _, _, 0, _ => .nil
  | _, _, _ + 1, .nil => .nil
  | _, _, n + 1, .cons r t => .cons r (Vals.take n t)
theorem Vals.drop : ∀ {xs : List V} {us : List Value} (n : Nat), Vals xs us → Vals (xs.drop n) (us.drop n)
  | _, _, 0, r => r
  | _, _, _ + 1, .nil => .nil
  | _, _, n + 1, .cons _ t => Vals.drop n t

def RelO : Option V → Option Value → Prop
  | some v, some u => RelV v u
  | none, none => True
  | _, _ => False
def KV {κ : Type} : List (κ × V) → List (κ × Value) → Prop := Paired fun (p : κ × V) (q : κ × Value) => p.1 = q.1 ∧ RelV p.2 q.2

/-- a key of a dict (00_mix): an int or a text -/
def kV : Key → V
  | .inl i => .int i
  | .inr x => .str x

/-- what stands at a tracked address -/
inductive HO where
  /-- a list -/
  | lst (xs : List V)
  /-- a tuple (never changes) -/
  | tup (xs : List V)
  /-- a dict whose keys are ints and texts; one whose keys are tuples of ints and texts (the empty one is both) -/
  | dK (kvs : List (Key × V)) | dT (kvs : List (List Key × V))
  /-- a set of ints: its members, its size -/
  | set (S : Int → Bool) (n : Nat)
  /-- an instance of the class at C, its dict at dx, its attributes -/
  | ins (C dx : Addr) (fs : List (Str × V))
  /-- the dict of the instance at x -/
  | own (x : Addr)
  /-- the dict of an exception -/
  | xd (fs : List (Str × V))
  /-- a bound method, f of x -/
  | met (f x : Addr)
  /-- a range object lo, lo + 1, .. below hi -/
  | rng (lo hi : Int)
  /-- a thing that is known to the object (the script; a dict while a loop walks it): read, never written while it is so -/
  | frz (o : Obj) (u : HO)
  /-- a code object's table -/
  | tbl (ps : Array Value)
  /-- any other thing, by what is true of its one object (a def of one's own: SetO a S n := HO.ext fun h => ..) -/
  | ext (φ : Heap → Prop)

abbrev Hp := Addr → Option HO
def upd (H : Hp) (a : Addr) (o : HO) : Hp := fun b => if b = a then some o else H b
theorem upd_same {H : Hp} {a : Addr} {o : HO} : upd H a o a = some o := by unfold upd; rw [if_pos rfl]
theorem upd_ne {H : Hp} {a b : Addr} {o : HO} (h : b ≠ a) : upd H a o b = H b := by unfold upd; rw [if_neg h]
/-- two objects of different content stand apart -/
theorem ne_of {H : Hp} {a b : Addr} {o u : HO} (h : H a = some o) (h' : H b = some u) (d : o ≠ u) : a ≠ b := by
  intro e; subst e; rw [h] at h'; exact d (Option.some.inj h')
theorem ne_of_none {H : Hp} {a b : Addr} {o : HO} (h : H a = some o) (h' : H b = none) : a ≠ b := by
  intro e; subst e; rw [h] at h'; cases h'

section
variable (P : Program) (w : World)
def ObjOk (H : Hp) (h : Heap) (a : Addr) : HO → Prop
  | .lst xs => xs.length ≤ sizeLine ∧ ∃ (its : List Value) (n : Nat), Vals xs its ∧ h.get? a = some { cls := .type "list", data := .seq its.toArray n }
  | .tup xs => xs.length ≤ sizeLine ∧ ∃ its : List Value, Vals xs its ∧ IsTup h a its.toArray
  | .dK kvs => kvs.length ≤ sizeLine ∧ (a == sysModules) = false ∧ ∃ vs, KV kvs vs ∧ h.DictOf (mixKind P w) a vs
  | .dT kvs => kvs.length ≤ sizeLine ∧ (a == sysModules) = false ∧ ∃ xs : List (List Key × Addr × Value),
      Paired (fun (p : List Key × V) (q : List Key × Addr × Value) => p.1 = q.1 ∧ H q.2.1 = some (.tup (p.1.map kV)) ∧ RelV p.2 q.2.2) kvs xs ∧
      ∃ o es ep, h.get? a = some o ∧ o.ExactDict ∧ o.data = .dict es ep ∧ es.toList = xs.map (entryOfKey (tupleKind (mixKind P w))) ∧ (xs.map (·.1)).Nodup
  | .set S n => h.SetOf (intKind P w) a S n
  | .ins C dx fs => H dx = some (.own a) ∧ fs.length ≤ 1000 ∧ dx ≠ a ∧ h.get? a = some (PySem.W.instObj C dx) ∧
      ∃ mA, h.Ns1 dx mA ∧ (∀ f, RelO (fs.lookup f) (mA f)) ∧ PySem.Within mA (fs.map (·.1))
  | .own _ => ∃ o, h.get? a = some o
  | .xd fs => ∃ mA, h.Ns1 a mA ∧ ∀ f, RelO (fs.lookup f) (mA f)
  | .rng lo hi => ∃ t u v, h.get? a = some { cls := .type "range", data := .fields #[.int lo t, .int hi u, .int 1 v] }
  | .frz o u => h.get? a = some o ∧ ObjOk H h a u
  | .tbl ps => h.get? a = some { cls := .none, data := .fields ps }
  | .met f x => h.get? a = some (PySem.W.methodObj (.ref f) (.ref x))
  | .ext φ => φ h ∧ (∃ o, h.get? a = some o) ∧ ∀ h1 h2 : Heap, φ h1 → (∀ o, h1.get? a = some o → h2.get? a = some o) → φ h2
/-- the abstract heap is held -/
def HOk (H : Hp) (h : Heap) : Prop := ∀ a o, H a = some o → ObjOk P w H h a o
end

section
variable {P : Program} {w : World} {H H' : Hp} {h h' : Heap} {a : Addr} {o : HO}
theorem ObjOk.lt (x : ObjOk P w H h a o) : a < h.objs.size := by
  cases o with
  | lst xs => obtain ⟨_, _, _, _, e⟩ := x; exact Heap.lt_size e
  | tup xs => obtain ⟨_, _, _, p⟩ := x; exact p.lt
  | dK kvs => obtain ⟨_, _, _, _, o, _, _, e, _⟩ := x; exact Heap.lt_size e
  | dT kvs => obtain ⟨_, _, _, _, o, _, _, e, _⟩ := x; exact Heap.lt_size e
  | set S n => obtain ⟨o, _, _, _, e, _⟩ := x; exact Heap.lt_size e
  | ins C dx fs => obtain ⟨_, _, _, e, _⟩ := x; exact Heap.lt_size e
  | own y => obtain ⟨_, e⟩ := x; exact Heap.lt_size e
  | xd fs => obtain ⟨_, ⟨_, _, _, e, _⟩, _⟩ := x; exact Heap.lt_size e
  | rng lo hi => obtain ⟨_, _, _, e⟩ := x; exact Heap.lt_size e
  | frz ob u => obtain ⟨e, _⟩ := x; exact Heap.lt_size e
  | tbl ps => exact Heap.lt_size (show h.get? a = some _ from x)
  | met f y => exact Heap.lt_size (show h.get? a = some _ from x)
  | ext φ => obtain ⟨_, ⟨_, e⟩, _⟩ := x; exact Heap.lt_size e
theorem Paired.mapP {α β : Type} {F G : α → β → Prop} : ∀ {l₁ : List α} {l₂ : List β}, Paired F l₁ l₂ → (∀ a b, F a b → G a b) → Paired G l₁ l₂
  | _, _, .nil, _ => .nil
  | _, _, .cons r t, f => .cons (f _ _ r) (Paired.mapP t f)
/-- what an object's description leans on: its own object, its own dict, the tuples -/
theorem ObjOk.stay (x : ObjOk P w H h a o) (k : ∀ b u, (b = a ∨ H b = some (.own a)) → h.get? b = some u → h'.get? b = some u)
    (ho : ∀ b, H b = some (.own a) → H' b = some (.own a)) (ht : ∀ b xs, H b = some (.tup xs) → H' b = some (.tup xs)) : ObjOk P w H' h' a o := by
  induction o with
  | lst xs => obtain ⟨z, its, n, r, e⟩ := x; exact ⟨z, its, n, r, k _ _ (.inl rfl) e⟩
  | tup xs => obtain ⟨z, its, r, ob, e, c⟩ := x; exact ⟨z, its, r, ob, k _ _ (.inl rfl) e, c⟩
  | dK kvs => obtain ⟨z, y, vs, r, ob, es, ep, e, c⟩ := x; exact ⟨z, y, vs, r, ob, es, ep, k _ _ (.inl rfl) e, c⟩
  | dT kvs =>
    obtain ⟨z, y, xs, r, ob, es, ep, e, c⟩ := x
    exact ⟨z, y, xs, Paired.mapP r fun p q z => ⟨z.1, ht _ _ z.2.1, z.2.2⟩, ob, es, ep, k _ _ (.inl rfl) e, c⟩
  | set S n => obtain ⟨ob, es, ep, t, e, c⟩ := x; exact ⟨ob, es, ep, t, k _ _ (.inl rfl) e, c⟩
  | ins C dx fs =>
    obtain ⟨d, z, ne, e, mA, ⟨od, es, ep, e2, c⟩, r⟩ := x
    exact ⟨ho _ d, z, ne, k _ _ (.inl rfl) e, mA, ⟨od, es, ep, k _ _ (.inr d) e2, c⟩, r⟩
  | own y => obtain ⟨ob, e⟩ := x; exact ⟨ob, k _ _ (.inl rfl) e⟩
  | xd fs => obtain ⟨mA, ⟨od, es, ep, e, c⟩, r⟩ := x; exact ⟨mA, ⟨od, es, ep, k _ _ (.inl rfl) e, c⟩, r⟩
  | rng lo hi => obtain ⟨t, u, v, e⟩ := x; exact ⟨t, u, v, k _ _ (.inl rfl) e⟩
  | frz ob u ih => obtain ⟨e, q⟩ := x; exact ⟨k _ _ (.inl rfl) e, ih q⟩
  | tbl ps =>
    have e : h.get? a = some { cls := .none, data := .fields ps } := x
    show h'.get? a = some { cls := .none, data := .fields ps }
    exact k a _ (.inl rfl) e
  | met f y =>
    have e : h.get? a = some (PySem.W.methodObj (.ref f) (.ref y)) := x
    show h'.get? a = some (PySem.W.methodObj (.ref f) (.ref y))
    exact k a _ (.inl rfl) e
  | ext φ => obtain ⟨p, ⟨o, e⟩, st⟩ := x; exact ⟨st _ _ p fun o q => k _ _ (.inl rfl) q, ⟨o, k _ _ (.inl rfl) e⟩, st⟩
theorem HOk.lt (x : HOk P w H h) (e : H a = some o) : a < h.objs.size := (x a o e).lt
theorem HOk.fresh (x : HOk P w H h) (e : h.objs.size ≤ a) : H a = none := by
  cases q : H a with
  | none => rfl
  | some u => exact absurd (Nat.lt_of_lt_of_le (x.lt q) e) (Nat.lt_irrefl _)
/-- every object of the heap is kept -/
theorem HOk.kept (x : HOk P w H h) (k : ∀ b u, h.get? b = some u → h'.get? b = some u) : HOk P w H h' := fun a o e =>
  (x a o e).stay (fun b u _ q => k b u q) (fun _ q => q) fun _ _ q => q
/-- a new object is laid and tracked -/
theorem HOk.laid (x : HOk P w H h) (k : ∀ b u, h.get? b = some u → h'.get? b = some u) (hp : h.objs.size ≤ a) (new : ObjOk P w (upd H a o) h' a o) : HOk P w (upd H a o) h' := fun b u e => by
  have hn := x.fresh hp
  by_cases hb : b = a
  · subst hb; rw [upd_same] at e; cases e; exact new
  · rw [upd_ne hb] at e
    exact (x b u e).stay (fun c v _ q => k c v q) (fun c q => by rw [upd_ne (ne_of_none q hn)]; exact q) fun c xs q => by rw [upd_ne (ne_of_none q hn)]; exact q
end

/-- what may be read as u: it is u, or a known u -/
def Rd (H : Hp) (a : Addr) (u : HO) : Prop := H a = some u ∨ ∃ o, H a = some (.frz o u)
theorem Rd.ok {P : Program} {w : World} {H : Hp} {h : Heap} {a : Addr} {u : HO} (r : Rd H a u) (x : HOk P w H h) : ObjOk P w H h a u := by
  rcases r with r | ⟨o, r⟩
  · exact x a u r
  · obtain ⟨_, q⟩ := x a _ r
    exact q
/-- what may be written -/
def Mut : Option HO → Prop
  | some (.lst _) => True
  | some (.dK _) => True
  | some (.dT _) => True
  | some (.set _ _) => True
  | some (.ins _ _ _) => True
  | some (.ext _) => True
  | _ => False
section
variable {P : Program} {w : World} {H : Hp} {h h' : Heap} {x e : Addr} {o' : HO}
/-- the object at e is changed: x itself, or the dict of the instance x -/
theorem HOk.write (ok : HOk P w H h) (mu : Mut (H x)) (he : e = x ∨ H e = some (.own x)) (k : ∀ b u, b ≠ e → h.get? b = some u → h'.get? b = some u) (heo : ∃ u, h'.get? e = some u)
    (new : ObjOk P w (upd H x o') h' x o') : HOk P w (upd H x o') h' := fun b u q => by
  have nown : ∀ c y, H c = some (.own y) → c ≠ x := fun c y r z => by subst z; rw [r] at mu; exact mu
  have ntup : ∀ c xs, H c = some (.tup xs) → c ≠ x := fun c xs r z => by subst z; rw [r] at mu; exact mu
  by_cases hb : b = x
  · subst hb; rw [upd_same] at q; cases q; exact new
  · rw [upd_ne hb] at q
    by_cases hbe : b = e
    · have q' : H b = some (.own x) := by
        rcases he with z | z
        · exact absurd (hbe.trans z) hb
        · rw [hbe]; exact z
      rw [q] at q'; cases q'
      obtain ⟨v, hv⟩ := heo
      exact ⟨v, by rw [hbe]; exact hv⟩
    · refine (ok b u q).stay (fun c v hc r => k c v ?_ r) (fun c r => by rw [upd_ne (nown c b r)]; exact r) fun c xs r => by rw [upd_ne (ntup c xs r)]; exact r
      rcases hc with rfl | hc
      · exact hbe
      · rintro rfl
        rcases he with z | z
        · exact nown c b hc z
        · rw [hc] at z; cases z; exact hb rfl
end

/-! ### kept unless tracked; of the frames at fs (the callers') the slots may change (an exception that passes writes there); of the records at ex (iterators) nothing is said -/
structure Un (fs ex : List Addr) (H H' : Hp) (h h' : Heap) : Prop where
  keep : ∀ b o, h.get? b = some o → H b = none → b ∉ fs → b ∉ ex → h'.get? b = some o
  slot : ∀ b o, h.get? b = some o → H b = none → b ∈ fs → b ∉ ex → ∃ sl, h'.get? b = some { o with slots := sl }
  free : ∀ b o, h.get? b = some o → H b = none → b ∉ ex → H' b = none
  there : ∀ b o, h.get? b = some o → b ∉ ex → ∃ o', h'.get? b = some o'
  tups : ∀ b xs, H b = some (.tup xs) → H' b = some (.tup xs)
  frzs : ∀ b o u, H b = some (.frz o u) → H' b = some (.frz o u)
  tbls : ∀ b ps, H b = some (.tbl ps) → ∃ more, H' b = some (.tbl (ps ++ more))
section
variable {fs fs' ex ex' : List Addr} {H H1 H2 : Hp} {h h1 h2 h' : Heap} {a x e : Addr} {o : HO}
theorem Un.any (u : Un fs ex H H1 h h1) {b : Addr} {ob : Obj} (q : h.get? b = some ob) (n : H b = none) (hx : b ∉ ex) : ∃ sl, h1.get? b = some { ob with slots := sl } := by
  by_cases hb : b ∈ fs
  · exact u.slot b ob q n hb hx
  · exact ⟨ob.slots, u.keep b ob q n hb hx⟩
theorem Un.kept (k : ∀ b u, h.get? b = some u → h'.get? b = some u) : Un fs ex H H h h' :=
  ⟨fun b ob q _ _ _ => k b ob q, fun b ob q _ _ _ => ⟨ob.slots, k b ob q⟩, fun _ _ _ n _ => n, fun b ob q _ => ⟨ob, k b ob q⟩, fun _ _ q => q, fun _ _ _ q => q, fun _ ps q => ⟨#[], by rw [q]; simp⟩⟩
theorem Un.refl : Un fs ex H H h h := Un.kept fun _ _ q => q
theorem Un.laid (k : ∀ b u, h.get? b = some u → h'.get? b = some u) (hp : h.objs.size ≤ a) (hn : H a = none) : Un fs ex H (upd H a o) h h' where
  keep := fun b u q _ _ _ => k b u q
  slot := fun b u q _ _ _ => ⟨u.slots, k b u q⟩
  free := fun b u q n _ => by rw [upd_ne (Nat.ne_of_lt (Nat.lt_of_lt_of_le (Heap.lt_size q) hp))]; exact n
  there := fun b u q _ => ⟨u, k b u q⟩
  tups := fun b xs q => by rw [upd_ne (ne_of_none q hn)]; exact q
  frzs := fun b u xs q => by rw [upd_ne (ne_of_none q hn)]; exact q
  tbls := fun b ps q => ⟨#[], by rw [upd_ne (ne_of_none q hn), q]; simp⟩
theorem Un.write (mu : Mut (H x)) (he : e = x ∨ H e = some (.own x)) (k : ∀ b u, b ≠ e → h.get? b = some u → h'.get? b = some u) (heo : ∃ u, h'.get? e = some u) : Un fs ex H (upd H x o) h h' := by
  have hx : ∀ b, H b = none → b ≠ x := fun b n z => by subst z; rw [n] at mu; exact mu
  have hb : ∀ b, H b = none → b ≠ e := fun b n z => by
    subst z
    rcases he with r | r
    · exact hx b n r
    · rw [n] at r; cases r
  have hm : ∀ b u, H b = some u → ¬ Mut (some u) → b ≠ x := fun b u q nm z => by subst z; rw [q] at mu; exact nm mu
  refine ⟨fun b u q n _ _ => k b u (hb b n) q, fun b u q n _ _ => ⟨u.slots, k b u (hb b n) q⟩, fun b u q n _ => by rw [upd_ne (hx b n)]; exact n, fun b u q _ => ?_,
    fun b xs q => by rw [upd_ne (hm b _ q fun z => z)]; exact q, fun b u xs q => by rw [upd_ne (hm b _ q fun z => z)]; exact q, fun b ps q => ⟨#[], by rw [upd_ne (hm b _ q fun z => z), q]; simp⟩⟩
  by_cases hbe : b = e
  · subst hbe; exact heo
  · exact ⟨u, k b u hbe q⟩
end

/-! ### the heap without what is tracked -/
def trk (h : Heap) (H : Hp) : List Addr := (List.range h.objs.size).filter fun a => (H a).isSome
def hidT (h : Heap) (H : Hp) : Heap := PySem.W.hideAll h (trk h H)
theorem hidT_size (h : Heap) (H : Hp) : (hidT h H).objs.size = h.objs.size := PySem.W.hideAll_size _ _
theorem hidT_get {h : Heap} {H : Hp} {b : Addr} {o : Obj} (e : h.get? b = some o) (n : H b = none) : (hidT h H).get? b = some o :=
  PySem.W.hideAll_get _ e fun hm => by
    have q : (H b).isSome = true := (List.mem_filter.mp hm).2
    rw [n] at q; simp at q
theorem of_hidT {h : Heap} {H : Hp} {b : Addr} {o : Obj} (e : (hidT h H).get? b = some o) : h.get? b = some o ∧ H b = none := by
  have e' : h.get? b = some o := PySem.W.of_hideAll (trk h H) e
  refine ⟨e', ?_⟩
  cases q : H b with
  | none => rfl
  | some x =>
    have hm : b ∈ trk h H := List.mem_filter.mpr ⟨List.mem_range.mpr (Heap.lt_size e'), by simp [q]⟩
    have z : (hidT h H).get? b = none := PySem.W.hideAll_none (trk h H) hm
    rw [z] at e; cases e

/-! ### OpenK's ledger, filled with every new object but one -/
end L2

namespace L2
open PySem PySem.Spec PyProof.Rows

/-- the module's facts, over the base: the heap at the law's entry without what is tracked there -/
structure Mod (K : PySem.W.Frag) (mg : Str → Option Value) (base : Heap) : Prop where
  kin : K.In base
  glob : base.Ns mainGlobals mg
  blt : ∃ mb, base.Ns builtinsNs mb ∧ ∀ x : Str, x ≠ "__name__" → mb x = bootBuiltins x
  nolimit : base.NoLimit

/-- the context: a def's body (or a comprehension's block) running. base: fixed through the whole law; s₀, H₀: the entry; outer: the frames whose slots others may change (a def's callers); stack: all frames that run;
   ex: iterators that were made ahead of the entry and are walked here (a comprehension's); fn: the names whose cells were made at the entry (a def: all; a comprehension's block: its own); calm: not within an except suite; pn: pins that every state bears; xe: what is wanted of an exception that leaves the code -/
structure Cx where
  prog : Program
  w : World
  K : PySem.W.Frag
  mg : Str → Option Value
  base : Heap
  A : Around
  N : List Str
  s_0 : Shared
  H_0 : Hp
  env : Env
  outer : List Env
  stack : List Env
  ex : List Addr
  fn : Str → Bool
  calm : Bool
  pn : List (Addr × Obj)
  xe : Value → Shared → Prop
/-- the callers' frames -/
def frs (l : List Env) : List Addr := l.filterMap (·.frame)
abbrev Cx.fs (X : Cx) : List Addr := frs X.outer

def Vis (sc : Scope) (x : Str) : Prop := sc.names.lookup x = some .local ∨ sc.names.lookup x = some .cell ∨ sc.names.lookup x = some .free
def Loc (sc : Scope) (x : Str) : Prop := sc.names.lookup x = some .local ∨ sc.names.lookup x = some .cell
def Look (env : Env) (h : Heap) (m : Str → Option Value) (x : Str) (u : Value) : Prop :=
  (env.kindOf x = some .local ∧ m x = some u) ∨ ((env.kindOf x = some .cell ∨ env.kindOf x = some .free) ∧ ∃ c, env.cells.lookup x = some c ∧ h.IsCell c (some u))

structure Cx.Ok (X : Cx) : Prop where
  mod : Mod X.K X.mg X.base
  kind : X.env.scope.kind = .function
  glob : X.env.globals = mainGlobals
  blt : X.env.builtins = builtinsNs
  above : X.s_0.heap.objs.size ≤ X.env.locals
  inj : ∀ x y c, X.env.cells.lookup x = some c → X.env.cells.lookup y = some c → x = y
  has : ∀ x, (X.env.kindOf x = some .cell ∨ X.env.kindOf x = some .free) → ∃ c, X.env.cells.lookup x = some c
  cab : ∀ x c, X.fn x = true → X.env.cells.lookup x = some c → X.s_0.heap.objs.size ≤ c
  hd : X.calm = true → X.A.handled = none
  frames : X.A.frames = some X.stack
  stk : X.stack = X.outer ∨ (X.stack = X.env :: X.outer ∧ X.env.frame = some X.env.locals)
  exf : ∀ b ∈ X.ex, b ≠ X.env.locals ∧ ∀ x c, X.env.cells.lookup x = some c → c ≠ b
  bs : ∀ b o, X.base.get? b = some o → X.s_0.heap.get? b = some o ∧ X.H_0 b = none
  bsz : X.base.objs.size ≤ X.s_0.heap.objs.size
  noex : ∀ b o, X.base.get? b = some o → b ∉ X.ex
  exfs : ∀ b ∈ X.ex, b ∉ X.fs
  funs : X.s_0.heap.FunFrames X.base X.outer
  frf : ∀ b ∈ X.fs, X.H_0 b = none

structure Inv (X : Cx) (pins : List (Addr × Obj)) (σ : List (Option V)) (H : Hp) (s : Shared) : Prop where
  ok : X.Ok
  os : s.os = X.s_0.os
  bare : AllBare s.gens
  base : Un X.fs X.ex X.H_0 H X.s_0.heap s.heap
  loc : ∃ m, s.heap.Ns X.env.locals m ∧ ∀ (i : Nat) (x : Str) (v : V), X.N[i]? = some x → σ[i]? = some (some v) → Vis X.env.scope x → ∃ u, RelV v u ∧ Look X.env s.heap m x u
  cell : ∀ x c, X.env.cells.lookup x = some c → ∃ v, s.heap.IsCell c v
  free : H X.env.locals = none
  freeC : ∀ x c, X.env.cells.lookup x = some c → H c = none
  pin : ∀ p ∈ X.pn ++ pins, s.heap.get? p.1 = some p.2 ∧ H p.1 = none ∧ p.1 ≠ X.env.locals ∧ p.1 ∉ X.fs ∧ ∀ v, p.2.data ≠ .cell v
  hok : HOk X.prog X.w H s.heap
  len : σ.length = X.N.length

section
variable {X : Cx} {pins : List (Addr × Obj)} {σ : List (Option V)} {H H' : Hp} {s : Shared} {h' : Heap}

theorem Cx.Ok.nofr (ok : X.Ok) {b : Addr} {o : Obj} (e : X.base.get? b = some o) : b ∉ X.fs := fun hb => by
  have := (ok.funs.mem hb).1
  rw [e] at this; cases this
theorem Inv.bs (I : Inv X pins σ H s) : ∀ b o, X.base.get? b = some o → s.heap.get? b = some o ∧ H b = none := fun b o e =>
  ⟨I.base.keep b o (I.ok.bs b o e).1 (I.ok.bs b o e).2 (I.ok.nofr e) (I.ok.noex b o e), I.base.free b o (I.ok.bs b o e).1 (I.ok.bs b o e).2 (I.ok.noex b o e)⟩
theorem Inv.bk (I : Inv X pins σ H s) : ∀ b o, X.base.get? b = some o → s.heap.get? b = some o := fun b o e => (I.bs b o e).1
theorem Inv.mod (I : Inv X pins σ H s) : Mod X.K X.mg X.base := I.ok.mod
theorem Inv.kIn (I : Inv X pins σ H s) : X.K.In s.heap := I.ok.mod.kin.keeps I.bk
/-- the frame over the base: for OpenK's rules (K.In X.base is I.mod.kin) -/
theorem Inv.fr (I : Inv X pins σ H s) : ∃ m, Fr X.base X.env.locals s.heap m :=
  let ⟨m, hn, _⟩ := I.loc
  ⟨m, hn, I.bk, Nat.le_trans I.ok.bsz I.ok.above⟩
theorem Inv.lt (I : Inv X pins σ H s) : X.env.locals < s.heap.objs.size := let ⟨_, hn, _⟩ := I.loc; hn.lt
theorem Inv.sz (I : Inv X pins σ H s) : X.s_0.heap.objs.size ≤ s.heap.objs.size := Nat.le_trans I.ok.above (Nat.le_of_lt I.lt)
theorem Inv.nofs (I : Inv X pins σ H s) {a : Addr} (h : s.heap.objs.size ≤ a) : a ∉ X.fs := fun hb => by
  obtain ⟨_, o, ho, _⟩ := I.ok.funs.mem hb
  exact absurd (Nat.lt_of_lt_of_le (Heap.lt_size ho) (Nat.le_trans I.sz h)) (Nat.lt_irrefl _)
theorem Inv.cne (I : Inv X pins σ H s) : ∀ x c, X.env.cells.lookup x = some c → c ≠ X.env.locals := fun x c e z => by
  obtain ⟨v, o, ho, hd⟩ := I.cell x c e
  obtain ⟨m, ⟨o', es, ep, ho', hd', _⟩, _⟩ := I.loc
  rw [z, ho'] at ho; cases ho; rw [hd'] at hd; cases hd
theorem Inv.funs (I : Inv X pins σ H s) : s.heap.FunFrames X.base X.outer := by
  have all : ∀ (l : List Env), (∀ b ∈ frs l, b ∈ X.fs) → X.s_0.heap.FunFrames X.base l → s.heap.FunFrames X.base l := by
    intro l
    induction l with
    | nil => intro _ _; trivial
    | cons env r ih =>
      intro hs hl
      obtain ⟨hk, ⟨L, o, hf, hn, ho, hd⟩, hr⟩ := hl
      have hL : L ∈ X.fs := hs L (by unfold frs; rw [List.filterMap_cons, hf]; exact List.mem_cons_self)
      obtain ⟨sl, e⟩ := I.base.slot L o ho (I.ok.frf L hL) hL fun z => I.ok.exfs L z hL
      exact ⟨hk, ⟨L, _, hf, hn, e, hd⟩, ih (fun b hb => hs b (by unfold frs; rw [List.filterMap_cons, hf]; exact List.mem_cons_of_mem _ hb)) hr⟩
  exact all X.outer (fun _ hb => hb) I.ok.funs

/-- the frames that run, for a call -/
theorem Inv.stack (I : Inv X pins σ H s) : s.heap.FunFrames X.base X.stack := by
  rcases I.ok.stk with e | ⟨e, hf⟩
  · rw [e]; exact I.funs
  · rw [e]
    obtain ⟨m, hn, _⟩ := I.loc
    refine .cons (by rw [I.ok.kind]; decide) hf hn ?_ I.funs
    exact Heap.get?_none_of_le (Nat.le_trans I.ok.bsz I.ok.above)
theorem Inv.stkSub (I : Inv X pins σ H s) : ∀ b ∈ frs X.stack, b ∈ X.env.locals :: X.fs := fun b hb => by
  rcases I.ok.stk with e | ⟨e, hf⟩
  · rw [e] at hb; exact List.mem_cons_of_mem _ hb
  · rw [e] at hb
    unfold frs at hb
    rw [List.filterMap_cons, hf] at hb
    exact hb
theorem Inv.stkFree (I : Inv X pins σ H s) : ∀ b ∈ frs X.stack, H b = none := fun b hb => by
  rcases List.mem_cons.mp (I.stkSub b hb) with e | hb
  · rw [e]; exact I.free
  · obtain ⟨_, o, ho, _⟩ := I.ok.funs.mem hb
    exact I.base.free b o ho (I.ok.frf b hb) fun z => I.ok.exfs b z hb

/-- THE STEP: the untracked objects but the frame and the records at ch are kept (the callers' frames up to slots), the frame's map is kept, the new abstract heap is held -/
theorem Inv.step {g' : Array GenState} {t' : Nat} {d' : Drawn} {ch : List Addr} (I : Inv X pins σ H s)
    (hch : ∀ b ∈ ch, (b ∈ X.ex ∨ X.s_0.heap.objs.size ≤ b) ∧ b ≠ X.env.locals ∧ (∀ x c, X.env.cells.lookup x = some c → c ≠ b) ∧ ∀ p ∈ X.pn ++ pins, p.1 ≠ b)
    (keep : ∀ b o, b ≠ X.env.locals → b ∉ X.fs → b ∉ ch → s.heap.get? b = some o → H b = none → h'.get? b = some o)
    (slot : ∀ b o, b ≠ X.env.locals → b ∈ X.fs → b ∉ ch → s.heap.get? b = some o → H b = none → ∃ sl, h'.get? b = some { o with slots := sl }) (free : ∀ b o, b ∉ ch → s.heap.get? b = some o → H b = none → H' b = none)
    (there : ∀ b o, b ∉ ch → s.heap.get? b = some o → ∃ o', h'.get? b = some o')
    (tups : ∀ b xs, H b = some (.tup xs) → H' b = some (.tup xs)) (frzs : ∀ b o u, H b = some (.frz o u) → H' b = some (.frz o u)) (tbls : ∀ b ps, H b = some (.tbl ps) → ∃ more, H' b = some (.tbl (ps ++ more)))
    (ns : ∀ m, s.heap.Ns X.env.locals m → h'.Ns X.env.locals m) (hok : HOk X.prog X.w H' h') (hg : AllBare g') :
    Inv X pins σ H' { s with heap := h', gens := g', drawn := d', toks := t' } := by
  have neL : ∀ b o, X.s_0.heap.get? b = some o → b ≠ X.env.locals := fun b o e => Nat.ne_of_lt (Nat.lt_of_lt_of_le (Heap.lt_size e) I.ok.above)
  have neC : ∀ b o, X.s_0.heap.get? b = some o → b ∉ X.ex → b ∉ ch := fun b o e hx hb => by
    rcases (hch b hb).1 with z | z
    · exact hx z
    · exact absurd (Nat.lt_of_lt_of_le (Heap.lt_size e) z) (Nat.lt_irrefl _)
  have cellK : ∀ x c, X.env.cells.lookup x = some c → ∀ v, s.heap.IsCell c v → h'.IsCell c v := fun x c e v ⟨o, ho, hd⟩ => by
    have nch : c ∉ ch := fun z => (hch c z).2.2.1 x c e rfl
    by_cases hc : c ∈ X.fs
    · obtain ⟨sl, q⟩ := slot c o (I.cne x c e) hc nch ho (I.freeC x c e)
      exact ⟨_, q, hd⟩
    · exact ⟨o, keep c o (I.cne x c e) hc nch ho (I.freeC x c e), hd⟩
  refine ⟨I.ok, I.os, hg, ⟨fun b o e n hb hx => ?_, fun b o e n hb hx => ?_, fun b o e n hx => ?_, fun b o e hx => ?_, fun b xs e => tups b xs (I.base.tups b xs e), fun b o xs e => frzs b o xs (I.base.frzs b o xs e), fun b ps e => ?_⟩, ?_, fun x c e => ?_, ?_, fun x c e => ?_, fun p hp => ?_, hok, I.len⟩
  · exact keep b o (neL b o e) hb (neC b o e hx) (I.base.keep b o e n hb hx) (I.base.free b o e n hx)
  · obtain ⟨sl, e1⟩ := I.base.slot b o e n hb hx
    obtain ⟨sl', e2⟩ := slot b _ (neL b o e) hb (neC b o e hx) e1 (I.base.free b o e n hx)
    exact ⟨sl', e2⟩
  · obtain ⟨o', e1⟩ := I.base.there b o e hx
    exact free b o' (neC b o e hx) e1 (I.base.free b o e n hx)
  · obtain ⟨o', e1⟩ := I.base.there b o e hx
    exact there b o' (neC b o e hx) e1
  · obtain ⟨m1, e1⟩ := I.base.tbls b ps e
    obtain ⟨m2, e2⟩ := tbls b _ e1
    exact ⟨m1 ++ m2, by rw [e2, Array.append_assoc]⟩
  · obtain ⟨m, hn, hl⟩ := I.loc
    refine ⟨m, ns m hn, fun i x v e1 e2 e3 => ?_⟩
    obtain ⟨u, r, l⟩ := hl i x v e1 e2 e3
    refine ⟨u, r, ?_⟩
    rcases l with l | ⟨k, c, e, z⟩
    · exact .inl l
    · exact .inr ⟨k, c, e, cellK x c e _ z⟩
  · obtain ⟨v, z⟩ := I.cell x c e
    exact ⟨v, cellK x c e v z⟩
  · obtain ⟨m, ⟨o, _, _, ho, _⟩, _⟩ := I.loc
    exact free _ o (fun z => (hch _ z).2.1 rfl) ho I.free
  · obtain ⟨v, o, ho, hd⟩ := I.cell x c e
    exact free c o (fun z => (hch c z).2.2.1 x c e rfl) ho (I.freeC x c e)
  · obtain ⟨e, n, ne, nf, d⟩ := I.pin p hp
    have nch : p.1 ∉ ch := fun z => (hch p.1 z).2.2.2 p hp rfl
    exact ⟨keep p.1 p.2 ne nf nch e n, free p.1 p.2 nch e n, ne, nf, d⟩
/-- .. where the frame's own object is kept too -/
theorem Inv.un {t' : Nat} (I : Inv X pins σ H s) (u : Un X.fs [] H H' s.heap h') (hok : HOk X.prog X.w H' h') : Inv X pins σ H' { s with heap := h', toks := t' } := by
  obtain ⟨m, ⟨o, es, ep, ho, r⟩, _⟩ := id I.loc
  obtain ⟨sl, hL⟩ := u.any ho I.free (by simp)
  exact I.step (g' := s.gens) (d' := s.drawn) (ch := []) (fun _ z => nomatch z) (fun b o _ hb _ e n => u.keep b o e n hb (by simp)) (fun b o _ hb _ e n => u.slot b o e n hb (by simp)) (fun b o _ e n => u.free b o e n (by simp)) (fun b o _ e => u.there b o e (by simp)) u.tups u.frzs u.tbls (fun m' hm => by
    obtain ⟨o', es', ep', ho', r'⟩ := hm
    rw [ho] at ho'; cases ho'
    exact ⟨_, es', ep', hL, r'⟩) hok I.bare
/-- behind a call (or a comprehension's block): the slots of this frame may have changed too, the records at ch may have turned -/
theorem Inv.call {g' : Array GenState} {t' : Nat} {d' : Drawn} {ch : List Addr} (I : Inv X pins σ H s) (u : Un (frs X.stack) ch H H' s.heap h') (hok : HOk X.prog X.w H' h') (hg : AllBare g')
    (hch : ∀ b ∈ ch, (b ∈ X.ex ∨ X.s_0.heap.objs.size ≤ b) ∧ b ≠ X.env.locals ∧ (∀ x c, X.env.cells.lookup x = some c → c ≠ b) ∧ ∀ p ∈ X.pn ++ pins, p.1 ≠ b) :
    Inv X pins σ H' { s with heap := h', gens := g', drawn := d', toks := t' } := by
  obtain ⟨m, ⟨o, es, ep, ho, r⟩, _⟩ := id I.loc
  obtain ⟨sl, hL⟩ := u.any ho I.free fun z => (hch _ z).2.1 rfl
  exact I.step (ch := ch) hch (fun b o hL hb hc e n => u.keep b o e n (fun z => (List.mem_cons.mp (I.stkSub b z)).elim hL hb) hc) (fun b o _ _ hc e n => u.any e n hc) (fun b o hc e n => u.free b o e n hc) (fun b o hc e => u.there b o e hc) u.tups u.frzs u.tbls (fun m' hm => by
    obtain ⟨o', es', ep', ho', r'⟩ := hm
    rw [ho] at ho'; cases ho'
    exact ⟨_, es', ep', hL, r'⟩) hok hg
/-- an untracked record of ours (an iterator) has turned -/
theorem Inv.turned {t' : Nat} {it : Addr} (I : Inv X pins σ H s) (k : ∀ b o, b ≠ it → s.heap.get? b = some o → h'.get? b = some o) (hn : H it = none) (hL : it ≠ X.env.locals)
    (h1 : it ∈ X.ex ∨ X.s_0.heap.objs.size ≤ it) (h2 : ∀ x c, X.env.cells.lookup x = some c → c ≠ it) (h3 : ∀ p ∈ X.pn ++ pins, p.1 ≠ it) : Inv X pins σ H { s with heap := h', toks := t' } := by
  have nit : ∀ b u, H b = some u → b ≠ it := fun b u e z => by rw [z, hn] at e; cases e
  refine I.step (g' := s.gens) (d' := s.drawn) (ch := [it]) (fun b hb => ?_) (fun b o _ _ hc e _ => k b o (fun z => hc (by simp [z])) e) (fun b o _ _ hc e _ => ⟨o.slots, k b o (fun z => hc (by simp [z])) e⟩) (fun _ _ _ _ n => n)
    (fun b o hc e => ⟨o, k b o (fun z => hc (by simp [z])) e⟩) (fun _ _ e => e) (fun _ _ _ e => e) (fun b ps e => ⟨#[], by rw [e]; simp⟩) (fun m hm => ?_) (fun b u e => ?_) I.bare
  · have e : b = it := by simpa using hb
    subst e
    exact ⟨h1, hL, h2, h3⟩
  · obtain ⟨o, es, ep, ho, r⟩ := hm
    exact ⟨o, es, ep, k _ o (Ne.symm hL) ho, r⟩
  · refine (I.hok b u e).stay (fun c v hc q => k c v ?_ q) (fun _ q => q) fun _ _ q => q
    rcases hc with z | z
    · rw [z]; exact nit b u e
    · exact nit c _ z
theorem Inv.tok (I : Inv X pins σ H s) (t : Nat) : Inv X pins σ H { s with toks := t } := I.un (h' := s.heap) (t' := t) Un.refl I.hok
/-- all objects kept -/
theorem Inv.kept {t' : Nat} (I : Inv X pins σ H s) (k : ∀ b u, s.heap.get? b = some u → h'.get? b = some u) : Inv X pins σ H { s with heap := h', toks := t' } := I.un (Un.kept k) (I.hok.kept k)
/-- a new object laid and tracked -/
theorem Inv.laid {a : Addr} {o : HO} {t' : Nat} (I : Inv X pins σ H s) (k : ∀ b u, s.heap.get? b = some u → h'.get? b = some u) (hp : s.heap.objs.size ≤ a) (new : ObjOk X.prog X.w (upd H a o) h' a o) :
    Inv X pins σ (upd H a o) { s with heap := h', toks := t' } := I.un (Un.laid k hp (I.hok.fresh hp)) (I.hok.laid k hp new)
/-- an object written -/
theorem Inv.write {x e : Addr} {o : HO} {t' : Nat} (I : Inv X pins σ H s) (mu : Mut (H x)) (he : e = x ∨ H e = some (.own x)) (k : ∀ b u, b ≠ e → s.heap.get? b = some u → h'.get? b = some u) (heo : ∃ u, h'.get? e = some u)
    (new : ObjOk X.prog X.w (upd H x o) h' x o) : Inv X pins σ (upd H x o) { s with heap := h', toks := t' } := I.un (Un.write mu he k heo) (I.hok.write mu he k heo new)
/-- forgetting slots, pins -/
theorem Inv.weak {σ' : List (Option V)} (I : Inv X pins σ H s) (hl : σ'.length = σ.length) (w : ∀ (i : Nat) v, σ'[i]? = some (some v) → σ[i]? = some (some v)) : Inv X pins σ' H s :=
  ⟨I.ok, I.os, I.bare, I.base, let ⟨m, hn, hl'⟩ := I.loc; ⟨m, hn, fun i x v e1 e2 e3 => hl' i x v e1 (w i v e2) e3⟩, I.cell, I.free, I.freeC, I.pin, I.hok, hl.trans I.len⟩
theorem Inv.pins_of {pins' : List (Addr × Obj)} (I : Inv X pins σ H s) (h : ∀ p ∈ pins', s.heap.get? p.1 = some p.2 ∧ H p.1 = none ∧ p.1 ≠ X.env.locals ∧ p.1 ∉ X.fs ∧ ∀ v, p.2.data ≠ .cell v) : Inv X pins' σ H s :=
  ⟨I.ok, I.os, I.bare, I.base, I.loc, I.cell, I.free, I.freeC, fun p hp => (List.mem_append.mp hp).elim (fun z => I.pin p (List.mem_append_left _ z)) (h p), I.hok, I.len⟩

theorem nodup_ix {N : List Str} (hN : N.Nodup) {i j : Nat} {x : Str} (a : N[i]? = some x) (b : N[j]? = some x) : i = j := by
  obtain ⟨h1, e1⟩ := List.getElem?_eq_some_iff.mp a
  obtain ⟨h2, e2⟩ := List.getElem?_eq_some_iff.mp b
  exact (List.getElem_inj hN).mp (e1.trans e2.symm)

/-- a name is stored; what changed -/
theorem store_ok2 {M : Model} {A : Around} {E : Value → Shared → Prop} {i : Nat} {x : Str} {v : V} {u : Value} {Q : Unit → Shared → Prop} (I : Inv X pins σ H s) (hN : X.N.Nodup) (hi : X.N[i]? = some x) (hx : Loc X.env.scope x) (r : RelV v u)
    (h : ∀ s', Inv X pins (σ.set i (some v)) H s' → (∃ a, Heap.SameBut a s.heap s'.heap ∧ (a = X.env.locals ∨ X.env.cells.lookup x = some a)) → Q () s') (hf : X.fn x = true ∨ X.env.scope.names.lookup x = some .local := by first | exact .inl rfl | exact .inr rfl | assumption) : wpAny M A (storeName X.env x u) Q E s := by
  obtain ⟨m, hn, hl⟩ := id I.loc
  have hcls : (X.env.scope.kind == .class || (X.env.scope.kind == .module && X.env.locals != X.env.globals)) = false := by rw [I.ok.kind]; rfl
  have hiσ : i < σ.length := by rw [I.len]; exact (List.getElem?_eq_some_iff.mp hi).1
  have cne := I.cne
  have tracked : ∀ {a : Addr} {h' : Heap}, (∃ o, s.heap.get? a = some o ∧ H a = none) → Heap.SameBut a s.heap h' → HOk X.prog X.w H h' := fun {a h'} ha hs b ob e => by
    obtain ⟨_, _, hfree⟩ := ha
    refine (I.hok b ob e).stay (fun c w' hc q => (hs.2 c ?_).trans q) (fun _ q => q) fun _ _ q => q
    rintro rfl
    rcases hc with rfl | hc
    · rw [hfree] at e; cases e
    · rw [hfree] at hc; cases hc
  rcases hx with hk | hk
  · refine wpAny_storeName_local hk hn (fun h' hn' hs => ?_) hcls
    obtain ⟨oL, _, _, hoL, _⟩ := id hn
    refine h _ ⟨I.ok, I.os, I.bare, ⟨fun b o e n hb hx => ?_, fun b o e n hb hx => ?_, I.base.free, fun b o e hx => ?_, I.base.tups, I.base.frzs, I.base.tbls⟩, ⟨_, hn', fun j y v' e1 e2 e3 => ?_⟩, fun y c e => ?_, I.free, I.freeC, fun p hp => ?_, tracked ⟨oL, hoL, I.free⟩ hs, by simpa using I.len⟩ ⟨_, hs, .inl rfl⟩
    · exact (hs.2 b (Nat.ne_of_lt (Nat.lt_of_lt_of_le (Heap.lt_size e) I.ok.above))).trans (I.base.keep b o e n hb hx)
    · obtain ⟨sl, e1⟩ := I.base.slot b o e n hb hx
      exact ⟨sl, (hs.2 b (Nat.ne_of_lt (Nat.lt_of_lt_of_le (Heap.lt_size e) I.ok.above))).trans e1⟩
    · obtain ⟨o', e1⟩ := I.base.there b o e hx
      exact ⟨o', (hs.2 b (Nat.ne_of_lt (Nat.lt_of_lt_of_le (Heap.lt_size e) I.ok.above))).trans e1⟩
    · by_cases hj : j = i
      · subst hj
        rw [hi] at e1; cases e1
        rw [List.getElem?_set_self hiσ] at e2
        cases e2
        exact ⟨u, r, .inl ⟨hk, by simp⟩⟩
      · rw [List.getElem?_set_ne (Ne.symm hj)] at e2
        obtain ⟨u', r', q⟩ := hl j y v' e1 e2 e3
        refine ⟨u', r', ?_⟩
        rcases q with ⟨k, e⟩ | ⟨k, c, e, z⟩
        · refine .inl ⟨k, ?_⟩
          have : y ≠ x := fun e => hj (nodup_ix hN e1 (e ▸ hi))
          simp [this, e]
        · exact .inr ⟨k, c, e, z.sameBut hs (cne y c e)⟩
    · obtain ⟨w', z⟩ := I.cell y c e
      exact ⟨w', z.sameBut hs (cne y c e)⟩
    · obtain ⟨e, n, ne, nf, d⟩ := I.pin p hp
      exact ⟨(hs.2 p.1 ne).trans e, n, ne, nf, d⟩
  · have hfn : X.fn x = true := by
      rcases hf with z | z
      · exact z
      · rw [z] at hk; cases hk
    obtain ⟨c, hc⟩ := I.ok.has x (.inl hk)
    obtain ⟨w', z⟩ := I.cell x c hc
    refine wpAny_storeName_cell I.ok.kind hk hc z (fun h' hc' hs => ?_)
    obtain ⟨oc, hoc, hocd⟩ := id z
    refine h { s with heap := h' } ⟨I.ok, I.os, I.bare, ⟨fun b o e n hb hx => ?_, fun b o e n hb hx => ?_, I.base.free, fun b o e hx => ?_, I.base.tups, I.base.frzs, I.base.tbls⟩, ⟨m, hn.sameBut hs (Ne.symm (cne x c hc)), fun j y v' e1 e2 e3 => ?_⟩, fun y c' e => ?_, I.free, I.freeC, fun p hp => ?_, tracked ⟨oc, hoc, I.freeC x c hc⟩ hs, by simpa using I.len⟩ ⟨c, hs, .inr hc⟩
    · exact (hs.2 b (Nat.ne_of_lt (Nat.lt_of_lt_of_le (Heap.lt_size e) (I.ok.cab x c hfn hc)))).trans (I.base.keep b o e n hb hx)
    · obtain ⟨sl, e1⟩ := I.base.slot b o e n hb hx
      exact ⟨sl, (hs.2 b (Nat.ne_of_lt (Nat.lt_of_lt_of_le (Heap.lt_size e) (I.ok.cab x c hfn hc)))).trans e1⟩
    · obtain ⟨o', e1⟩ := I.base.there b o e hx
      exact ⟨o', (hs.2 b (Nat.ne_of_lt (Nat.lt_of_lt_of_le (Heap.lt_size e) (I.ok.cab x c hfn hc)))).trans e1⟩
    · by_cases hj : j = i
      · subst hj
        rw [hi] at e1; cases e1
        rw [List.getElem?_set_self hiσ] at e2
        cases e2
        exact ⟨u, r, .inr ⟨.inl hk, c, hc, hc'⟩⟩
      · rw [List.getElem?_set_ne (Ne.symm hj)] at e2
        obtain ⟨u', r', q⟩ := hl j y v' e1 e2 e3
        refine ⟨u', r', ?_⟩
        rcases q with q | ⟨k, c', e, z'⟩
        · exact .inl q
        · refine .inr ⟨k, c', e, z'.sameBut hs ?_⟩
          rintro rfl
          exact hj (nodup_ix hN e1 (I.ok.inj _ _ _ e hc ▸ hi))
    · by_cases hcc : c' = c
      · subst hcc; exact ⟨_, hc'⟩
      · obtain ⟨w2, z2⟩ := I.cell y c' e
        exact ⟨w2, z2.sameBut hs hcc⟩
    · obtain ⟨e, n, ne, nf, d⟩ := I.pin p hp
      refine ⟨(hs.2 p.1 ?_).trans e, n, ne, nf, d⟩
      intro q
      rw [q, hoc] at e
      have q' : oc = p.2 := Option.some.inj e
      exact d w' (by rw [← q']; exact hocd)
theorem store_ok {M : Model} {A : Around} {E : Value → Shared → Prop} {i : Nat} {x : Str} {v : V} {u : Value} {Q : Unit → Shared → Prop} (I : Inv X pins σ H s) (hN : X.N.Nodup) (hi : X.N[i]? = some x) (hx : Loc X.env.scope x) (r : RelV v u)
    (h : ∀ s', Inv X pins (σ.set i (some v)) H s' → Q () s') (hf : X.fn x = true ∨ X.env.scope.names.lookup x = some .local := by first | exact .inl rfl | exact .inr rfl | assumption) : wpAny M A (storeName X.env x u) Q E s :=
  store_ok2 I hN hi hx r (fun s' I' _ => h s' I') hf
/-- behind a call or a block, the state as it is -/
theorem Inv.call' {s' : Shared} {ch : List Addr} (I : Inv X pins σ H s) (ho : s'.os = s.os) (u : Un (frs X.stack) ch H H' s.heap s'.heap) (hok : HOk X.prog X.w H' s'.heap) (hg : AllBare s'.gens)
    (hch : ∀ b ∈ ch, (b ∈ X.ex ∨ X.s_0.heap.objs.size ≤ b) ∧ b ≠ X.env.locals ∧ (∀ x c, X.env.cells.lookup x = some c → c ≠ b) ∧ ∀ p ∈ X.pn ++ pins, p.1 ≠ b) : Inv X pins σ H' s' := by
  obtain ⟨h', g', d', t', o'⟩ := s'
  have e : o' = s.os := ho
  subst e
  exact I.call (g' := g') (t' := t') (d' := d') u hok hg hch
end

/-! ### the judgements -/
/-- an exception: its class, its own dict's address (where it has one), the abstract heap behind it -/
abbrev XK := Value → Option Addr → Hp → Prop
abbrev St := List (Option V)
abbrev VK := V → Hp → Prop
/-- an expression's reading; a test's; an argument list's -/
abbrev TE := St → Hp → VK → Prop
abbrev TT := St → Hp → (Bool → Hp → Prop) → Prop
abbrev TA := St → Hp → (List V → Hp → Prop) → Prop
/-- what is wanted behind a statement -/
structure Ends where
  nx : St → Hp → Prop
  rt : VK
  bk : St → Hp → Prop := fun _ _ => False
  ct : St → Hp → Prop := fun _ _ => False
abbrev TS := Ends → St → Hp → Prop

def EP (X : Cx) (pins : List (Addr × Obj)) (σ : St) (Q : VK) (u : Value) (s' : Shared) : Prop := ∃ v H', Inv X pins σ H' s' ∧ RelV v u ∧ Q v H'
def TP (X : Cx) (pins : List (Addr × Obj)) (σ : St) (Q : Bool → Hp → Prop) (b : Bool) (s' : Shared) : Prop := ∃ H', Inv X pins σ H' s' ∧ Q b H'
def AP (X : Cx) (pins : List (Addr × Obj)) (σ : St) (Q : List V → Hp → Prop) (us : List Value) (s' : Shared) : Prop := ∃ vs H', Inv X pins σ H' s' ∧ Vals vs us ∧ Q vs H'
def SP (X : Cx) (pins : List (Addr × Obj)) (D : Ends) (f : Flow) (s' : Shared) : Prop :=
  match f with
  | .next => ∃ σ' H', Inv X pins σ' H' s' ∧ D.nx σ' H'
  | .brk => ∃ σ' H', Inv X pins σ' H' s' ∧ D.bk σ' H'
  | .cont => ∃ σ' H', Inv X pins σ' H' s' ∧ D.ct σ' H'
  | .ret u => ∃ v σ' H', Inv X pins σ' H' s' ∧ RelV v u ∧ D.rt v H'

def PE (X : Cx) (e : Expr) (t : TE) : Prop :=
  ∀ (pins : List (Addr × Obj)) (s : Shared) (σ : St) (H : Hp) (Q : VK), Inv X pins σ H s → t σ H Q → wpAny (model X.prog X.w) X.A (eval e X.env) (EP X pins σ Q) X.xe s
def PT (X : Cx) (e : Expr) (t : TT) : Prop :=
  ∀ (pins : List (Addr × Obj)) (s : Shared) (σ : St) (H : Hp) (Q : Bool → Hp → Prop), Inv X pins σ H s → t σ H Q → wpAny (model X.prog X.w) X.A (isTrue e X.env (eval e X.env)) (TP X pins σ Q) X.xe s
/-- a test whatever its 'whole' is (and, or) -/
def PW (X : Cx) (e : Expr) (t : TT) : Prop :=
  ∀ (whole : Sem Value) (pins : List (Addr × Obj)) (s : Shared) (σ : St) (H : Hp) (Q : Bool → Hp → Prop), Inv X pins σ H s → t σ H Q → wpAny (model X.prog X.w) X.A (isTrue e X.env whole) (TP X pins σ Q) X.xe s
theorem PW.pt {X : Cx} {e : Expr} {t : TT} (h : PW X e t) : PT X e t := h _
/-- an argument list (no star), from the left -/
def PA (X : Cx) (es : List Expr) (t : TA) : Prop :=
  ∀ (pos : Pos) (pins : List (Addr × Obj)) (s : Shared) (σ : St) (H : Hp) (Q : List V → Hp → Prop), Inv X pins σ H s → t σ H Q → wpAny (model X.prog X.w) X.A (spliced (backTo pos (starEach es X.env))) (AP X pins σ Q) X.xe s
def PS (X : Cx) (st : Stmt) (t : TS) : Prop :=
  ∀ (pins : List (Addr × Obj)) (s : Shared) (σ : St) (H : Hp) (D : Ends), Inv X pins σ H s → t D σ H → wpAny (model X.prog X.w) X.A (exec st X.env) (SP X pins D) X.xe s
def PSs (X : Cx) (st : List Stmt) (t : TS) : Prop :=
  ∀ (pins : List (Addr × Obj)) (s : Shared) (σ : St) (H : Hp) (D : Ends), Inv X pins σ H s → t D σ H → wpAny (model X.prog X.w) X.A (execs st X.env) (SP X pins D) X.xe s
/-- weaken the end -/
theorem thn {α : Type} {t : Sem α} {Q Q' : α → Shared → Prop} {M : Model} {A : Around} {E : Value → Shared → Prop} {s : Shared} (h : wpAny M A t Q E s) (hQ : ∀ a s, Q a s → Q' a s) : wpAny M A t Q' E s := wpAny_mono h hQ fun _ _ x => x
end L2

namespace L2
open PySem PySem.Spec PyProof.Rows
section
variable {X : Cx}

/-- two expressions in a row -/
theorem bin {a b : Expr} {ta tb : TE} (ha : PE X a ta) (hb : PE X b tb) {pins : List (Addr × Obj)} {s : Shared} {σ : St} {H : Hp} {R : V → V → Hp → Prop} (I : Inv X pins σ H s) (h : ta σ H fun x H1 => tb σ H1 fun y H2 => R x y H2)
    {α : Type} {Q : α → Shared → Prop} {f : Value → Value → Sem α}
    (hf : ∀ v u s2 x y H2, Inv X pins σ H2 s2 → RelV x v → RelV y u → R x y H2 → wpAny (model X.prog X.w) X.A (f v u) Q X.xe s2) :
    wpAny (model X.prog X.w) X.A (eval a X.env) (fun v s₁ => wpAny (model X.prog X.w) X.A (eval b X.env) (fun u s₂ => wpAny (model X.prog X.w) X.A (f v u) Q X.xe s₂) X.xe s₁) X.xe s := by
  refine thn (ha pins s σ H _ I h) fun v s1 ⟨x, H1, I1, r1, q1⟩ => ?_
  refine thn (hb pins s1 σ H1 _ I1 q1) fun u s2 ⟨y, H2, I2, r2, q2⟩ => ?_
  exact hf v u s2 x y H2 I2 r1 r2 q2

/-! ### names and constants -/
def tVar (i : Nat) : TE := fun σ H Q => ∃ v, σ[i]? = some (some v) ∧ Q v H
def tC (v : V) : TE := fun _ H Q => Q v H
theorem pe_var {i : Nat} {x : Str} {pos : Pos} (hN : X.N[i]? = some x) (hv : Vis X.env.scope x) (hd : (x == ("__debug__" : Str)) = false := by decide) (hcd : (x == ("__classdict__" : Str)) = false := by decide) : PE X (.Name x pos) (tVar i) := by
  intro pins s σ H Q I h
  obtain ⟨v, e, h⟩ := h
  obtain ⟨m, hn, hl⟩ := I.loc
  obtain ⟨u, r, l⟩ := hl i x v hN e hv
  have fin : EP X pins σ Q u s := ⟨v, H, I, r, h⟩
  rcases l with ⟨hk, hm⟩ | ⟨hk, c, hc, hcell⟩
  · exact wpAny_Name (wpAny_loadName_local I.ok.kind hk hn hm fin) hd
  · rcases hk with hk | hk
    · exact wpAny_Name (wpAny_loadName_cell I.ok.kind hk hc hcell fin) hd
    · exact wpAny_Name (wpAny_loadName_free I.ok.kind hk hc hcell fin hcd) hd
theorem pe_int {i j pos} : PE X (.Constant (.int i) j pos) (tC (.int i)) := fun _ _ _ H _ I h => wpAny_Constant_int ⟨.int i, H, I.tok _, ⟨_, rfl⟩, h⟩
theorem pe_bl {b j pos} : PE X (.Constant (.bool b) j pos) (tC (.bl b)) := fun _ _ _ H _ I h => Constant_bool ⟨.bl b, H, I, rfl, h⟩
theorem pe_non {j pos} : PE X (.Constant .none j pos) (tC .non) := fun _ _ _ H _ I h => Constant_none ⟨.non, H, I, rfl, h⟩

/-- a global name of the def -/
def Gl (X : Cx) (x : Str) : Prop := X.env.kindOf x = some .globalImplicit
theorem ld_glob {E : Value → Shared → Prop} {pins : List (Addr × Obj)} {s : Shared} {σ : St} {H : Hp} {x : Str} {u : Value} {pos : Pos} {Q : Value → Shared → Prop} (I : Inv X pins σ H s) (hg : Gl X x) (hm : X.mg x = some u) (h : Q u s)
    (hd : (x == ("__debug__" : Str)) = false := by decide) : wpAny (model X.prog X.w) X.A (eval (.Name x pos) X.env) Q E s :=
  Calls.Name_function_global I.ok.kind hg (Calls.loadGlobal_global (by rw [I.ok.glob]; exact I.mod.glob.keeps I.bk) hm h) hd
theorem ld_blt {E : Value → Shared → Prop} {pins : List (Addr × Obj)} {s : Shared} {σ : St} {H : Hp} {x : Str} {u : Value} {pos : Pos} {Q : Value → Shared → Prop} (I : Inv X pins σ H s) (hg : Gl X x) (hm : X.mg x = none) (hv : bootBuiltins x = some u) (h : Q u s)
    (hn : x ≠ "__name__" := by decide) (hd : (x == ("__debug__" : Str)) = false := by decide) : wpAny (model X.prog X.w) X.A (eval (.Name x pos) X.env) Q E s := by
  obtain ⟨mb, h1, h2⟩ := I.mod.blt
  exact Calls.Name_function_global I.ok.kind hg (Calls.loadGlobal_builtin (by rw [I.ok.glob]; exact I.mod.glob.keeps I.bk) hm (by rw [I.ok.blt]; exact h1.keeps I.bk) ((h2 x hn).trans hv) h) hd
/-- a module's constant, a class, a function, as a value -/
theorem pe_glob {x : Str} {v : V} {u : Value} {pos : Pos} (hg : Gl X x) (hm : X.mg x = some u) (r : RelV v u) (hd : (x == ("__debug__" : Str)) = false := by decide) : PE X (.Name x pos) (tC v) :=
  fun _ _ _ H _ I h => ld_glob I hg hm ⟨v, H, I, r, h⟩ hd

/-! ### arithmetic -/
variable {a b : Expr} {ta tb : TE} {pos : Pos}

/-! ### comparisons -/
def PC (X : Cx) (op : CmpOp) (a b : Expr) (t : TE) : Prop :=
  ∀ (pins : List (Addr × Obj)) (s : Shared) (σ : St) (H : Hp) (Q : VK), Inv X pins σ H s → t σ H Q →
    wpAny (model X.prog X.w) X.A (eval a X.env) (fun v s₁ => wpAny (model X.prog X.w) X.A (eval b X.env) (fun u s₂ => wpAny (model X.prog X.w) X.A (compareOp op v u) (EP X pins σ Q) X.xe s₂) X.xe s₁) X.xe s
theorem nobehind (b : Expr) {op : CmpOp} (h : op ≠ .In) (h2 : op ≠ .NotIn) : behindInMarks op b = false := by
  have e1 : (op == CmpOp.In) = false := by cases op <;> first | rfl | exact absurd rfl h
  have e2 : (op == CmpOp.NotIn) = false := by cases op <;> first | rfl | exact absurd rfl h2
  cases b <;> simp [behindInMarks, e1, e2]
/-- is None -/
def tIsN (ta : TE) : TE := fun σ H Q => ta σ H fun x H1 => Q (.bl (decide (x = .non))) H1
theorem RelV.none_iff {x : V} {v : Value} (r : RelV x v) : (v == Value.none) = decide (x = .non) := by
  cases x with
  | non => cases r; rfl
  | bl _ => cases r; rfl
  | int _ => obtain ⟨t, rfl⟩ := r; rfl
  | str _ => obtain ⟨t, rfl⟩ := r; rfl
  | byt _ => obtain ⟨t, rfl⟩ := r; rfl
  | flt _ => obtain ⟨t, rfl⟩ := r; rfl
  | ref _ => cases r; rfl
  | ty _ => cases r; rfl
theorem pc_isN {j pos'} (ha : PE X a ta) : PC X .Is a (.Constant .none j pos') (tIsN ta) := by
  intro pins s σ H Q I h
  refine thn (ha pins s σ H _ I h) fun v s1 ⟨x, H1, I1, r1, q1⟩ => ?_
  exact Constant_none (is_none_gen ⟨.bl _, H1, I1, by rw [r1.none_iff]; rfl, q1⟩)
/-- a comparison as a value, as a test -/
def tB (t : TE) : TT := fun σ H Q => t σ H fun x H1 => ∃ c, x = .bl c ∧ Q c H1
theorem pt_cmp {op : CmpOp} {t : TE} (h : PC X op a b t) (h1 : behindInMarks op b = false := by first | exact nobehind _ (by decide) (by decide) | rfl) : PT X (.Compare a [op] [b] pos) (tB t) := by
  intro pins s σ H Q I hw
  refine wpAny_isTrue_Compare1 (thn (h pins s σ H _ I hw) fun v s1 h1 => thn h1 fun u s2 h2 => thn h2 fun c s3 ⟨x, H1, I1, r1, q1⟩ => ?_) h1
  obtain ⟨d, rfl, q⟩ := q1
  cases r1
  exact wpAny_truthy_bool ⟨H1, I1, q⟩
/-- an expression whose value is a bool, as a test -/
theorem pt_val {e : Expr} {t : TE} (h : PE X e t) (he : ∀ whole, isTrue e X.env whole = (do let v ← whole; standAt e.pos; holding [v] (truthy v)) := by intro _; rfl) : PT X e (tB t) := by
  intro pins s σ H Q I hw
  refine isTrue_plain (thn (h pins s σ H _ I hw) fun v s1 ⟨x, H1, I1, r1, q1⟩ => ?_) (he _)
  obtain ⟨d, rfl, q⟩ := q1
  cases r1
  exact wpAny_truthy_bool ⟨H1, I1, q⟩

/-! ### and, or, not -/
variable {tA tB' : TT} {rest : List Expr}
def tAnd (t u : TT) : TT := fun σ H Q => t σ H fun c H1 => if c = true then u σ H1 Q else Q false H1
def tOr (t u : TT) : TT := fun σ H Q => t σ H fun c H1 => if c = true then Q true H1 else u σ H1 Q
def tNot (t : TT) : TT := fun σ H Q => t σ H fun c H1 => Q (!c) H1
theorem pw_and1 (ha : PT X a tA) : PW X (.BoolOp .And [a] pos) tA := by
  intro wh pins s σ H Q I h
  refine isTrue_and (thn (ha pins s σ H Q I h) fun c s1 e => ?_)
  cases c with
  | true => exact isTrue_and_nil e
  | false => exact e
theorem pw_or1 (ha : PT X a tA) : PW X (.BoolOp .Or [a] pos) tA := by
  intro wh pins s σ H Q I h
  refine isTrue_or (thn (ha pins s σ H Q I h) fun c s1 e => ?_)
  cases c with
  | false => exact isTrue_or_nil e
  | true => exact e
theorem pw_and (ha : PT X a tA) (hb : PW X (.BoolOp .And (b :: rest) pos) tB') : PW X (.BoolOp .And (a :: b :: rest) pos) (tAnd tA tB') := by
  intro wh pins s σ H Q I h
  refine isTrue_and (thn (ha pins s σ H _ I h) fun c s1 ⟨H1, I1, q1⟩ => ?_)
  cases c with
  | true => exact hb wh pins s1 σ H1 Q I1 q1
  | false => exact ⟨H1, I1, q1⟩
theorem pw_or (ha : PT X a tA) (hb : PW X (.BoolOp .Or (b :: rest) pos) tB') : PW X (.BoolOp .Or (a :: b :: rest) pos) (tOr tA tB') := by
  intro wh pins s σ H Q I h
  refine isTrue_or (thn (ha pins s σ H _ I h) fun c s1 ⟨H1, I1, q1⟩ => ?_)
  cases c with
  | true => exact ⟨H1, I1, q1⟩
  | false => exact hb wh pins s1 σ H1 Q I1 q1
theorem pt_not (ha : PT X a tA) : PT X (.UnaryOp .Not a pos) (tNot tA) := by
  intro pins s σ H Q I h
  exact isTrue_not (ha pins s σ H (fun c H1 => Q (!c) H1) I h)
/-- .. as values (bools) -/
def tAndV (ta tb : TE) : TE := fun σ H Q => ta σ H fun x H1 => ∃ c, x = .bl c ∧ if c = true then tb σ H1 Q else Q (.bl false) H1
theorem pe_one {op} {t : TE} (h : PE X a t) : PE X (.BoolOp op [a] pos) t := fun pins s σ H Q I hw => BoolOp_one (h pins s σ H Q I hw)
theorem pe_and (ha : PE X a ta) (hb : PE X (.BoolOp .And (b :: rest) pos) tb) : PE X (.BoolOp .And (a :: b :: rest) pos) (tAndV ta tb) := by
  intro pins s σ H Q I h
  refine BoolOp_and (thn (ha pins s σ H _ I h) fun v s1 ⟨x, H1, I1, r1, q1⟩ => ?_)
  obtain ⟨c, rfl, q1⟩ := q1
  cases r1
  refine wpAny_truthy_bool ?_
  cases c with
  | true => exact hb pins s1 σ H1 Q I1 q1
  | false => exact ⟨.bl false, H1, I1, rfl, q1⟩
/-- a if t else b -/
def tIf (t : TT) (ta tb : TE) : TE := fun σ H Q => t σ H fun c H1 => if c = true then ta σ H1 Q else tb σ H1 Q
theorem pe_ifExp {c : Expr} (hc : PT X c tA) (ha : PE X a ta) (hb : PE X b tb) : PE X (.IfExp c a b pos) (tIf tA ta tb) := by
  intro pins s σ H Q I h
  refine wpAny_IfExp (thn (hc pins s σ H _ I h) fun d s1 ⟨H1, I1, q1⟩ => ?_)
  cases d with
  | true => exact ha pins s1 σ H1 Q I1 q1
  | false => exact hb pins s1 σ H1 Q I1 q1
end
end L2

namespace L2
open PySem PySem.Spec PyProof.Rows

/-! ### a list, a tuple that is read: tracked, frozen, or an object of the module -/
def SqL (K : PySem.W.Frag) (H : Hp) (a : Addr) (xs : List V) : Prop :=
  Rd H a (.lst xs) ∨
    ∃ (o : Obj) (its : Array Value) (n : Nat), K.lookup a = some o ∧ o.cls = .type "list" ∧ o.dict = none ∧ o.data = .seq its n ∧ its.size ≤ sizeLine ∧ Vals xs its.toList
def SqT (K : PySem.W.Frag) (H : Hp) (a : Addr) (xs : List V) : Prop :=
  Rd H a (.tup xs) ∨
    ∃ (o : Obj) (its : Array Value) (n : Nat), K.lookup a = some o ∧ o.cls = .type "tuple" ∧ o.data = .seq its n ∧ its.size ≤ sizeLine ∧ Vals xs its.toList
def absV : Value → Option V
  | .none => some .non
  | .bool b => some (.bl b)
  | .int i _ => some (.int i)
  | .str x _ => some (.str x)
  | .bytes b _ => some (.byt b)
  | .float b _ => some (.flt b)
  | .ref a => some (.ref a)
  | .type n => some (.ty n)
  | _ => none
theorem RelV.abs {x : V} {u : Value} (r : RelV x u) : absV u = some x := by
  cases x with
  | non => cases r; rfl
  | bl _ => cases r; rfl
  | int _ => obtain ⟨t, rfl⟩ := r; rfl
  | str _ => obtain ⟨t, rfl⟩ := r; rfl
  | byt _ => obtain ⟨t, rfl⟩ := r; rfl
  | flt _ => obtain ⟨t, rfl⟩ := r; rfl
  | ref _ => cases r; rfl
  | ty _ => cases r; rfl
theorem RelV.inj {x y : V} {u : Value} (r : RelV x u) (q : RelV y u) : x = y := Option.some.inj (r.abs.symm.trans q.abs)
theorem Vals.inj : ∀ {xs ys : List V} {us : List Value}, Vals xs us → Vals ys us → xs = ys
  | _, _, _, .nil, .nil => rfl
  | _, _, _, .cons r t, .cons r' t' => by rw [r.inj r', Vals.inj t t']
section
variable {X : Cx} {pins : List (Addr × Obj)} {σ : St} {H : Hp} {s : Shared} {a : Addr} {xs ys : List V}
theorem SqL.of {K : PySem.W.Frag} (h : H a = some (.lst xs)) : SqL K H a xs := .inl (.inl h)
theorem SqT.of {K : PySem.W.Frag} (h : H a = some (.tup xs)) : SqT K H a xs := .inl (.inl h)
theorem Inv.list (I : Inv X pins σ H s) (h : SqL X.K H a xs) : ∃ its : List Value, Vals xs its ∧ PlainL s.heap a its.toArray ∧ xs.length ≤ sizeLine := by
  rcases h with h | ⟨o, its, n, hk, hc, hd, hs, hz, r⟩
  · obtain ⟨z, its, n, r, e⟩ := h.ok I.hok
    exact ⟨its, r, ⟨_, n, e, rfl, rfl, rfl⟩, z⟩
  · refine ⟨its.toList, r, ⟨o, n, I.kIn a o hk, hc, hd, by simpa using hs⟩, ?_⟩
    have e := r.length
    simp only [Array.length_toList] at e
    omega
theorem Inv.tuple (I : Inv X pins σ H s) (h : SqT X.K H a xs) : ∃ its : List Value, Vals xs its ∧ IsTup s.heap a its.toArray ∧ xs.length ≤ sizeLine := by
  rcases h with h | ⟨o, its, n, hk, hc, hs, hz, r⟩
  · obtain ⟨z, its, r, p⟩ := h.ok I.hok
    exact ⟨its, r, p, z⟩
  · refine ⟨its.toList, r, ⟨o, I.kIn a o hk, hc, n, by simpa using hs⟩, ?_⟩
    have e := r.length
    simp only [Array.length_toList] at e
    omega
theorem Inv.list_inj (I : Inv X pins σ H s) (h : SqL X.K H a xs) (h' : SqL X.K H a ys) : xs = ys := by
  obtain ⟨its, r, ⟨o, n, e, _, _, d⟩, _⟩ := I.list h
  obtain ⟨its', r', ⟨o', n', e', _, _, d'⟩, _⟩ := I.list h'
  rw [e] at e'; cases e'
  rw [d] at d'
  injection d' with d1 _
  have : its = its' := by simpa using congrArg Array.toList d1
  subst this
  exact r.inj r'
end

/-! ### another wish about exceptions -/
abbrev Cx.wish (X : Cx) (E : Value → Shared → Prop) : Cx := { X with xe := E }
/-- no exception leaves -/
abbrev Cx.nox (X : Cx) : Cx := X.wish fun _ _ => False
theorem Cx.Ok.wish {X : Cx} (ok : X.Ok) (E : Value → Shared → Prop) : (X.wish E).Ok :=
  ⟨ok.mod, ok.kind, ok.glob, ok.blt, ok.above, ok.inj, ok.has, ok.cab, ok.hd, ok.frames, ok.stk, ok.exf, ok.bs, ok.bsz, ok.noex, ok.exfs, ok.funs, ok.frf⟩
theorem Cx.Ok.unwish {X : Cx} {E : Value → Shared → Prop} (ok : (X.wish E).Ok) : X.Ok :=
  ⟨ok.mod, ok.kind, ok.glob, ok.blt, ok.above, ok.inj, ok.has, ok.cab, ok.hd, ok.frames, ok.stk, ok.exf, ok.bs, ok.bsz, ok.noex, ok.exfs, ok.funs, ok.frf⟩
section
variable {X : Cx} {pins : List (Addr × Obj)} {σ : St} {H : Hp} {s : Shared} {E : Value → Shared → Prop}
theorem Inv.wish (I : Inv X pins σ H s) (E : Value → Shared → Prop) : Inv (X.wish E) pins σ H s := ⟨I.ok.wish E, I.os, I.bare, I.base, I.loc, I.cell, I.free, I.freeC, I.pin, I.hok, I.len⟩
theorem Inv.unwish (I : Inv (X.wish E) pins σ H s) : Inv X pins σ H s := ⟨I.ok.unwish, I.os, I.bare, I.base, I.loc, I.cell, I.free, I.freeC, I.pin, I.hok, I.len⟩
theorem SP.unwish {D : Ends} {f : Flow} {s' : Shared} (h : SP (X.wish E) pins D f s') : SP X pins D f s' := by
  cases f with
  | next => obtain ⟨σ', H', I, q⟩ := h; exact ⟨σ', H', I.unwish, q⟩
  | brk => obtain ⟨σ', H', I, q⟩ := h; exact ⟨σ', H', I.unwish, q⟩
  | cont => obtain ⟨σ', H', I, q⟩ := h; exact ⟨σ', H', I.unwish, q⟩
  | ret u => obtain ⟨v, σ', H', I, r, q⟩ := h; exact ⟨v, σ', H', I.unwish, r, q⟩
theorem PSs.nox {st : List Stmt} {t : TS} (h : PSs X.nox st t) : PSs X st t := fun pins s σ H D I hw =>
  wpAny_mono (h pins s σ H D (I.wish _) hw) (fun _ _ q => q.unwish) fun _ _ z => False.elim z
end

/-! ### blocks and small statements -/
section
variable {X : Cx} {st : Stmt} {rest : List Stmt} {t u : TS} {e : Expr} {te : TE} {pos : Pos}
def tNext : TS := fun D σ H => D.nx σ H
def tSeq (t u : TS) : TS := fun D σ H => t { D with nx := u D } σ H
theorem pss_nil : PSs X [] tNext := fun _ _ σ H _ I h => wpAny_execs_nil ⟨σ, H, I, h⟩
theorem pss_cons (h1 : PS X st t) (h2 : PSs X rest u) : PSs X (st :: rest) (tSeq t u) := by
  intro pins s σ H D I h
  refine wpAny_execs_cons (thn (h1 pins s σ H { D with nx := u D } I h) fun f s1 q => ?_)
  cases f with
  | next =>
    obtain ⟨σ', H', I', q⟩ := q
    exact h2 pins s1 σ' H' D I' q
  | ret v => exact q
  | brk => exact q
  | cont => exact q
theorem pss_one (h1 : PS X st t) : PSs X [st] t := by
  intro pins s σ H D I h
  refine wpAny_execs_cons (thn (h1 pins s σ H D I h) fun f s1 q => ?_)
  cases f with
  | next => exact wpAny_execs_nil q
  | ret v => exact q
  | brk => exact q
  | cont => exact q
/-- in a def's body nothing is shown -/
theorem Inv.quiet {pins : List (Addr × Obj)} {σ : St} {H : Hp} {s : Shared} (I : Inv X pins σ H s) : interactive X.env = false := by simp [interactive, I.ok.kind]
/-- an expression whose value is dropped -/
def tDrop (te : TE) : TS := fun D σ H => te σ H fun _ H1 => D.nx σ H1
theorem ps_expr (he : PE X e te) (hs : swapsWith e none pos.line X.env = pure false := by rfl) : PS X (.Expr e pos) (tDrop te) := by
  intro pins s σ H D I h
  exact wpAny_Expr_any (thn (he pins s σ H _ I h) fun v s1 ⟨x, H1, I1, r1, q1⟩ => ⟨σ, H1, I1, q1⟩) I.quiet hs
def tRet (te : TE) : TS := fun D σ H => te σ H D.rt
theorem ps_ret (he : PE X e te) : PS X (.Return (some e) pos) (tRet te) := by
  intro pins s σ H D I h
  exact wpAny_Return_some (thn (he pins s σ H _ I h) fun v s1 ⟨x, H1, I1, r1, q1⟩ => ⟨x, σ, H1, I1, r1, q1⟩)
def tRetN : TS := fun D _ H => D.rt .non H
theorem ps_retN : PS X (.Return none pos) tRetN := fun _ _ σ H _ I h => wpAny_Return_none ⟨.non, σ, H, I, rfl, h⟩
def tIfS (c : TT) (t u : TS) : TS := fun D σ H => c σ H fun b H1 => if b = true then t D σ H1 else u D σ H1
theorem ps_if {c : Expr} {a b : List Stmt} {tc : TT} (hc : PT X c tc) (ha : PSs X a t) (hb : PSs X b u) : PS X (.If c a b pos) (tIfS tc t u) := by
  intro pins s σ H D I h
  refine wpAny_If (thn (hc pins s σ H _ I h) fun d s1 ⟨H1, I1, q1⟩ => ?_)
  cases d with
  | true => exact ha pins s1 σ H1 D I1 q1
  | false => exact hb pins s1 σ H1 D I1 q1
end

/-! ### targets -/
abbrev TG := V → St → Hp → (St → Hp → Prop) → Prop
abbrev TGs := List V → St → Hp → (St → Hp → Prop) → Prop
def PG (X : Cx) (target : Expr) (t : TG) : Prop :=
  ∀ (pins : List (Addr × Obj)) (s : Shared) (σ : St) (H : Hp) (v : V) (u : Value) (Q : St → Hp → Prop), Inv X pins σ H s → RelV v u → t v σ H Q →
    wpAny (model X.prog X.w) X.A (assign target X.env u) (fun _ s' => ∃ σ' H', Inv X pins σ' H' s' ∧ Q σ' H') X.xe s
/-- several targets, one after another -/
def PGs (X : Cx) (ts : List Expr) (t : TGs) : Prop :=
  ∀ (pins : List (Addr × Obj)) (s : Shared) (σ : St) (H : Hp) (vs : List V) (us : List Value) (Q : St → Hp → Prop), Inv X pins σ H s → Vals vs us → t vs σ H Q →
    wpAny (model X.prog X.w) X.A (assignInOrder ((assignEach ts X.env).map (·.2)) us) (fun _ s' => ∃ σ' H', Inv X pins σ' H' s' ∧ Q σ' H') X.xe s
/-- a op= b, by values -/
abbrev TIp := V → V → Hp → VK → Prop
def PIp (X : Cx) (op : Operator) (t : TIp) : Prop :=
  ∀ (pins : List (Addr × Obj)) (s : Shared) (σ : St) (H : Hp) (x y : V) (v u : Value) (Q : VK), Inv X pins σ H s → RelV x v → RelV y u → t x y H Q →
    wpAny (model X.prog X.w) X.A (inplaceOp op v u) (EP X pins σ Q) X.xe s
section
variable {X : Cx} {pos : Pos}
def gName (i : Nat) : TG := fun v σ H Q => Q (σ.set i (some v)) H
theorem pg_name {i : Nat} {x : Str} (hN : X.N.Nodup) (hi : X.N[i]? = some x) (hx : Loc X.env.scope x) (hf : X.fn x = true ∨ X.env.scope.names.lookup x = some .local := by first | exact .inl rfl | exact .inr rfl | assumption) : PG X (.Name x pos) (gName i) := by
  intro pins s σ H v u Q I r h
  exact wpAny_assign_Name (store_ok I hN hi hx r (fun s' I' => ⟨_, H, I', h⟩) hf)
def gNil : TGs := fun vs σ H Q => vs = [] ∧ Q σ H
def gCons (t : TG) (u : TGs) : TGs := fun vs σ H Q => ∃ v r, vs = v :: r ∧ t v σ H fun σ' H' => u r σ' H' Q
theorem pgs_nil : PGs X [] gNil := by
  intro pins s σ H vs us Q I r h
  obtain ⟨e, h⟩ := h
  subst e
  cases r
  exact assignInOrder_nil ⟨σ, H, I, h⟩
theorem pgs_cons {e : Expr} {es : List Expr} {t : TG} {u : TGs} (h1 : PG X e t) (h2 : PGs X es u)
    (hs : (assignEach (e :: es) X.env).map (·.2) = assign e X.env :: (assignEach es X.env).map (·.2) := by rfl) : PGs X (e :: es) (gCons t u) := by
  intro pins s σ H vs us Q I r h
  obtain ⟨v, vr, e1, h⟩ := h
  subst e1
  cases r with
  | cons r rr =>
    rw [hs]
    refine assignInOrder_cons (thn (h1 pins s σ H _ _ _ I r h) fun _ s1 ⟨σ1, H1, I1, q1⟩ => ?_)
    exact h2 pins s1 σ1 H1 _ _ Q I1 rr q1
/-- (a, b, ..) = a tuple of that length -/
def gTup (K : PySem.W.Frag) (n : Nat) (t : TGs) : TG := fun v σ H Q => ∃ a xs, v = .ref a ∧ SqT K H a xs ∧ xs.length = n ∧ t xs σ H Q
theorem pg_tup {es : List Expr} {k : Nat} {t : TGs} {n : Nat} (hc : X.calm = true) (h : PGs X es t)
    (hn : (assignEach es X.env).length = n := by rfl) (hst : (assignEach es X.env).findIdx? (·.1) = none := by rfl) : PG X (.Tuple es k pos) (gTup X.K n t) := by
  intro pins s σ H v u Q I r hw
  obtain ⟨a, xs, e1, hq, hl, hw⟩ := hw
  subst e1
  cases r
  obtain ⟨its, rv, ht, hz⟩ := I.tuple hq
  refine assign_Tuple_tuple (I.ok.hd hc) ht (by simp [hn, ← hl, rv.length]) hst fun h' hx => ?_
  have I1 : Inv X pins σ H { s with heap := h' } := I.kept (t' := s.toks) fun b o e => hx b o (Nat.ne_of_lt (Heap.lt_size e)) e
  exact h pins _ σ H xs _ Q I1 (by simpa using rv) hw
/-- target = value -/
def tAsg (te : TE) (g : TG) : TS := fun D σ H => te σ H fun x H1 => g x σ H1 D.nx
/-- name = value -/
theorem ps_set {i : Nat} {x : Str} {e : Expr} {te : TE} {pos' : Pos} (hN : X.N.Nodup) (hi : X.N[i]? = some x) (hx : Loc X.env.scope x) (he : PE X e te) (hs : swapsWith e (some (.Name x pos')) pos.line X.env = pure false := by rfl) (hf : X.fn x = true ∨ X.env.scope.names.lookup x = some .local := by first | exact .inl rfl | exact .inr rfl | assumption) :
    PS X (.Assign [.Name x pos'] e pos) (tAsg te (gName i)) := by
  intro pins s σ H D I h
  refine wpAny_Assign_Name (thn (he pins s σ H _ I h) fun v s1 ⟨y, H1, I1, r1, q1⟩ => ?_) hs
  exact store_ok I1 hN hi hx r1 (fun s2 I2 => ⟨_, H1, I2, q1⟩) hf
/-- name op= e -/
def tAug (i : Nat) (te : TE) (ti : TIp) : TS := fun D σ H => ∃ x, σ[i]? = some (some x) ∧ te σ H fun y H1 => ti x y H1 fun z H2 => D.nx (σ.set i (some z)) H2
theorem ps_aug {i : Nat} {x : Str} {e : Expr} {te : TE} {op : Operator} {ti : TIp} {pos' : Pos} (hN : X.N.Nodup) (hi : X.N[i]? = some x) (hx : Loc X.env.scope x) (he : PE X e te) (ho : PIp X op ti) (hf : X.fn x = true ∨ X.env.scope.names.lookup x = some .local := by first | exact .inl rfl | exact .inr rfl | assumption) :
    PS X (.AugAssign (.Name x pos') op e pos) (tAug i te ti) := by
  intro pins s σ H D I h
  obtain ⟨v, e1, h⟩ := h
  obtain ⟨m, hn, hl⟩ := I.loc
  have vis : Vis X.env.scope x := by rcases hx with k | k; exact .inl k; exact .inr (.inl k)
  obtain ⟨u, r, l⟩ := hl i x v hi e1 vis
  refine wpAny_AugAssign_Name ?_
  have go : wpAny (model X.prog X.w) X.A (eval e X.env) (fun w s₂ => wpAny (model X.prog X.w) X.A (inplaceOp op u w) (fun r s₃ => wpAny (model X.prog X.w) X.A (storeName X.env x r) (fun _ => SP X pins D .next) X.xe s₃) X.xe s₂) X.xe s := by
    refine thn (he pins s σ H _ I h) fun w s1 ⟨y, H1, I1, r1, q1⟩ => ?_
    refine thn (ho pins s1 σ H1 v y u w _ I1 r r1 q1) fun z s2 ⟨zv, H2, I2, r2, q2⟩ => ?_
    exact store_ok I2 hN hi hx r2 (fun s3 I3 => ⟨_, H2, I3, q2⟩) hf
  rcases l with ⟨hk, hm⟩ | ⟨hk, c, hc, hcell⟩
  · exact wpAny_loadName_local I.ok.kind hk hn hm go
  · rcases hk with hk | hk
    · exact wpAny_loadName_cell I.ok.kind hk hc hcell go
    · rcases hx with k | k
      · have : X.env.scope.names.lookup x = some .free := hk
        rw [k] at this; cases this
      · have : X.env.scope.names.lookup x = some .free := hk
        rw [k] at this; cases this
/-- ints -/
def ipI (f : Int → Int → Int) : TIp := fun x y H Q => ∃ i j, x = .int i ∧ y = .int j ∧ Q (.int (f i j)) H
theorem ip_add : PIp X .Add (ipI fun i j => i + j) := by
  intro pins s σ H x y v u Q I r1 r2 h
  obtain ⟨i, j, e1, e2, q⟩ := h
  subst e1; subst e2
  obtain ⟨t, rfl⟩ := r1
  obtain ⟨t', rfl⟩ := r2
  exact iadd_int ⟨.int _, H, I.tok _, ⟨_, rfl⟩, q⟩
end

/-! ### while -/
section
variable {X : Cx} {pos : Pos}
/-- the invariant W with its measure -/
def tWhile (c : TT) (tb : TS) : TS := fun D σ H => ∃ W : Nat → St → Hp → Prop, (∃ m, W m σ H) ∧ ∀ m σ H, W m σ H →
  c σ H fun b H1 => if b = true then ∃ N : St → Hp → Prop, (∀ σ' H', N σ' H' → ∃ m', m' < m ∧ W m' σ' H') ∧ tb { D with nx := N, ct := N, bk := D.nx } σ H1 else D.nx σ H1
theorem ps_while {c : Expr} {body : List Stmt} {tc : TT} {tb : TS} (hp : PassesOwn (model X.prog X.w) X.A X.env X.xe) (hc : PT X c tc) (hb : PSs X body tb) : PS X (.While c body [] pos) (tWhile tc tb) := by
  intro pins s σ H D I h
  obtain ⟨W, ⟨m0, w0⟩, turn⟩ := h
  refine wpAny_While (codeAny_whileLoop (fun n s' => ∃ σ' H', Inv X pins σ' H' s' ∧ W n σ' H') ?_ m0 ⟨σ, H, I, w0⟩)
  rintro n s1 ⟨σ1, H1, I1, w1⟩
  refine wpAny_passesOwn hp (thn (hc pins s1 σ1 H1 _ I1 (turn n σ1 H1 w1)) fun b s2 ⟨H2, I2, q2⟩ => ?_)
  cases b with
  | true =>
    obtain ⟨N, hN, q2⟩ := q2
    rw [if_pos rfl]
    refine wpAny_passesOwn hp (thn (hb pins s2 σ1 H2 _ I2 q2) fun f s3 q3 => ?_)
    cases f with
    | next =>
      obtain ⟨σ3, H3, I3, n3⟩ := q3
      obtain ⟨m', hm, w3⟩ := hN σ3 H3 n3
      exact ⟨m', hm, σ3, H3, I3, w3⟩
    | cont =>
      obtain ⟨σ3, H3, I3, n3⟩ := q3
      obtain ⟨m', hm, w3⟩ := hN σ3 H3 n3
      exact ⟨m', hm, σ3, H3, I3, w3⟩
    | brk => exact q3
    | ret v => exact q3
  | false =>
    rw [if_neg Bool.false_ne_true]
    exact wpAny_execs_nil ⟨σ1, H2, I2, q2⟩
end

/-! ### what a loop or a comprehension walks -/
/-- at turn i: it yields x (the heap may grow), or it stops -/
structure It where
  go : Nat → Hp → Prop
  yld : Nat → Hp → V → Hp → Prop
  stop : Nat → Hp → Prop
/-- the iterator's own objects may turn: they are not the frame's, not pinned, younger than the entry (or a comprehension's own) -/
def FpOk (X : Cx) (pins : List (Addr × Obj)) (H : Hp) (b : Addr) : Prop :=
  H b = none ∧ b ≠ X.env.locals ∧ b ∉ X.fs ∧ (b ∈ X.ex ∨ X.s_0.heap.objs.size ≤ b) ∧ (∀ x c, X.env.cells.lookup x = some c → c ≠ b) ∧ ∀ p ∈ X.pn ++ pins, p.1 ≠ b
theorem Inv.fpOk {X : Cx} {pins : List (Addr × Obj)} {σ : St} {H H' : Hp} {s : Shared} {b : Addr} (I : Inv X pins σ H s) (hb : s.heap.objs.size ≤ b) (hn : H' b = none) : FpOk X pins H' b := by
  refine ⟨hn, Nat.ne_of_gt (Nat.lt_of_lt_of_le I.lt hb), I.nofs hb, .inr (Nat.le_trans I.sz hb), fun x c e z => ?_, fun p hp z => ?_⟩
  · obtain ⟨v, q⟩ := I.cell x c e
    exact absurd (Nat.lt_of_lt_of_le q.lt (by rw [z]; exact hb)) (Nat.lt_irrefl _)
  · exact absurd (Nat.lt_of_lt_of_le (Heap.lt_size (I.pin p hp).1) (by rw [z]; exact hb)) (Nat.lt_irrefl _)
structure Turn (P : Program) (w : World) (K : PySem.W.Frag) (tg : Expr) (J : It) (fp : List Addr) (it : Addr) (tn : Nat → Heap → Prop) : Prop where
  mem : it ∈ fp
  obj : ∀ i h, tn i h → ∀ b ∈ fp, ∃ o, h.get? b = some o ∧ ∀ v, o.data ≠ .cell v
  keep : ∀ i h h', tn i h → (∀ b ∈ fp, ∀ o, h.get? b = some o → h'.get? b = some o) → tn i h'
  item : ∀ (X : Cx), X.prog = P → X.w = w → X.K = K → X.calm = true → ∀ (i : Nat) (pins : List (Addr × Obj)) (s : Shared) (σ : St) (H : Hp) (E : Value → Shared → Prop), Inv X pins σ H s → (∀ b ∈ fp, FpOk X pins H b) → tn i s.heap → J.go i H →
    wpAny (model P w) X.A (pyNext (.ref it)) (fun r s1 => ∃ u, r = some u ∧
      wpAny (model P w) X.A (letOwnedTupleGo tg (.ref it) u) (fun _ s2 => ∃ x H', Inv X pins σ H' s2 ∧ RelV x u ∧ J.yld i H x H' ∧ tn (i + 1) s2.heap ∧ ∀ b ∈ fp, H' b = none) E s1) E s
  done : ∀ (X : Cx), X.prog = P → X.w = w → X.K = K → X.calm = true → ∀ (i : Nat) (pins : List (Addr × Obj)) (s : Shared) (σ : St) (H : Hp) (E : Value → Shared → Prop), Inv X pins σ H s → (∀ b ∈ fp, FpOk X pins H b) → tn i s.heap → J.stop i H →
    wpAny (model P w) X.A (pyNext (.ref it)) (fun r s1 => r = none ∧ Inv X pins σ H s1) E s
  self : ∀ (A : Around) (i : Nat) (s : Shared) (Q : Value → Shared → Prop) (E : Value → Shared → Prop), tn i s.heap → Q (.ref it) s → wpAny (model P w) A (pyIter (.ref it)) Q E s
abbrev TI := St → Hp → (It → Hp → Prop) → Prop
/-- an iterator has come -/
def PIE (X : Cx) (pins : List (Addr × Obj)) (σ : St) (tg : Expr) (R : It → Hp → Prop) (itv : Value) (s2 : Shared) : Prop :=
  ∃ (it : Addr) (fp : List Addr) (tn : Nat → Heap → Prop) (J : It) (H' : Hp), itv = .ref it ∧ Inv X pins σ H' s2 ∧ Turn X.prog X.w X.K tg J fp it tn ∧ tn 0 s2.heap ∧ (∀ b ∈ fp, FpOk X pins H' b) ∧ R J H'
def PI (X : Cx) (tg iter : Expr) (wi : TI) : Prop :=
  ∀ (pins : List (Addr × Obj)) (s : Shared) (σ : St) (H : Hp) (R : It → Hp → Prop), Inv X pins σ H s → wi σ H R →
    wpAny (model X.prog X.w) X.A (eval iter X.env) (fun v s1 => wpAny (model X.prog X.w) X.A (pyIter v) (PIE X pins σ tg R) X.xe s1) X.xe s

/-- the step ahead of the store is nothing for an iterator that keeps no tuple -/
theorem go_of {M : Model} {A : Around} {E : Value → Shared → Prop} {s : Shared} {tg : Expr} {it : Addr} {u : Value} {o : Obj} {n : String} {vs : Array Value} {Q : Unit → Shared → Prop} (ho : s.heap.get? it = some o) (hc : o.cls = .type n) (hd : o.data = .fields vs)
    (hn : ["enumerate", "zip", "dict_itemiterator", "dict_reverseitemiterator", "odict_iterator", "itertools.zip_longest", "itertools.pairwise"].contains n = false) (hQ : Q () s) : wpAny M A (letOwnedTupleGo tg (.ref it) u) Q E s := by
  unfold letOwnedTupleGo
  cases tg <;> first
    | exact wpAny_pure hQ
    | (cases u <;> first
        | exact wpAny_pure hQ
        | (refine wpAny_bind (wpAny_load ho ?_)
           rw [hc, hd]
           show wpAny M A (if (["enumerate", "zip", "dict_itemiterator", "dict_reverseitemiterator", "odict_iterator", "itertools.zip_longest", "itertools.pairwise"].contains n && vs[0]? == some (rawInt _)) = true then _ else _) Q E s
           rw [if_neg (by intro h; rw [hn, Bool.false_and] at h; cases h)]
           exact wpAny_pure hQ))

/-- the list at a, as it stands at each turn (a loop may append to it) -/
def Itl (K : PySem.W.Frag) (a : Addr) : It :=
  ⟨fun i H => ∃ xs x, SqL K H a xs ∧ xs[i]? = some x, fun i H x H' => H' = H ∧ ∀ xs, SqL K H a xs → xs[i]? = some x, fun i H => ∃ xs, SqL K H a xs ∧ xs.length ≤ i⟩
/-- lo, lo + 1, .. (n of them) -/
def Itr (lo : Int) (n : Nat) : It := ⟨fun i _ => i < n, fun i H x H' => H' = H ∧ x = .int (lo + i), fun i _ => n ≤ i⟩
theorem turn_list {P : Program} {w : World} {K : PySem.W.Frag} {tg : Expr} (a it : Addr) : Turn P w K tg (Itl K a) [it] it (fun i h => h.IsListIter it a i) where
  mem := by simp
  obj := fun i h st b hb => by
    have e : b = it := by simpa using hb
    subst e
    obtain ⟨o, e, c, d⟩ := st
    exact ⟨o, e, fun v z => by rw [d] at z; cases z⟩
  keep := fun i h h' st k => st.at fun o e => k it (by simp) o e
  item := by
    intro X hP hw hK hc i pins s σ H E I hf st hg
    subst hP hw hK
    obtain ⟨xs, x, hq, hx⟩ := hg
    obtain ⟨its, rv, p, hz⟩ := I.list hq
    obtain ⟨u, hu, ru⟩ := rv.get hx
    obtain ⟨f0, f1, f2, f3, f4, f5⟩ := hf it (by simp)
    refine wpAny_pyNext_list_item st p.isList (x := u) (by simpa using hu) fun h' st' sb => ?_
    have I1 : Inv X pins σ H { s with heap := h' } := I.turned (t' := s.toks) (fun b o hb e => (sb.2 b hb).trans e) f0 f1 f3 f4 f5
    obtain ⟨o, e, c, d⟩ := id st'
    exact ⟨u, rfl, go_of (s := { s with heap := h' }) e c d (by decide) ⟨x, H, I1, ru, ⟨rfl, fun ys hy => by rw [I.list_inj hy hq]; exact hx⟩, st', fun b hb => (hf b hb).1⟩⟩
  done := by
    intro X hP hw hK hc i pins s σ H E I hf st hg
    subst hP hw hK
    obtain ⟨xs, hq, hx⟩ := hg
    obtain ⟨its, rv, p, hz⟩ := I.list hq
    obtain ⟨f0, f1, f2, f3, f4, f5⟩ := hf it (by simp)
    have hl := rv.length
    exact wpAny_pyNext_list_end (I.ok.hd hc) st p.isList (by simp; omega) fun h' eb => ⟨rfl, I.turned (t' := s.toks) (fun b o hb e => eb b o hb e) f0 f1 f3 f4 f5⟩
  self := fun _ _ _ _ _ st h => wpAny_pyIter_listiter st h
theorem turn_range {P : Program} {w : World} {K : PySem.W.Frag} {tg : Expr} (it : Addr) (lo : Int) (n : Nat) : Turn P w K tg (Itr lo n) [it] it (fun i h => IsRangeIter h it (lo + (i : Nat) * 1) ((n : Int) - (i : Nat)) 1) where
  mem := by simp
  obj := fun i h st b hb => by
    have e : b = it := by simpa using hb
    subst e
    exact ⟨_, st, fun v z => by
      have z' : Data.fields _ = Data.cell v := z
      cases z'⟩
  keep := fun i h h' st k => k it (by simp) _ st
  item := by
    intro X hP hw hK hc i pins s σ H E I hf st hg
    subst hP hw hK
    obtain ⟨f0, f1, f2, f3, f4, f5⟩ := hf it (by simp)
    have W := Walks.range (prog := X.prog) (w := X.w) (I.ok.hd hc) it lo 1 n
    refine W.item i s _ _ hg st fun v h' tk hv st' kk => ?_
    obtain ⟨t, rfl⟩ := hv
    have I1 : Inv X pins σ H { s with heap := h', toks := tk } := I.turned (fun b o hb e => kk b o (by simpa using hb) e) f0 f1 f3 f4 f5
    refine ⟨_, rfl, go_of (s := { s with heap := h', toks := tk }) (n := "range_iterator") st' rfl rfl (by decide) ⟨.int (lo + i), H, I1, ⟨t, ?_⟩, ⟨rfl, rfl⟩, st', fun b hb => (hf b hb).1⟩⟩
    rw [Int.mul_one]
  done := by
    intro X hP hw hK hc i pins s σ H E I hf st hg
    subst hP hw hK
    obtain ⟨f0, f1, f2, f3, f4, f5⟩ := hf it (by simp)
    exact wpAny_pyNext_range_end (I.ok.hd hc) st (by have : n ≤ i := hg; omega) fun h' eb => ⟨rfl, I.turned (t' := s.toks) (fun b o hb e => eb b o hb e) f0 f1 f3 f4 f5⟩
  self := fun _ _ _ _ _ st h => wpAny_pyIter_rangeiter st h
end L2

namespace L2
open PySem PySem.Spec PyProof.Rows
section
variable {X : Cx} {tg : Expr}
def iList (K : PySem.W.Frag) (tl : TE) : TI := fun σ H R => tl σ H fun x H1 => ∃ a, x = .ref a ∧ (∃ xs, SqL K H1 a xs) ∧ R (Itl K a) H1
theorem pi_list {l : Expr} {tl : TE} (hl : PE X l tl) : PI X tg l (iList X.K tl) := by
  intro pins s σ H R I h
  refine thn (hl pins s σ H _ I h) fun v s1 ⟨x, H1, I1, r1, q1⟩ => ?_
  obtain ⟨a, e, ⟨xs, hq⟩, q⟩ := q1
  subst e
  cases r1
  obtain ⟨its, rv, p, hz⟩ := I1.list hq
  refine wpAny_pyIter_list p.isList ?_
  refine ⟨s1.heap.objs.size, [s1.heap.objs.size], _, _, H1, rfl, I1.kept (t' := s1.toks) fun b o e => Heap.get?_push_of_some _ e, turn_list a _, ⟨_, Heap.get?_push_size _ rfl, rfl, rfl⟩, fun b hb => ?_, q⟩
  have e : b = s1.heap.objs.size := by simpa using hb
  subst e
  exact I1.fpOk (Nat.le_refl _) (I1.hok.fresh (Nat.le_refl _))
/-- a range object just made, walked -/
theorem range_it {pins : List (Addr × Obj)} {σ : St} {H : Hp} {s : Shared} {R : It → Hp → Prop} {E : Value → Shared → Prop} {lo hi : Int} {t u v : Tok} {tk : Nat} (I : Inv X pins σ H s) (h1 : -(2 ^ 62) ≤ lo) (h2 : lo < 2 ^ 62) (h3 : -(2 ^ 62) ≤ hi) (h4 : hi < 2 ^ 62)
    (q : R (Itr lo (hi - lo).toNat) H) : wpAny (model X.prog X.w) X.A (pyIter (.ref s.heap.objs.size)) (PIE X pins σ tg R) E { s with heap := s.heap.push { cls := .type "range", data := .fields #[.int lo t, .int hi u, .int 1 v] }, toks := tk } := by
  refine wpAny_pyIter_range (IsRange.new ..) (small_one h1 h2 h3 h4) ?_
  have I1 : Inv X pins σ H { s with heap := s.heap.push { cls := .type "range", data := .fields #[.int lo t, .int hi u, .int 1 v] }, toks := tk } := I.kept fun b o e => Heap.get?_push_of_some _ e
  refine ⟨(s.heap.push { cls := .type "range", data := .fields #[.int lo t, .int hi u, .int 1 v] }).objs.size, [(s.heap.push { cls := .type "range", data := .fields #[.int lo t, .int hi u, .int 1 v] }).objs.size], _, _, H, rfl,
    I1.kept (t' := tk) fun b o e => Heap.get?_push_of_some _ e, turn_range _ lo (hi - lo).toNat, ?_, fun b hb => ?_, q⟩
  · have e1 : lo + ((0 : Nat) : Int) * 1 = lo := by simp
    have e2 : (((hi - lo).toNat : Nat) : Int) - ((0 : Nat) : Int) = Builtin.Range.rangeSize lo hi 1 := by rw [rangeSize_one]; split <;> omega
    show IsRangeIter _ _ (lo + ((0 : Nat) : Int) * 1) ((((hi - lo).toNat : Nat) : Int) - ((0 : Nat) : Int)) 1
    rw [e1, e2]
    exact Heap.get?_push_size _ rfl
  · have e : b = (s.heap.push { cls := .type "range", data := .fields #[.int lo t, .int hi u, .int 1 v] }).objs.size := by simpa using hb
    subst e
    exact I1.fpOk (Nat.le_refl _) (I1.hok.fresh (Nat.le_refl _))
def iRng1 (ta : TA) : TI := fun σ H R => ta σ H fun vs H1 => ∃ j : Int, vs = [.int j] ∧ -(2 ^ 62) ≤ j ∧ j < 2 ^ 62 ∧ R (Itr 0 j.toNat) H1
theorem pi_range1 {a : Expr} {ta : TA} {p pos : Pos} (hg : Gl X "range") (hm : X.mg "range" = none) (ha : PA X [a] ta) (hs : starEach [a] X.env = [(false, eval a X.env)] := by rfl) : PI X tg (.Call (.Name "range" p) [a] [] pos) (iRng1 ta) := by
  intro pins s σ H R I h
  refine Call_ (ld_blt I hg hm boot_range (PyProof.Rows.callWith_type1 (thn (ha pos pins s σ H _ I h) fun us s1 ⟨vs, H1, I1, r1, q1⟩ => ?_) hs rfl))
  obtain ⟨j, e, q1, q2, q⟩ := q1
  subst e
  cases r1 with
  | cons r rr =>
    cases rr
    obtain ⟨t, rfl⟩ := r
    exact call_range_1 (range_it I1 (by omega) (by omega) q1 q2 (by simpa using q))

/-! ### for -/
/-- W: the invariant by the turn and a measure; N: what the body is to reach -/
def tFor (wi : TI) (g : TG) (tb : TS) : TS := fun D σ H => wi σ H fun J H1 => ∃ W : Nat → Nat → St → Hp → Prop, (∃ m, W 0 m σ H1) ∧ ∀ i m σ H, W i m σ H →
  (J.stop i H ∧ D.nx σ H) ∨ (J.go i H ∧ ∃ N : St → Hp → Prop, (∀ σ' H', N σ' H' → ∃ m', m' < m ∧ W (i + 1) m' σ' H') ∧ ∀ x H', J.yld i H x H' → g x σ H' fun σ2 H2 => tb { D with nx := N, ct := N, bk := D.nx } σ2 H2)
/-- the records at fp as they stand -/
def pinsAt (fp : List Addr) (h : Heap) : List (Addr × Obj) := fp.filterMap fun b => (h.get? b).map fun o => (b, o)
theorem mem_pinsAt {fp : List Addr} {h : Heap} {b : Addr} {o : Obj} (hb : b ∈ fp) (e : h.get? b = some o) : (b, o) ∈ pinsAt fp h := List.mem_filterMap.mpr ⟨b, hb, by rw [e]; rfl⟩
theorem of_pinsAt {fp : List Addr} {h : Heap} {p : Addr × Obj} (hp : p ∈ pinsAt fp h) : p.1 ∈ fp ∧ h.get? p.1 = some p.2 := by
  obtain ⟨b, hb, e⟩ := List.mem_filterMap.mp hp
  cases q : h.get? b with
  | none => rw [q] at e; cases e
  | some o =>
    rw [q] at e
    have e' : (b, o) = p := Option.some.inj e
    subst e'
    exact ⟨hb, q⟩
theorem Inv.pinned {pins : List (Addr × Obj)} {σ : St} {H : Hp} {s : Shared} {fp : List Addr} (I : Inv X pins σ H s) (hf : ∀ b ∈ fp, FpOk X pins H b) (ho : ∀ b ∈ fp, ∃ o, s.heap.get? b = some o ∧ ∀ v, o.data ≠ .cell v) : Inv X (pins ++ pinsAt fp s.heap) σ H s :=
  I.pins_of fun p hp => (List.mem_append.mp hp).elim (fun z => I.pin p (List.mem_append_right _ z)) fun z => by
    obtain ⟨hb, e⟩ := of_pinsAt z
    obtain ⟨f0, f1, f2, _⟩ := hf p.1 hb
    obtain ⟨o, e', d⟩ := ho p.1 hb
    rw [e] at e'; cases e'
    exact ⟨e, f0, f1, f2, d⟩
theorem Inv.unpinned {pins pl : List (Addr × Obj)} {σ : St} {H : Hp} {s : Shared} (I : Inv X (pins ++ pl) σ H s) : Inv X pins σ H s := I.pins_of fun p hp => I.pin p (List.mem_append_right _ (List.mem_append_left _ hp))
theorem ps_for {iter : Expr} {body : List Stmt} {wi : TI} {g : TG} {tb : TS} {pos : Pos} (hp : PassesOwn (model X.prog X.w) X.A X.env X.xe) (hc : X.calm = true) (hi : PI X tg iter wi) (hg : PG X tg g) (hb : PSs X body tb)
    (hs : ∀ x, foldedSetIterable iter X.env x = pure x := by intro _; rfl) : PS X (.For tg iter body [] pos) (tFor wi g tb) := by
  intro pins s σ H D I h
  refine wpAny_For (thn (hi pins s σ H _ I h) fun v s1 h1 => thn h1 fun itv s2 h2 => ?_) hs
  obtain ⟨it, fp, tn, J, H2, e, I2, T, st2, f2, W, ⟨m0, w0⟩, turn⟩ := h2
  subst e
  -- what stays true of the iterator's objects through the loop
  have stat : ∀ {H' : Hp}, (∀ b ∈ fp, H' b = none) → ∀ b ∈ fp, FpOk X pins H' b := fun hn b hb => ⟨hn b hb, (f2 b hb).2⟩
  refine codeAny_forLoop_any (fun n s' => ∃ i σ' H', Inv X pins σ' H' s' ∧ tn i s'.heap ∧ (∀ b ∈ fp, H' b = none) ∧ W i n σ' H') ?_ m0 ⟨0, σ, H2, I2, st2, fun b hb => (f2 b hb).1, w0⟩
  rintro n s3 ⟨i, σ3, H3, I3, st3, fr3, w3⟩
  rcases turn i n σ3 H3 w3 with ⟨stop, qn⟩ | ⟨go, N, hN, step⟩
  · refine wpAny_passesOwn hp (thn (T.done X rfl rfl rfl hc i pins s3 σ3 H3 X.xe I3 (stat fr3) st3 stop) fun r s4 ⟨hr, I4⟩ => ?_)
    subst hr
    exact wpAny_execs_nil ⟨σ3, H3, I4, qn⟩
  · refine wpAny_passesOwn hp (thn (T.item X rfl rfl rfl hc i pins s3 σ3 H3 X.xe I3 (stat fr3) st3 go) fun r s4 ⟨u, hr, h4⟩ => ?_)
    subst hr
    refine wpAny_passesOwn hp (thn h4 fun _ s5 ⟨x, H5, I5, r5, y5, st5, fr5⟩ => ?_)
    have I5' := I5.pinned (stat fr5) (T.obj _ _ st5)
    refine wpAny_passesOwn hp (thn (hg _ s5 σ3 H5 x u _ I5' r5 (step x H5 y5)) fun _ s6 ⟨σ6, H6, I6, q6⟩ => ?_)
    refine wpAny_passesOwn hp (thn (hb _ s6 σ6 H6 _ I6 q6) fun f s7 q7 => ?_)
    have again : ∀ {σ7 : St} {H7 : Hp}, Inv X (pins ++ pinsAt fp s5.heap) σ7 H7 s7 → N σ7 H7 → ∃ m, m < n ∧ ∃ i σ' H', Inv X pins σ' H' s7 ∧ tn i s7.heap ∧ (∀ b ∈ fp, H' b = none) ∧ W i m σ' H' := fun {σ7 H7} I7 n7 => by
      obtain ⟨m', hm, w7⟩ := hN σ7 H7 n7
      refine ⟨m', hm, i + 1, σ7, H7, I7.unpinned, T.keep _ _ _ st5 fun b hb o e => (I7.pin (b, o) (List.mem_append_right _ (List.mem_append_right _ (mem_pinsAt hb e)))).1, fun b hb => ?_, w7⟩
      obtain ⟨o, e, d⟩ := T.obj _ _ st5 b hb
      exact (I7.pin (b, o) (List.mem_append_right _ (List.mem_append_right _ (mem_pinsAt hb e)))).2.1
    cases f with
    | next => obtain ⟨σ7, H7, I7, n7⟩ := q7; exact again I7 n7
    | cont => obtain ⟨σ7, H7, I7, n7⟩ := q7; exact again I7 n7
    | brk => obtain ⟨σ7, H7, I7, q7⟩ := q7; exact ⟨σ7, H7, I7.unpinned, q7⟩
    | ret v => obtain ⟨x7, σ7, H7, I7, r7, q7⟩ := q7; exact ⟨x7, σ7, H7, I7.unpinned, r7, q7⟩
end

/-! ### the forms one uses -/
/-- over a list that the body leaves as it is -/
theorem for_list {K : PySem.W.Frag} {a : Addr} {xs : List V} {g : TG} {tb : TS} {D : Ends} {σ : St} {H : Hp} (Pv : Nat → St → Hp → Prop) (h0 : Pv 0 σ H) (hl : ∀ i σ H, i ≤ xs.length → Pv i σ H → SqL K H a xs)
    (hs : ∀ i x σ H, xs[i]? = some x → Pv i σ H → g x σ H fun σ2 H2 => tb { D with nx := Pv (i + 1), ct := Pv (i + 1), bk := D.nx } σ2 H2) (hd : ∀ σ H, Pv xs.length σ H → D.nx σ H) :
    ∃ W : Nat → Nat → St → Hp → Prop, (∃ m, W 0 m σ H) ∧ ∀ i m σ H, W i m σ H →
      ((Itl K a).stop i H ∧ D.nx σ H) ∨ ((Itl K a).go i H ∧ ∃ N : St → Hp → Prop, (∀ σ' H', N σ' H' → ∃ m', m' < m ∧ W (i + 1) m' σ' H') ∧ ∀ x H', (Itl K a).yld i H x H' → g x σ H' fun σ2 H2 => tb { D with nx := N, ct := N, bk := D.nx } σ2 H2) := by
  refine ⟨fun i m σ H => m = xs.length - i ∧ i ≤ xs.length ∧ Pv i σ H, ⟨xs.length, by simp, Nat.zero_le _, h0⟩, ?_⟩
  rintro i m σ H ⟨rfl, hi, p⟩
  have q := hl i σ H hi p
  by_cases hlt : i < xs.length
  · refine .inr ⟨⟨xs, xs[i], q, by simp [hlt]⟩, Pv (i + 1), fun σ' H' p' => ⟨xs.length - (i + 1), by omega, rfl, hlt, p'⟩, fun x H' y => ?_⟩
    obtain ⟨e, y⟩ := y
    subst e
    exact hs i x σ _ (y xs q) p
  · have e : i = xs.length := by omega
    subst e
    exact .inl ⟨⟨xs, q, Nat.le_refl _⟩, hd σ H p⟩
theorem for_range {lo : Int} {n : Nat} {g : TG} {tb : TS} {D : Ends} {σ : St} {H : Hp} (Pv : Nat → St → Hp → Prop) (h0 : Pv 0 σ H)
    (hs : ∀ i σ H, i < n → Pv i σ H → g (.int (lo + i)) σ H fun σ2 H2 => tb { D with nx := Pv (i + 1), ct := Pv (i + 1), bk := D.nx } σ2 H2) (hd : ∀ σ H, Pv n σ H → D.nx σ H) :
    ∃ W : Nat → Nat → St → Hp → Prop, (∃ m, W 0 m σ H) ∧ ∀ i m σ H, W i m σ H →
      ((Itr lo n).stop i H ∧ D.nx σ H) ∨ ((Itr lo n).go i H ∧ ∃ N : St → Hp → Prop, (∀ σ' H', N σ' H' → ∃ m', m' < m ∧ W (i + 1) m' σ' H') ∧ ∀ x H', (Itr lo n).yld i H x H' → g x σ H' fun σ2 H2 => tb { D with nx := N, ct := N, bk := D.nx } σ2 H2) := by
  refine ⟨fun i m σ H => m = n - i ∧ i ≤ n ∧ Pv i σ H, ⟨n, by simp, Nat.zero_le _, h0⟩, ?_⟩
  rintro i m σ H ⟨rfl, hi, p⟩
  by_cases hlt : i < n
  · refine .inr ⟨hlt, Pv (i + 1), fun σ' H' p' => ⟨n - (i + 1), by omega, rfl, hlt, p'⟩, fun x H' y => ?_⟩
    obtain ⟨e, y⟩ := y
    subst e y
    exact hs i σ _ hlt p
  · have e : i = n := by omega
    subst e
    exact .inl ⟨Nat.le_refl _, hd σ H p⟩
end L2

namespace L2
open PySem PySem.Spec PyProof.Rows

abbrev R2 := V → V → Hp → VK → Prop
/-- a two-place operation on values: f is binaryOp op, inplaceOp op or compareOp op -/
def OpR (X : Cx) (f : Value → Value → Sem Value) (r : R2) : Prop :=
  ∀ (pins : List (Addr × Obj)) (s : Shared) (σ : St) (H : Hp) (x y : V) (v u : Value) (Q : VK), Inv X pins σ H s → RelV x v → RelV y u → r x y H Q →
    wpAny (model X.prog X.w) X.A (f v u) (EP X pins σ Q) X.xe s
/-- a one-place operation -/
def UnR (X : Cx) (f : Value → Sem Value) (r : V → Hp → VK → Prop) : Prop :=
  ∀ (pins : List (Addr × Obj)) (s : Shared) (σ : St) (H : Hp) (x : V) (v : Value) (Q : VK), Inv X pins σ H s → RelV x v → r x H Q →
    wpAny (model X.prog X.w) X.A (f v) (EP X pins σ Q) X.xe s
/-- a call of a value that is known (a builtin, a type) with values -/
def CallR (X : Cx) (f : Value) (r : List V → Hp → VK → Prop) : Prop :=
  ∀ (pins : List (Addr × Obj)) (s : Shared) (σ : St) (H : Hp) (xs : List V) (us : List Value) (Q : VK), Inv X pins σ H s → Vals xs us → r xs H Q →
    wpAny (model X.prog X.w) X.A (call f us) (EP X pins σ Q) X.xe s

def tOp (r : R2) (ta tb : TE) : TE := fun σ H Q => ta σ H fun x H1 => tb σ H1 fun y H2 => r x y H2 Q
def tUn (r : V → Hp → VK → Prop) (ta : TE) : TE := fun σ H Q => ta σ H fun x H1 => r x H1 Q
/-- ints in, under C, and a value out -/
def rI (C : Int → Int → Prop) (g : Int → Int → V) : R2 := fun x y H Q => ∃ i j, x = .int i ∧ y = .int j ∧ C i j ∧ Q (g i j) H
def rI0 (g : Int → Int → V) : R2 := fun x y H Q => ∃ i j, x = .int i ∧ y = .int j ∧ Q (g i j) H
def rU (g : Int → V) : V → Hp → VK → Prop := fun x H Q => ∃ i, x = .int i ∧ Q (g i) H

section
variable {X : Cx} {a b c : Expr} {ta tb tc : TE} {pos : Pos}

theorem binT (ha : PE X a ta) (hb : PE X b tb) {pins : List (Addr × Obj)} {s : Shared} {σ : St} {H : Hp} {R : V → V → Hp → Prop} (I : Inv X pins σ H s)
    (h : ta σ H fun x H1 => tb σ H1 fun y H2 => R x y H2) {Q : Value → Shared → Prop} {f : Value → Value → Sem Value}
    (hf : ∀ v u s2 x y H2, Inv X pins σ H2 s2 → RelV x v → RelV y u → R x y H2 → wpAny (model X.prog X.w) X.A (f v u) Q X.xe s2) :
    wpAny (model X.prog X.w) X.A (eval a X.env) (fun v s₁ => wpAny (model X.prog X.w) X.A (eval b X.env) (fun u s₂ => wpAny (model X.prog X.w) X.A (f v u) Q X.xe s₂) X.xe s₁) X.xe s := by
  refine thn (ha pins s σ H _ I h) fun v s1 ⟨x, H1, I1, r1, q1⟩ => ?_
  refine thn (hb pins s1 σ H1 _ I1 q1) fun u s2 ⟨y, H2, I2, r2, q2⟩ => ?_
  exact hf v u s2 x y H2 I2 r1 r2 q2

theorem pe_op {op : Operator} {r : R2} (ho : OpR X (binaryOp op) r) (ha : PE X a ta) (hb : PE X b tb) : PE X (.BinOp a op b pos) (tOp r ta tb) := by
  intro pins s σ H Q I h
  exact wpAny_BinOp (binT ha hb I h fun v u s2 x y H2 I2 rx ry q => ho pins s2 σ H2 x y v u Q I2 rx ry q)
theorem pe_un {op : UnaryOp} {r : V → Hp → VK → Prop} (ho : UnR X (unaryOp op) r) (ha : PE X a ta) : PE X (.UnaryOp op a pos) (tUn r ta) := by
  intro pins s σ H Q I h
  exact UnaryOp_ (thn (ha pins s σ H _ I h) fun v s1 ⟨x, H1, I1, r1, q1⟩ => ho pins s1 σ H1 x v Q I1 r1 q1)

/-! ### ints -/
theorem opI {f : Value → Value → Sem Value} {C : Int → Int → Prop} {g : Int → Int → Int}
    (rule : ∀ (i j : Int) (t u : Tok) (s : Shared) (Q : Value → Shared → Prop) (E : Value → Shared → Prop), C i j → Q (.int (g i j) s.toks) { s with toks := s.toks + 1 } → wpAny (model X.prog X.w) X.A (f (.int i t) (.int j u)) Q E s) :
    OpR X f (rI C fun i j => .int (g i j)) := by
  intro pins s σ H x y v u Q I rx ry h
  obtain ⟨i, j, rfl, rfl, hc, q⟩ := h
  obtain ⟨t, rfl⟩ := rx
  obtain ⟨t', rfl⟩ := ry
  exact rule i j t t' s _ _ hc ⟨.int (g i j), H, I.tok _, ⟨_, rfl⟩, q⟩
theorem opI0 {f : Value → Value → Sem Value} {g : Int → Int → Int}
    (rule : ∀ (i j : Int) (t u : Tok) (s : Shared) (Q : Value → Shared → Prop) (E : Value → Shared → Prop), Q (.int (g i j) s.toks) { s with toks := s.toks + 1 } → wpAny (model X.prog X.w) X.A (f (.int i t) (.int j u)) Q E s) :
    OpR X f (rI0 fun i j => .int (g i j)) := by
  intro pins s σ H x y v u Q I rx ry h
  obtain ⟨i, j, rfl, rfl, q⟩ := h
  obtain ⟨t, rfl⟩ := rx
  obtain ⟨t', rfl⟩ := ry
  exact rule i j t t' s _ _ ⟨.int (g i j), H, I.tok _, ⟨_, rfl⟩, q⟩
theorem opB0 {f : Value → Value → Sem Value} {g : Int → Int → Bool}
    (rule : ∀ (i j : Int) (t u : Tok) (s : Shared) (Q : Value → Shared → Prop) (E : Value → Shared → Prop), Q (.bool (g i j)) s → wpAny (model X.prog X.w) X.A (f (.int i t) (.int j u)) Q E s) :
    OpR X f (rI0 fun i j => .bl (g i j)) := by
  intro pins s σ H x y v u Q I rx ry h
  obtain ⟨i, j, rfl, rfl, q⟩ := h
  obtain ⟨t, rfl⟩ := rx
  obtain ⟨t', rfl⟩ := ry
  exact rule i j t t' s _ _ ⟨.bl (g i j), H, I, rfl, q⟩

def CDiv (i j : Int) : Prop := 0 < j ∧ j < 1073741824
def CMul (i j : Int) : Prop := (-(2 ^ 64) < i ∧ i < 2 ^ 64) ∨ (-(2 ^ 64) < j ∧ j < 2 ^ 64)
theorem CMul.ok {i j : Int} (h : CMul i j) : IntMulOk i j := by
  rcases h with ⟨h1, h2⟩ | ⟨h1, h2⟩
  · exact .of_left (intBits_le_64 h1 h2)
  · exact .of_right (intBits_le_64 h1 h2)

theorem op_add : OpR X (binaryOp .Add) (rI0 fun i j => .int (i + j)) := opI0 fun _ _ _ _ _ _ _ q => add_int q
theorem op_sub : OpR X (binaryOp .Sub) (rI0 fun i j => .int (i - j)) := opI0 fun _ _ _ _ _ _ _ q => sub_int q
theorem op_mul : OpR X (binaryOp .Mult) (rI CMul fun i j => .int (i * j)) := opI fun _ _ _ _ _ _ _ hc q => mul_int q hc.ok
/-- // by a positive divisor -/
theorem op_fdiv : OpR X (binaryOp .FloorDiv) (rI CDiv fun i j => .int (i / j)) := opI fun i j _ _ _ _ _ hc q => by
  have h1 : (0 : Int) < j := hc.1
  have h2 : j < 1073741824 := hc.2
  exact floordiv_int (by omega) (by rw [Int.fdiv_eq_ediv_of_nonneg i (by omega)]; exact q) (.inl (PyProof.noPylong_small (by omega)))
/-- % by a positive divisor of any size -/
theorem op_mod : OpR X (binaryOp .Mod) (rI (fun _ j => 0 < j) fun i j => .int (i % j)) := opI fun i j _ _ _ _ _ hc q => by
  have h1 : (0 : Int) < j := hc
  exact mod_int' (by omega) (by rw [Int.fmod_eq_emod_of_nonneg i (by omega)]; exact q)


theorem unI {f : Value → Sem Value} {g : Int → Int}
    (rule : ∀ (i : Int) (t : Tok) (s : Shared) (Q : Value → Shared → Prop) (E : Value → Shared → Prop), Q (.int (g i) s.toks) { s with toks := s.toks + 1 } → wpAny (model X.prog X.w) X.A (f (.int i t)) Q E s) :
    UnR X f (rU fun i => .int (g i)) := by
  intro pins s σ H x v Q I rx h
  obtain ⟨i, rfl, q⟩ := h
  obtain ⟨t, rfl⟩ := rx
  exact rule i t s _ _ ⟨.int (g i), H, I.tok _, ⟨_, rfl⟩, q⟩
theorem un_neg : UnR X (unaryOp .USub) (rU fun i => .int (-i)) := unI fun _ _ _ _ _ q => neg_int q

/-! ### bools among ints: n += (a < b) -/
end

/-! ### comparisons -/
/-- the scalars that == tells apart as data does -/
def scal : V → V → Bool
  | .non, .non => true | .non, .int _ => true | .int _, .non => true | .non, .bl _ => true | .bl _, .non => true | .non, .str _ => true | .str _, .non => true
  | .int _, .int _ => true | .bl _, .bl _ => true | .str _, .str _ => true | .byt _, .byt _ => true
  | .int _, .str _ => true | .str _, .int _ => true | .bl _, .str _ => true | .str _, .bl _ => true
  | _, _ => false
def rEq : R2 := fun x y H Q => scal x y = true ∧ Q (.bl (decide (x = y))) H
def rNe : R2 := fun x y H Q => scal x y = true ∧ Q (.bl (!decide (x = y))) H

theorem dec_int {i j : Int} : decide (V.int i = V.int j) = (i == j) := by
  rw [Bool.eq_iff_iff]
  simp
theorem dec_bl {i j : Bool} : decide (V.bl i = V.bl j) = (i == j) := by
  rw [Bool.eq_iff_iff]
  simp
theorem dec_str {i j : Str} : decide (V.str i = V.str j) = (i == j) := by
  rw [Bool.eq_iff_iff]
  simp
theorem dec_byt {i j : Array UInt8} : decide (V.byt i = V.byt j) = (i.toList == j.toList) := by
  rw [Bool.eq_iff_iff]
  cases i
  cases j
  simp

section
variable {X : Cx} {a b c : Expr} {ta tb tc : TE} {pos : Pos}
theorem fin_bl {pins : List (Addr × Obj)} {σ : St} {H : Hp} {s : Shared} {Q : VK} {k k' : Bool} (I : Inv X pins σ H s) (q : Q (.bl k) H) (e : k = k') : EP X pins σ Q (.bool k') s := by
  subst e
  exact ⟨.bl k, H, I, rfl, q⟩
theorem op_eq : OpR X (compareOp .Eq) rEq := by
  intro pins s σ H x y v u Q I rx ry h
  obtain ⟨hs, q⟩ := h
  cases x with
  | non =>
    cases rx
    cases y with
    | non => cases ry; exact PySem.EqNone.eq_none_none (fin_bl I q (by simp))
    | bl j => cases ry; exact PySem.EqNone.eq_none_bool (fin_bl I q (by simp))
    | int j => obtain ⟨t', rfl⟩ := ry; exact PySem.EqNone.eq_none_int (fin_bl I q (by simp))
    | str j => obtain ⟨t', rfl⟩ := ry; exact PySem.EqNone.eq_none_str (fin_bl I q (by simp))
    | _ => exact absurd (show false = true from hs) Bool.false_ne_true
  | bl i =>
    cases rx
    cases y with
    | non => cases ry; exact PySem.EqNone.eq_bool_none (fin_bl I q (by simp))
    | bl j => cases ry; exact eq_bool (fin_bl I q dec_bl)
    | str j => obtain ⟨t', rfl⟩ := ry; exact PySem.EqMixed.eq_bool_str (fin_bl I q (by simp))
    | _ => exact absurd (show false = true from hs) Bool.false_ne_true
  | int i =>
    obtain ⟨t, rfl⟩ := rx
    cases y with
    | non => cases ry; exact PySem.EqNone.eq_int_none (fin_bl I q (by simp))
    | int j => obtain ⟨t', rfl⟩ := ry; exact eq_int (fin_bl I q dec_int)
    | str j => obtain ⟨t', rfl⟩ := ry; exact PySem.EqMixed.eq_int_str (fin_bl I q (by simp))
    | _ => exact absurd (show false = true from hs) Bool.false_ne_true
  | str i =>
    obtain ⟨t, rfl⟩ := rx
    cases y with
    | non => cases ry; exact PySem.EqNone.eq_str_none (fin_bl I q (by simp))
    | bl j => cases ry; exact PySem.EqMixed.eq_str_bool (fin_bl I q (by simp))
    | int j => obtain ⟨t', rfl⟩ := ry; exact PySem.EqMixed.eq_str_int (fin_bl I q (by simp))
    | str j => obtain ⟨t', rfl⟩ := ry; exact eq_str (fin_bl I q dec_str)
    | _ => exact absurd (show false = true from hs) Bool.false_ne_true
  | byt i =>
    obtain ⟨t, rfl⟩ := rx
    cases y with
    | byt j => obtain ⟨t', rfl⟩ := ry; exact PySem.W.eq_bytes (fin_bl I q dec_byt)
    | _ => exact absurd (show false = true from hs) Bool.false_ne_true
  | _ => cases y <;> exact absurd (show false = true from hs) Bool.false_ne_true
theorem op_ne : OpR X (compareOp .NotEq) rNe := by
  intro pins s σ H x y v u Q I rx ry h
  obtain ⟨hs, q⟩ := h
  cases x with
  | non =>
    cases rx
    cases y with
    | non => cases ry; exact PySem.EqNone.ne_none_none (fin_bl I q (by simp))
    | bl j => cases ry; exact PySem.EqNone.ne_none_bool (fin_bl I q (by simp))
    | int j => obtain ⟨t', rfl⟩ := ry; exact PySem.EqNone.ne_none_int (fin_bl I q (by simp))
    | str j => obtain ⟨t', rfl⟩ := ry; exact PySem.EqNone.ne_none_str (fin_bl I q (by simp))
    | _ => exact absurd (show false = true from hs) Bool.false_ne_true
  | bl i =>
    cases rx
    cases y with
    | non => cases ry; exact PySem.EqNone.ne_bool_none (fin_bl I q (by simp))
    | bl j => cases ry; exact ne_bool (fin_bl I q (congrArg not dec_bl))
    | str j => obtain ⟨t', rfl⟩ := ry; exact PySem.EqMixed.ne_bool_str (fin_bl I q (by simp))
    | _ => exact absurd (show false = true from hs) Bool.false_ne_true
  | int i =>
    obtain ⟨t, rfl⟩ := rx
    cases y with
    | non => cases ry; exact PySem.EqNone.ne_int_none (fin_bl I q (by simp))
    | int j => obtain ⟨t', rfl⟩ := ry; exact ne_int (fin_bl I q (congrArg not dec_int))
    | str j => obtain ⟨t', rfl⟩ := ry; exact PySem.EqMixed.ne_int_str (fin_bl I q (by simp))
    | _ => exact absurd (show false = true from hs) Bool.false_ne_true
  | str i =>
    obtain ⟨t, rfl⟩ := rx
    cases y with
    | non => cases ry; exact PySem.EqNone.ne_str_none (fin_bl I q (by simp))
    | bl j => cases ry; exact PySem.EqMixed.ne_str_bool (fin_bl I q (by simp))
    | int j => obtain ⟨t', rfl⟩ := ry; exact PySem.EqMixed.ne_str_int (fin_bl I q (by simp))
    | str j => obtain ⟨t', rfl⟩ := ry; exact ne_str (fin_bl I q (congrArg not dec_str))
    | _ => exact absurd (show false = true from hs) Bool.false_ne_true
  | byt i =>
    obtain ⟨t, rfl⟩ := rx
    cases y with
    | byt j => obtain ⟨t', rfl⟩ := ry; exact PySem.W.ne_bytes (fin_bl I q (congrArg not dec_byt))
    | _ => exact absurd (show false = true from hs) Bool.false_ne_true
  | _ => cases y <;> exact absurd (show false = true from hs) Bool.false_ne_true

theorem op_lt : OpR X (compareOp .Lt) (rI0 fun i j => .bl (decide (i < j))) := opB0 fun _ _ _ _ _ _ _ q => lt_int q
theorem op_le : OpR X (compareOp .LtE) (rI0 fun i j => .bl (decide (i ≤ j))) := opB0 fun _ _ _ _ _ _ _ q => le_int q
theorem op_gt : OpR X (compareOp .Gt) (rI0 fun i j => .bl (decide (j < i))) := opB0 fun _ _ _ _ _ _ _ q => gt_int q
theorem op_ge : OpR X (compareOp .GtE) (rI0 fun i j => .bl (decide (j ≤ i))) := opB0 fun _ _ _ _ _ _ _ q => ge_int q




theorem nomark (b : Expr) {op : CmpOp} (h : op ≠ .In := by decide) (h2 : op ≠ .NotIn := by decide) : behindInMarks op b = false := by
  have e1 : (op == CmpOp.In) = false := by cases op <;> first | rfl | exact absurd rfl h
  have e2 : (op == CmpOp.NotIn) = false := by cases op <;> first | rfl | exact absurd rfl h2
  cases b <;> simp [behindInMarks, e1, e2]
/-- a comparison as a value; hm: nomark b, or (for in, not in) by with_unfolding_all rfl -/
theorem pe_cmpR {op : CmpOp} {r : R2} (ho : OpR X (compareOp op) r) (ha : PE X a ta) (hb : PE X b tb) (hm : behindInMarks op b = false) : PE X (.Compare a [op] [b] pos) (tOp r ta tb) := by
  intro pins s σ H Q I h
  exact wpAny_Compare1 (binT ha hb I h fun v u s2 x y H2 I2 rx ry q => ho pins s2 σ H2 x y v u Q I2 rx ry q) hm
/-- a reading of a value as a test -/
def tTest (t : TE) : TT := fun σ H Q => t σ H fun x H' => ∃ k, x = .bl k ∧ Q k H'
theorem pt_cmpR {op : CmpOp} {r : R2} (ho : OpR X (compareOp op) r) (ha : PE X a ta) (hb : PE X b tb) (hm : behindInMarks op b = false) : PT X (.Compare a [op] [b] pos) (tTest (tOp r ta tb)) := by
  intro pins s σ H Q I h
  refine wpAny_isTrue_Compare1 (thn (ha pins s σ H _ I h) fun v s1 ⟨x, H1, I1, r1, q1⟩ => thn (hb pins s1 σ H1 _ I1 q1) fun u s2 ⟨y, H2, I2, r2, q2⟩ =>
    thn (ho pins s2 σ H2 x y v u _ I2 r1 r2 q2) fun c s3 ⟨z, H3, I3, r3, k, e, q3⟩ => ?_) hm
  subst e
  cases r3
  exact wpAny_truthy_bool ⟨H3, I3, q3⟩

/-! ### truth -/
theorem line63 : (sizeLine : Nat) < 2 ^ 63 := by rw [sizeLine_eq]; decide

/-! ### strs and bytes -/


/-! ### scalar builtins, by CallR -/
theorem vals1 {x : V} {us : List Value} (r : Vals [x] us) : ∃ u, us = [u] ∧ RelV x u := by
  cases r with
  | cons r1 r2 => cases r2; exact ⟨_, rfl, r1⟩
end
end L2

namespace L2
open PySem PySem.Spec PyProof.Rows

/-! ### an instance, its attributes a map -/
structure ObjM (h : Heap) (x dx C : Addr) (mA : Str → Option Value) : Prop where
  obj : h.get? x = some (PySem.W.instObj C dx)
  ns : h.Ns1 dx mA
  ne : dx ≠ x

theorem lookIn_ns {h : Heap} {dx : Addr} {mA : Str → Option Value} (n : h.Ns1 dx mA) : ∃ od, h.get? dx = some od ∧ ∀ name, PySem.W.lookIn name od = some (mA name) := by
  obtain ⟨o, es, ep, ho, hd, hk, _, hm⟩ := n
  refine ⟨o, ho, fun name => ?_⟩
  have e := hm name
  unfold nsFind findBy at e
  rw [← Array.find?_toList] at e
  unfold PySem.W.lookIn
  rw [hd]
  dsimp only
  split
  · rename_i y q
    rw [q] at e
    exact congrArg some e
  · rename_i q
    rw [q] at e
    have a : es.toList.any (·.refKey) = false := by
      rw [List.any_eq_false]
      intro y hy
      obtain ⟨z, t, hkey⟩ := hk y (Array.mem_toList_iff.mp hy)
      simp [DictEntry.refKey, hkey]
    have a' : ¬ es.toList.any (·.refKey) = true := by rw [a]; exact Bool.false_ne_true
    rw [if_neg a']
    exact congrArg some e

theorem ObjM.look {h : Heap} {x dx C : Addr} {mA : Str → Option Value} (I : ObjM h x dx C mA) : ∃ od, PySem.W.InstAt h x (PySem.W.instObj C dx) C (some od) ∧ ∀ name, PySem.W.lookIn name od = some (mA name) :=
  let ⟨od, ho, hl⟩ := lookIn_ns I.ns
  ⟨od, ⟨I.obj, rfl, rfl, ho⟩, hl⟩

section
variable {prog : Program} {w : World} {A : Around} {E : Value → Shared → Prop} {s : Shared} {K : PySem.W.Frag} {x dx C f : Addr} {mA : Str → Option Value} {name : Str} {v : Value}

theorem get_map {expr : Bool} {Q : Value → Shared → Prop} (X : K.In s.heap) (I : ObjM s.heap x dx C mA) (hg : PySem.W.plainGet K C name = true) (hh : PySem.W.hasDictIn K C = true)
    (ha : PySem.W.findIn K (.ref C) name = some none) (hv : mA name = some v) (hv' : PySem.W.handedIn v = true) (h : Q v { s with toks := s.toks + 1 }) :
    wpAny (model prog w) A (getAttr (.ref x) name expr) Q E s := by
  obtain ⟨od, J, hl⟩ := I.look
  exact PySem.W.get_value X J (PySem.W.plainGet_of hg).1 (PySem.W.findObj_own hh ha rfl (by rw [hl, hv])) hv' h


theorem get_meth {pl : Sem Bool} {Q : Value × List Value → Shared → Prop} (X : K.In s.heap) (I : ObjM s.heap x dx C mA) (hg : PySem.W.plainGet K C name = true)
    (hf : PySem.W.findIn K (.ref C) name = some (some (.ref f))) (ht : PySem.W.isFn K (.ref f) = true) (hv : mA name = none) (h : Q (.ref f, [.ref x]) s) :
    wpAny (model prog w) A (getMethod (.ref x) name pl) Q E s := by
  obtain ⟨od, J, hl⟩ := I.look
  exact PySem.W.method_fn X J (PySem.W.plainGet_of hg).1 (PySem.W.plainGet_of hg).2 hf (beq_iff_eq.mp ht) (by show (PySem.W.lookIn name od).map (·.isSome) = some false; rw [hl, hv]; rfl) h

theorem set_map {ns : List Str} {Q : Unit → Shared → Prop} (X : K.In s.heap) (I : ObjM s.heap x dx C mA)
    (hs : PySem.W.findIn K (.ref C) "__setattr__" = some (some (.builtin "object.__setattr__"))) (hp : PySem.W.plainOver K C = true) (ht : PySem.W.takerIn K C name = some none) (hh : PySem.W.hasDictIn K C = true)
    (hw : PySem.Within mA ns) (hsz : ns.length ≤ sizeLine)
    (h : ∀ h', ObjM h' x dx C (fun y => if y = name then some v else mA y) → Heap.SameBut dx s.heap h' → Q () { s with heap := h', toks := s.toks + 2 }) :
    wpAny (model prog w) A (setAttr (.ref x) name v) Q E s := by
  obtain ⟨od, J, hl⟩ := I.look
  refine PySem.W.set_plain X J hs (PySem.W.osa_open (s := { s with toks := s.toks + 1 }) (r := none) X J hp ht fun b => ?_)
  obtain ⟨cd, hc, hd'⟩ := PySem.W.any_some hh
  have hx : s.heap.get? x = some ⟨.ref C, some dx, .plain, #[]⟩ := I.obj
  refine wpAny_bind (wpAny_pure (wpAny_bind (wpAny_bind (wpAny_loadPart hx (wpAny_bind (PySem.W.Looks.here (s := { s with toks := s.toks + 1 }) (PySem.W.looks_clsIn X hc) ?_))))))
  rw [hd']
  refine wpAny_pure (a := some dx) (wpAny_bind (wpAny_pure (wpAny_bind ?_)))
  refine wpAny_nsSet1 (s := { s with toks := s.toks + 1 }) I.ns fun h' hn2 hs2 => ?_
  obtain ⟨oD, esD, epD, hoD, hdD, hcD⟩ := hn2.count (PySem.Within.cons name v hw)
  refine wpAny_bind (wpAny_lookBehind hoD (by rw [hdD]; exact pastItsLine_dict (Nat.le_trans hcD (by rw [List.length_cons]; omega))) ?_)
  exact wpAny_pure (h _ ⟨(hs2.2 _ (Ne.symm I.ne)).trans I.obj, hn2, I.ne⟩ hs2)

/-- C(..): the dict at the heap's end, the instance behind it; then its __init__ -/
theorem make_map {R : Result → Shared → Prop} {vs : List Value} {kw : List (Str × Value)} (X : K.In s.heap) (hm : PySem.W.makesIn K C = true)
    (hi : PySem.W.findIn K (.ref C) "__init__" = some (some (.ref f))) (hf : PySem.W.typeIn K (.ref f) = some (.type "function"))
    (h : codeAny (model prog w) (A.under (.builtin "type.__call__" ⟨.ref C :: vs, kw⟩)) (.call (.ref f) ⟨.ref (s.heap.objs.size + 1) :: vs, kw⟩) (PySem.W.InitBack (s.heap.objs.size + 1) R)
      { s with heap := (s.heap.push PySem.W.emptyDict).push (PySem.W.instObj C s.heap.objs.size) }) :
    codeAny (model prog w) A (.call (.ref C) ⟨vs, kw⟩) R s := by
  obtain ⟨hh, g, d, t, os⟩ := s
  exact PySem.W.make_core (PySem.W.makes_of X hm) (PySem.W.looks_findIn X hi) (fun self => PySem.W.bind_fn X self hf) (.inl rfl) h
end

/-! ### the attributes as a list of pairs -/
def putF (f : Str) (v : V) : List (Str × V) → List (Str × V)
  | [] => [(f, v)]
  | (g, x) :: r => if g = f then (g, v) :: r else (g, x) :: putF f v r
theorem lookup_putF (f g : Str) (v : V) : ∀ fs : List (Str × V), (putF f v fs).lookup g = if g = f then some v else fs.lookup g
  | [] => by
    show List.lookup g [(f, v)] = _
    by_cases h : g = f
    · have hb : (g == f) = true := beq_iff_eq.mpr h
      simp only [List.lookup, hb, if_pos h]
    · have hb : (g == f) = false := beq_eq_false_iff_ne.mpr h
      simp only [List.lookup, hb, if_neg h]
  | (k, x) :: r => by
    have ih := lookup_putF f g v r
    rw [show putF f v ((k, x) :: r) = (if k = f then (k, v) :: r else (k, x) :: putF f v r) from rfl]
    by_cases hk : k = f
    · rw [if_pos hk]
      by_cases h : g = k
      · have hb : (g == k) = true := beq_iff_eq.mpr h
        simp only [List.lookup, hb, if_pos (h.trans hk)]
      · have hb : (g == k) = false := beq_eq_false_iff_ne.mpr h
        simp only [List.lookup, hb, if_neg (fun e : g = f => h (e.trans hk.symm))]
    · rw [if_neg hk]
      by_cases h : g = k
      · have hb : (g == k) = true := beq_iff_eq.mpr h
        simp only [List.lookup, hb, if_neg (fun e : g = f => hk (h.symm.trans e))]
      · have hb : (g == k) = false := beq_eq_false_iff_ne.mpr h
        simp only [List.lookup, hb]
        exact ih
theorem keys_putF (f : Str) (v : V) : ∀ fs : List (Str × V), f ∈ (putF f v fs).map (·.1) ∧ ∀ g, g ∈ fs.map (·.1) → g ∈ (putF f v fs).map (·.1)
  | [] => ⟨by simp [putF], fun g h => by simp at h⟩
  | (k, x) :: r => by
    obtain ⟨i1, i2⟩ := keys_putF f v r
    rw [show putF f v ((k, x) :: r) = (if k = f then (k, v) :: r else (k, x) :: putF f v r) from rfl]
    by_cases hk : k = f
    · rw [if_pos hk]
      subst hk
      exact ⟨by simp, fun g h => by simpa using h⟩
    · rw [if_neg hk]
      refine ⟨?_, fun g h => ?_⟩
      · rw [List.map_cons]
        exact List.mem_cons_of_mem _ i1
      · rw [List.map_cons] at h ⊢
        rcases List.mem_cons.mp h with e | e
        · exact List.mem_cons.mpr (.inl e)
        · exact List.mem_cons_of_mem _ (i2 g e)
theorem length_putF (f : Str) (v : V) : ∀ fs : List (Str × V), (putF f v fs).length ≤ fs.length + 1
  | [] => by simp [putF]
  | (k, x) :: r => by
    have ih := length_putF f v r
    rw [show putF f v ((k, x) :: r) = (if k = f then (k, v) :: r else (k, x) :: putF f v r) from rfl]
    by_cases hk : k = f
    · rw [if_pos hk, List.length_cons, List.length_cons]; omega
    · rw [if_neg hk, List.length_cons, List.length_cons]; omega

theorem RelO.some_of {v : V} {o : Option Value} (r : RelO (some v) o) : ∃ u, o = some u ∧ RelV v u := by
  cases o with
  | none => exact (show False from r).elim
  | some u => exact ⟨u, rfl, r⟩
theorem RelO.none_of {o : Option Value} (r : RelO none o) : o = none := by
  cases o with
  | none => rfl
  | some u => exact (show False from r).elim
theorem handed_of {v : V} {u : Value} (r : RelV v u) : PySem.W.handedIn u = true := by
  cases v with
  | non => cases (show u = Value.none from r); rfl
  | bl b => cases (show u = Value.bool b from r); rfl
  | int i => obtain ⟨t, e⟩ := (show ∃ t, u = Value.int i t from r); cases e; rfl
  | str x => obtain ⟨t, e⟩ := (show ∃ t, u = Value.str x t from r); cases e; rfl
  | byt b => obtain ⟨t, e⟩ := (show ∃ t, u = Value.bytes b t from r); cases e; rfl
  | flt b => obtain ⟨t, e⟩ := (show ∃ t, u = Value.float b t from r); cases e; rfl
  | ref a => cases (show u = Value.ref a from r); rfl
  | ty n => cases (show u = Value.type n from r); rfl

section
variable {P : Program} {w : World} {H H' : Hp} {h h' : Heap} {a C dx : Addr} {fs fs' : List (Str × V)}
theorem ins_get (hok : HOk P w H h) (e : H a = some (.ins C dx fs)) : ∃ mA, ObjM h a dx C mA ∧ (∀ f, RelO (fs.lookup f) (mA f)) ∧ PySem.Within mA (fs.map (·.1)) ∧ fs.length ≤ 1000 ∧ H dx = some (.own a) := by
  obtain ⟨d, z, ne, ob, mA, n, r, q⟩ := (show ObjOk P w H h a (.ins C dx fs) from hok a _ e)
  exact ⟨mA, ⟨ob, n, ne⟩, r, q, z, d⟩
end

/-! ### what of the text a class must have -/
structure Cls (K : PySem.W.Frag) (C : Addr) : Prop where
  pg : PySem.W.plainGet K C Str.empty = true
  hd : PySem.W.hasDictIn K C = true
  po : PySem.W.plainOver K C = true
  sa : PySem.W.findIn K (.ref C) "__setattr__" = some (some (.builtin "object.__setattr__"))
theorem Cls.get {K : PySem.W.Frag} {C : Addr} (c : Cls K C) (f : Str) : PySem.W.plainGet K C f = true := c.pg
/-- no class of it has the name -/
def NoAttr (K : PySem.W.Frag) (C : Addr) (f : Str) : Prop := PySem.W.findIn K (.ref C) f = some none
theorem NoAttr.taker {K : PySem.W.Frag} {C : Addr} {f : Str} (n : NoAttr K C f) : PySem.W.takerIn K C f = some none := by
  unfold PySem.W.takerIn
  rw [show PySem.W.findIn K (.ref C) f = some none from n]
  rfl
/-- a method: a plain def of the class or of one above it -/
structure Meth (K : PySem.W.Frag) (C : Addr) (m : Str) (f : Addr) : Prop where
  at_ : PySem.W.findIn K (.ref C) m = some (some (.ref f))
  fn : PySem.W.isFn K (.ref f) = true
  kp : PySem.W.keepIn K (.ref f) = true

section
variable {X : Cx} {pins : List (Addr × Obj)} {σ : St} {H : Hp} {s : Shared} {a C dx : Addr} {fs : List (Str × V)} {f : Str} {v : V} {A : Around} {E : Value → Shared → Prop}

theorem getattr_ok {b : Bool} {Q : Value → Shared → Prop} (I : Inv X pins σ H s) (e : H a = some (.ins C dx fs)) (c : Cls X.K C) (n : NoAttr X.K C f) (l : fs.lookup f = some v)
    (h : ∀ u s', Inv X pins σ H s' → RelV v u → Q u s') : wpAny (model X.prog X.w) A (getAttr (.ref a) f b) Q E s := by
  obtain ⟨mA, O, r, _, _, _⟩ := ins_get I.hok e
  obtain ⟨u, hu, ru⟩ := RelO.some_of (v := v) (o := mA f) (by rw [← l]; exact r f)
  exact get_map I.kIn O (c.get f) c.hd n hu (handed_of ru) (h u _ (I.tok _) ru)


theorem getmeth_ok {m : Str} {g : Addr} {pl : Sem Bool} {Q : Value × List Value → Shared → Prop} (I : Inv X pins σ H s) (e : H a = some (.ins C dx fs)) (c : Cls X.K C) (k : Meth X.K C m g) (l : fs.lookup m = none)
    (h : Q (.ref g, [.ref a]) s) : wpAny (model X.prog X.w) A (getMethod (.ref a) m pl) Q E s := by
  obtain ⟨mA, O, r, _, _, _⟩ := ins_get I.hok e
  have hn : mA m = none := RelO.none_of (by rw [← l]; exact r m)
  exact get_meth I.kIn O (c.get m) k.at_ k.fn hn h

theorem setattr_ok {y : V} {u : Value} {Q : Unit → Shared → Prop} (I : Inv X pins σ H s) (e : H a = some (.ins C dx fs)) (c : Cls X.K C) (n : NoAttr X.K C f) (hl : fs.length < 1000) (ry : RelV y u)
    (h : ∀ s', Inv X pins σ (upd H a (.ins C dx (putF f y fs))) s' → Q () s') : wpAny (model X.prog X.w) A (setAttr (.ref a) f u) Q E s := by
  obtain ⟨mA, O, r, wi, _, ho⟩ := ins_get I.hok e
  have hz : (fs.map (·.1)).length ≤ sizeLine := by rw [List.length_map, sizeLine_eq]; omega
  refine set_map I.kIn O c.sa c.po n.taker c.hd wi hz fun h' O' sb => h _ ?_
  have hd : ∃ o, h'.get? dx = some o := let ⟨o, _, _, e', _⟩ := O'.ns; ⟨o, e'⟩
  refine I.write (x := a) (e := dx) (by rw [e]; exact True.intro) (.inr ho) (fun b q hb z => (sb.2 b hb).trans z) hd ?_
  refine ⟨by rw [upd_ne O.ne]; exact ho, ?_, O.ne, O'.obj, _, O'.ns, fun g => ?_, fun g hg => ?_⟩
  · have := length_putF f y fs; omega
  · show RelO ((putF f y fs).lookup g) (if g = f then some u else mA g)
    rw [lookup_putF]
    by_cases q : g = f
    · rw [if_pos q, if_pos q]; exact ry
    · rw [if_neg q, if_neg q]; exact r g
  · by_cases q : g = f
    · rw [q]; exact (keys_putF f y fs).1
    · refine (keys_putF f y fs).2 g (wi g fun z => hg ?_)
      show (if g = f then some u else mA g) = none
      rw [if_neg q]; exact z

/-- a new instance, tracked, without attributes -/
theorem Inv.made (I : Inv X pins σ H s) : Inv X pins σ (upd (upd H s.heap.objs.size (.own (s.heap.objs.size + 1))) (s.heap.objs.size + 1) (.ins C s.heap.objs.size []))
    { s with heap := (s.heap.push PySem.W.emptyDict).push (PySem.W.instObj C s.heap.objs.size) } := by
  have e1 : (s.heap.push PySem.W.emptyDict).get? s.heap.objs.size = some PySem.W.emptyDict := Heap.get?_push_size s.heap rfl
  have e2 : ((s.heap.push PySem.W.emptyDict).push (PySem.W.instObj C s.heap.objs.size)).get? (s.heap.objs.size + 1) = some (PySem.W.instObj C s.heap.objs.size) := by
    have := Heap.get?_push_size (s.heap.push PySem.W.emptyDict) (o := PySem.W.instObj C s.heap.objs.size) rfl
    rwa [Heap.size_push] at this
  have e3 : (s.heap.push PySem.W.emptyDict).Ns s.heap.objs.size (fun _ => none) := ⟨PySem.W.emptyDict, #[], _, e1, rfl, (fun e he => absurd he (by simp)), fun _ => rfl⟩
  have I1 := I.laid (a := s.heap.objs.size) (o := .own (s.heap.objs.size + 1)) (h' := s.heap.push PySem.W.emptyDict) (t' := s.toks) (fun b u q => Heap.get?_push_of_some _ q) (Nat.le_refl _) ⟨_, e1⟩
  refine I1.laid (a := s.heap.objs.size + 1) (o := .ins C s.heap.objs.size []) (t' := s.toks) (fun b u q => Heap.get?_push_of_some _ q) (Nat.le_of_eq (Heap.size_push _ _)) ?_
  have ne : s.heap.objs.size ≠ s.heap.objs.size + 1 := Nat.ne_of_lt (Nat.lt_succ_self _)
  refine ⟨by rw [upd_ne ne, upd_same], Nat.zero_le _, ne, e2, fun _ => none, (Heap.Ns1.of_empty e3).at fun o q => Heap.get?_push_of_some _ q, fun _ => True.intro, fun y hy => absurd rfl hy⟩

/-- e.f where nothing but the object is asked: through attributeBase (super) and the last hold -/
theorem attr_of {prog : Program} {w : World} {env : Env} {e : Expr} {f : Str} {pos : Pos} {s : Shared} {Q : Value → Shared → Prop} (hb : attributeBase e f env (eval e env) = eval e env)
    (h : wpAny (model prog w) A (eval e env) (fun o s₁ => wpAny (model prog w) A (getAttr o f true) Q E s₁) E s) : wpAny (model prog w) A (eval (.Attribute e f pos) env) Q E s :=
  Attribute_any_ h (by rw [arm_eval_Attribute, hb])
end

/-! ### readings and rules -/
/-- e.f, an attribute of the instance -/
def tFld (K : PySem.W.Frag) (ta : TE) (f : Str) : TE := fun σ H Q => ta σ H fun x H1 => ∃ a C dx fs v, x = .ref a ∧ H1 a = some (.ins C dx fs) ∧ Cls K C ∧ NoAttr K C f ∧ fs.lookup f = some v ∧ Q v H1
/-- e.f = value -/
def sFld (K : PySem.W.Frag) (ta tv : TE) (f : Str) : TS := fun D σ H => tv σ H fun y H1 => ta σ H1 fun x H2 => ∃ a C dx fs, x = .ref a ∧ H2 a = some (.ins C dx fs) ∧ Cls K C ∧ NoAttr K C f ∧ fs.length < 1000 ∧
  D.nx σ (upd H2 a (.ins C dx (putF f y fs)))
/-- an augmented operator on two values -/
def InOp (X : Cx) (op : Operator) (rd : V → V → Hp → VK → Prop) : Prop :=
  ∀ (pins : List (Addr × Obj)) (s : Shared) (σ : St) (H : Hp) (x y : V) (u v : Value) (Q : VK), Inv X pins σ H s → RelV x u → RelV y v → rd x y H Q → wpAny (model X.prog X.w) X.A (inplaceOp op u v) (EP X pins σ Q) X.xe s
/-- e.f op= value -/
def sFldAug (K : PySem.W.Frag) (ta tv : TE) (rd : V → V → Hp → VK → Prop) (f : Str) : TS := fun D σ H => ta σ H fun x H1 => ∃ a C dx fs v, x = .ref a ∧ H1 a = some (.ins C dx fs) ∧ Cls K C ∧ NoAttr K C f ∧ fs.lookup f = some v ∧
  tv σ H1 fun y H2 => rd v y H2 fun z H3 => ∃ dx' fs', H3 a = some (.ins C dx' fs') ∧ fs'.length < 1000 ∧ D.nx σ (upd H3 a (.ins C dx' (putF f z fs')))

section
variable {X : Cx} {o e value : Expr} {f : Str} {pos pos' tpos : Pos} {ta tv : TE}
theorem pe_fld (he : PE X e ta) (hb : attributeBase e f X.env (eval e X.env) = eval e X.env) : PE X (.Attribute e f pos) (tFld X.K ta f) := by
  intro pins s σ H Q I h
  refine attr_of hb (thn (he pins s σ H _ I h) fun u s1 ⟨x, H1, I1, rx, a, C, dx, fs, v, ex, ea, c, n, l, q⟩ => ?_)
  subst ex
  obtain rfl : u = Value.ref a := rx
  exact getattr_ok I1 ea c n l fun u' s2 I2 ru => ⟨v, H1, I2, ru, q⟩
theorem ps_fld (ha : PE X o ta) (hv : PE X value tv) (hs : swapsWith value (some (.Attribute o f pos')) pos.line X.env = pure false) : PS X (.Assign [.Attribute o f pos'] value pos) (sFld X.K ta tv f) := by
  intro pins s σ H D I h
  refine plainObj_wpAny_Assign_Attribute (thn (hv pins s σ H _ I h) fun u s1 ⟨y, H1, I1, ry, q⟩ => thn (ha pins s1 σ H1 _ I1 q) fun ov s2 ⟨x, H2, I2, rx, a, C, dx, fs, ex, ea, c, n, l, q2⟩ => ?_) hs
  subst ex
  obtain rfl : ov = Value.ref a := rx
  exact setattr_ok I2 ea c n l ry fun s3 I3 => ⟨σ, _, I3, q2⟩
theorem ps_fldaug {op : Operator} {rd : V → V → Hp → VK → Prop} (ha : PE X o ta) (hv : PE X value tv) (hop : InOp X op rd) : PS X (.AugAssign (.Attribute o f tpos) op value pos) (sFldAug X.K ta tv rd f) := by
  intro pins s σ H D I h
  refine wpAny_AugAssign_AttributeAny (thn (ha pins s σ H _ I h) fun ov s1 ⟨x, H1, I1, rx, a, C, dx, fs, v, ex, ea, c, n, l, q⟩ => ?_)
  subst ex
  obtain rfl : ov = Value.ref a := rx
  refine getattr_ok I1 ea c n l fun u s2 I2 ru => thn (hv pins s2 σ H1 _ I2 q) fun w3 s3 ⟨y, H2, I3, ry, q3⟩ => thn (hop pins s3 σ H2 v y u w3 _ I3 ru ry q3) fun w4 s4 ⟨z, H3, I4, rz, dx', fs', ea', l', q4⟩ => ?_
  exact setattr_ok I4 ea' c n l' rz fun s5 I5 => ⟨σ, _, I5, q4⟩
def rAdd : V → V → Hp → VK → Prop := fun x y H Q => ∃ i j, x = .int i ∧ y = .int j ∧ Q (.int (i + j)) H
theorem in_add : InOp X .Add rAdd := by
  rintro pins s σ H x y u v Q I rx ry ⟨i, j, rfl, rfl, q⟩
  obtain ⟨t, rfl⟩ := (show ∃ t, u = Value.int i t from rx)
  obtain ⟨t', rfl⟩ := (show ∃ t', v = Value.int j t' from ry)
  exact PyProof.Rows.iadd_int ⟨.int (i + j), H, I.tok _, ⟨_, rfl⟩, q⟩

/-- what is between an instance and its method: the tree of a method call -/
theorem methcall_of {pl : Sem Bool} {m : Str} {apos : Pos} {args : List Expr} {pins : List (Addr × Obj)} {s : Shared} {σ : St} {H : Hp} {Q : Value → Shared → Prop} {te : TE} (he : PE X e te) (I : Inv X pins σ H s)
    (h : te σ H fun x H1 => ∃ a C dx fs g, x = .ref a ∧ H1 a = some (.ins C dx fs) ∧ Cls X.K C ∧ Meth X.K C m g ∧ fs.lookup m = none ∧
      ∀ s1, Inv X pins σ H1 s1 → wpAny (model X.prog X.w) X.A (callWith pos (.ref g) [.ref a] (backTo pos (starEach args X.env)) (backToKw pos (keywordEach [] X.env))) Q X.xe s1)
    (ht : eval (.Call (.Attribute e m apos) args [] pos) X.env = (do
      let ov ← eval e X.env
      standAt apos.atName
      let (f, first) ← holding [ov] (getMethod ov m pl)
      callWith pos f first (backTo pos (starEach args X.env)) (backToKw pos (keywordEach [] X.env)))) :
    wpAny (model X.prog X.w) X.A (eval (.Call (.Attribute e m apos) args [] pos) X.env) Q X.xe s := by
  refine PySem.W.methodCall_KW (pl := pl) (thn (he pins s σ H _ I h) fun u s1 ⟨x, H1, I1, rx, a, C, dx, fs, g, ex, ea, c, k, l, q⟩ => ?_) ht
  subst ex
  obtain rfl : u = Value.ref a := rx
  exact getmeth_ok I1 ea c k l (q s1 I1)
end

/-! ### isinstance -/
section
variable {X : Cx} {pins : List (Addr × Obj)} {σ : St} {H : Hp} {s : Shared} {A : Around} {E : Value → Shared → Prop} {Q : Value → Shared → Prop} {c : Value} {b : Bool}
end
end L2

namespace L2
open PySem PySem.Spec PyProof.Rows

/-! ### room -/
structure Room (k : Nat) (A : Around) : Prop where
  hd : A.handled = none
  dp : A.depth + 3 * k + 5 < recursionLimit
  un : A.units + 16 * k + 200 < cLine
theorem Room.mono {j k : Nat} {A : Around} (r : Room k A) (h : j ≤ k) : Room j A := ⟨r.hd, by have := r.dp; omega, by have := r.un; omega⟩
theorem Room.deeper {k : Nat} {A : Around} (r : Room (k + 1) A) (env : Env) : Room k (A.deeper env) :=
  ⟨r.hd, by have := r.dp; show A.depth + 1 + 3 * k + 5 < _; omega, by have := r.un; show A.units + 3 + 16 * k + 200 < _; omega⟩
theorem Room.in1 {k : Nat} {A : Around} (r : Room (k + 1) A) : Room k A.in1 :=
  ⟨r.hd, by have := r.dp; show A.depth + 3 * k + 5 < _; omega, by have := r.un; show A.units + 1 + 16 * k + 200 < _; omega⟩
theorem make_depth {A : Around} {C : Addr} {us : List Value} {kw : List (Str × Value)} : (A.under (.builtin "type.__call__" ⟨.ref C :: us, kw⟩)).depth = A.depth + 1 := by
  first | rfl | simp [Around.under, Code.weight, Code.isCreation, Code.isGuard, Code.isCaller, Code.frames, Code.isFrame, guardIds]
theorem make_units {A : Around} {C : Addr} {us : List Value} {kw : List (Str × Value)} : (A.under (.builtin "type.__call__" ⟨.ref C :: us, kw⟩)).units = A.units + 1 := by
  first | rfl | simp [Around.under, Code.cUnits, Code.frames, Code.isFrame]
theorem Room.make {k : Nat} {A : Around} (r : Room (k + 1) A) (C : Addr) (us : List Value) (kw : List (Str × Value)) : Room k (A.under (.builtin "type.__call__" ⟨.ref C :: us, kw⟩)) :=
  ⟨r.hd, by have := r.dp; rw [make_depth]; omega, by have := r.un; rw [make_units]; omega⟩
theorem Room.depth {k : Nat} {A : Around} (r : Room k A) : A.depth < recursionLimit := by have := r.dp; omega
theorem Room.units {k : Nat} {A : Around} (r : Room k A) : A.units + 64 < cLine := by have := r.un; omega

/-! ### argument lists and displays -/
def tNil : TA := fun _ H Q => Q [] H
def tCons (ta : TE) (tr : TA) : TA := fun σ H Q => ta σ H fun x H1 => tr σ H1 fun xs H2 => Q (x :: xs) H2
section
variable {X : Cx} {e : Expr} {es : List Expr} {te : TE} {t : TA} {pos : Pos}
theorem pa_nil : PA X [] tNil := fun _ _ _ _ H Q I h => Calls.spliced_nil ⟨[], H, I, .nil, h⟩
theorem pa_cons (ha : PE X e te) (hr : PA X es t) (hs : starEach (e :: es) X.env = (false, eval e X.env) :: starEach es X.env := by rfl) : PA X (e :: es) (tCons te t) := by
  intro pos pins s σ H Q I h
  rw [hs]
  show wpAny _ _ (spliced ((false, eval e X.env) :: backTo pos (starEach es X.env))) _ _ s
  refine Calls.spliced_cons (thn (ha pins s σ H _ I h) fun u s1 ⟨x, H1, I1, r1, q1⟩ => ?_)
  exact thn (hr pos pins s1 σ H1 _ I1 q1) fun us s2 ⟨xs, H2, I2, r2, q2⟩ => ⟨x :: xs, H2, I2, .cons r1 r2, q2⟩

/-- a tuple, a list of written items -/
def tTup (t : TA) : TE := fun σ H Q => t σ H fun xs H1 => xs.length ≤ sizeLine ∧ ∀ p, H1 p = none → Q (.ref p) (upd H1 p (.tup xs))
def tLst (t : TA) : TE := fun σ H Q => t σ H fun xs H1 => xs.length ≤ sizeLine ∧ ∀ p, H1 p = none → Q (.ref p) (upd H1 p (.lst xs))
theorem pe_tup {x1} (h : PA X es t) : PE X (.Tuple es x1 pos) (tTup t) := by
  intro pins s σ H Q I hq
  refine wpAny_Tuple_spliced (thn (h pos pins s σ H _ I hq) fun us s1 ⟨xs, H1, I1, r, z, q⟩ => ⟨by rw [← r.length]; exact z, ?_⟩)
  have hf : H1 s1.heap.objs.size = none := I1.hok.fresh (Nat.le_refl _)
  refine ⟨.ref s1.heap.objs.size, upd H1 s1.heap.objs.size (.tup xs), I1.laid (t' := s1.toks) (fun b u e => Heap.get?_push_of_some _ e) (Nat.le_refl _) ?_, rfl, q _ hf⟩
  exact ⟨z, us, r, ⟨_, Heap.get?_push_size _ rfl, rfl, _, rfl⟩⟩
theorem pe_lst (h : PA X es t) : PE X (.List es pos) (tLst t) := by
  intro pins s σ H Q I hq
  refine wpAny_List_spliced (thn (h pos pins s σ H _ I hq) fun us s1 ⟨xs, H1, I1, r, z, q⟩ => ⟨by rw [← r.length]; exact z, ?_⟩)
  have hf : H1 s1.heap.objs.size = none := I1.hok.fresh (Nat.le_refl _)
  refine ⟨.ref s1.heap.objs.size, upd H1 s1.heap.objs.size (.lst xs), I1.laid (t' := s1.toks) (fun b u e => Heap.get?_push_of_some _ e) (Nat.le_refl _) ?_, rfl, q _ hf⟩
  exact ⟨z, us, 0, r, Heap.get?_push_size _ rfl⟩
end

/-! ### what a def promises -/
/-- a def's promise: the bound arguments in the parameters' order, the heap, the wanted end, the wanted exception -/
abbrev Sp := List V → Hp → VK → XK → Prop
/-- how an exception lies behind a call (file 08 gives it): the callers' frames, abstract heap and state ahead of the call, the wish, the exception, the state -/
abbrev CXT := List Env → Hp → Shared → XK → Value → Shared → Prop

/-- the state at a call -/
structure Env0 (P : Program) (w : World) (K : PySem.W.Frag) (mg : Str → Option Value) (base : Heap) (A : Around) (outer : List Env) (s : Shared) (H : Hp) : Prop where
  frames : A.frames = some outer
  mod : Mod K mg base
  bs : ∀ b o, base.get? b = some o → s.heap.get? b = some o ∧ H b = none
  bsz : base.objs.size ≤ s.heap.objs.size
  funs : s.heap.FunFrames base outer
  frf : ∀ b ∈ frs outer, H b = none
  hok : HOk P w H s.heap
  bare : AllBare s.gens
/-- a call's end -/
def CE (outer : List Env) (P : Program) (w : World) (H : Hp) (s : Shared) (Q : VK) (u : Value) (s' : Shared) : Prop :=
  ∃ v H', s'.os = s.os ∧ AllBare s'.gens ∧ Un (frs outer) [] H H' s.heap s'.heap ∧ HOk P w H' s'.heap ∧ RelV v u ∧ Q v H'
def CR (CX : CXT) (outer : List Env) (P : Program) (w : World) (H : Hp) (s : Shared) (Q : VK) (E : XK) (r : Result) (s' : Shared) : Prop :=
  match r with
  | .ok (.ret u) => CE outer P w H s Q u s'
  | .ok _ => False
  | .error e => CX outer H s E e s'
structure FnOk (P : Program) (w : World) (K : PySem.W.Frag) (mg : Str → Option Value) (base : Heap) (CX : CXT) (k : Nat) (f : Addr) (fd : FuncData) (ps : List Str) (sp : Sp) : Prop where
  len : ∀ vs H Q E, sp vs H Q E → vs.length = ps.length
  run : ∀ (A : Around) (outer : List Env) (s : Shared) (H : Hp) (args : Args) (us : List Value) (vs : List V) (Q : VK) (E : XK), Room k A → Env0 P w K mg base A outer s H → BindsTo s fd args (ps.zip us) → Vals vs us → sp vs H Q E →
    codeAny (model P w) A (.call (.ref f) args) (CR CX outer P w H s Q E) s

theorem Env0.make {P : Program} {w : World} {K : PySem.W.Frag} {mg : Str → Option Value} {base : Heap} {A : Around} {outer : List Env} {s : Shared} {H : Hp} (e : Env0 P w K mg base A outer s H) (C : Addr) (us : List Value) (kw : List (Str × Value)) :
    Env0 P w K mg base (A.under (.builtin "type.__call__" ⟨.ref C :: us, kw⟩)) outer s H := ⟨by first | exact e.frames | (simpa [Around.under, Code.envs, Code.isFrame, pushEnvs] using e.frames), e.mod, e.bs, e.bsz, e.funs, e.frf, e.hok, e.bare⟩
theorem Env0.in1 {P : Program} {w : World} {K : PySem.W.Frag} {mg : Str → Option Value} {base : Heap} {A : Around} {outer : List Env} {s : Shared} {H : Hp} (e : Env0 P w K mg base A outer s H) :
    Env0 P w K mg base A.in1 outer s H := ⟨e.frames, e.mod, e.bs, e.bsz, e.funs, e.frf, e.hok, e.bare⟩

section
variable {X : Cx} {pins : List (Addr × Obj)} {σ : St} {H : Hp} {s s' : Shared}
/-- from a body: what a callee wants -/
theorem Inv.env0 (I : Inv X pins σ H s) : Env0 X.prog X.w X.K X.mg X.base X.A X.stack s H :=
  ⟨I.ok.frames, I.ok.mod, I.bs, Nat.le_trans I.ok.bsz I.sz, I.stack, I.stkFree, I.hok, I.bare⟩
/-- behind a call -/
theorem Inv.after {Q : VK} {u : Value} (I : Inv X pins σ H s) (h : CE X.stack X.prog X.w H s Q u s') : EP X pins σ Q u s' := by
  obtain ⟨v, H', os, bare, un, hok, r, q⟩ := h
  obtain ⟨hh, g, d, t, os'⟩ := s'
  obtain rfl : os' = s.os := os
  exact ⟨v, H', I.call (h' := hh) (g' := g) (d' := d) (t' := t) (ch := []) un hok bare (fun b z => absurd z (by simp)), r, q⟩
end

/-! ### calls -/
/-- f(..): the written arguments, then the defaults dvs; E: what is wanted of an exception -/
def tCall (sp : Sp) (dvs : List V) (E : XK) (t : TA) : TE := fun σ H Q => t σ H fun vs H1 => sp (vs ++ dvs) H1 Q E
/-- o.m(..) of an instance of the class at C -/
def tMeth (C : Addr) (m : Str) (sp : Sp) (dvs : List V) (E : XK) (ta : TE) (t : TA) : TE := fun σ H Q => ta σ H fun x H1 => ∃ a dx fs, x = .ref a ∧ H1 a = some (.ins C dx fs) ∧ fs.lookup m = none ∧
  t σ H1 fun vs H2 => sp (x :: (vs ++ dvs)) H2 Q E
/-- C(..): a new instance and its dict, then __init__ -/
def tMake (C : Addr) (sp : Sp) (dvs : List V) (E : XK) (t : TA) : TE := fun σ H Q => t σ H fun vs H1 => ∀ x dx, H1 x = none → H1 dx = none → dx ≠ x →
  sp (.ref x :: (vs ++ dvs)) (upd (upd H1 dx (.own x)) x (.ins C dx [])) (fun v H2 => v = .non ∧ Q (.ref x) H2) E

/-- how the parameters are bound: us the positional arguments, kw the keywords' values by name, ds the defaults that fill up -/
def Binds (K : PySem.W.Frag) (fd : FuncData) (ps : List Str) (ds : List Value) : Prop :=
  ∀ (s : Shared) (us : List Value), K.In s.heap → (us ++ ds).length = ps.length → BindsTo s fd ⟨us, []⟩ (ps.zip (us ++ ds))
/-- every parameter is given -/
theorem Binds.all {K : PySem.W.Frag} {fd : FuncData} {ps : List Str} (h : ∀ us : List Value, us.length = ps.length → bindArgs fd ⟨us, []⟩ = pure (ps.zip us)) : Binds K fd ps [] := fun s us _ hl => by
  rw [List.append_nil] at hl ⊢
  exact .of_eq (h us hl)

/-- an exception of a callee reaches what this body wants of exceptions -/
def Passes (CX : CXT) (X : Cx) (E : XK) : Prop := ∀ (pins : List (Addr × Obj)) (σ : St) (H : Hp) (s : Shared) (e : Value) (s' : Shared), Inv X pins σ H s → CX X.stack H s E e s' → X.xe e s'

section
variable {X : Cx} {CX : CXT} {k : Nat} {f C : Addr} {fd : FuncData} {ps : List Str} {sp : Sp} {dvs : List V} {ds : List Value} {E : XK} {x m : Str} {p pos apos : Pos} {e o : Expr} {es : List Expr} {ta : TE} {t : TA}

/-- the callee runs -/
theorem run_fn {pins : List (Addr × Obj)} {σ : St} {H : Hp} {s : Shared} {Q : VK} {us : List Value} {vs : List V} (F : FnOk X.prog X.w X.K X.mg X.base CX k f fd ps sp) (hr : Room k X.A) (hb : Binds X.K fd ps ds) (hd : Vals dvs ds) (hx : Passes CX X E)
    (I : Inv X pins σ H s) (r : Vals vs us) (h : sp (vs ++ dvs) H Q E) : wpAny (model X.prog X.w) X.A (call (.ref f) us) (EP X pins σ Q) X.xe s := by
  have r2 : Vals (vs ++ dvs) (us ++ ds) := r.append hd
  have hl : (us ++ ds).length = ps.length := by rw [← r2.length]; exact F.len _ _ _ _ h
  refine wpAny_call (codeAny_mono (F.run X.A X.stack s H ⟨us, []⟩ (us ++ ds) (vs ++ dvs) Q E hr I.env0 (hb s us I.kIn hl) r2 h) fun r s' hq => ?_)
  cases r with
  | error e => exact hx pins σ H s e s' I hq
  | ok fl =>
    cases fl with
    | ret u => exact I.after hq
    | next => exact False.elim hq
    | brk => exact False.elim hq
    | cont => exact False.elim hq

theorem pe_call (F : FnOk X.prog X.w X.K X.mg X.base CX k f fd ps sp) (hr : Room k X.A) (hg : Gl X x) (hm : X.mg x = some (.ref f)) (hk : PySem.W.keepIn X.K (.ref f) = true) (hb : Binds X.K fd ps ds) (hd : Vals dvs ds) (hx : Passes CX X E)
    (ha : PA X (e :: es) t) (hdb : (x == ("__debug__" : Str)) = false := by decide) (he : starEach (e :: es) X.env = (false, eval e X.env) :: starEach es X.env := by rfl) (hpl : (backTo pos (starEach es X.env)).any (·.1) = false := by rfl) :
    PE X (.Call (.Name x p) (e :: es) [] pos) (tCall sp dvs E t) := by
  intro pins s σ H Q I h
  refine wpAny_Call_Name_kw (ld_glob I hg hm ?_ hdb)
  refine PySem.W.callWith_K (h₀ := X.base) I.ok.mod.kin hk (thn (ha pos pins s σ H _ I h) fun us s1 ⟨vs, H1, I1, r, q⟩ => ⟨I1.kIn, ?_⟩) he hpl
  exact run_fn F hr hb hd hx I1 r q

/-- o.m(e, ..) -/
theorem pe_meth {pl : Sem Bool} (he : PE X o ta) (c : Cls X.K C) (hm : Meth X.K C m f) (F : FnOk X.prog X.w X.K X.mg X.base CX k f fd ps sp) (hr : Room k X.A) (hb : Binds X.K fd ps ds) (hd : Vals dvs ds) (hx : Passes CX X E) (ha : PA X (e :: es) t)
    (hst : starEach (e :: es) X.env = (false, eval e X.env) :: starEach es X.env := by rfl) (hpl : (backTo pos (starEach es X.env)).any (·.1) = false := by rfl)
    (ht : eval (.Call (.Attribute o m apos) (e :: es) [] pos) X.env = (do
      let ov ← eval o X.env
      standAt apos.atName
      let (f, first) ← holding [ov] (getMethod ov m pl)
      callWith pos f first (backTo pos (starEach (e :: es) X.env)) (backToKw pos (keywordEach [] X.env))) := by rfl) :
    PE X (.Call (.Attribute o m apos) (e :: es) [] pos) (tMeth C m sp dvs E ta t) := by
  intro pins s σ H Q I h
  refine PySem.W.methodCall_KW (pl := pl) (thn (he pins s σ H _ I h) fun u s1 ⟨x, H1, I1, rx, a, dx, fs, ex, ea, l, q⟩ => ?_) ht
  subst ex
  obtain rfl : u = Value.ref a := rx
  refine getmeth_ok I1 ea c hm l ?_
  refine PySem.W.callWith_K (first := [.ref a]) (h₀ := X.base) I.ok.mod.kin hm.kp (thn (ha pos pins s1 σ H1 _ I1 q) fun us s2 ⟨vs, H2, I2, r, q2⟩ => ⟨I2.kIn, ?_⟩) hst hpl
  exact run_fn (us := .ref a :: us) (vs := .ref a :: vs) F hr hb hd hx I2 (.cons rfl r) q2
/-- o.m() -/
theorem pe_meth0 {pl : Sem Bool} (he : PE X o ta) (c : Cls X.K C) (hm : Meth X.K C m f) (F : FnOk X.prog X.w X.K X.mg X.base CX k f fd ps sp) (hr : Room k X.A) (hb : Binds X.K fd ps ds) (hd : Vals dvs ds) (hx : Passes CX X E)
    (ht : eval (.Call (.Attribute o m apos) [] [] pos) X.env = (do
      let ov ← eval o X.env
      standAt apos.atName
      let (f, first) ← holding [ov] (getMethod ov m pl)
      callWith pos f first (backTo pos (starEach [] X.env)) (backToKw pos (keywordEach [] X.env))) := by rfl) :
    PE X (.Call (.Attribute o m apos) [] [] pos) (tMeth C m sp dvs E ta tNil) := by
  intro pins s σ H Q I h
  refine PySem.W.methodCall_KW (pl := pl) (thn (he pins s σ H _ I h) fun u s1 ⟨x, H1, I1, rx, a, dx, fs, ex, ea, l, q⟩ => ?_) ht
  subst ex
  obtain rfl : u = Value.ref a := rx
  refine getmeth_ok I1 ea c hm l ?_
  exact PySem.W.callWith_K0 (first := [.ref a]) I1.kIn hm.kp (run_fn (us := [.ref a]) (vs := [.ref a]) F hr hb hd hx I1 (.cons rfl .nil) q)

/-- what a class must have to be made -/
structure Mk (K : PySem.W.Frag) (C f : Addr) : Prop where
  makes : PySem.W.makesIn K C = true
  init : PySem.W.findIn K (.ref C) "__init__" = some (some (.ref f))
  fn : PySem.W.isFn K (.ref f) = true
  kp : PySem.W.keepIn K (.ref C) = true

theorem run_make {pins : List (Addr × Obj)} {σ : St} {H : Hp} {s : Shared} {Q : VK} {us : List Value} {vs : List V} (M : Mk X.K C f) (F : FnOk X.prog X.w X.K X.mg X.base CX k f fd ps sp) (hr : Room (k + 1) X.A) (hb : Binds X.K fd ps ds) (hd : Vals dvs ds)
    (hx : Passes CX X E) (I : Inv X pins σ H s) (r : Vals vs us)
    (h : ∀ x dx, H x = none → H dx = none → dx ≠ x → sp (.ref x :: (vs ++ dvs)) (upd (upd H dx (.own x)) x (.ins C dx [])) (fun v H2 => v = .non ∧ Q (.ref x) H2) E) :
    wpAny (model X.prog X.w) X.A (call (.ref C) us) (EP X pins σ Q) X.xe s := by
  have hq := h (s.heap.objs.size + 1) s.heap.objs.size (I.hok.fresh (Nat.le_succ _)) (I.hok.fresh (Nat.le_refl _)) (Nat.ne_of_lt (Nat.lt_succ_self _))
  have I2 := Inv.made (C := C) I
  have r2 : Vals (V.ref (s.heap.objs.size + 1) :: (vs ++ dvs)) (Value.ref (s.heap.objs.size + 1) :: (us ++ ds)) := .cons rfl (r.append hd)
  have hl : (Value.ref (s.heap.objs.size + 1) :: us ++ ds).length = ps.length := by
    have e := r2.length
    rw [F.len _ _ _ _ hq] at e
    exact e.symm
  refine wpAny_call (make_map (f := f) I.kIn M.makes M.init (beq_iff_eq.mp M.fn) (codeAny_mono (F.run _ X.stack _ _ ⟨Value.ref (s.heap.objs.size + 1) :: us, []⟩ (Value.ref (s.heap.objs.size + 1) :: (us ++ ds)) _ _ E (hr.make C us [])
    (I2.env0.make C us []) (hb _ (Value.ref (s.heap.objs.size + 1) :: us) I2.kIn hl) r2 hq) fun r s' hq' => ?_))
  cases r with
  | error e => exact hx pins σ _ _ e s' I2 hq'
  | ok fl =>
    cases fl with
    | ret u =>
      obtain ⟨v, H', I3, rv, ev, q3⟩ := I2.after hq'
      subst ev
      exact ⟨rv, ⟨V.ref (s.heap.objs.size + 1), H', I3, rfl, q3⟩⟩
    | next => exact False.elim hq'
    | brk => exact False.elim hq'
    | cont => exact False.elim hq'
theorem pe_make (M : Mk X.K C f) (F : FnOk X.prog X.w X.K X.mg X.base CX k f fd ps sp) (hr : Room (k + 1) X.A) (hg : Gl X x) (hm : X.mg x = some (.ref C)) (hb : Binds X.K fd ps ds) (hd : Vals dvs ds) (hx : Passes CX X E)
    (ha : PA X (e :: es) t) (hdb : (x == ("__debug__" : Str)) = false := by decide) (he : starEach (e :: es) X.env = (false, eval e X.env) :: starEach es X.env := by rfl) (hpl : (backTo pos (starEach es X.env)).any (·.1) = false := by rfl) :
    PE X (.Call (.Name x p) (e :: es) [] pos) (tMake C sp dvs E t) := by
  intro pins s σ H Q I h
  refine wpAny_Call_Name_kw (ld_glob I hg hm ?_ hdb)
  refine PySem.W.callWith_K (h₀ := X.base) I.ok.mod.kin M.kp (thn (ha pos pins s σ H _ I h) fun us s1 ⟨vs, H1, I1, r, q⟩ => ⟨I1.kIn, ?_⟩) he hpl
  exact run_make M F hr hb hd hx I1 r q
theorem pe_make0 (M : Mk X.K C f) (F : FnOk X.prog X.w X.K X.mg X.base CX k f fd ps sp) (hr : Room (k + 1) X.A) (hg : Gl X x) (hm : X.mg x = some (.ref C)) (hb : Binds X.K fd ps ds) (hd : Vals dvs ds) (hx : Passes CX X E)
    (hdb : (x == ("__debug__" : Str)) = false := by decide) : PE X (.Call (.Name x p) [] [] pos) (tMake C sp dvs E tNil) := by
  intro pins s σ H Q I h
  refine wpAny_Call_Name_kw (ld_glob I hg hm ?_ hdb)
  exact PySem.W.callWith_K0 I.kIn M.kp (run_make (us := []) M F hr hb hd hx I .nil h)
end

/-! ### keywords -/
/-- the values of the keywords, from the left -/
def PK (X : Cx) (kws : List Keyword) (t : TA) : Prop :=
  ∀ (pos : Pos) (pins : List (Addr × Obj)) (s : Shared) (σ : St) (H : Hp) (Q : List V → Hp → Prop), Inv X pins σ H s → t σ H Q → wpAny (model X.prog X.w) X.A (evalAll ((backToKw pos (keywordEach kws X.env)).map (·.2))) (AP X pins σ Q) X.xe s
section
variable {X : Cx} {CX : CXT} {k : Nat} {f C : Addr} {fd : FuncData} {ps ks : List Str} {sp : Sp} {E : XK} {x m : Str} {p pos apos kpos : Pos} {e o : Expr} {es : List Expr} {kws : List Keyword} {te ta : TE} {t tk : TA} {nm : Option Str}
theorem pk_nil : PK X [] tNil := fun _ _ _ _ H Q I h => wpAny_evalAll_nil ⟨[], H, I, .nil, h⟩
theorem pk_cons (ha : PE X e te) (hr : PK X kws t) : PK X (⟨nm, e, kpos⟩ :: kws) (tCons te t) := by
  intro pos pins s σ H Q I h
  show wpAny _ _ (evalAll ((do let v ← eval e X.env; standAt pos; pure v) :: (backToKw pos (keywordEach kws X.env)).map (·.2))) _ _ s
  refine wpAny_evalAll_cons (wpAny_bind (thn (ha pins s σ H _ I h) fun u s1 ⟨x, H1, I1, r1, q1⟩ => wpAny_bind (wpAny_standAt (wpAny_pure ?_))))
  exact thn (hr pos pins s1 σ H1 _ I1 q1) fun us s2 ⟨xs, H2, I2, r2, q2⟩ => ⟨x :: xs, H2, I2, .cons r1 r2, q2⟩

variable {g : List Value → List Value → List Value} {gV : List V → List V → List V}
end

/-! ### a def's body keeps its promise -/
/-- names: the parameters first -/
structure FnScope (N P : List Str) (sc : Scope) : Prop where
  kind : sc.kind = .function
  co : sc.isCoroutine = false
  gen : sc.isGenerator = false
  nd : N.Nodup
  pre : N.take P.length = P
  par : ∀ x ∈ P, sc.names.lookup x = some .local ∨ sc.names.lookup x = some .cell
  nofree : ∀ y ∈ sc.names, y.2 ≠ .free

theorem bindL_out {kindOf : Str → Option NameKind} {x : Str} : ∀ {binds : List (Str × Value)} {m : Str → Option Value}, (∀ v, (x, v) ∉ binds) → bindL kindOf binds m x = m x
  | [], _, _ => rfl
  | (n, v) :: r, m, h => by
    unfold bindL
    rw [bindL_out fun w hw => h w (List.mem_cons_of_mem _ hw)]
    split
    · have : x ≠ n := by rintro rfl; exact h v List.mem_cons_self
      simp [this]
    · rfl
theorem bindC_out {kindOf : Str → Option NameKind} {x : Str} : ∀ {binds : List (Str × Value)} {m : Str → Option Value}, (∀ v, (x, v) ∉ binds) → bindC kindOf binds m x = m x
  | [], _, _ => rfl
  | (n, v) :: r, m, h => by
    unfold bindC
    rw [bindC_out fun w hw => h w (List.mem_cons_of_mem _ hw)]
    split
    · rfl
    · have : x ≠ n := by rintro rfl; exact h v List.mem_cons_self
      simp [this]
theorem bindL_get {kindOf : Str → Option NameKind} {x : Str} {v : Value} : ∀ {P : List Str} {vs : List Value} {i : Nat} {m : Str → Option Value}, P.Nodup → P[i]? = some x → vs[i]? = some v → kindOf x = some .local →
    bindL kindOf (P.zip vs) m x = some v
  | [], _, _, _, _, h, _, _ => by simp at h
  | _ :: _, [], _, _, _, _, h, _ => by simp at h
  | p :: P, w :: vs, 0, m, nd, h1, h2, hk => by
    simp at h1 h2; subst h1; subst h2
    show bindL kindOf ((p, w) :: P.zip vs) m p = _
    unfold bindL
    rw [bindL_out fun v hv => (List.nodup_cons.mp nd).1 (List.of_mem_zip hv).1, if_pos hk]
    simp
  | p :: P, w :: vs, i + 1, m, nd, h1, h2, hk => by
    show bindL kindOf ((p, w) :: P.zip vs) m x = _
    unfold bindL
    exact bindL_get (i := i) (List.nodup_cons.mp nd).2 (by simpa using h1) (by simpa using h2) hk
theorem bindC_get {kindOf : Str → Option NameKind} {x : Str} {v : Value} : ∀ {P : List Str} {vs : List Value} {i : Nat} {m : Str → Option Value}, P.Nodup → P[i]? = some x → vs[i]? = some v → kindOf x ≠ some .local →
    bindC kindOf (P.zip vs) m x = some v
  | [], _, _, _, _, h, _, _ => by simp at h
  | _ :: _, [], _, _, _, _, h, _ => by simp at h
  | p :: P, w :: vs, 0, m, nd, h1, h2, hk => by
    simp at h1 h2; subst h1; subst h2
    show bindC kindOf ((p, w) :: P.zip vs) m p = _
    unfold bindC
    rw [bindC_out fun v hv => (List.nodup_cons.mp nd).1 (List.of_mem_zip hv).1, if_neg hk]
    simp
  | p :: P, w :: vs, i + 1, m, nd, h1, h2, hk => by
    show bindC kindOf ((p, w) :: P.zip vs) m x = _
    unfold bindC
    exact bindC_get (i := i) (List.nodup_cons.mp nd).2 (by simpa using h1) (by simpa using h2) hk

/-- the names' values at the entry -/
def start (N : List Str) (vs : List V) : St := vs.map some ++ List.replicate (N.length - vs.length) none

/-- the context of a def's body, at its entry; an exception leaves the frame, then lies as CX says -/
def cxOf (CX : CXT) (P : Program) (w : World) (K : PySem.W.Frag) (mg : Str → Option Value) (base : Heap) (N : List Str) (qual : Str) (scope : Scope) (f : Addr) (cd : Value) (A : Around) (outer : List Env) (s : Shared) (H : Hp) (E : XK) : Cx where
  prog := P
  w := w
  K := K
  mg := mg
  base := base
  A := A.deeper (envOfC qual scope s.heap.objs.size f cd)
  N := N
  s_0 := s
  H_0 := H
  env := envOfC qual scope s.heap.objs.size f cd
  outer := outer
  stack := envOfC qual scope s.heap.objs.size f cd :: outer
  ex := []
  calm := true
  fn := fun _ => true
  pn := []
  xe := fun e s' => wpAny (model P w) (A.deeper (envOfC qual scope s.heap.objs.size f cd)) (leaving (envOfC qual scope s.heap.objs.size f cd) e) (fun _ s'' => CX outer H s E e s'') (fun e' s'' => CX outer H s E e' s'') s'

theorem cell_has {sc : Scope} {n : Nat} {x : Str} (h : sc.names.lookup x = some .cell) : ∃ c, (cellsFrom n sc.names []).lookup x = some c := by
  have q := PySem.W.cellsFrom_some sc.names n [] (.inl h)
  exact Option.isSome_iff_exists.mp q

theorem inv_start {CX : CXT} {P : Program} {w : World} {K : PySem.W.Frag} {mg : Str → Option Value} {base : Heap} {N ps : List Str} {qual : Str} {scope : Scope} {f : Addr} {cd : Value} {A : Around} {outer : List Env} {s s1 : Shared} {H : Hp} {E : XK} {us : List Value} {vs : List V}
    (S : FnScope N ps scope) (hd : A.handled = none) (e0 : Env0 P w K mg base A outer s H) (hl : vs.length = ps.length) (r : Vals vs us)
    (x : InCallC s s.heap.objs.size (bindL (envOfC qual scope s.heap.objs.size f cd).kindOf (ps.zip us) fun _ => none) (cellsFrom (s.heap.objs.size + 1) scope.names []) (bindC (envOfC qual scope s.heap.objs.size f cd).kindOf (ps.zip us) fun _ => none) s1) :
    Inv (cxOf CX P w K mg base N qual scope f cd A outer s H E) [] (start N vs) H s1 := by
  have hpl : ps.length ≤ N.length := by have := congrArg List.length S.pre; rw [List.length_take] at this; omega
  obtain ⟨h1, tk, rfl, hk⟩ := x.done
  have noA : ∀ b : Addr, b ∉ (cxOf CX P w K mg base N qual scope f cd A outer s H E).ex := fun b z => absurd (show b ∈ ([] : List Addr) from z) (by simp)
  refine ⟨⟨e0.mod, S.kind, rfl, rfl, Nat.le_refl _, fun y z c h1 h2 => ?_, fun y hy => ?_, fun y c _ h => ?_, fun _ => hd, Around.frames_deeper e0.frames, .inr ⟨rfl, rfl⟩, fun b z => absurd z (noA b), e0.bs, e0.bsz, fun b _ _ => noA b, fun b z => absurd z (noA b), e0.funs, e0.frf⟩,
    rfl, e0.bare, Un.kept hk, ⟨_, x.toInCall.ns, fun i y v h1 h2 h3 => ?_⟩, fun y c h => ⟨_, x.cell y c h⟩, e0.hok.fresh (Nat.le_refl _), fun y c h => ?_, fun p hp => absurd (show p ∈ ([] : List (Addr × Obj)) from hp) (by simp), e0.hok.kept hk, ?_⟩
  · exact name_of_addr x.apart (PySem.mem_of_lookup h1) (PySem.mem_of_lookup h2)
  · have hy : scope.names.lookup y = some .cell ∨ scope.names.lookup y = some .free := hy
    rcases hy with hy | hy
    · exact cell_has hy
    · exact absurd rfl (S.nofree _ (PySem.mem_of_lookup hy))
  · exact Nat.le_of_lt (x.above y c (PySem.mem_of_lookup h))
  · have hi : i < vs.length := by
      unfold start at h2
      by_cases hi : i < vs.length
      · exact hi
      · rw [List.getElem?_append_right (by simpa using hi)] at h2
        rw [List.getElem?_replicate] at h2
        split at h2 <;> cases h2
    have ha : vs[i]? = some v := by
      unfold start at h2
      rw [List.getElem?_append_left (by simpa using hi), List.getElem?_map] at h2
      cases e : vs[i]? with
      | none => rw [e] at h2; cases h2
      | some a => rw [e] at h2; cases h2; rfl
    obtain ⟨u, hu, rv⟩ := r.get ha
    have hp : ps[i]? = some y := by
      rw [← S.pre, List.getElem?_take_of_lt (by omega)]; exact h1
    have ndP : ps.Nodup := by rw [← S.pre]; exact S.nd.sublist (List.take_sublist _ _)
    refine ⟨u, rv, ?_⟩
    rcases S.par y (List.mem_of_getElem? hp) with k | k
    · exact .inl ⟨k, bindL_get ndP hp hu k⟩
    · obtain ⟨c, e⟩ := cell_has (n := s.heap.objs.size + 1) k
      refine .inr ⟨.inl k, c, e, ?_⟩
      have q := x.cell y c e
      rw [bindC_get ndP hp hu (by show scope.names.lookup y ≠ _; rw [k]; decide)] at q
      exact q
  · exact e0.hok.fresh (Nat.le_of_lt (x.above y c (PySem.mem_of_lookup h)))
  · unfold start
    show _ = N.length
    rw [List.length_append, List.length_map, List.length_replicate]
    omega

/-- THE RULE: a def (or a method) of the text, by its body. The body's reading t is chosen for each entry; it is run at the parameters' values -/
theorem fn_of {CX : CXT} {P : Program} {w : World} {K : PySem.W.Frag} {mg : Str → Option Value} {base : Heap} {k : Nat} {f : Addr} {name qual : Str} {params : Arguments} {body : List Stmt} {scope : Scope} {dV kV doc pm cdv ct oc : Value} {an od : Option Addr}
    {osl : Array (Option Value)} {N ps : List Str} {sp : Sp} (lk : K.lookup f = some ⟨oc, od, .func (PySem.W.fnOf name qual params body scope dV kV doc pm an cdv ct), osl⟩) (hcd : PySem.W.codeIn K cdv qual = true) (S : FnScope N ps scope)
    (len : ∀ vs H Q E, sp vs H Q E → vs.length = ps.length)
    (hbody : ∀ (A : Around) (outer : List Env) (s : Shared) (H : Hp) (vs : List V) (Q : VK) (E : XK), Room k (A.deeper (envOfC qual scope s.heap.objs.size f cdv)) → sp vs H Q E →
      ∃ t, PSs (cxOf CX P w K mg base N qual scope f cdv A outer s H E) body t ∧ t { nx := fun _ H' => Q .non H', rt := Q } (start N vs) H) :
    FnOk P w K mg base CX (k + 1) f (PySem.W.fnOf name qual params body scope dV kV doc pm an cdv ct) ps sp := by
  refine ⟨len, fun A outer s H args us vs Q E hr e0 hb r hsp => ?_⟩
  have hl := len _ _ _ _ hsp
  have KX : K.In s.heap := e0.mod.kin.keeps fun b o e => (e0.bs b o e).1
  have lim : s.heap.NoLimit := e0.mod.nolimit.keeps fun b o e => (e0.bs b o e).1
  have hkind : ∀ y ∈ ps.zip us, scope.names.lookup y.1 = some .local ∨ (scope.names.lookup y.1 = some .cell ∧ ((cellsFrom (s.heap.objs.size + 1) scope.names []).lookup y.1).isSome = true) := fun ⟨n, v⟩ hy => by
    rcases S.par n (List.of_mem_zip hy).1 with q | q
    · exact .inl q
    · exact .inr ⟨q, PySem.W.cellsFrom_some _ _ _ (.inl q)⟩
  refine codeAny_call_function hr.depth (KX _ _ lk) rfl S.co S.gen rfl (PySem.W.codeRec_of KX hcd) (hb _ _ _ _ ?_)
  refine wpAny_newFunctionEnv_cells S.kind hkind fun env he s1 x => ?_
  subst he
  refine ⟨lim.keeps x.toInCall.keep, codeAny_func ?_⟩
  obtain ⟨t, ht, hq⟩ := hbody A outer s H vs Q E (hr.deeper _) hsp
  have I : Inv (cxOf CX P w K mg base N qual scope f cdv A outer s H E) [] (start N vs) H s1 := inv_start S hr.hd e0 hl r x
  refine wpAny_mono (ht [] s1 (start N vs) H _ I hq) (fun fl s' hs => ?_) fun e s' hs => hs
  have fin : ∀ {σ' : St} {H' : Hp} {v : V} {u : Value}, Inv (cxOf CX P w K mg base N qual scope f cdv A outer s H E) [] σ' H' s' → RelV v u → Q v H' → CE outer P w H s Q u s' :=
    fun {σ' H' v u} J rv q => ⟨v, H', J.os, J.bare, J.base, J.hok, rv, q⟩
  cases fl with
  | ret u =>
    obtain ⟨v, σ', H', J, rv, q⟩ := hs
    exact fin J rv q
  | next =>
    obtain ⟨σ', H', J, q⟩ := hs
    exact fin (v := V.non) (u := Value.none) J rfl q
  | brk =>
    obtain ⟨_, _, _, q⟩ := hs
    exact False.elim q
  | cont =>
    obtain ⟨_, _, _, q⟩ := hs
    exact False.elim q
end L2

namespace L2
open PySem PySem.Spec PyProof.Rows
section
variable {X : Cx} {x : Str} {p pos : Pos} {e : Expr} {es : List Expr} {t : TA} {id T : String} {r : List V → Hp → VK → Prop}

def tCB (r : List V → Hp → VK → Prop) (t : TA) : TE := fun σ H Q => t σ H fun vs H1 => r vs H1 Q
/-- f(e, ..), f a built-in function -/
theorem pe_callB (hc : CallR X (.builtin id) r) (hg : Gl X x) (hm : X.mg x = none) (hv : bootBuiltins x = some (.builtin id)) (ha : PA X (e :: es) t) (hn : x ≠ "__name__" := by decide) (hdb : (x == ("__debug__" : Str)) = false := by decide)
    (he : starEach (e :: es) X.env = (false, eval e X.env) :: starEach es X.env := by rfl) (hpl : (backTo pos (starEach es X.env)).any (·.1) = false := by rfl) : PE X (.Call (.Name x p) (e :: es) [] pos) (tCB r t) := by
  intro pins s σ H Q I h
  refine wpAny_Call_Name_kw (ld_blt I hg hm hv ?_ hn hdb)
  exact PyProof.Rows.callWith_builtin1 (thn (ha pos pins s σ H _ I h) fun us s1 ⟨vs, H1, I1, r1, q1⟩ => hc pins s1 σ H1 vs us Q I1 r1 q1) he hpl
/-- T(e, ..), T a built-in type -/
theorem pe_callTy (hc : CallR X (.type T) r) (hg : Gl X x) (hm : X.mg x = none) (hv : bootBuiltins x = some (.type T)) (ha : PA X (e :: es) t) (hn : x ≠ "__name__" := by decide) (hdb : (x == ("__debug__" : Str)) = false := by decide)
    (he : starEach (e :: es) X.env = (false, eval e X.env) :: starEach es X.env := by rfl) (hpl : (backTo pos (starEach es X.env)).any (·.1) = false := by rfl) : PE X (.Call (.Name x p) (e :: es) [] pos) (tCB r t) := by
  intro pins s σ H Q I h
  refine wpAny_Call_Name_kw (ld_blt I hg hm hv ?_ hn hdb)
  exact PyProof.Rows.callWith_type1 (thn (ha pos pins s σ H _ I h) fun us s1 ⟨vs, H1, I1, r1, q1⟩ => hc pins s1 σ H1 vs us Q I1 r1 q1) he hpl
end
end L2

namespace HT
open PySem PyProof.Rows



section
open PySem.SeqAt
open PySem.AutoSeq1 (wpAny_loadPart')
open PySem.MeetsSeq PySem.MeetsSeq2 PySem.MeetsSeq3

end

section
variable {prog : Program} {w : World} {A : Around} {E : Value → Shared → Prop} {s : Shared}



/-! ### t[a:b], not the whole -/
/-- a slice's bound as a place among n (d where it is left out) -/
def sIx (n d : Nat) : Option Int → Nat
  | none => d
  | some v => if v < 0 then (v + (n : Int)).toNat else min v.toNat n
theorem sIx_none (n d : Nat) : sIx n d none = d := rfl
theorem sIx_nat (n d k : Nat) : sIx n d (some (k : Int)) = min k n := by
  show (if (k : Int) < 0 then ((k : Int) + (n : Int)).toNat else min (k : Int).toNat n) = min k n
  rw [if_neg (by omega), Int.toNat_natCast]

end
end HT

namespace L2
open PySem PySem.Spec PyProof.Rows

/-! ### the parts of a slice -/
abbrev TO := St → Hp → (Option Int → Hp → Prop) → Prop
/-- a slice's part (left out, or an int) -/
def PO (X : Cx) (e : Option Expr) (t : TO) : Prop :=
  ∀ (pins : List (Addr × Obj)) (s : Shared) (σ : St) (H : Hp) (Q : Option Int → Hp → Prop), Inv X pins σ H s → t σ H Q →
    wpAny (model X.prog X.w) X.A (evalPart e X.env) (fun u s' => ∃ o H', Inv X pins σ H' s' ∧ IsPart u o ∧ Q o H') X.xe s
def tNoPart : TO := fun _ H Q => Q none H
def tPart (t : TE) : TO := fun σ H Q => t σ H fun x H1 => ∃ i, x = .int i ∧ Q (some i) H1


section
variable {X : Cx} {e : Expr} {te : TE} {lo hi : Option Expr} {tl th : TO} {pos p2 : Pos}

theorem po_none : PO X none tNoPart := by
  intro pins s σ H Q I h
  rw [evalPart_none]
  exact wpAny_pure ⟨none, H, I, .none, h⟩
theorem po_some (h : PE X e te) : PO X (some e) (tPart te) := by
  intro pins s σ H Q I hw
  rw [evalPart_some]
  refine thn (h pins s σ H _ I hw) fun u s1 ⟨x, H1, I1, r1, q1⟩ => ?_
  obtain ⟨i, rfl, q⟩ := q1
  obtain ⟨t, rfl⟩ := r1
  exact ⟨some i, H1, I1, .int i t, q⟩

/-- what a slice of a value is, by values: the slice object stands at sl -/
def SlR (X : Cx) (r : V → Option Int → Option Int → Hp → VK → Prop) : Prop :=
  ∀ (pins : List (Addr × Obj)) (s : Shared) (σ : St) (H : Hp) (x : V) (v vl vu : Value) (lo hi : Option Int) (sl : Addr) (Q : VK), Inv X pins σ H s → RelV x v → s.heap.IsSliceOf sl vl vu .none → IsPart vl lo → IsPart vu hi → r x lo hi H Q →
    ∃ T id, typeLookup (.type T) "__getitem__" = pure (some (.builtin id)) ∧ s.TypeIs v T ∧ wpAny (model X.prog X.w) X.A (getItem v (.ref sl)) (EP X pins σ Q) X.xe s
def tSl (r : V → Option Int → Option Int → Hp → VK → Prop) (te : TE) (tl th : TO) : TE := fun σ H Q => te σ H fun x H1 => tl σ H1 fun l H2 => th σ H2 fun u H3 => r x l u H3 Q
/-- a[lo:hi], any a -/
theorem pe_slice {r : V → Option Int → Option Int → Hp → VK → Prop} (hr : SlR X r) (he : PE X e te) (hl : PO X lo tl) (hu : PO X hi th) : PE X (.Subscript e (.Slice lo hi none p2) pos) (tSl r te tl th) := by
  intro pins s σ H Q I h
  refine Subscript_ (thn (he pins s σ H _ I h) fun v s1 ⟨x, H1, I1, r1, q1⟩ => ?_)
  refine wpAny_Slice (thn (hl pins s1 σ H1 _ I1 q1) fun vl s2 ⟨l, H2, I2, pl, q2⟩ => thn (hu pins s2 σ H2 _ I2 q2) fun vu s3 ⟨u, H3, I3, pu, q3⟩ => ?_)
  rw [evalPart_none]
  refine wpAny_pure ?_
  have I4 : Inv X pins σ H3 { s3 with heap := s3.heap.push { cls := .type "slice", data := .fields #[vl, vu, .none] } } := I3.kept (t' := s3.toks) fun b ob q => Heap.get?_push_of_some _ q
  obtain ⟨T, id, hT, ht, hg⟩ := hr pins { s3 with heap := s3.heap.push { cls := .type "slice", data := .fields #[vl, vu, .none] } } σ H3 x v vl vu l u s3.heap.objs.size Q I4 r1 (Heap.IsSliceOf.new ..) pl pu q3
  show wpAny (model X.prog X.w) X.A (subscriptTail e (.Slice lo hi none p2) v (.ref s3.heap.objs.size)) (EP X pins σ Q) X.xe { s3 with heap := s3.heap.push { cls := .type "slice", data := .fields #[vl, vu, .none] } }
  exact tail_any (ops := [.ref s3.heap.objs.size, v]) ht hT hg (by with_unfolding_all rfl)

/-- the items of xs[lo:hi] -/
def cutV (xs : List V) (lo hi : Option Int) : List V := (xs.drop (HT.sIx xs.length 0 lo)).take (HT.sIx xs.length xs.length hi - HT.sIx xs.length 0 lo)
theorem cutV_length (xs : List V) (lo hi : Option Int) : (cutV xs lo hi).length ≤ xs.length := by
  unfold cutV
  rw [List.length_take, List.length_drop]
  omega

/-! ### t < u, t + u -/
end
end L2

namespace L2
open PySem PySem.Spec PyProof.Rows

/-! ### places -/
/-- the place that an index of any sign means -/
def ixN (n : Nat) (i : Int) : Option Nat := if 0 ≤ i then (if i < n then some i.toNat else none) else if -(n : Int) ≤ i then some (i + n).toNat else none
def atI {α : Type} (xs : List α) (i : Int) : Option α := (ixN xs.length i).bind fun j => xs[j]?
theorem ixN_seq {n : Nat} {i : Int} {j : Nat} (h : ixN n i = some j) : seqIndex? i n = some j ∧ j < n ∧ -(n : Int) ≤ i ∧ i < n := by
  unfold ixN at h
  by_cases h0 : 0 ≤ i
  · rw [if_pos h0] at h
    by_cases h1 : i < n
    · rw [if_pos h1] at h
      have e : i.toNat = j := Option.some.inj h
      exact ⟨by rw [seqIndex_of h0 h1, e], by omega, by omega, h1⟩
    · rw [if_neg h1] at h; cases h
  · rw [if_neg h0] at h
    by_cases h1 : -(n : Int) ≤ i
    · rw [if_pos h1] at h
      have e : (i + n).toNat = j := Option.some.inj h
      exact ⟨by rw [seqIndex_neg (by omega) h1, e], by omega, h1, by omega⟩
    · rw [if_neg h1] at h; cases h
theorem atI_get {α : Type} {xs : List α} {i : Int} {v : α} (h : atI xs i = some v) : ∃ j, seqIndex? i xs.length = some j ∧ xs[j]? = some v ∧ j < xs.length ∧ -(xs.length : Int) ≤ i ∧ i < xs.length := by
  unfold atI at h
  cases e : ixN xs.length i with
  | none => rw [e] at h; cases h
  | some j =>
    rw [e] at h
    obtain ⟨h1, h2, h3, h4⟩ := ixN_seq e
    exact ⟨j, h1, h, h2, h3, h4⟩
theorem atI_nat {α : Type} {xs : List α} {j : Nat} {v : α} (h : xs[j]? = some v) : atI xs (j : Int) = some v := by
  have hj : j < xs.length := (List.getElem?_eq_some_iff.mp h).1
  have e : ixN xs.length (j : Int) = some j := by
    unfold ixN
    rw [if_pos (by omega), if_pos (by omega)]; simp
  unfold atI; rw [e]; exact h

/-! ### what may be subscripted -/
/-- what stands as an index of a plain subscript -/
def PlainIx (b : Expr) : Prop := ∀ o i, subscripted b false o i = operate [o, i] (getItem o i)
/-- a subscript by values -/
def IxR (X : Cx) (r : R2) : Prop :=
  ∀ (value slice : Expr) (pins : List (Addr × Obj)) (s : Shared) (σ : St) (H : Hp) (x y : V) (v u : Value) (Q : VK), Inv X pins σ H s → RelV x v → RelV y u → r x y H Q →
    subscripted slice false v u = operate [v, u] (getItem v u) → wpAny (model X.prog X.w) X.A (subscriptTail value slice v u) (EP X pins σ Q) X.xe s
/-- a call of a builtin's method by values: the receiver, the arguments -/
def MtR (X : Cx) (id : String) (r : V → List V → Hp → VK → Prop) : Prop :=
  ∀ (pins : List (Addr × Obj)) (s : Shared) (σ : St) (H : Hp) (x : V) (xs : List V) (v : Value) (us : List Value) (Q : VK), Inv X pins σ H s → RelV x v → Vals xs us → r x xs H Q →
    wpAny (model X.prog X.w) X.A (call (.builtin id) (v :: us)) (EP X pins σ Q) X.xe s
section
variable {X : Cx} {a b : Expr} {ta tb : TE} {pos : Pos}
/-- a[b] -/
theorem pe_ix {r : R2} (hr : IxR X r) (ha : PE X a ta) (hb : PE X b tb) (hs : PlainIx b) : PE X (.Subscript a b pos) (tOp r ta tb) := by
  intro pins s σ H Q I h
  exact Subscript_ (binT ha hb I h fun v u s2 x y H2 I2 rx ry q => hr a b pins s2 σ H2 x y v u Q I2 rx ry q (hs _ _))

def rIxL (K : PySem.W.Frag) : R2 := fun x y H Q => ∃ p xs i v, x = .ref p ∧ y = .int i ∧ SqL K H p xs ∧ atI xs i = some v ∧ Q v H
def rIxT (K : PySem.W.Frag) : R2 := fun x y H Q => ∃ p xs i v, x = .ref p ∧ y = .int i ∧ SqT K H p xs ∧ atI xs i = some v ∧ Q v H
theorem ix_list : IxR X (rIxL X.K) := by
  intro value slice pins s σ H x y v u Q I rx ry h hs
  obtain ⟨p, xs, i, z, rfl, rfl, hq, he, q⟩ := h
  cases rx
  obtain ⟨t, rfl⟩ := ry
  obtain ⟨its, r, pl, hz⟩ := I.list hq
  obtain ⟨j, h1, h2, h3, h4, h5⟩ := atI_get he
  obtain ⟨w, ew, rw'⟩ := r.get h2
  have hl := r.length
  have hn := line63
  have fin : EP X pins σ Q w s := ⟨z, H, I, rw', q⟩
  by_cases h0 : 0 ≤ i
  · have hj : i.toNat = j := by
      rw [seqIndex_of h0 h5] at h1
      exact Option.some.inj h1
    exact item_listR pl.isList h0 (by omega) (by rw [hj]; simpa using ew) fin hs
  · have hj : (i + (its.toArray.size : Int)).toNat = j := by
      rw [seqIndex_neg (by omega) h4] at h1
      rw [List.size_toArray, ← hl]
      exact Option.some.inj h1
    exact subscriptTail_builtinR (x := w) pl.isList.typeIs slot_list_getitem.lookup
      (wpAny_getItem_list_neg (Q := fun r s' => r = w ∧ EP X pins σ Q r s') pl.isList (by omega) (by rw [List.size_toArray] <;> omega) (by omega) (by rw [hj]; simpa using ew) ⟨rfl, fin⟩) hs
theorem ix_tup : IxR X (rIxT X.K) := by
  intro value slice pins s σ H x y v u Q I rx ry h hs
  obtain ⟨p, xs, i, z, rfl, rfl, hq, he, q⟩ := h
  cases rx
  obtain ⟨t, rfl⟩ := ry
  obtain ⟨its, r, pl, hz⟩ := I.tuple hq
  obtain ⟨j, h1, h2, h3, h4, h5⟩ := atI_get he
  obtain ⟨w, ew, rw'⟩ := r.get h2
  have hl := r.length
  have hn := line63
  have fin : EP X pins σ Q w s := ⟨z, H, I, rw', q⟩
  exact subscriptTail_builtinR (x := w) pl.typeIs slot_tuple_getitem.lookup
    (getItem_tuple (j := j) (Q := fun r s' => r = w ∧ EP X pins σ Q r s') pl (by omega) (by omega) (by rw [List.size_toArray, ← hl]; exact h1) (by simpa using ew) ⟨rfl, fin⟩) hs

/-! ### xs[i] = v, any sign -/

/-! ### slices -/
theorem slice_bounds (lo hi : Option Int) (n : Nat) : (sliceBounds lo hi none n).1 = ((HT.sIx n 0 lo : Nat) : Int) ∧ (sliceBounds lo hi none n).2.1 = ((HT.sIx n n hi : Nat) : Int) ∧ (sliceBounds lo hi none n).2.2 = 1 := by
  refine ⟨?_, ?_, rfl⟩
  · cases lo with
    | none => simp [sliceBounds, HT.sIx]
    | some i =>
      simp only [sliceBounds, HT.sIx, Option.getD_none, show (1 : Int) > 0 by decide, if_true]
      by_cases h : i < 0
      · simp only [h, if_true] <;> omega
      · simp only [h, if_false] <;> omega
  · cases hi with
    | none => simp [sliceBounds, HT.sIx]
    | some i =>
      simp only [sliceBounds, HT.sIx, Option.getD_none, show (1 : Int) > 0 by decide, if_true]
      by_cases h : i < 0
      · simp only [h, if_true] <;> omega
      · simp only [h, if_false] <;> omega
theorem slicePick_cut (its : List Value) (lo hi : Option Int) : slicePick its.toArray lo hi none = ((its.drop (HT.sIx its.length 0 lo)).take (HT.sIx its.length its.length hi - HT.sIx its.length 0 lo)).toArray := by
  obtain ⟨h1, h2, h3⟩ := slice_bounds lo hi its.toArray.size
  unfold slicePick
  rw [h1, h2, h3]
  simp only [sliceRange_one, pick_run, List.size_toArray] <;> rfl
/-- xs[lo:hi] of a list: a new list -/
def rSlL (K : PySem.W.Frag) : V → Option Int → Option Int → Hp → VK → Prop := fun x lo hi H Q => ∃ a xs, x = .ref a ∧ SqL K H a xs ∧ ∀ p, H p = none → Q (.ref p) (upd H p (.lst (cutV xs lo hi)))
theorem sl_list : SlR X (rSlL X.K) := by
  intro pins s σ H x v vl vu lo hi sl Q I rx hs pl pu h
  obtain ⟨a, xs, rfl, hx, q⟩ := h
  cases rx
  obtain ⟨its, r, ht, hz⟩ := I.list hx
  have hlen := r.length
  refine ⟨"list", _, slot_list_getitem.lookup, ht.isList.typeIs, ?_⟩
  refine wpAny_getItem_list_slice ht.isList hs pl pu .none (by simp) ?_ (by rw [List.size_toArray] <;> omega)
  rw [slicePick_cut, ← hlen]
  refine ⟨.ref s.heap.objs.size, _, I.laid (t' := s.toks) (o := .lst (cutV xs lo hi)) (fun b ob q => Heap.get?_push_of_some _ q) (Nat.le_refl _) ?_, rfl, q _ (I.hok.fresh (Nat.le_refl _))⟩
  exact ⟨Nat.le_trans (cutV_length xs lo hi) hz, _, 0, (r.drop (HT.sIx xs.length 0 lo)).take (HT.sIx xs.length xs.length hi - HT.sIx xs.length 0 lo), Heap.get?_push_size _ rfl⟩

/-! ### in, not in: flat items -/
def flatV : V → Bool
  | .non => true
  | .bl _ => true
  | .int _ => true
  | .str _ => true
  | _ => false
/-- == of flat values -/
def eqV : V → V → Bool
  | .non, .non => true
  | .bl a, .bl b => a == b
  | .bl a, .int b => (if a then 1 else 0) == b
  | .int a, .bl b => a == (if b then 1 else 0)
  | .int a, .int b => a == b
  | .str a, .str b => a == b
  | _, _ => false
theorem eqAt_V {A : Around} {s : Shared} {y x : V} {u v : Value} (ry : RelV y u) (rx : RelV x v) (fy : flatV y = true) (fx : flatV x = true) : SeqAt.EqAt A s u v (eqV y x) := by
  cases y with
  | non =>
    cases ry
    cases x with
    | non => cases rx; exact SeqAt.EqAt.same _
    | bl b => cases rx; exact SeqAt.EqAt.none_bool b
    | int b => obtain ⟨t, rfl⟩ := rx; exact SeqAt.EqAt.none_int b t
    | str b => obtain ⟨t, rfl⟩ := rx; exact SeqAt.EqAt.none_str b t
    | _ => exact absurd (show false = true from fx) Bool.false_ne_true
  | bl a =>
    cases ry
    cases x with
    | non => cases rx; exact SeqAt.EqAt.bool_none a
    | bl b => cases rx; exact SeqAt.EqAt.bool_bool a b
    | int b => obtain ⟨t, rfl⟩ := rx; exact SeqAt.EqAt.bool_int a b t
    | str b => obtain ⟨t, rfl⟩ := rx; exact SeqAt.EqAt.bool_str a b t
    | _ => exact absurd (show false = true from fx) Bool.false_ne_true
  | int a =>
    obtain ⟨t', rfl⟩ := ry
    cases x with
    | non => cases rx; exact SeqAt.EqAt.int_none a t'
    | bl b => cases rx; exact SeqAt.EqAt.int_bool a t' b
    | int b => obtain ⟨t, rfl⟩ := rx; exact SeqAt.EqAt.int_int a t' b t
    | str b => obtain ⟨t, rfl⟩ := rx; exact SeqAt.EqAt.int_str a t' b t
    | _ => exact absurd (show false = true from fx) Bool.false_ne_true
  | str a =>
    obtain ⟨t', rfl⟩ := ry
    cases x with
    | non => cases rx; exact SeqAt.EqAt.str_none a t'
    | bl b => cases rx; exact SeqAt.EqAt.str_bool a t' b
    | int b => obtain ⟨t, rfl⟩ := rx; exact SeqAt.EqAt.str_int a t' b t
    | str b => obtain ⟨t, rfl⟩ := rx; exact SeqAt.EqAt.str_str a t' b t
    | _ => exact absurd (show false = true from fx) Bool.false_ne_true
  | _ => exact absurd (show false = true from fy) Bool.false_ne_true
/-- the items' answers, read off the values (a value's own answer does not lean on its token) -/
def eqU (x : V) (u : Value) : Bool := match u with
  | .none => eqV .non x
  | .bool b => eqV (.bl b) x
  | .int i _ => eqV (.int i) x
  | .str z _ => eqV (.str z) x
  | _ => false
theorem eqU_of {x y : V} {u : Value} (r : RelV y u) (f : flatV y = true) : eqU x u = eqV y x := by
  cases y with
  | non => cases r; rfl
  | bl b => cases r; rfl
  | int i => obtain ⟨t, rfl⟩ := r; rfl
  | str z => obtain ⟨t, rfl⟩ := r; rfl
  | _ => exact absurd (show false = true from f) Bool.false_ne_true
theorem any_eqU {x : V} : ∀ {xs : List V} {us : List Value}, Vals xs us → xs.all flatV = true → us.any (eqU x) = xs.any fun y => eqV y x
  | _, _, .nil, _ => rfl
  | y :: xs, u :: us, .cons r t, f => by
    rw [List.all_cons, Bool.and_eq_true] at f
    rw [List.any_cons, List.any_cons, eqU_of r f.1, any_eqU t f.2]
theorem mem_eqAt {A : Around} {s : Shared} {x : V} {v : Value} (rx : RelV x v) (fx : flatV x = true) : ∀ {xs : List V} {us : List Value}, Vals xs us → xs.all flatV = true → ∀ u ∈ us, SeqAt.EqAt A s u v (eqU x u)
  | _, _, .nil, _ => fun u hu => by cases hu
  | y :: xs, u :: us, .cons r t, f => fun u' hu => by
    rw [List.all_cons, Bool.and_eq_true] at f
    rcases List.mem_cons.mp hu with rfl | hu
    · rw [eqU_of r f.1]; exact eqAt_V r rx f.1 fx
    · exact mem_eqAt rx fx t f.2 u' hu
def inV (x : V) (xs : List V) : Bool := xs.any fun y => eqV y x
/-- x in a list or tuple of flat items -/
def rIn (K : PySem.W.Frag) (neg : Bool) : R2 := fun x y H Q => ∃ p xs, y = .ref p ∧ (SqL K H p xs ∨ SqT K H p xs) ∧ flatV x = true ∧ xs.all flatV = true ∧ Q (.bl (if neg then !inV x xs else inV x xs)) H
theorem op_in_seq : OpR X (compareOp .In) (rIn X.K false) := by
  intro pins s σ H x y v u Q I rx ry h
  obtain ⟨p, xs, rfl, hq, fx, fs, q⟩ := h
  cases ry
  rcases hq with hq | hq
  · obtain ⟨its, r, pl, hz⟩ := I.list hq
    refine SeqAt.in_listAt (eqU x) pl.isList (fun w hw => mem_eqAt rx fx r fs w (by simpa using hw)) ⟨.bl _, H, I, rfl, ?_⟩
    rw [show its.toArray.any (eqU x) = its.any (eqU x) by simp, any_eqU r fs]
    exact q
  · obtain ⟨its, r, pl, hz⟩ := I.tuple hq
    refine SeqAt.in_tupleAt (eqU x) pl (fun w hw => mem_eqAt rx fx r fs w (by simpa using hw)) ⟨.bl _, H, I, rfl, ?_⟩
    rw [show its.toArray.any (eqU x) = its.any (eqU x) by simp, any_eqU r fs]
    exact q
theorem op_notIn_seq : OpR X (compareOp .NotIn) (rIn X.K true) := by
  intro pins s σ H x y v u Q I rx ry h
  obtain ⟨p, xs, rfl, hq, fx, fs, q⟩ := h
  cases ry
  rcases hq with hq | hq
  · obtain ⟨its, r, pl, hz⟩ := I.list hq
    refine SeqAt.notIn_listAt (eqU x) pl.isList (fun w hw => mem_eqAt rx fx r fs w (by simpa using hw)) ⟨.bl _, H, I, rfl, ?_⟩
    rw [show its.toArray.any (eqU x) = its.any (eqU x) by simp, any_eqU r fs]
    exact q
  · obtain ⟨its, r, pl, hz⟩ := I.tuple hq
    refine SeqAt.notIn_tupleAt (eqU x) pl (fun w hw => mem_eqAt rx fx r fs w (by simpa using hw)) ⟨.bl _, H, I, rfl, ?_⟩
    rw [show its.toArray.any (eqU x) = its.any (eqU x) by simp, any_eqU r fs]
    exact q

/-! ### len, list(x), tuple(x) of any list or tuple that is read -/
theorem call_len_seq : CallR X (.builtin "len") (fun xs H Q => ∃ p ys, xs = [.ref p] ∧ (SqL X.K H p ys ∨ SqT X.K H p ys) ∧ Q (.int ys.length) H) := by
  intro pins s σ H xs us Q I r h
  obtain ⟨p, ys, rfl, hq, q⟩ := h
  obtain ⟨u, rfl, rx⟩ := vals1 r
  cases rx
  have hn := line63
  rcases hq with hq | hq
  · obtain ⟨its, r', pl, hz⟩ := I.list hq
    have hlen := r'.length
    exact Calls.call_len_list pl.isList (by simp only [List.size_toArray] <;> omega) ⟨.int ys.length, H, I.tok _, ⟨s.toks + 1, by rw [List.size_toArray, hlen]⟩, q⟩
  · obtain ⟨its, r', pl, hz⟩ := I.tuple hq
    have hlen := r'.length
    exact len_tuple pl (by simp only [List.size_toArray] <;> omega) ⟨.int ys.length, H, I.tok _, ⟨s.toks + 1, by rw [List.size_toArray, hlen]⟩, q⟩
theorem call_list_of : CallR X (.type "list") (fun xs H Q => ∃ p ys, xs = [.ref p] ∧ (SqL X.K H p ys ∨ SqT X.K H p ys) ∧ ∀ l, H l = none → Q (.ref l) (upd H l (.lst ys))) := by
  intro pins s σ H xs us Q I r h
  obtain ⟨p, ys, rfl, hq, q⟩ := h
  obtain ⟨u, rfl, rx⟩ := vals1 r
  cases rx
  have fin : ∀ (its : List Value), Vals ys its → ys.length ≤ sizeLine → ∀ (h' : Heap) (c' : Nat), (∀ b o', s.heap.get? b = some o' → h'.get? b = some o') →
      h'.get? s.heap.objs.size = some { cls := .type "list", dict := none, data := .seq its.toArray c', slots := #[] } → EP X pins σ Q (.ref s.heap.objs.size) { s with heap := h' } := fun its r' hz h' c' kp e =>
    ⟨.ref s.heap.objs.size, _, I.laid (t' := s.toks) kp (Nat.le_refl _) (show ObjOk X.prog X.w _ h' _ (.lst ys) from ⟨hz, its, c', r', e⟩), rfl, q _ (I.hok.fresh (Nat.le_refl _))⟩
  rcases hq with hq | hq
  · obtain ⟨its, r', pl, hz⟩ := I.list hq
    have hlen := r'.length
    obtain ⟨o, ho, hc, n, hd⟩ := pl.isList
    exact call_list_seq p (.inl rfl) ho hc hd (fun h' c' kp e => fin its r' hz h' c' kp e) (by simp only [List.size_toArray] <;> omega)
  · obtain ⟨its, r', pl, hz⟩ := I.tuple hq
    have hlen := r'.length
    obtain ⟨o, ho, hc, n, hd⟩ := pl
    exact call_list_seq p (.inr rfl) ho hc hd (fun h' c' kp e => fin its r' hz h' c' kp e) (by simp only [List.size_toArray] <;> omega)

/-! ### the call of a builtin's method: o.m(..) -/
/-- the value is of that builtin type -/
def tyV (K : PySem.W.Frag) (T : String) (x : V) (H : Hp) : Prop := match x with
  | .str _ => T = "str"
  | .int _ => T = "int"
  | .ref p => (T = "list" ∧ ∃ xs, SqL K H p xs) ∨ (T = "tuple" ∧ ∃ o, K.lookup p = some o ∧ o.cls = .type "tuple" ∧ o.dict = none) ∨
      (T = "dict" ∧ ((∃ kvs, H p = some (.dK kvs)) ∨ ∃ kvs, H p = some (.dT kvs))) ∨ (T = "set" ∧ ∃ S n, H p = some (.set S n))
  | _ => False
theorem tyV_is {pins : List (Addr × Obj)} {σ : St} {H : Hp} {s : Shared} {T : String} {x : V} {v : Value} (I : Inv X pins σ H s) (r : RelV x v) (ty : tyV X.K T x H) :
    s.TypeIs v T ∧ ∀ a, v = .ref a → ∃ ob, s.heap.get? a = some ob ∧ ob.dict = none := by
  cases x with
  | str z =>
    obtain ⟨t, rfl⟩ := r
    cases (show T = "str" from ty)
    exact ⟨typeIs_str s z t, fun _ e => nomatch e⟩
  | int i =>
    obtain ⟨t, rfl⟩ := r
    cases (show T = "int" from ty)
    exact ⟨typeIs_int s i t, fun _ e => nomatch e⟩
  | ref p =>
    cases r
    rcases ty with ⟨rfl, xs, hq⟩ | ⟨rfl, o, hk, hc, hd⟩ | ⟨rfl, hk⟩ | ⟨rfl, S, n, hk⟩
    · obtain ⟨its, _, pl, _⟩ := I.list hq
      refine ⟨pl.isList.typeIs, fun a e => ?_⟩
      cases e
      obtain ⟨o, n, e, c, hd, _⟩ := pl
      exact ⟨o, e, hd⟩
    · refine ⟨⟨o, I.kIn p o hk, hc⟩, fun a e => ?_⟩
      cases e
      exact ⟨o, I.kIn _ o hk, hd⟩
    · have z : ∃ o, s.heap.get? p = some o ∧ o.ExactDict := by
        rcases hk with ⟨kvs, hk⟩ | ⟨kvs, hk⟩
        · obtain ⟨_, _, _, _, o, _, _, e, ex, _⟩ := I.hok p _ hk
          exact ⟨o, e, ex⟩
        · obtain ⟨_, _, _, _, o, _, _, e, ex, _⟩ := I.hok p _ hk
          exact ⟨o, e, ex⟩
      obtain ⟨o, e, ex⟩ := z
      refine ⟨⟨o, e, ex.1⟩, fun a e2 => ?_⟩
      cases e2
      exact ⟨o, e, ex.2.1⟩
    · obtain ⟨o, _, _, _, e, ex, _⟩ := I.hok p _ hk
      refine ⟨⟨o, e, ex.1⟩, fun a e2 => ?_⟩
      cases e2
      exact ⟨o, e, ex.2.1⟩
  | _ => exact False.elim ty
def tBM (K : PySem.W.Frag) (T : String) (r : V → List V → Hp → VK → Prop) (to : TE) (t : TA) : TE := fun σ H Q => to σ H fun x H1 => tyV K T x H1 ∧ t σ H1 fun xs H2 => r x xs H2 Q
variable {o e : Expr} {es : List Expr} {to : TE} {t : TA} {name : Str} {apos cpos : Pos} {T id : String} {r : V → List V → Hp → VK → Prop}
theorem pe_bm (pa : PlainAttrs T) (slot : Slot T name id) (hty : typeOf (.builtin id) = pure (.type "method_descriptor")) (hm : MtR X id r) (ho : PE X o to) (ha : PA X (e :: es) t)
    (hbase : attributeBase o name X.env (eval o X.env) = eval o X.env := by rfl)
    (hfew : ((backTo cpos (starEach (e :: es) X.env)).all (fun x => !x.1) && (backToKw cpos (keywordEach [] X.env)).all (fun x => x.1.isSome)
      && decide ((e :: es).length + ([] : List Keyword).length + (if ([] : List Keyword).isEmpty then 0 else 1) < 30)) = true := by rfl)
    (hline : (apos.endLine == cpos.line) = true := by rfl) (hs : starEach (e :: es) X.env = (false, eval e X.env) :: starEach es X.env := by rfl) (hplain : (backTo cpos (starEach es X.env)).any (·.1) = false := by rfl) :
    PE X (.Call (.Attribute o name apos) (e :: es) [] cpos) (tBM X.K T r to t) := by
  intro pins s σ H Q I h
  refine wpAny_Call_method_late hbase hfew hline rfl (thn (ho pins s σ H _ I h) fun v s1 ⟨x, H1, I1, r1, ty, q1⟩ => ?_)
  obtain ⟨h1, h2⟩ := tyV_is I1 r1 ty
  refine ⟨T, id, pa, slot, hty, h1, h2, ?_⟩
  have hA := ha cpos pins s1 σ H1 _ I1 q1
  rw [hs] at hA ⊢
  refine Calls.callWith_builtin (by show (false || (backTo cpos (starEach es X.env)).any (·.1)) = false; rw [hplain] <;> rfl) (Calls.evalArgs_plain ?_)
  exact thn hA fun us s2 ⟨vs, H2, I2, r2, q2⟩ => hm pins s2 σ H2 x vs v us Q I2 r1 r2 q2
/- xs.append(e), list.index on a module's tuple .. are MtR facts of 06m -/
end
end L2

namespace L2
open PySem PySem.Spec PyProof.Rows

def MtM (X : Cx) (id : String) (r : V → List V → Hp → VK → Prop) : Prop :=
  ∀ (pins : List (Addr × Obj)) (s : Shared) (σ : St) (H : Hp) (x : V) (xs : List V) (v : Value) (us : List Value) (Q : VK), Inv X pins σ H s → RelV x v → Vals xs us → r x xs H Q →
    wpAny (model X.prog X.w) X.A (call (.builtin id) (v :: us)) (EP X pins σ Q) X.xe s

/-! ### lists of values -/
theorem Vals.one : ∀ {x : V} {us : List Value}, Vals [x] us → ∃ u, us = [u] ∧ RelV x u
  | _, _, .cons r .nil => ⟨_, rfl, r⟩

section
variable {X : Cx} {pins : List (Addr × Obj)} {σ : St} {H : Hp} {s : Shared} {l b : Addr} {xs ys zs : List V}

/-! ### the two steps: a tracked list is rewritten, a new list is laid -/
theorem Inv.lset {its its' : List Value} {n : Nat} {f : Array Value → Array Value} {t' : Nat} (I : Inv X pins σ H s) (hH : H l = some (.lst xs))
    (e : s.heap.get? l = some { cls := .type "list", data := .seq its.toArray n }) (hf : f its.toArray = its'.toArray) (hv : Vals ys its') (hz : ys.length ≤ sizeLine) :
    Inv X pins σ (upd H l (.lst ys)) { s with heap := s.heap.update l (Obj.mapSeq f), toks := t' } := by
  have q := PySem.IsL.update e f
  rw [hf] at q
  refine I.write (x := l) (e := l) (by rw [hH]; exact trivial) (.inl rfl) (fun b' u hb hu => (Heap.get?_update_other s.heap (Obj.mapSeq f) (Ne.symm hb)).trans hu) ⟨_, q⟩ ?_
  exact ⟨hz, its', _, hv, q⟩
theorem Inv.lnew {its : List Value} {t' : Nat} (I : Inv X pins σ H s) (hv : Vals ys its) (hz : ys.length ≤ sizeLine) :
    Inv X pins σ (upd H s.heap.objs.size (.lst ys)) { s with heap := s.heap.push { cls := .type "list", data := .seq its.toArray }, toks := t' } :=
  I.laid (fun _ _ q => Heap.get?_push_of_some _ q) (Nat.le_refl _) ⟨hz, its, 0, hv, Heap.get?_push_size _ rfl⟩
theorem Inv.fresh (I : Inv X pins σ H s) : H s.heap.objs.size = none := I.hok.fresh (Nat.le_refl _)
theorem Inv.lstM (I : Inv X pins σ H s) (hH : H l = some (.lst xs)) : xs.length ≤ sizeLine ∧ ∃ (its : List Value) (n : Nat), Vals xs its ∧ xs.length = its.length ∧ s.heap.get? l = some { cls := .type "list", data := .seq its.toArray n } := by
  obtain ⟨z, its, n, r, e⟩ := I.hok l _ hH
  exact ⟨z, its, n, r, r.length, e⟩

theorem notLongL {n : Nat} (h : n ≤ sizeLine) : Builtin.List.listTooLong n = false := by
  unfold Builtin.List.listTooLong
  exact decide_eq_false (by omega)
end

section
variable {X : Cx}

/-! ### methods -/
def rAppend : V → List V → Hp → VK → Prop := fun x vs H Q => ∃ l xs y, x = .ref l ∧ vs = [y] ∧ H l = some (.lst xs) ∧ xs.length < sizeLine ∧ Q .non (upd H l (.lst (xs ++ [y])))
theorem mt_append : MtM X "list.append" rAppend := by
  intro pins s σ H x vs v us Q I rx rv h
  obtain ⟨l, xs, y, rfl, rfl, hH, hz, q⟩ := h
  cases rx
  obtain ⟨u, rfl, ru⟩ := rv.one
  obtain ⟨z, its, n, r, hl, e⟩ := I.lstM hH
  refine call_meets F.slot_list_append ⟨_, e, rfl⟩ F.entry_list_append (F.args_list_append_2 _ _) (PySem.list_append l its.toArray n u (by rw [List.size_toArray]; omega)) ⟨e, ?_⟩
  refine ⟨.non, _, I.lset (its' := its ++ [u]) hH e (by simp) (r.append (.cons ru .nil)) ?_, rfl, q⟩
  rw [List.length_append, List.length_singleton]
  omega

def rExtend : V → List V → Hp → VK → Prop := fun x vs H Q => ∃ l b xs zs, x = .ref l ∧ vs = [.ref b] ∧ H l = some (.lst xs) ∧ H b = some (.lst zs) ∧ xs.length + zs.length ≤ sizeLine ∧ Q .non (upd H l (.lst (xs ++ zs)))
theorem mt_extend : MtM X "list.extend" rExtend := by
  intro pins s σ H x vs v us Q I rx rv h
  obtain ⟨l, b, xs, zs, rfl, rfl, hH, hB, hz, q⟩ := h
  cases rx
  obtain ⟨u, rfl, ru⟩ := rv.one
  cases ru
  obtain ⟨z, its, n, r, hl, e⟩ := I.lstM hH
  obtain ⟨z2, its2, n2, r2, hl2, e2⟩ := I.lstM hB
  have hsz : its.toArray.size + its2.toArray.size ≤ sizeLine := by rw [List.size_toArray, List.size_toArray]; omega
  have hlong : ¬ (!its.toArray.isEmpty && Builtin.List.listTooLong (its.toArray.size + its2.toArray.size)) = true := by
    rw [notLongL hsz, Bool.and_false]
    exact Bool.false_ne_true
  refine call_meets F.slot_list_extend ⟨_, e, rfl⟩ F.entry_list_extend (F.args_list_extend_2 _ _)
    (AutoSeq1.list_extend_list_list_0 l its.toArray n b its2.toArray n2 hlong (by rw [List.size_toArray]; omega) (by omega)) ⟨e, e2, ?_⟩
  refine ⟨.non, _, I.lset (its' := its ++ its2) hH e (by simp) (r.append r2) ?_, rfl, q⟩
  rw [List.length_append]
  omega





/-! ### list + list, list += list, list * int -/
def rCat : R2 := fun x y H Q => ∃ l b xs zs, x = .ref l ∧ y = .ref b ∧ H l = some (.lst xs) ∧ H b = some (.lst zs) ∧ xs.length + zs.length ≤ sizeLine ∧ ∀ p, H p = none → Q (.ref p) (upd H p (.lst (xs ++ zs)))
theorem op_cat : OpR X (binaryOp .Add) rCat := by
  intro pins s σ H x y v u Q I rx ry h
  obtain ⟨l, b, xs, zs, rfl, rfl, hH, hB, hz, q⟩ := h
  cases rx
  cases ry
  obtain ⟨z, its, n, r, hl, e⟩ := I.lstM hH
  obtain ⟨z2, its2, n2, r2, hl2, e2⟩ := I.lstM hB
  refine PySem.P.add_list e e2 ?_ (by rw [List.size_toArray, List.size_toArray]; omega)
  have ea : its.toArray ++ its2.toArray = (its ++ its2).toArray := by simp
  rw [ea]
  exact ⟨.ref _, _, I.lnew (t' := s.toks) (r.append r2) (by rw [List.length_append]; omega), rfl, q _ I.fresh⟩

/-! ### del xs[i] -/
end

/-! ### xs[a:b] = ys -/
section
variable {prog : Program} {w : World} {A : Around} {E : Value → Shared → Prop} {s : Shared}
set_option maxRecDepth 100000 in
end

section
variable {X : Cx}
end
end L2

namespace L2
open PySem PySem.Spec PyProof.Rows

theorem Vals.ints : ∀ {ns : List Int} {us : List Value}, Vals (ns.map V.int) us → IntsAre us ns
  | [], us, h => by
    rw [List.map_nil] at h
    cases h
    exact IntsAre.nil
  | n :: ns, us, h => by
    rw [List.map_cons] at h
    cases h with
    | cons r t =>
      obtain ⟨k, rfl⟩ := r
      exact IntsAre.cons n k (Vals.ints t)
theorem vals_of_ints : ∀ {us : List Value} {ns : List Int}, IntsAre us ns → Vals (ns.map V.int) us
  | _, _, .nil => by rw [List.map_nil]; exact Paired.nil
  | _, _, .cons n t h => by rw [List.map_cons]; exact Paired.cons (show RelV (V.int n) (Value.int n t) from ⟨t, rfl⟩) (vals_of_ints h)
theorem Vals.ref1 {a : Addr} {us : List Value} (r : Vals [V.ref a] us) : us = [Value.ref a] := by
  cases r with
  | cons r t =>
    cases t
    cases r
    rfl

/-! ### the library's walks over a list of ints, kept objects alone -/
section
variable {prog : Program} {w : World} {A : Around} {E : Value → Shared → Prop} {s : Shared} {l : Addr} {its : List Value} {ns : List Int} {Q : Value → Shared → Prop}
theorem sum_raw (hh : A.handled = none) (hl : s.heap.IsList l its.toArray) (hi : IntsAre its ns)
    (h : ∀ h' tk t', (∀ b o, s.heap.get? b = some o → h'.get? b = some o) → Q (.int ns.sum t') { s with heap := h', toks := tk }) : wpAny (model prog w) A (call (.builtin "sum") [.ref l]) Q E s := by
  obtain ⟨xs, e⟩ := hi.allInts.items
  have hn : numsOf (intItems xs).toList = ns := by rw [← e]; exact hi.numsOf
  rw [nums_intItems] at hn
  rw [e] at hl
  refine PySem.sum_intListG hh hl fun h' tk t' hk => ?_
  have := h h' tk t' hk
  rw [preSum_eq, List.take_of_length_le (by simp), hn]; exact this
end

/-! ### the calls, by values (CallR of 03t; MtR of 06l) -/
section
variable {X : Cx}
/-- sum(xs) of a list of ints -/
def rSum (K : PySem.W.Frag) : List V → Hp → VK → Prop := fun vs H Q => ∃ (a : Addr) (ns : List Int), vs = [V.ref a] ∧ SqL K H a (ns.map V.int) ∧ Q (.int ns.sum) H
theorem cr_sum (hc : X.calm = true) : CallR X (.builtin "sum") (rSum X.K) := by
  intro pins s σ H vs us Q I r h
  obtain ⟨a, ns, rfl, hs, q⟩ := h
  obtain ⟨its, rv, hl, _⟩ := I.list hs
  rw [Vals.ref1 r]
  exact sum_raw (I.ok.hd hc) hl.isList rv.ints fun h' tk t' hk => ⟨.int _, H, I.kept hk, ⟨_, rfl⟩, q⟩

/-! sorted, sort (fewer than 64 items: the library's own bound) -/
end

/-! ### list.index, flat items -/
section
variable {X : Cx}
end

/-! ### type(x) of an own instance; is, is not of a module's class -/
section
variable {X : Cx}
end

/-! ### any(xs), all(xs) of a list of bools -/
section
variable {X : Cx}
end

/-! ### == and != of data at any depth: none, bools, ints, texts, lists, tuples -/
mutual
inductive Dp (K : PySem.W.Frag) (H : Hp) : V → PyData → Prop
  | non : Dp K H .non .none
  | bl (b : Bool) : Dp K H (.bl b) (.bool b)
  | int (i : Int) : Dp K H (.int i) (.int i)
  | str (x : Str) : Dp K H (.str x) (.str x)
  | lst {a : Addr} {xs : List V} {ds : List PyData} : SqL K H a xs → DpAll K H xs ds → Dp K H (.ref a) (.list ds)
  | tup {a : Addr} {xs : List V} {ds : List PyData} : SqT K H a xs → DpAll K H xs ds → Dp K H (.ref a) (.tuple ds)
inductive DpAll (K : PySem.W.Frag) (H : Hp) : List V → List PyData → Prop
  | nil : DpAll K H [] []
  | cons {v : V} {vs : List V} {d : PyData} {ds : List PyData} : Dp K H v d → DpAll K H vs ds → DpAll K H (v :: vs) (d :: ds)
end
section
variable {X : Cx} {pins : List (Addr × Obj)} {σ : St} {H : Hp} {s : Shared}
mutual
theorem Dp.reads (I : Inv X pins σ H s) : ∀ (d : PyData) (v : V) (u : Value), Dp X.K H v d → RelV v u → ∃ as, Reads s.heap u d as
  | .none, _, _, h, r => by
    cases h
    cases r
    exact ⟨_, Reads.none⟩
  | .bool b, _, _, h, r => by
    cases h
    cases r
    exact ⟨_, Reads.bool b⟩
  | .int i, _, _, h, r => by
    cases h
    obtain ⟨t, rfl⟩ := r
    exact ⟨_, Reads.int i t⟩
  | .str x, _, _, h, r => by
    cases h
    obtain ⟨t, rfl⟩ := r
    exact ⟨_, Reads.str x t⟩
  | .list ds, _, _, h, r => by
    cases h with
    | lst hs ha =>
      cases r
      obtain ⟨its, rv, ⟨o, n, ho, hc, _, hd⟩, _⟩ := I.list hs
      obtain ⟨as, hr⟩ := Dp.readsAll I ds _ its ha rv
      exact ⟨_, Reads.list ho hc hd hr⟩
  | .tuple ds, _, _, h, r => by
    cases h with
    | tup hs ha =>
      cases r
      obtain ⟨its, rv, ⟨o, ho, hc, n, hd⟩, _⟩ := I.tuple hs
      obtain ⟨as, hr⟩ := Dp.readsAll I ds _ its ha rv
      exact ⟨_, Reads.tuple ho hc hd hr⟩
  | .dict _, _, _, h, _ => by cases h
theorem Dp.readsAll (I : Inv X pins σ H s) : ∀ (ds : List PyData) (vs : List V) (us : List Value), DpAll X.K H vs ds → Vals vs us → ∃ as, ReadsAll s.heap us ds as
  | [], _, _, h, r => by
    cases h
    cases r
    exact ⟨_, ReadsAll.nil⟩
  | d :: ds, _, _, h, r => by
    cases h with
    | cons h1 h2 =>
      cases r with
      | cons r1 r2 =>
        obtain ⟨as, q1⟩ := Dp.reads I d _ _ h1 r1
        obtain ⟨bs, q2⟩ := Dp.readsAll I ds _ _ h2 r2
        exact ⟨_, ReadsAll.cons q1 q2⟩
end
end
section
variable {X : Cx}
def rEqD (K : PySem.W.Frag) : R2 := fun x y H Q => ∃ d e, Dp K H x d ∧ Dp K H y e ∧ SeqAt.shaped d = true ∧ SeqAt.shaped e = true ∧ Q (.bl (PyData.eqv d e)) H
theorem op_eqD (hu : X.A.units + 64 < cLine) : OpR X (compareOp .Eq) (rEqD X.K) := by
  intro pins s σ H x y v u Q I rx ry h
  obtain ⟨d, e, hd, he, sd, se, q⟩ := h
  obtain ⟨as, r1⟩ := Dp.reads I d x v hd rx
  obtain ⟨bs, r2⟩ := Dp.reads I e y u he ry
  exact SeqAt.compareEq_shaped r1 r2 sd se hu ⟨.bl _, H, I, rfl, q⟩
end
end L2

namespace L2
open PySem PySem.Spec PyProof.Rows
abbrev CellAt (h : Heap) (c : Addr) (v : Option Value) : Prop := h.IsCell c v
def relS (scope sc : Scope) : Scope :=
  { scope with names := scope.names.map fun (n, k) => if (k == .free && sc.kind == .function && sc.names.lookup n == some .cell) then (n, .cell) else (n, k) }

def cloFrom (cells : List (Str × Addr)) : List (Str × NameKind) → List (Str × Addr) → List (Str × Addr)
  | [], acc => acc
  | (n, k) :: r, acc => if k == .free then cloFrom cells r ((n, (cells.lookup n).getD 0) :: acc) else cloFrom cells r acc

theorem closure_loop (env : Env) (f : Str × NameKind → List (Str × Addr) → Sem (ForInStep (List (Str × Addr))))
    (hf : ∀ n k c, f (n, k) c = if k == .free then (do let a ← cellOf env n; pure (.yield ((n, a) :: c))) else pure (.yield c)) :
    ∀ (names : List (Str × NameKind)) (acc : List (Str × Addr)), (∀ y ∈ names, y.2 = .free → ∃ c, env.cells.lookup y.1 = some c) → forIn names acc f = pure (cloFrom env.cells names acc)
  | [], acc, _ => by rw [List.forIn_nil]; rfl
  | (n, k) :: r, acc, h => by
    rw [List.forIn_cons, hf]
    have ih := fun acc => closure_loop env f hf r acc fun y hy => h y (List.mem_cons_of_mem _ hy)
    unfold cloFrom
    by_cases hk : (k == NameKind.free) = true
    · rw [if_pos hk, if_pos hk]
      obtain ⟨c, hc⟩ := h (n, k) List.mem_cons_self (by simpa using hk)
      have e : cellOf env n = pure c := by unfold cellOf; rw [hc]
      rw [e]
      have e2 : (env.cells.lookup n).getD 0 = c := by rw [hc]; rfl
      rw [e2]
      exact ih _
    · rw [if_neg hk, if_neg hk]
      exact ih _
theorem closure_ok {scope : Scope} {env : Env} (h : ∀ y ∈ scope.names, y.2 = .free → ∃ c, env.cells.lookup y.1 = some c) : closureFor scope env = pure (cloFrom env.cells scope.names []) := by
  simp only [closureFor]
  rw [closure_loop env _ (fun n k c => rfl) scope.names [] h]
  rfl

theorem mem_lookup {α : Type} : ∀ {l : List (Str × α)} {n : Str} {c : α}, (n, c) ∈ l → ∃ c', l.lookup n = some c'
  | (k, v) :: r, n, c, h => by
    rw [List.lookup_cons]
    cases hb : n == k with
    | true => exact ⟨_, rfl⟩
    | false =>
      rcases List.mem_cons.mp h with e | h
      · cases e; simp at hb
      · exact mem_lookup h

theorem cloFrom_mem {cells : List (Str × Addr)} : ∀ {names : List (Str × NameKind)} {acc : List (Str × Addr)} {n : Str} {c : Addr}, (n, c) ∈ cloFrom cells names acc → (n, c) ∈ acc ∨ ((n, .free) ∈ names ∧ c = (cells.lookup n).getD 0)
  | [], _, _, _, h => .inl h
  | (m, k) :: r, acc, n, c, h => by
    unfold cloFrom at h
    split at h
    · rename_i hk
      have hk : k = .free := by simpa using hk
      rcases cloFrom_mem h with h | ⟨h1, h2⟩
      · rcases List.mem_cons.mp h with e | h
        · cases e; exact .inr ⟨hk ▸ List.mem_cons_self, rfl⟩
        · exact .inl h
      · exact .inr ⟨List.mem_cons_of_mem _ h1, h2⟩
    · rcases cloFrom_mem h with h | ⟨h1, h2⟩
      · exact .inl h
      · exact .inr ⟨List.mem_cons_of_mem _ h1, h2⟩
theorem cloFrom_acc {cells : List (Str × Addr)} : ∀ {names : List (Str × NameKind)} {acc : List (Str × Addr)} {p : Str × Addr}, p ∈ acc → p ∈ cloFrom cells names acc
  | [], _, _, h => h
  | (m, k) :: r, acc, p, h => by
    unfold cloFrom
    split
    · exact cloFrom_acc (List.mem_cons_of_mem _ h)
    · exact cloFrom_acc h
theorem cloFrom_has {cells : List (Str × Addr)} : ∀ {names : List (Str × NameKind)} {acc : List (Str × Addr)} {n : Str}, (n, .free) ∈ names → (n, (cells.lookup n).getD 0) ∈ cloFrom cells names acc
  | (m, k) :: r, acc, n, h => by
    unfold cloFrom
    rcases List.mem_cons.mp h with e | h
    · cases e
      exact cloFrom_acc List.mem_cons_self
    · split
      · exact cloFrom_has h
      · exact cloFrom_has h

theorem cells_mem : ∀ {names : List (Str × NameKind)} {h : Heap} {acc : List (Str × Addr)} {x : Str} {c : Addr}, (x, c) ∈ cellsFrom h.objs.size names acc →
    (x, c) ∈ acc ∨ ((x, .cell) ∈ names ∧ h.objs.size ≤ c ∧ CellAt (pushCells h names) c none)
  | [], _, _, _, _, h => .inl h
  | (n, k) :: r, h, acc, x, c, hm => by
    unfold cellsFrom at hm
    unfold pushCells
    split at hm
    · rename_i hk
      rw [if_pos hk]
      have hk : k = .cell := by simpa using hk
      rw [← Heap.size_push h { cls := .type "cell", data := .cell none }] at hm
      rcases cells_mem hm with hm | ⟨h1, h2, h3⟩
      · rcases List.mem_cons.mp hm with e | hm
        · cases e
          exact .inr ⟨hk ▸ List.mem_cons_self, Nat.le_refl _, _, pushCells_keeps r _ _ _ (Heap.get?_push_size _ rfl), rfl⟩
        · exact .inl hm
      · rw [Heap.size_push] at h2
        exact .inr ⟨List.mem_cons_of_mem _ h1, Nat.le_of_succ_le h2, h3⟩
    · rename_i hk
      rw [if_neg hk]
      rcases cells_mem hm with hm | ⟨h1, h2, h3⟩
      · exact .inl hm
      · exact .inr ⟨List.mem_cons_of_mem _ h1, h2, h3⟩
theorem cells_acc : ∀ {names : List (Str × NameKind)} {n : Nat} {acc : List (Str × Addr)} {p : Str × Addr}, p ∈ acc → p ∈ cellsFrom n names acc
  | [], _, _, _, h => h
  | (m, k) :: r, n, acc, p, h => by
    unfold cellsFrom
    split
    · exact cells_acc (List.mem_cons_of_mem _ h)
    · exact cells_acc h
theorem cells_has : ∀ {names : List (Str × NameKind)} {n : Nat} {acc : List (Str × Addr)} {x : Str}, (x, .cell) ∈ names → ∃ c, (x, c) ∈ cellsFrom n names acc
  | (m, k) :: r, n, acc, x, h => by
    unfold cellsFrom
    rcases List.mem_cons.mp h with e | h
    · cases e
      exact ⟨n, cells_acc List.mem_cons_self⟩
    · split
      · exact cells_has h
      · exact cells_has h
theorem cells_inj : ∀ {names : List (Str × NameKind)} {h : Heap} {acc : List (Str × Addr)} {x y : Str} {c : Addr}, (∀ p ∈ acc, p.2 < h.objs.size) → (∀ x y c, (x, c) ∈ acc → (y, c) ∈ acc → x = y) →
    (x, c) ∈ cellsFrom h.objs.size names acc → (y, c) ∈ cellsFrom h.objs.size names acc → x = y
  | [], _, _, _, _, _, _, hi, h1, h2 => hi _ _ _ h1 h2
  | (n, k) :: r, h, acc, x, y, c, hl, hi, h1, h2 => by
    unfold cellsFrom at h1 h2
    split at h1
    · rename_i hk
      rw [if_pos hk] at h2
      rw [← Heap.size_push h { cls := .type "cell", data := .cell none }] at h1 h2
      refine cells_inj (h := h.push _) (fun p hp => ?_) (fun x y c a b => ?_) h1 h2
      · rw [Heap.size_push]
        rcases List.mem_cons.mp hp with rfl | hp
        · exact Nat.lt_succ_self _
        · exact Nat.lt_succ_of_lt (hl p hp)
      · rcases List.mem_cons.mp a with e | a <;> rcases List.mem_cons.mp b with e' | b
        · cases e; cases e'; rfl
        · cases e; exact absurd (hl _ b) (Nat.lt_irrefl _)
        · cases e'; exact absurd (hl _ a) (Nat.lt_irrefl _)
        · exact hi _ _ _ a b
    · rename_i hk
      rw [if_neg hk] at h2
      exact cells_inj hl hi h1 h2

theorem newEnv_comp {M : Model} {A : Around} {E : Value → Shared → Prop} {s : Shared} {scope : Scope} {globals : Addr} {closure : List (Str × Addr)} {qual : Str} {func : Option Addr} {code : Value} {around : Env} {builtins : Addr} {Q : Env → Shared → Prop}
    (h : Q (newEnv scope s.heap.objs.size globals (cellsFrom (s.heap.objs.size + 1) scope.names closure) qual func code (some around) builtins)
      { s with heap := pushCells (s.heap.push { cls := .type "dict", data := .dict #[] }) scope.names }) :
    wpAny M A (newFunctionEnv scope globals closure [] qual func code (some around) builtins) Q E s := by
  simp only [newFunctionEnv, Option.isSome_some, if_true]
  refine wpAny_bind (wpAny_alloc ?_)
  refine wpAny_bind (wpAny_layCells _ (fun n k c => rfl) scope.names closure _ _ ?_)
  rw [show ({ s with heap := s.heap.push { cls := .type "dict", data := .dict #[] } } : Shared).heap.objs.size = s.heap.objs.size + 1 from Heap.size_push ..]
  rw [List.forIn_nil]
  exact wpAny_bind (wpAny_pure (wpAny_pure h))

/-- every name of the written scope, in the scope that runs -/
theorem lookup_relS {sc : Scope} : ∀ {names : List (Str × NameKind)} {x : Str} {k : NameKind},
    (names.map fun (n, k) => if (k == NameKind.free && sc.kind == .function && sc.names.lookup n == some .cell) then (n, NameKind.cell) else (n, k)).lookup x = some k →
    ∃ k', names.lookup x = some k' ∧ (k = k' ∨ (k' = .free ∧ k = .cell))
  | [], _, _, h => by simp at h
  | (n, k₀) :: r, x, k, h => by
    have ih := @lookup_relS sc r x k
    have h' : List.lookup x ((if (k₀ == NameKind.free && sc.kind == .function && sc.names.lookup n == some .cell) = true then (n, NameKind.cell) else (n, k₀)) :: (r.map _)) = some k := h
    cases hx : x == n with
    | true =>
      simp only [List.lookup_cons, hx]
      by_cases hc : (k₀ == NameKind.free && sc.kind == .function && sc.names.lookup n == some .cell) = true
      · rw [if_pos hc] at h'
        simp only [List.lookup_cons, hx] at h'
        cases h'
        simp only [Bool.and_eq_true, beq_iff_eq] at hc
        exact ⟨k₀, rfl, .inr ⟨hc.1.1, rfl⟩⟩
      · rw [if_neg hc] at h'
        simp only [List.lookup_cons, hx] at h'
        cases h'
        exact ⟨_, rfl, .inl rfl⟩
    | false =>
      simp only [List.lookup_cons, hx]
      by_cases hc : (k₀ == NameKind.free && sc.kind == .function && sc.names.lookup n == some .cell) = true
      · rw [if_pos hc] at h'
        simp only [List.lookup_cons, hx] at h'
        exact ih h'
      · rw [if_neg hc] at h'
        simp only [List.lookup_cons, hx] at h'
        exact ih h'



/-- the names of a comprehension's block: its own (with their places in N), or captured -/
structure BlkOk (N : List Str) (sc scope : Scope) (own : List (Str × Nat)) : Prop where
  kind : scope.kind = .function
  uniq : ∀ y ∈ scope.names, scope.names.lookup y.1 = some y.2
  ix : ∀ p ∈ own, N[p.2]? = some p.1
  free : ∀ y ∈ scope.names, y.2 = .free → sc.names.lookup y.1 = some .cell ∨ sc.names.lookup y.1 = some .free
  own : ∀ y ∈ scope.names, y.2 = .local ∨ y.2 = .cell → y.1 ∈ own.map (·.1) ∨ y.1 ∉ N
/-- the slots of the block's own names forgotten -/
def wipe (σ : St) : List Nat → St
  | [] => σ
  | v :: vs => (wipe σ vs).set v none
theorem wipe_length (σ : St) : ∀ vs : List Nat, (wipe σ vs).length = σ.length
  | [] => rfl
  | v :: vs => by unfold wipe; rw [List.length_set, wipe_length σ vs]
theorem wipe_some {σ : St} {i : Nat} {x : V} : ∀ {vs : List Nat}, (wipe σ vs)[i]? = some (some x) → σ[i]? = some (some x) ∧ i ∉ vs
  | [], h => ⟨h, by simp⟩
  | v :: vs, h => by
    unfold wipe at h
    by_cases hi : v = i
    · subst hi
      by_cases hv : v < (wipe σ vs).length
      · rw [List.getElem?_set_self hv] at h; cases h
      · rw [List.getElem?_eq_none (by simpa using hv)] at h; cases h
    · rw [List.getElem?_set_ne hi] at h
      obtain ⟨h1, h2⟩ := wipe_some h
      exact ⟨h1, by simp only [List.mem_cons, not_or]; exact ⟨fun e => hi e.symm, h2⟩⟩

/-- the context of a block that starts at s, its iterator's objects at fp -/
abbrev Cx.blk (X : Cx) (s : Shared) (H : Hp) (scope : Scope) (cenv : Env) (fp : List Addr) : Cx := { X with s_0 := s, H_0 := H, env := cenv, outer := X.stack, ex := fp, fn := fun x => scope.names.lookup x == some .cell, pn := [], xe := fun _ _ => False }
section
variable {X : Cx} {pins : List (Addr × Obj)} {σ : St} {H : Hp} {s : Shared}
theorem block_start {scope : Scope} {own : List (Str × Nat)} {fp : List Addr} (I : Inv X pins σ H s) (ok : BlkOk X.N X.env.scope scope own) (hN : X.N.Nodup) (hfp : ∀ b ∈ fp, FpOk X pins H b ∧ b < s.heap.objs.size) :
    Inv (X.blk s H scope (compEnvC scope (cellsFrom (s.heap.objs.size + 1) scope.names (cloFrom X.env.cells scope.names [])) s.heap.objs.size X.env) fp) [] (wipe σ (own.map (·.2))) H { s with heap := pushCells (s.heap.push { cls := .type "dict", data := .dict #[] }) scope.names } := by
  have hfree : ∀ y ∈ scope.names, y.2 = .free → ∃ c, X.env.cells.lookup y.1 = some c := fun y hy e => by
    rcases ok.free y hy e with k | k
    · exact I.ok.has _ (.inl k)
    · exact I.ok.has _ (.inr k)
  generalize hcenv : compEnvC scope (cellsFrom (s.heap.objs.size + 1) scope.names (cloFrom X.env.cells scope.names [])) s.heap.objs.size X.env = cenv
  have kp : ∀ b o, s.heap.get? b = some o → (pushCells (s.heap.push { cls := .type "dict", data := .dict #[] }) scope.names).get? b = some o := fun b o e => pushCells_keeps _ _ _ _ (Heap.get?_push_of_some _ e)
  have hL : cenv.locals = s.heap.objs.size := by rw [← hcenv]; rfl
  have hcl : cenv.cells = cellsFrom (s.heap.objs.size + 1) scope.names (cloFrom X.env.cells scope.names []) := by rw [← hcenv]; rfl
  have hsc : cenv.scope = relS scope X.env.scope := by rw [← hcenv]; rfl
  rw [← Heap.size_push s.heap { cls := .type "dict", data := .dict #[] }] at hcl
  have cm : ∀ {y c}, (y, c) ∈ cloFrom X.env.cells scope.names [] → X.env.cells.lookup y = some c ∧ c < s.heap.objs.size := fun {y c} hm => by
    rcases cloFrom_mem hm with hm | ⟨h1, rfl⟩
    · cases hm
    · obtain ⟨c, hc⟩ := hfree _ h1 rfl
      rw [hc]
      obtain ⟨w, z⟩ := I.cell _ _ hc
      exact ⟨rfl, z.lt⟩
  have mem : ∀ {y c}, cenv.cells.lookup y = some c → (X.env.cells.lookup y = some c ∧ c < s.heap.objs.size) ∨ (s.heap.objs.size + 1 ≤ c ∧ CellAt (pushCells (s.heap.push { cls := .type "dict", data := .dict #[] }) scope.names) c none) := fun {y c} e => by
    rw [hcl] at e
    rcases cells_mem (PySem.mem_of_lookup e) with hm | ⟨_, h2, h3⟩
    · exact .inl (cm hm)
    · rw [Heap.size_push] at h2; exact .inr ⟨h2, h3⟩
  have look : ∀ {y}, scope.names.lookup y = some .free → ∃ c, cenv.cells.lookup y = some c ∧ X.env.cells.lookup y = some c := fun {y} hl => by
    have hy : (y, NameKind.free) ∈ scope.names := PySem.mem_of_lookup hl
    obtain ⟨c', e'⟩ := mem_lookup (cells_acc (names := scope.names) (n := (s.heap.push { cls := .type "dict", data := .dict #[] }).objs.size) (cloFrom_has (cells := X.env.cells) (acc := []) hy))
    rw [← hcl] at e'
    refine ⟨c', e', ?_⟩
    rw [hcl] at e'
    rcases cells_mem (PySem.mem_of_lookup e') with hm | ⟨h1, _, _⟩
    · exact (cm hm).1
    · have := ok.uniq _ h1
      rw [hl] at this; cases this
  have okB : (X.blk s H scope cenv fp).Ok := by
    refine ⟨I.ok.mod, by show cenv.scope.kind = _; rw [hsc]; exact ok.kind, by show cenv.globals = _; rw [← hcenv]; exact I.ok.glob, by show cenv.builtins = _; rw [← hcenv]; exact I.ok.blt, by show s.heap.objs.size ≤ cenv.locals; rw [hL]; exact Nat.le_refl _,
      fun y z c e1 e2 => ?_, fun y hy => ?_, fun y c z e => ?_, I.ok.hd, I.ok.frames, .inl rfl, fun b hb => ⟨?_, fun y c e z => ?_⟩, I.bs, Nat.le_trans I.ok.bsz I.sz, fun b o e hb => ?_, fun b hb z => ?_, I.stack, I.stkFree⟩
    · have e1 : cenv.cells.lookup y = some c := e1
      have e2 : cenv.cells.lookup z = some c := e2
      rw [hcl] at e1 e2
      refine cells_inj (fun p hp => ?_) (fun y z c a b => I.ok.inj y z c (cm a).1 (cm b).1) (PySem.mem_of_lookup e1) (PySem.mem_of_lookup e2)
      rw [Heap.size_push]
      exact Nat.lt_succ_of_lt (cm (y := p.1) (c := p.2) hp).2
    · show ∃ c, cenv.cells.lookup y = some c
      have key : ∀ k, cenv.kindOf y = some k → (k = .cell ∨ k = .free) → ∃ c, cenv.cells.lookup y = some c := fun k hk hk' => by
        unfold Env.kindOf at hk
        rw [hsc] at hk
        obtain ⟨k', e, r⟩ := lookup_relS hk
        have : k' = .cell ∨ k' = .free := by
          rcases r with rfl | ⟨rfl, _⟩
          · exact hk'
          · exact .inr rfl
        rcases this with rfl | rfl
        · obtain ⟨c, hm⟩ := cells_has (n := (s.heap.push { cls := .type "dict", data := .dict #[] }).objs.size) (acc := cloFrom X.env.cells scope.names []) (PySem.mem_of_lookup e)
          obtain ⟨c', e'⟩ := mem_lookup hm
          exact ⟨c', by rw [hcl]; exact e'⟩
        · obtain ⟨c, h1, _⟩ := look e
          exact ⟨c, h1⟩
      rcases hy with hy | hy
      · exact key _ hy (.inl rfl)
      · exact key _ hy (.inr rfl)
    · have z : (scope.names.lookup y == some NameKind.cell) = true := z
      have z : scope.names.lookup y = some .cell := by simpa using z
      have e : cenv.cells.lookup y = some c := e
      rw [hcl] at e
      rcases cells_mem (PySem.mem_of_lookup e) with hm | ⟨_, h2, _⟩
      · rcases cloFrom_mem hm with hm | ⟨h1, _⟩
        · cases hm
        · have q := ok.uniq _ h1
          rw [z] at q; cases q
      · rw [Heap.size_push] at h2
        exact Nat.le_of_succ_le h2
    · show b ≠ cenv.locals
      rw [hL]; exact Nat.ne_of_lt (hfp b hb).2
    · have e : cenv.cells.lookup y = some c := e
      rcases mem e with ⟨h1, _⟩ | ⟨h1, _⟩
      · exact (hfp b hb).1.2.2.2.2.1 y c h1 z
      · have h2 : s.heap.objs.size + 1 ≤ b := by rw [← z]; exact h1
        exact absurd (Nat.lt_of_lt_of_le (hfp b hb).2 (Nat.le_of_succ_le h2)) (Nat.lt_irrefl _)
    · rcases (hfp b hb).1.2.2.2.1 with z | z
      · exact I.ok.noex b o e z
      · exact absurd (Nat.lt_of_lt_of_le (Heap.lt_size e) (Nat.le_trans I.ok.bsz z)) (Nat.lt_irrefl _)
    · rcases List.mem_cons.mp (I.stkSub b z) with z | z
      · exact (hfp b hb).1.2.1 z
      · exact (hfp b hb).1.2.2.1 z
  refine ⟨okB, rfl, I.bare, Un.kept kp, ⟨fun _ => none, ?_, fun i y av e1 e2 e3 => ?_⟩, fun y c e => ?_, ?_, fun y c e => ?_, fun p hp => ?_, I.hok.kept kp, by rw [wipe_length]; exact I.len⟩
  · show Heap.Ns _ cenv.locals _
    rw [hL]
    exact Heap.Ns.keeps (Heap.Ns.new ..) fun b o e => pushCells_keeps _ _ _ _ e
  · obtain ⟨e2, hne⟩ := wipe_some e2
    have hfr : scope.names.lookup y = some .free ∧ (cenv.kindOf y = some .cell ∨ cenv.kindOf y = some .free) := by
      have key : ∀ k, cenv.scope.names.lookup y = some k → k = .local ∨ k = .cell ∨ k = .free → scope.names.lookup y = some .free ∧ (cenv.kindOf y = some .cell ∨ cenv.kindOf y = some .free) := fun k hk hk' => by
        have hk0 := hk
        rw [hsc] at hk
        obtain ⟨k', e, r⟩ := lookup_relS hk
        have no : ¬ (k' = .local ∨ k' = .cell) := fun hh => by
          rcases ok.own _ (PySem.mem_of_lookup e) hh with e' | e'
          · obtain ⟨p, hp, hpy⟩ := List.mem_map.mp e'
            have e3 := ok.ix p hp
            have : p.1 = y := hpy
            rw [this] at e3
            exact hne (List.mem_map.mpr ⟨p, hp, nodup_ix hN e3 e1⟩)
          · exact e' (List.mem_of_getElem? e1)
        rcases r with rfl | ⟨rfl, rfl⟩
        · rcases hk' with rfl | rfl | rfl
          · exact absurd (.inl rfl) no
          · exact absurd (.inr rfl) no
          · exact ⟨e, .inr hk0⟩
        · exact ⟨e, .inl hk0⟩
      have e3 : Vis cenv.scope y := e3
      rcases e3 with e3 | e3 | e3
      · exact key _ e3 (.inl rfl)
      · exact key _ e3 (.inr (.inl rfl))
      · exact key _ e3 (.inr (.inr rfl))
    obtain ⟨m, hn, hl⟩ := I.loc
    have hvis : Vis X.env.scope y := (ok.free _ (PySem.mem_of_lookup hfr.1) rfl).elim (fun k => .inr (.inl k)) (fun k => .inr (.inr k))
    obtain ⟨w, r, q⟩ := hl i y av e1 e2 hvis
    refine ⟨w, r, .inr ⟨hfr.2, ?_⟩⟩
    obtain ⟨c, h1, h2⟩ := look hfr.1
    rcases q with ⟨k, _⟩ | ⟨_, c', e', z⟩
    · have k : X.env.scope.names.lookup y = some .local := k
      rcases ok.free _ (PySem.mem_of_lookup hfr.1) rfl with k' | k' <;> rw [show X.env.scope.names.lookup y = _ from k'] at k <;> cases k
    · rw [h2] at e'; cases e'
      exact ⟨c, h1, z.keeps kp⟩
  · have e : cenv.cells.lookup y = some c := e
    rcases mem e with ⟨h1, _⟩ | ⟨_, z⟩
    · obtain ⟨w, z⟩ := I.cell y c h1
      exact ⟨w, z.keeps kp⟩
    · exact ⟨_, z⟩
  · show H cenv.locals = none
    rw [hL]; exact I.hok.fresh (Nat.le_refl _)
  · have e : cenv.cells.lookup y = some c := e
    rcases mem e with ⟨h1, _⟩ | ⟨h1, _⟩
    · exact I.freeC y c h1
    · exact I.hok.fresh (Nat.le_of_succ_le h1)
  · exact absurd (show p ∈ ([] : List (Addr × Obj)) ++ [] from hp) (by simp)

/-- an item appended to a tracked list -/
theorem app_ok {E : Value → Shared → Prop} {D : Addr} {xs : List V} {y : V} {v : Value} {Q : Value → Shared → Prop} (I : Inv X pins σ H s) (hD : H D = some (.lst xs)) (hz : xs.length < sizeLine) (r : RelV y v)
    (h : ∀ s', Inv X pins σ (upd H D (.lst (xs ++ [y]))) s' → Q .none s') : wpAny (model X.prog X.w) X.A (call (.builtin "list.append") [.ref D, v]) Q E s := by
  obtain ⟨hz', its, n, ri, e⟩ := I.hok D _ hD
  have hl := ri.length
  refine append_at (hsz := by rw [List.size_toArray]; omega) e fun h' sb ho' => ?_
  refine h { s with heap := h' } (I.write (t' := s.toks) (by rw [hD]; trivial) (.inl rfl) (fun b u hb q => (sb.2 b hb).trans q) ⟨_, ho'⟩ ⟨by rw [List.length_append]; exact hz, its ++ [v], n + 1, ri.append (.cons r .nil), ?_⟩)
  rw [ho']
  simp

/-- a clause's tests -/
def PTs (X : Cx) (ifs : List Expr) (t : TT) : Prop :=
  ∀ (pins : List (Addr × Obj)) (s : Shared) (σ : St) (H : Hp) (Q : Bool → Hp → Prop), Inv X pins σ H s → t σ H Q →
    wpAny (model X.prog X.w) X.A (forIn ifs true fun c r => if r = true then do let ok ← isTrue c X.env (eval c X.env); pure (ForInStep.yield ok) else pure (ForInStep.yield r)) (TP X pins σ Q) X.xe s
theorem pts_one {c : Expr} {t : TT} (h : PT X c t) : PTs X [c] t := fun pins s σ H Q I hw => wpAny_tests_one (h pins s σ H Q I hw)
end

theorem thnF {α : Type} {t : Sem α} {Q Q' : α → Shared → Prop} {M : Model} {A : Around} {E : Value → Shared → Prop} {s : Shared} (h : wpAny M A t Q (fun _ _ => False) s) (hQ : ∀ a s, Q a s → Q' a s) : wpAny M A t Q' E s := wpAny_mono h hQ fun _ _ z => False.elim z

/-- the loop of a list comprehension's block, the target of any form (codeAny_compLoop_tests asks a target that no tuple goes to; statement and proof follow it, PyProof/CompMap.lean:41-61, with the step letOwnedTupleGo kept) -/
theorem compLoop_any {prog : Program} {w : World} {A : Around} {R : Result → Shared → Prop} {s : Shared} {elt target iter : Expr} {ifs : List Expr} {scope : Scope} {pos : Pos} {it acc : Value} {env : Env} (I : Nat → Shared → Prop)
    (turn : ∀ n s, I n s → wpAny (model prog w) A (pyNext it) (fun r s₁ => match r with
      | none => R (.ok .next) s₁
      | some v => wpAny (model prog w) A (letOwnedTupleGo target it v) (fun _ s₁' => wpAny (model prog w) A (assign target env v) (fun _ s₂ =>
          wpAny (model prog w) A (forIn ifs true fun c r => if r = true then do let ok ← isTrue c env (eval c env); pure (ForInStep.yield ok) else pure (ForInStep.yield r)) (fun ok s₃ =>
            if ok = true then wpAny (model prog w) A (eval elt env) (fun x s₄ =>
              wpAny (model prog w) A (call (.builtin "list.append") [acc, x]) (fun _ s₅ => ∃ m, m < n ∧ I m s₅) (notedBy (model prog w) A env fun e s' => R (.error e) s') s₄) (notedBy (model prog w) A env fun e s' => R (.error e) s') s₃
            else ∃ m, m < n ∧ I m s₃) (notedBy (model prog w) A env fun e s' => R (.error e) s') s₂) (notedBy (model prog w) A env fun e s' => R (.error e) s') s₁') (notedBy (model prog w) A env fun e s' => R (.error e) s') s₁) (notedBy (model prog w) A env fun e s' => R (.error e) s') s)
    (n : Nat) (h : I n s) :
    codeAny (model prog w) A (.compLoop (.ListComp elt [⟨target, iter, ifs, 0⟩] scope pos) 0 it acc env) R s := by
  refine codeAny_loop rfl I (fun n s hI => ?_) n h
  show wpAny _ A ((compTurn (.ListComp elt [⟨target, iter, ifs, 0⟩] scope pos) 0 it acc env).onRaise (fun x => do noteFrame x env; theTreesLotGoes x)) _ _ s
  refine wpAny_noted ?_
  rw [compTurn_list]
  refine wpAny_bind (wpAny_standAt (wpAny_bind (wpAny_mono (turn n s hI) (fun r s₁ h₁ => ?_) fun _ _ h' => h')))
  cases r with
  | none => exact wpAny_pure h₁
  | some v =>
    refine wpAny_bind (wpAny_mono h₁ (fun _ s₁' h₁' => ?_) fun _ _ h' => h')
    refine wpAny_bind (wpAny_mono h₁' (fun _ s₂ h₂ => wpAny_bind (wpAny_mono h₂ (fun ok s₃ h₃ => ?_) fun _ _ h' => h')) fun _ _ h' => h')
    cases ok with
    | false => exact wpAny_pure ⟨rfl, h₃⟩
    | true =>
      exact wpAny_bind (wpAny_bind (wpAny_mono h₃ (fun x s₄ h₄ => wpAny_bind (wpAny_mono h₄ (fun _ s₅ h₅ => wpAny_pure (wpAny_pure ⟨rfl, h₅⟩)) fun _ _ h' => h')) fun _ _ h' => h'))

section
variable {X : Cx}
/-- [elt for target in iter if ..]: D the new list; W by the turn and a measure, Nx what a turn is to reach -/
def tLc (wi : TI) (g : TG) (tt : TT) (te : TE) (vs : List Nat) : TE := fun σ H Q => wi σ H fun J H1 => ∀ D, H1 D = none → ∃ W : Nat → Nat → Hp → Prop, (∃ m, W 0 m (upd H1 D (.lst []))) ∧ ∀ i m H, W i m H →
  (J.stop i H ∧ Q (.ref D) H) ∨ (J.go i H ∧ ∃ Nx : Hp → Prop, (∀ H', Nx H' → ∃ m', m' < m ∧ W (i + 1) m' H') ∧ ∀ x H', J.yld i H x H' → g x (wipe σ vs) H' fun σ2 H2 => wipe σ2 vs = wipe σ vs ∧ tt σ2 H2 fun b H3 =>
    if b = true then te σ2 H3 fun y H4 => ∃ acc, H4 D = some (.lst acc) ∧ acc.length < sizeLine ∧ Nx (upd H4 D (.lst (acc ++ [y]))) else Nx H3)
theorem lc_core {pins : List (Addr × Obj)} {s : Shared} {σ : St} {H : Hp} {Q : VK} {elt tg iter : Expr} {ifs : List Expr} {scope : Scope} {own : List (Str × Nat)} {pos pos' : Pos} {wi : TI} {g : TG} {tt : TT} {te : TE} {use : Option (Value → Sem Unit)} {Qf : Value → Shared → Prop}
    (hc : X.calm = true) (hN : X.N.Nodup) (I : Inv X pins σ H s) (hi : PI X tg iter wi) (ok : BlkOk X.N X.env.scope scope own)
    (hg : ∀ (s : Shared) (H : Hp) (C : Addr) (cl : List (Str × Addr)) (fp : List Addr), PG (X.blk s H scope (compEnvC scope cl C X.env) fp) tg g) (ht : ∀ (s : Shared) (H : Hp) (C : Addr) (cl : List (Str × Addr)) (fp : List Addr), PTs (X.blk s H scope (compEnvC scope cl C X.env) fp) ifs tt)
    (he : ∀ (s : Shared) (H : Hp) (C : Addr) (cl : List (Str × Addr)) (fp : List Addr), PE (X.blk s H scope (compEnvC scope cl C X.env) fp) elt te) (hs : ∀ x, foldedSetIterable iter X.env x = pure x)
    (h : tLc wi g tt te (own.map (·.2)) σ H Q)
    (hRR : ∀ D C s' m H', Inv X pins σ H' s' → Q (.ref D) H' → s'.heap.Ns C m → FpOk X pins H' C → compPost (model X.prog X.w) X.A X.xe use Qf (.ref D) C (.ok .next) s') :
    wpAny (model X.prog X.w) X.A (comprehension (.ListComp elt [⟨tg, iter, ifs, 0⟩] scope pos) scope X.env pos' (newList []) false (eval iter X.env) use) Qf X.xe s := by
  have hfree : ∀ y ∈ scope.names, y.2 = .free → ∃ c, X.env.cells.lookup y.1 = some c := fun y hy e => by
    rcases ok.free y hy e with k | k
    · exact I.ok.has _ (.inl k)
    · exact I.ok.has _ (.inr k)
  refine wpAny_comprehension_free (use := use) rfl hs (closure_ok hfree) ok.kind (fun y hy e => by rw [ok.uniq y hy, e])
    (thn (hi pins s σ H _ I h) fun xv s1 hx => thn hx fun itv s2 h2 => ?_)
  obtain ⟨it, fp, tn, J, H2, e, I2, T, st2, f2, q⟩ := h2
  subst e
  refine wpAny_newObj_type (newEnv_comp ?_) (by show 0 ≤ sizeLine; decide)
  generalize hD : s2.heap.objs.size = D
  have hDn : H2 D = none := I2.hok.fresh (Nat.le_of_eq hD)
  obtain ⟨W, ⟨m0, w0⟩, turn⟩ := q D hDn
  -- the new list
  generalize hs3 : ({ s2 with heap := s2.heap.push { cls := .type "list", data := .seq ([] : List Value).toArray } } : Shared) = s3
  have I3 : Inv X pins σ (upd H2 D (.lst [])) s3 := by
    rw [← hs3]
    refine I2.laid (t' := s2.toks) (fun b o e => Heap.get?_push_of_some _ e) (Nat.le_of_eq hD) ⟨Nat.zero_le _, [], 0, .nil, ?_⟩
    rw [← hD]
    exact Heap.get?_push_size _ rfl
  have h3 : s3.heap = s2.heap.push { cls := .type "list", data := .seq ([] : List Value).toArray } := by rw [← hs3]
  have sz : ∀ b ∈ fp, b < s2.heap.objs.size := fun b hb => by
    obtain ⟨o, e, _⟩ := T.obj _ _ st2 b hb
    exact Heap.lt_size e
  have f3 : ∀ b ∈ fp, FpOk X pins (upd H2 D (.lst [])) b ∧ b < s3.heap.objs.size := fun b hb => by
    have hlt := sz b hb
    refine ⟨⟨?_, (f2 b hb).2⟩, by rw [h3, Heap.size_push]; exact Nat.lt_succ_of_lt hlt⟩
    rw [upd_ne (by rw [← hD]; exact Nat.ne_of_lt hlt)]
    exact (f2 b hb).1
  have st3 : tn 0 s3.heap := T.keep _ _ _ st2 fun b _ o e => by rw [h3]; exact Heap.get?_push_of_some _ e
  have I4 := block_start I3 ok hN f3
  have pg := hg s3 (upd H2 D (.lst [])) s3.heap.objs.size (cellsFrom (s3.heap.objs.size + 1) scope.names (cloFrom X.env.cells scope.names [])) fp
  have pt := ht s3 (upd H2 D (.lst [])) s3.heap.objs.size (cellsFrom (s3.heap.objs.size + 1) scope.names (cloFrom X.env.cells scope.names [])) fp
  have pe := he s3 (upd H2 D (.lst [])) s3.heap.objs.size (cellsFrom (s3.heap.objs.size + 1) scope.names (cloFrom X.env.cells scope.names [])) fp
  show codeAny _ _ (.compStart (.ListComp elt [⟨tg, iter, ifs, 0⟩] scope pos) 0 (.ref it) (.ref D) (compEnvC scope (cellsFrom (s3.heap.objs.size + 1) scope.names (cloFrom X.env.cells scope.names [])) s3.heap.objs.size X.env)) (compPost (model X.prog X.w) X.A X.xe use Qf (.ref D) s3.heap.objs.size) { s3 with heap := pushCells (s3.heap.push { cls := .type "dict", data := .dict #[] }) scope.names }
  have nfp : ∀ b ∈ fp, (upd H2 D (.lst [])) b = none := fun b hb => (f3 b hb).1.1
  generalize hce : compEnvC scope (cellsFrom (s3.heap.objs.size + 1) scope.names (cloFrom X.env.cells scope.names [])) s3.heap.objs.size X.env = ce at I4 pg pt pe ⊢
  have cL : ce.locals = s3.heap.objs.size := by subst hce; rfl
  generalize hH3 : upd H2 D (.lst []) = H3 at I3 I4 pg pt pe w0 nfp f3
  generalize hs4 : ({ s3 with heap := pushCells (s3.heap.push { cls := .type "dict", data := .dict #[] }) scope.names } : Shared) = s4 at I4 ⊢
  have st4 : tn 0 s4.heap := T.keep _ _ _ st3 fun b _ o e => by rw [← hs4]; exact pushCells_keeps _ _ _ _ (Heap.get?_push_of_some _ e)
  have stat : ∀ {σ' : St} {H' : Hp} {s' : Shared}, Inv (X.blk s3 H3 scope ce fp) [] σ' H' s' → (∀ b ∈ fp, H' b = none) → ∀ b ∈ fp, FpOk (X.blk s3 H3 scope ce fp) [] H' b := fun {σ' H' s'} I' hn b hb =>
    ⟨hn b hb, (I'.ok.exf b hb).1, I'.ok.exfs b hb, .inl hb, fun x c e => (I'.ok.exf b hb).2 x c e, fun p hp => absurd (show p ∈ ([] : List (Addr × Obj)) ++ [] from hp) (by simp)⟩
  have loop : codeAny (model X.prog X.w) X.A (.compLoop (.ListComp elt [⟨tg, iter, ifs, 0⟩] scope pos) 0 (.ref it) (.ref D) ce) (compPost (model X.prog X.w) X.A X.xe use Qf (.ref D) s3.heap.objs.size) s4 := by
    refine compLoop_any (fun n s' => ∃ i H', Inv (X.blk s3 H3 scope ce fp) [] (wipe σ (own.map (·.2))) H' s' ∧ tn i s'.heap ∧ (∀ b ∈ fp, H' b = none) ∧ W i n H') ?_ m0 ⟨0, H3, I4, st4, nfp, w0⟩
    rintro n s5 ⟨i, H5, I5, st5, n5, w5⟩
    rcases turn i n H5 w5 with ⟨stop, qq⟩ | ⟨go, Nx, hNx, step⟩
    · have td := T.done (X.blk s3 H3 scope ce fp) rfl rfl rfl hc i [] s5 _ H5 (fun _ _ => False) I5 (stat I5 n5) st5 stop
      refine thnF td fun r s6 ⟨hr, I6⟩ => ?_
      subst hr
      -- back in the def's context
      have I7 : Inv X pins σ H5 s6 := I3.call' (ch := fp) I6.os I6.base I6.hok I6.bare fun b hb => ⟨(f3 b hb).1.2.2.2.1, (f3 b hb).1.2.1, (f3 b hb).1.2.2.2.2.1, (f3 b hb).1.2.2.2.2.2⟩
      have nC : H5 s3.heap.objs.size = none := by
        have z : H5 ce.locals = none := I6.free
        rw [cL] at z
        exact z
      obtain ⟨m, hn, _⟩ := I6.loc
      have hn : s6.heap.Ns ce.locals m := hn
      rw [cL] at hn
      exact hRR D s3.heap.objs.size s6 m H5 I7 qq hn (I3.fpOk (Nat.le_refl _) nC)
    · have ti := T.item (X.blk s3 H3 scope ce fp) rfl rfl rfl hc i [] s5 _ H5 (fun _ _ => False) I5 (stat I5 n5) st5 go
      refine thnF ti fun r s6 ⟨u, hr, h6⟩ => ?_
      subst hr
      refine thnF h6 fun _ s7 ⟨x, H7, I7, r7, y7, st7, n7⟩ => ?_
      have I7' := I7.pinned (stat I7 n7) (T.obj _ _ st7)
      refine thnF (pg _ s7 _ H7 x u _ I7' r7 (step x H7 y7)) fun _ s8 ⟨σ8, H8, I8, hw8, q8⟩ => ?_
      refine thnF (pt _ s8 σ8 H8 _ I8 q8) fun b s9 ⟨H9, I9, q9⟩ => ?_
      -- the turn's end
      have fin : ∀ {s' : Shared} {H' : Hp}, Inv (X.blk s3 H3 scope ce fp) ([] ++ pinsAt fp s7.heap) σ8 H' s' → Nx H' → ∃ m, m < n ∧ ∃ i H', Inv (X.blk s3 H3 scope ce fp) [] (wipe σ (own.map (·.2))) H' s' ∧ tn i s'.heap ∧ (∀ b ∈ fp, H' b = none) ∧ W i m H' := fun {s' H'} I' nx => by
        obtain ⟨m', hm, w'⟩ := hNx H' nx
        have pin' : ∀ b ∈ fp, ∀ o, s7.heap.get? b = some o → s'.heap.get? b = some o ∧ H' b = none := fun b hb o e =>
          let z := I'.pin (b, o) (List.mem_append_right _ (List.mem_append_right _ (mem_pinsAt hb e)))
          ⟨z.1, z.2.1⟩
        have hl : (wipe σ (own.map (·.2))).length = σ8.length := by rw [← hw8, wipe_length]
        refine ⟨m', hm, i + 1, H', (I'.unpinned (pins := [])).weak hl (fun j v e => ?_), T.keep _ _ _ st7 fun b hb o e => (pin' b hb o e).1, fun b hb => ?_, w'⟩
        · rw [← hw8] at e
          exact (wipe_some e).1
        · obtain ⟨o, e, _⟩ := T.obj _ _ st7 b hb
          exact (pin' b hb o e).2
      cases b with
      | false =>
        simp only [Bool.false_eq_true, if_false] at q9 ⊢
        exact fin I9 q9
      | true =>
        simp only [if_true] at q9 ⊢
        refine thnF (pe _ s9 σ8 H9 _ I9 q9) fun z s10 ⟨yv, H10, I10, r10, acc, hD10, hz10, nx⟩ => ?_
        exact app_ok (X := X.blk s3 H3 scope ce fp) I10 hD10 hz10 r10 fun s11 I11 => fin I11 nx
  exact codeAny_compStart_list loop (T.self X.A 0 _ _ _ st4 loop)
/-- name = [..] on one line, the name a local -/
theorem ps_setLc {i : Nat} {y : Str} {py : Pos} {elt tg iter : Expr} {ifs : List Expr} {scope : Scope} {own : List (Str × Nat)} {pos spos : Pos} {wi : TI} {g : TG} {tt : TT} {te : TE} (hc : X.calm = true) (hN : X.N.Nodup) (hy : X.N[i]? = some y) (hyl : X.env.scope.names.lookup y = some .local)
    (hsw : swapsWith (.ListComp elt [⟨tg, iter, ifs, 0⟩] scope pos) (some (.Name y py)) spos.line X.env = pure true) (hi : PI X tg iter wi) (ok : BlkOk X.N X.env.scope scope own)
    (hg : ∀ (s : Shared) (H : Hp) (C : Addr) (cl : List (Str × Addr)) (fp : List Addr), PG (X.blk s H scope (compEnvC scope cl C X.env) fp) tg g) (ht : ∀ (s : Shared) (H : Hp) (C : Addr) (cl : List (Str × Addr)) (fp : List Addr), PTs (X.blk s H scope (compEnvC scope cl C X.env) fp) ifs tt)
    (he : ∀ (s : Shared) (H : Hp) (C : Addr) (cl : List (Str × Addr)) (fp : List Addr), PE (X.blk s H scope (compEnvC scope cl C X.env) fp) elt te) (hs : ∀ x, foldedSetIterable iter X.env x = pure x := by intro _; rfl) :
    PS X (.Assign [.Name y py] (.ListComp elt [⟨tg, iter, ifs, 0⟩] scope pos) spos) (tAsg (tLc wi g tt te (own.map (·.2))) (gName i)) := by
  intro pins s σ H D I h
  rw [exec_Assign_Name_used _ _ _ _ hsw]
  refine wpAny_bind (wpAny_standAt (wpAny_bind ?_))
  show wpAny _ X.A (do let _ ← comprehension (.ListComp elt [⟨tg, iter, ifs, 0⟩] scope pos) scope X.env (firstIterPos [⟨tg, iter, ifs, 0⟩] pos) (newList []) false (eval iter X.env) (some (assign (.Name y py) X.env))) _ _ s
  have h : tLc wi g tt te (own.map (·.2)) σ H (fun x H1 => gName i x σ H1 D.nx) := h
  refine wpAny_bind (thn (lc_core (Qf := fun _ s' => SP X pins D .next s') hc hN I hi ok hg ht he hs h fun L C s' m H' I' q hn f => ?_) fun _ s' hq => wpAny_pure (wpAny_pure hq))
  show wpAny _ _ (assign (.Name y py) X.env (.ref L)) _ _ _
  refine wpAny_assign_Name (store_ok2 (v := V.ref L) I' hN hy (.inl hyl) rfl (fun s2 I2 ⟨a, sb, ha⟩ => ?_) (.inr hyl))
  obtain ⟨f0, f1, f2, f3, f4, f5⟩ := f
  have haC : C ≠ a := by
    rcases ha with z | z
    · rw [z]; exact f1
    · exact fun e => f4 y a z e.symm
  refine ⟨m, hn.sameBut sb haC, fun h3 sb3 => ?_⟩
  exact ⟨_, H', I2.turned (t' := s2.toks) (fun b o hb e => (sb3.2 b hb).trans e) f0 f1 f3 f4 f5, q⟩
end

/-! ### the forms one uses -/
/-- over a list that the block leaves as it is -/
theorem lc_list {K : PySem.W.Frag} {a : Addr} {xs : List V} {g : TG} {tt : TT} {te : TE} {vs : List Nat} {σ : St} {H1 : Hp} {D : Addr} {Qd : Hp → Prop} (Pv : Nat → Hp → Prop) (h0 : Pv 0 (upd H1 D (.lst []))) (hl : ∀ i H, i ≤ xs.length → Pv i H → SqL K H a xs)
    (hs : ∀ i x H, xs[i]? = some x → Pv i H → g x (wipe σ vs) H fun σ2 H2 => wipe σ2 vs = wipe σ vs ∧ tt σ2 H2 fun b H3 =>
      if b = true then te σ2 H3 fun y H4 => ∃ acc, H4 D = some (.lst acc) ∧ acc.length < sizeLine ∧ Pv (i + 1) (upd H4 D (.lst (acc ++ [y]))) else Pv (i + 1) H3) (hd : ∀ H, Pv xs.length H → Qd H) :
    ∃ W : Nat → Nat → Hp → Prop, (∃ m, W 0 m (upd H1 D (.lst []))) ∧ ∀ i m H, W i m H →
      ((Itl K a).stop i H ∧ Qd H) ∨ ((Itl K a).go i H ∧ ∃ Nx : Hp → Prop, (∀ H', Nx H' → ∃ m', m' < m ∧ W (i + 1) m' H') ∧ ∀ x H', (Itl K a).yld i H x H' → g x (wipe σ vs) H' fun σ2 H2 => wipe σ2 vs = wipe σ vs ∧ tt σ2 H2 fun b H3 =>
        if b = true then te σ2 H3 fun y H4 => ∃ acc, H4 D = some (.lst acc) ∧ acc.length < sizeLine ∧ Nx (upd H4 D (.lst (acc ++ [y]))) else Nx H3) := by
  refine ⟨fun i m H => m = xs.length - i ∧ i ≤ xs.length ∧ Pv i H, ⟨xs.length, by simp, Nat.zero_le _, h0⟩, ?_⟩
  rintro i m H ⟨rfl, hi, p⟩
  have q := hl i H hi p
  by_cases hlt : i < xs.length
  · refine .inr ⟨⟨xs, xs[i], q, by simp [hlt]⟩, Pv (i + 1), fun H' p' => ⟨xs.length - (i + 1), by omega, rfl, hlt, p'⟩, fun x H' y => ?_⟩
    obtain ⟨e, y⟩ := y
    subst e
    exact hs i x _ (y xs q) p
  · have e : i = xs.length := by omega
    subst e
    exact .inl ⟨⟨xs, q, Nat.le_refl _⟩, hd H p⟩
def blkC (N : List Str) (sc scope : Scope) (own : List (Str × Nat)) : Bool :=
  (match scope.kind with | .function => true | _ => false) && (scope.names.all fun y => decide (scope.names.lookup y.1 = some y.2)) && (own.all fun p => decide (N[p.2]? = some p.1)) &&
    (scope.names.all fun y => match y.2 with
      | .free => (match sc.names.lookup y.1 with | some .cell => true | some .free => true | _ => false)
      | .local => decide (y.1 ∈ own.map (·.1)) || decide (y.1 ∉ N)
      | .cell => decide (y.1 ∈ own.map (·.1)) || decide (y.1 ∉ N)
      | _ => true)
theorem blkOk_by {N : List Str} {sc scope : Scope} {own : List (Str × Nat)} (h : blkC N sc scope own = true) : BlkOk N sc scope own := by
  unfold blkC at h
  simp only [Bool.and_eq_true, List.all_eq_true, decide_eq_true_eq] at h
  obtain ⟨⟨⟨h1, h2⟩, h3⟩, h4⟩ := h
  refine ⟨?_, h2, h3, fun y hy e => ?_, fun y hy e => ?_⟩
  · split at h1
    · assumption
    · cases h1
  · have q := h4 y hy
    simp only [e] at q
    split at q <;> first | exact .inl (by assumption) | exact .inr (by assumption) | cases q
  · have q := h4 y hy
    rcases e with e | e <;> (simp only [e, Bool.or_eq_true, decide_eq_true_eq] at q; exact q)
end L2

namespace L2
open PySem PySem.Spec PyProof.Rows


section
variable {prog : Program} {w : World} {A : Around} {R : Result → Shared → Prop} {s : Shared} {elt t0 i0 t1 i1 : Expr} {ifs0 ifs1 : List Expr} {scope : Scope} {pos : Pos} {it acc : Value} {env : Env}
end

section
variable {X : Cx}
end
end L2

namespace L2
open PySem PySem.Spec PyProof.Rows

/-! ### lists of pairs as tables -/
section
variable {κ : Type} [DecidableEq κ]
def valV (kvs : List (κ × V)) (k : κ) : Option V := (kvs.find? fun kv => decide (kv.1 = k)).map (·.2)
/-- in its place, or at the end -/
def putK (kvs : List (κ × V)) (k : κ) (v : V) : List (κ × V) :=
  if (kvs.any fun kv => decide (kv.1 = k)) = true then kvs.map (fun kv => if kv.1 = k then (kv.1, v) else kv) else kvs ++ [(k, v)]

theorem valV_pos {p : κ × V} {r : List (κ × V)} {k : κ} (e : p.1 = k) : valV (p :: r) k = some p.2 := by simp [valV, List.find?_cons, e]
theorem valV_neg {p : κ × V} {r : List (κ × V)} {k : κ} (e : ¬ p.1 = k) : valV (p :: r) k = valV r k := by simp [valV, List.find?_cons, e]
theorem valV_any (k : κ) : ∀ kvs : List (κ × V), (kvs.any fun kv => decide (kv.1 = k)) = (valV kvs k).isSome
  | [] => rfl
  | p :: r => by
    rw [List.any_cons]
    by_cases e : p.1 = k
    · simp only [valV_pos e, decide_eq_true e, Bool.true_or, Option.isSome_some]
    · rw [valV_neg e, decide_eq_false e, Bool.false_or]; exact valV_any k r
theorem length_putK (kvs : List (κ × V)) (k : κ) (v : V) : (putK kvs k v).length ≤ kvs.length + 1 := by
  unfold putK
  split
  · rw [List.length_map]; omega
  · rw [List.length_append, List.length_cons, List.length_nil]; omega

theorem RelO.isSome_eq {o : Option V} {u : Option Value} (r : RelO o u) : o.isSome = u.isSome := by
  cases o with
  | none => cases u with
    | none => rfl
    | some _ => exact (show False from r).elim
  | some _ => cases u with
    | none => exact (show False from r).elim
    | some _ => rfl
theorem RelO.getD {o : Option V} {u : Option Value} {d : V} {d' : Value} (r : RelO o u) (rd : RelV d d') : RelV (o.getD d) (u.getD d') := by
  cases o with
  | none => cases u with
    | none => exact rd
    | some _ => exact (show False from r).elim
  | some _ => cases u with
    | none => exact (show False from r).elim
    | some _ => exact r

/-- raw tables of the same keys -/
theorem KV.val {kvs : List (κ × V)} {vs : List (κ × Value)} (r : KV kvs vs) (k : κ) : RelO (valV kvs k) (valueAt vs k) := by
  unfold KV at r
  induction r with
  | nil => exact True.intro
  | @cons p q ps qs h t ih =>
    obtain ⟨h1, h2⟩ := h
    by_cases e : p.1 = k
    · have e' : q.1 = k := h1.symm.trans e
      have b : valueAt (q :: qs) k = some q.2 := by simp [valueAt, List.find?_cons, e']
      rw [valV_pos e, b]; exact h2
    · have e' : ¬ q.1 = k := fun z => e (h1.trans z)
      have b : valueAt (q :: qs) k = valueAt qs k := by simp [valueAt, List.find?_cons, e']
      rw [valV_neg e, b]; exact ih
theorem KV.any {kvs : List (κ × V)} {vs : List (κ × Value)} (r : KV kvs vs) (k : κ) : (kvs.any fun kv => decide (kv.1 = k)) = vs.any fun kv => decide (kv.1 = k) := by
  unfold KV at r
  induction r with
  | nil => rfl
  | cons h t ih => rw [List.any_cons, List.any_cons, ih, h.1]
theorem KV.repl {kvs : List (κ × V)} {vs : List (κ × Value)} (r : KV kvs vs) (k : κ) {y : V} {u : Value} (ry : RelV y u) :
    KV (kvs.map fun kv => if kv.1 = k then (kv.1, y) else kv) (vs.map fun kv => if kv.1 = k then (kv.1, u) else kv) := by
  unfold KV at r ⊢
  induction r with
  | nil => exact .nil
  | @cons p q ps qs h t ih =>
    rw [List.map_cons, List.map_cons]
    refine .cons ?_ ih
    obtain ⟨h1, h2⟩ := h
    by_cases e : p.1 = k
    · rw [if_pos e, if_pos (h1.symm.trans e)]; exact ⟨h1, ry⟩
    · rw [if_neg e, if_neg (fun z => e (h1.trans z))]; exact ⟨h1, h2⟩
theorem KV.put {kvs : List (κ × V)} {vs : List (κ × Value)} (r : KV kvs vs) (k : κ) {y : V} {u : Value} (ry : RelV y u) : KV (putK kvs k y) (stored vs k u) := by
  unfold putK stored
  rw [r.any k]
  by_cases e : (vs.any fun kv => decide (kv.1 = k)) = true
  · rw [if_pos e, if_pos e]; exact r.repl k ry
  · rw [if_neg e, if_neg e]; exact Paired.snoc r ⟨rfl, ry⟩
theorem KV.length {kvs : List (κ × V)} {vs : List (κ × Value)} (r : KV kvs vs) : kvs.length = vs.length := Paired.length r
end


/-! ### a tracked dict, its keys ints and texts or tuples of these -/
theorem kV_is {P : Program} {w : World} {k : Key} {u : Value} (r : RelV (kV k) u) : (mixKind P w).is k u = true := by
  cases k with
  | inl i => obtain ⟨t, e⟩ := (show ∃ t, u = Value.int i t from r); subst e; exact mixKind_int P w i t
  | inr x => obtain ⟨t, e⟩ := (show ∃ t, u = Value.str x t from r); subst e; exact mixKind_str P w x t
theorem items_are {P : Program} {w : World} : ∀ {ks : List Key} {us : List Value}, Vals (ks.map kV) us → ItemsAre (mixKind P w) ks us
  | [], _, r => by rw [List.map_nil] at r; cases r; exact .nil
  | k :: ks, _, r => by
    rw [List.map_cons] at r
    cases r with
    | cons h t => exact .cons (kV_is h) (items_are t)

/-- raw entries of a dict with tuple keys -/
abbrev KT (H : Hp) : List (List Key × V) → List (List Key × Addr × Value) → Prop := Paired fun p q => p.1 = q.1 ∧ H q.2.1 = some (.tup (p.1.map kV)) ∧ RelV p.2 q.2.2
theorem KT.val {H : Hp} {kvs : List (List Key × V)} {xs : List (List Key × Addr × Value)} (r : KT H kvs xs) (k : List Key) : RelO (valV kvs k) ((atKey xs k).map (·.2)) := by
  induction r with
  | nil => exact True.intro
  | @cons p q ps qs h t ih =>
    obtain ⟨h1, _, h2⟩ := h
    by_cases e : p.1 = k
    · have e' : q.1 = k := h1.symm.trans e
      have b : atKey (q :: qs) k = some q.2 := by simp [atKey, List.find?_cons, e']
      rw [valV_pos e, b]; exact h2
    · have e' : ¬ q.1 = k := fun z => e (h1.trans z)
      have b : atKey (q :: qs) k = atKey qs k := by simp [atKey, List.find?_cons, e']
      rw [valV_neg e, b]; exact ih
theorem KT.repl {H : Hp} {kvs : List (List Key × V)} {xs : List (List Key × Addr × Value)} (r : KT H kvs xs) (k : List Key) {y : V} {u : Value} (ry : RelV y u) :
    KT H (kvs.map fun kv => if kv.1 = k then (kv.1, y) else kv) (xs.map (putAt k u)) := by
  induction r with
  | nil => exact .nil
  | @cons p q ps qs h t ih =>
    rw [List.map_cons, List.map_cons]
    refine .cons ?_ ih
    obtain ⟨h1, h2, h3⟩ := h
    unfold putAt
    by_cases e : p.1 = k
    · rw [if_pos e, if_pos (h1.symm.trans e)]; exact ⟨h1, h2, ry⟩
    · rw [if_neg e, if_neg (fun z => e (h1.trans z))]; exact ⟨h1, h2, h3⟩
theorem KT.put {H : Hp} {kvs : List (List Key × V)} {xs : List (List Key × Addr × Value)} (r : KT H kvs xs) (k : List Key) {b : Addr} {y : V} {u : Value} (hb : H b = some (.tup (k.map kV))) (ry : RelV y u) :
    KT H (putK kvs k y) (storedH xs k b u) := by
  have e : (kvs.any fun kv => decide (kv.1 = k)) = (atKey xs k).isSome := by
    rw [valV_any, (r.val k).isSome_eq, Option.isSome_map]
  unfold putK storedH
  rw [e]
  by_cases q : (atKey xs k).isSome = true
  · rw [if_pos q, if_pos q]; exact r.repl k ry
  · rw [if_neg q, if_neg q]; exact Paired.snoc r ⟨rfl, hb, ry⟩
theorem KT.keeps {H H' : Hp} {kvs : List (List Key × V)} {xs : List (List Key × Addr × Value)} (r : KT H kvs xs) (ht : ∀ b ys, H b = some (.tup ys) → H' b = some (.tup ys)) : KT H' kvs xs :=
  Paired.mapP r fun _ _ z => ⟨z.1, ht _ _ z.2.1, z.2.2⟩

section
variable {P : Program} {w : World} {H : Hp} {h : Heap} {a : Addr}
theorem rd_of {u : HO} (ok : HOk P w H h) (e : Rd H a u) : ObjOk P w H h a u := e.ok ok
theorem dk_rd {kvs : List (Key × V)} (ok : HOk P w H h) (e : Rd H a (.dK kvs)) : kvs.length ≤ sizeLine ∧ (a == sysModules) = false ∧ ∃ vs, KV kvs vs ∧ h.DictOf (mixKind P w) a vs :=
  show ObjOk P w H h a (.dK kvs) from rd_of ok e
theorem dk_of {kvs : List (Key × V)} (ok : HOk P w H h) (e : H a = some (.dK kvs)) : kvs.length ≤ sizeLine ∧ (a == sysModules) = false ∧ ∃ vs, KV kvs vs ∧ h.DictOf (mixKind P w) a vs := dk_rd ok (.inl e)
/-- a tracked tuple of ints and texts is a key -/
theorem key_of {ks : List Key} (ok : HOk P w H h) (e : H a = some (.tup (ks.map kV))) : (tupleKind (mixKind P w)).is h ks a := by
  obtain ⟨_, its, r, o, h1, h2, n, h3⟩ := (show ObjOk P w H h a (.tup (ks.map kV)) from ok a _ e)
  exact ⟨o, its.toArray, n, h1, h2, h3, by simpa using items_are r⟩
theorem dt_rd {kvs : List (List Key × V)} (ok : HOk P w H h) (e : Rd H a (.dT kvs)) : kvs.length ≤ sizeLine ∧ (a == sysModules) = false ∧
    ∃ xs, KT H kvs xs ∧ h.DictOfH (tupleKind (mixKind P w)) a xs := by
  obtain ⟨z, y, xs, r, o, es, ep, h1, h2, h3, h4, h5⟩ := (show ObjOk P w H h a (.dT kvs) from rd_of ok e)
  refine ⟨z, y, xs, r, o, es, ep, h1, h2, h3, h4, fun x hx => ?_, h5⟩
  have all : ∀ {l : List (List Key × V)} {m : List (List Key × Addr × Value)}, KT H l m → ∀ x ∈ m, (tupleKind (mixKind P w)).is h x.1 x.2.1 := by
    intro l m q
    induction q with
    | nil => intro x hx; exact nomatch hx
    | @cons p q ps qs hq t ih =>
      intro x hx
      rcases List.mem_cons.mp hx with e | hx
      · subst e
        exact key_of ok (by rw [← hq.1]; exact hq.2.1)
      · exact ih x hx
  exact all r x hx
theorem dt_of {kvs : List (List Key × V)} (ok : HOk P w H h) (e : H a = some (.dT kvs)) : kvs.length ≤ sizeLine ∧ (a == sysModules) = false ∧
    ∃ xs, KT H kvs xs ∧ h.DictOfH (tupleKind (mixKind P w)) a xs := dt_rd ok (.inl e)
end

/-- what the dict at a holds at the key y -/
def DGet (H : Hp) (a : Addr) (y : V) (r : Option V) : Prop :=
  (∃ kvs k, Rd H a (.dK kvs) ∧ y = kV k ∧ r = valV kvs k) ∨ ∃ kvs k b, Rd H a (.dT kvs) ∧ y = .ref b ∧ H b = some (.tup (k.map kV)) ∧ r = valV kvs k
/-- the heap behind a[y] = v -/
def DPut (H : Hp) (a : Addr) (y v : V) (H' : Hp) : Prop :=
  (∃ kvs k, H a = some (.dK kvs) ∧ y = kV k ∧ kvs.length < sizeLine ∧ H' = upd H a (.dK (putK kvs k v))) ∨
  ∃ kvs k b, H a = some (.dT kvs) ∧ y = .ref b ∧ H b = some (.tup (k.map kV)) ∧ kvs.length < sizeLine ∧ H' = upd H a (.dT (putK kvs k v))
theorem DGet.k {H : Hp} {a : Addr} {kvs : List (Key × V)} {k : Key} (e : H a = some (.dK kvs)) : DGet H a (kV k) (valV kvs k) := .inl ⟨kvs, k, .inl e, rfl, rfl⟩
theorem DPut.k {H : Hp} {a : Addr} {kvs : List (Key × V)} {k : Key} {v : V} (e : H a = some (.dK kvs)) (hl : kvs.length < sizeLine) : DPut H a (kV k) v (upd H a (.dK (putK kvs k v))) := .inl ⟨kvs, k, e, rfl, hl, rfl⟩


section
variable {X : Cx} {pins : List (Addr × Obj)} {σ : St} {H : Hp} {s : Shared} {a : Addr} {y v : V} {u r : Value} {o : Option V} {A : Around} {E : Value → Shared → Prop}

theorem Inv.big (I : Inv X pins σ H s) : sysModules < s.heap.objs.size := by
  have h : mainGlobals < s.heap.objs.size := (I.mod.glob.keeps I.bk).lt
  exact Nat.lt_trans (by decide) h

/-- y in d -/
theorem d_in {Q : Value → Shared → Prop} (hu : A.units + 1 < cLine) (I : Inv X pins σ H s) (g : DGet H a y o) (ry : RelV y u) (h : ∀ s', Inv X pins σ H s' → Q (.bool o.isSome) s') :
    wpAny (model X.prog X.w) A (compareOp .In u (.ref a)) Q E s := by
  rcases g with ⟨kvs, k, e, ey, l⟩ | ⟨kvs, k, b, e, ey, eb, l⟩
  · subst ey
    obtain ⟨z, hd, vs, rel, dd⟩ := dk_rd I.hok e
    refine wpAny_in_of (kV_is ry) hd dd.mapOf ?_
    rw [← (rel.val k).isSome_eq, ← l]
    exact h _ (I.tok _)
  · subst ey
    cases (show u = Value.ref b from ry)
    obtain ⟨z, hd, xs, rel, dd⟩ := dt_rd I.hok e
    refine wpAny_in_heap (tupleKind_room_in1 hu) (key_of I.hok eb) hd dd ?_
    have q := (rel.val k).isSome_eq
    rw [Option.isSome_map] at q
    rw [← q, ← l]
    exact h _ (I.tok _)
/-- a dict's object is replaced -/
theorem d_write {h' : Heap} {t' : Nat} {ob : HO} (I : Inv X pins σ H s) (mu : Mut (H a)) (hs : Heap.SameBut a s.heap h') (he : ∃ q, h'.get? a = some q) (new : ObjOk X.prog X.w (upd H a ob) h' a ob) :
    Inv X pins σ (upd H a ob) { s with heap := h', toks := t' } :=
  I.write (x := a) (e := a) mu (.inl rfl) (fun b q hb z => (hs.2 b hb).trans z) he new
theorem dk_new {P : Program} {w : World} {H' : Hp} {h' : Heap} {kvs : List (Key × V)} {vs : List (Key × Value)} (z : kvs.length ≤ sizeLine) (hd : (a == sysModules) = false) (rel : KV kvs vs) (dd : h'.DictOf (mixKind P w) a vs) :
    ObjOk P w H' h' a (.dK kvs) := ⟨z, hd, vs, rel, dd⟩
/-- d[y] = v -/
theorem d_setItem {H' : Hp} {Q : Unit → Shared → Prop} (hu : A.units + 1 < cLine) (I : Inv X pins σ H s) (g : DPut H a y v H') (ry : RelV y u) (rv : RelV v r) (h : ∀ s', Inv X pins σ H' s' → Q () s') :
    wpAny (model X.prog X.w) A (setItem (.ref a) u r) Q E s := by
  rcases g with ⟨kvs, k, e, ey, l, eH⟩ | ⟨kvs, k, b, e, ey, eb, l, eH⟩
  · subst ey eH
    obtain ⟨z, hd, vs, rel, dd⟩ := dk_of I.hok e
    have hz : vs.length ≤ sizeLine := by rw [← rel.length]; exact z
    have hl : (putK kvs k v).length ≤ sizeLine := by have := length_putK kvs k v; omega
    refine wpAny_setItem_pairs (hsz := hz) (kV_is ry) dd fun h' dd' hs => h _ ?_
    have he : ∃ q, h'.get? a = some q := let ⟨q, _, _, hq, _⟩ := dd'; ⟨q, hq⟩
    exact d_write I (by rw [e]; exact True.intro) hs he (dk_new hl hd (rel.put k rv) dd')
  · subst ey eH
    cases (show u = Value.ref b from ry)
    obtain ⟨z, hd, xs, rel, dd⟩ := dt_of I.hok e
    have hz : xs.length ≤ sizeLine := by rw [← Paired.length rel]; exact z
    have hl : (putK kvs k v).length ≤ sizeLine := by have := length_putK kvs k v; omega
    refine wpAny_setItem_heap (hsz := hz) (tupleKind_room_in1 hu) (key_of I.hok eb) dd fun h' dd' hs => h _ ?_
    obtain ⟨q, es, ep, hq, h2, h3, h4, _, h5⟩ := dd'
    refine d_write I (by rw [e]; exact True.intro) hs ⟨q, hq⟩ ⟨hl, hd, _, (rel.put k eb rv).keeps fun c ys ec => ?_, q, es, ep, hq, h2, h3, h4, h5⟩
    rw [upd_ne (ne_of ec e (fun z => nomatch z))]
    exact ec
end

section
variable {X : Cx} {pins : List (Addr × Obj)} {σ : St} {H : Hp} {s : Shared} {a : Addr} {kvs : List (Key × V)} {k : Key} {u : Value} {A : Around} {E : Value → Shared → Prop}
/-- len(d) -/
theorem d_len {Q : Value → Shared → Prop} (I : Inv X pins σ H s) (e : Rd H a (.dK kvs)) (h : ∀ t s', Inv X pins σ H s' → Q (.int kvs.length t) s') : wpAny (model X.prog X.w) A (call (.builtin "len") [.ref a]) Q E s := by
  obtain ⟨z, hd, vs, rel, dd⟩ := dk_rd I.hok e
  refine call_len_dict hd dd (by rw [← rel.length]; rw [sizeLine_eq] at z; omega) ?_
  rw [← rel.length]
  exact h _ _ (I.tok _)
end


/-! ### readings and rules -/
/-- the element of a subscription, not a slice -/
def NoSl (i : Expr) : Prop := ∀ ov iv, subscripted i false ov iv = operate [ov, iv] (getItem ov iv)
theorem subD_of {prog : Program} {w : World} {A : Around} {E : Value → Shared → Prop} {s : Shared} {env : Env} {value slice : Expr} {pos : Pos} {T id : String} {Q : Value → Shared → Prop}
    (hl : typeLookup (.type T) "__getitem__" = pure (some (.builtin id))) (hs : NoSl slice)
    (h : wpAny (model prog w) A (eval value env) (fun o s₁ => wpAny (model prog w) A (eval slice env) (fun i s₂ => s₂.TypeIs o T ∧ wpAny (model prog w) A (getItem o i) Q E s₂) E s₁) E s) :
    wpAny (model prog w) A (eval (.Subscript value slice pos) env) Q E s := by
  refine Subscript_ (wpAny_mono h (fun o s₁ h₁ => wpAny_mono h₁ (fun i s₂ h₂ => ?_) fun _ _ x => x) fun _ _ x => x)
  obtain ⟨hT, h₂⟩ := h₂
  unfold subscriptTail
  refine wpAny_bind ?_
  rw [getitemInPython_of_ne hT.not_modules]
  refine wpAny_bind (wpAny_specialOf hT hl ?_)
  have fin : wpAny (model prog w) A (subscripted slice false o i) (fun r s₃ => wpAny (model prog w) A (letTemporaryGo value o r >>= fun _ => pure r) Q E s₃) E s₂ := by
    rw [hs o i]
    exact wpAny_operating (wpAny_mono h₂ (fun r s₃ h₃ => wpAny_bind (wpAny_letTemporaryGo (wpAny_pure h₃))) fun _ _ x => x)
  first
    | exact wpAny_pure (wpAny_bind fin)
    | exact wpAny_bind (wpAny_pure (wpAny_bind fin))
    | exact wpAny_bind fin


/-- y in d, y not in d -/
def tDIn (ty td : TE) : TE := fun σ H Q => ty σ H fun y H1 => td σ H1 fun x H2 => ∃ a o, x = .ref a ∧ DGet H2 a y o ∧ Q (.bl o.isSome) H2
/-- d[y] = v -/
def sDPut (td ty tv : TE) : TS := fun D σ H => tv σ H fun v H1 => td σ H1 fun x H2 => ty σ H2 fun y H3 => ∃ a H4, x = .ref a ∧ DPut H3 a y v H4 ∧ D.nx σ H4

section
variable {X : Cx} {o i e value : Expr} {pos pos' tpos : Pos} {td ty tv : TE}
theorem pc_din (hu : X.A.units + 1 < cLine) (hi : PE X i ty) (ho : PE X o td) : PC X .In i o (tDIn ty td) := by
  intro pins s σ H Q I h
  refine thn (hi pins s σ H _ I h) fun iv s1 ⟨y, H1, I1, ry, q1⟩ => thn (ho pins s1 σ H1 _ I1 q1) fun u s2 ⟨x, H2, I2, rx, a, ov, ex, g, q2⟩ => ?_
  subst ex
  obtain rfl : u = Value.ref a := rx
  exact d_in hu I2 g ry fun s3 I3 => ⟨.bl ov.isSome, H2, I3, rfl, q2⟩
theorem ps_dput (hu : X.A.units + 1 < cLine) (ho : PE X o td) (hi : PE X i ty) (hv : PE X value tv) (hs : swapsWith value (some (.Subscript o i pos')) pos.line X.env = pure false) :
    PS X (.Assign [.Subscript o i pos'] value pos) (sDPut td ty tv) := by
  intro pins s σ H D I h
  refine wpAny_Assign_Subscript (thn (hv pins s σ H _ I h) fun r s1 ⟨v, H1, I1, rv, q1⟩ => thn (ho pins s1 σ H1 _ I1 q1) fun u s2 ⟨x, H2, I2, rx, q2⟩ => thn (hi pins s2 σ H2 _ I2 q2) fun iv s3 ⟨y, H3, I3, ry, a, H4, ex, g, q3⟩ => ?_) hs
  subst ex
  obtain rfl : u = Value.ref a := rx
  exact d_setItem hu I3 g ry rv fun s4 I4 => ⟨σ, H4, I4, q3⟩
end


/-! ### displays -/
theorem dk_empty {P : Program} {w : World} {H : Hp} (h : Heap) (hb : sysModules < h.objs.size) : ObjOk P w H (h.push { cls := .type "dict", data := .dict #[] }) h.objs.size (.dK []) :=
  ⟨Nat.zero_le _, beq_eq_false_iff_ne.mpr (Ne.symm (Nat.ne_of_lt hb)), [], .nil, Heap.DictOf.new h⟩
/-- {}, to be a dict of the kind that is wanted -/
def tDNewK : TE := fun _ H Q => ∀ p, H p = none → Q (.ref p) (upd H p (.dK []))
section
variable {X : Cx} {pos : Pos}
theorem pe_dnewK : PE X (.Dict [] [] pos) tDNewK := fun pins s σ H Q I h =>
  wpAny_Dict_empty ⟨.ref s.heap.objs.size, _, I.laid (a := s.heap.objs.size) (o := .dK []) (t' := s.toks) (fun _ _ q => Heap.get?_push_of_some _ q) (Nat.le_refl _) (dk_empty s.heap I.big), rfl, h _ (I.hok.fresh (Nat.le_refl _))⟩
end




/-! ### methods -/
structure M2 (X : Cx) (o : Expr) (m : Str) (apos : Pos) (e f : Expr) (cpos : Pos) : Prop where
  base : attributeBase o m X.env (eval o X.env) = eval o X.env
  few : ((backTo cpos (starEach [e, f] X.env)).all (fun x => !x.1) && (backToKw cpos (keywordEach [] X.env)).all (fun x => x.1.isSome)
    && decide (([e, f] : List Expr).length + ([] : List Keyword).length + (if ([] : List Keyword).isEmpty then 0 else 1) < 30)) = true
  line : (apos.endLine == cpos.line) = true
  trees : backTo cpos (starEach [e, f] X.env) = [(false, eval e X.env), (false, eval f X.env)]

/-- a is a dict, whatever its keys -/
def IsD (H : Hp) (a : Addr) : Prop := (∃ kvs, Rd H a (.dK kvs)) ∨ ∃ kvs, Rd H a (.dT kvs)
theorem isD_at {X : Cx} {pins : List (Addr × Obj)} {σ : St} {H : Hp} {s : Shared} {a : Addr} (I : Inv X pins σ H s) (d : IsD H a) :
    s.TypeIs (.ref a) "dict" ∧ (∀ b, Value.ref a = .ref b → ∃ ob, s.heap.get? b = some ob ∧ ob.dict = none) ∧ (a == sysModules) = false := by
  rcases d with ⟨kvs, e⟩ | ⟨kvs, e⟩
  · obtain ⟨_, hd, vs, _, dd⟩ := dk_rd I.hok e
    refine ⟨dd.typeIs, fun b q => ?_, hd⟩
    cases q
    obtain ⟨ob, _, _, h1, h2, _⟩ := dd
    exact ⟨ob, h1, h2.2.1⟩
  · obtain ⟨_, hd, xs, _, dd⟩ := dt_rd I.hok e
    refine ⟨dd.typeIs, fun b q => ?_, hd⟩
    cases q
    obtain ⟨ob, _, _, h1, h2, _⟩ := dd
    exact ⟨ob, h1, h2.2.1⟩

section
variable {X : Cx} {pins : List (Addr × Obj)} {σ : St} {H : Hp} {s : Shared} {a : Addr} {y d : V} {u r : Value} {o : Option V} {A : Around} {E : Value → Shared → Prop}
/-- d.get(y, x) -/
theorem d_get2 {Q : Value → Shared → Prop} (hu : A.units + 1 < cLine) (I : Inv X pins σ H s) (g : DGet H a y o) (ry : RelV y u) (rd : RelV d r) (h : ∀ w' s', Inv X pins σ H s' → RelV (o.getD d) w' → Q w' s') :
    wpAny (model X.prog X.w) A (call (.builtin "dict.get") [.ref a, u, r]) Q E s := by
  rcases g with ⟨kvs, k, e, ey, l⟩ | ⟨kvs, k, b, e, ey, eb, l⟩
  · subst ey
    obtain ⟨z, hd, vs, rel, dd⟩ := dk_rd I.hok e
    refine call_meetsIn PySem.F.slot_dict_get dd.typeIs PySem.F.entry_dict_get (PySem.F.args_dict_get_3 _ _ _) (meets_dict_get_default (mixKind X.prog X.w) a (kV_is ry) hd r) ⟨_, dd.mapOf, h _ _ (I.tok _) ?_⟩
    rw [l]
    exact (rel.val k).getD rd
  · subst ey
    cases (show u = Value.ref b from ry)
    obtain ⟨z, hd, xs, rel, dd⟩ := dt_rd I.hok e
    refine call_meetsIn PySem.F.slot_dict_get dd.typeIs PySem.F.entry_dict_get (PySem.F.args_dict_get_3 _ _ _) (meetsH_dict_get_default (tupleKind (mixKind X.prog X.w)) a b hd r) ⟨tupleKind_room_in1 hu, k, xs, key_of I.hok eb, dd, h _ _ (I.tok _) ?_⟩
    rw [l]
    exact (rel.val k).getD rd
end

def tDGet2 (td ty tx : TE) : TE := fun σ H Q => td σ H fun x H1 => ∃ a, x = .ref a ∧ IsD H1 a ∧ ty σ H1 fun y H2 => tx σ H2 fun z H3 => ∃ o, DGet H3 a y o ∧ Q (o.getD z) H3
section
variable {X : Cx} {o e f : Expr} {apos cpos : Pos} {td ty tx : TE}
theorem pe_dget2 (hu : X.A.units + 1 < cLine) (ho : PE X o td) (he : PE X e ty) (hf : PE X f tx) (m : M2 X o "get" apos e f cpos) : PE X (.Call (.Attribute o "get" apos) [e, f] [] cpos) (tDGet2 td ty tx) := by
  intro pins s σ H Q I h
  refine wpAny_Call_method m.base m.few m.line PySem.F.plainAttrs_dict PySem.F.slot_dict_get PySem.F.type_dict_get (thn (ho pins s σ H _ I h) fun u s1 ⟨x, H1, I1, rx, a, ex, d, q1⟩ => ?_)
  subst ex
  obtain rfl : u = Value.ref a := rx
  obtain ⟨t1, t2, _⟩ := isD_at I1 d
  refine ⟨t1, t2, ?_⟩
  rw [m.trees]
  refine Calls.callWith_builtin rfl (Calls.evalArgs_plain (Calls.spliced_cons (thn (he pins s1 σ H1 _ I1 q1) fun iv s2 ⟨y, H2, I2, ry, q2⟩ =>
    Calls.spliced_cons (thn (hf pins s2 σ H2 _ I2 q2) fun fv s3 ⟨z, H3, I3, rz, ov, g, q3⟩ => Calls.spliced_nil ?_))))
  exact d_get2 hu I3 g ry rz fun w' s4 I4 rw' => ⟨_, H3, I4, rw', q3⟩
end

/-! ### dict(d): a copy -/
section
variable {X : Cx} {pins : List (Addr × Obj)} {σ : St} {H : Hp} {s : Shared} {a : Addr} {kvs : List (Key × V)} {A : Around} {E : Value → Shared → Prop}
end


section
variable {X : Cx} {pins : List (Addr × Obj)} {σ : St} {H : Hp} {s : Shared} {a : Addr} {y : V} {u : Value} {A : Around} {E : Value → Shared → Prop}
end
end L2

namespace L2
open PySem PySem.Spec PyProof.Rows


section
variable {prog : Program} {w : World} {A : Around} {E : Value → Shared → Prop}


end

section
variable {X : Cx}
end
end L2

namespace L2
open PySem PySem.Spec PyProof.Rows

theorem boot_reversed5 : bootBuiltins "reversed" = some (.type "reversed") := by decide +kernel

section
variable {X : Cx} {pins : List (Addr × Obj)} {σ : St} {H : Hp} {s : Shared} {h' : Heap}
/-- several records of ours have turned -/
theorem Inv.turnedL {t' : Nat} {ch : List Addr} (I : Inv X pins σ H s) (k : ∀ b o, b ∉ ch → s.heap.get? b = some o → h'.get? b = some o) (hf : ∀ b ∈ ch, FpOk X pins H b) : Inv X pins σ H { s with heap := h', toks := t' } := by
  have nit : ∀ b u, H b = some u → b ∉ ch := fun b u e z => by
    have q := (hf b z).1
    rw [q] at e; cases e
  refine I.step (g' := s.gens) (d' := s.drawn) (ch := ch) (fun b hb => ⟨(hf b hb).2.2.2.1, (hf b hb).2.1, (hf b hb).2.2.2.2.1, (hf b hb).2.2.2.2.2⟩) (fun b o _ _ hc e _ => k b o hc e) (fun b o _ _ hc e _ => ⟨o.slots, k b o hc e⟩)
    (fun _ _ _ _ n => n) (fun b o hc e => ⟨o, k b o hc e⟩) (fun _ _ e => e) (fun _ _ _ e => e) (fun b ps e => ⟨#[], by rw [e]; simp⟩) (fun m hm => ?_) (fun b u e => ?_) I.bare
  · obtain ⟨o, es, ep, ho, r⟩ := hm
    exact ⟨o, es, ep, k _ o (fun z => (hf _ z).2.1 rfl) ho, r⟩
  · refine (I.hok b u e).stay (fun c v hc q => k c v ?_ q) (fun _ q => q) fun _ _ q => q
    rcases hc with z | z
    · rw [z]; exact nit b u e
    · exact nit c _ z
/-- .. and one new object is laid -/
theorem Inv.turnedNew {t' : Nat} {ch : List Addr} {T : Addr} {ob : HO} (I : Inv X pins σ H s) (k : ∀ b o, b ∉ ch → s.heap.get? b = some o → h'.get? b = some o) (hf : ∀ b ∈ ch, FpOk X pins H b) (hT : s.heap.objs.size ≤ T)
    (new : ObjOk X.prog X.w (upd H T ob) h' T ob) : Inv X pins σ (upd H T ob) { s with heap := h', toks := t' } := by
  have hn : H T = none := I.hok.fresh hT
  have nit : ∀ b u, H b = some u → b ∉ ch := fun b u e z => by
    have q := (hf b z).1
    rw [q] at e; cases e
  refine I.step (g' := s.gens) (d' := s.drawn) (ch := ch) (fun b hb => ⟨(hf b hb).2.2.2.1, (hf b hb).2.1, (hf b hb).2.2.2.2.1, (hf b hb).2.2.2.2.2⟩) (fun b o _ _ hc e _ => k b o hc e) (fun b o _ _ hc e _ => ⟨o.slots, k b o hc e⟩)
    (fun b o _ e n => ?_) (fun b o hc e => ⟨o, k b o hc e⟩) (fun b xs e => ?_) (fun b o u e => ?_) (fun b ps e => ⟨#[], ?_⟩) (fun m hm => ?_) (fun b u e => ?_) I.bare
  · rw [upd_ne (Nat.ne_of_lt (Nat.lt_of_lt_of_le (Heap.lt_size e) hT))]; exact n
  · rw [upd_ne (ne_of_none e hn)]; exact e
  · rw [upd_ne (ne_of_none e hn)]; exact e
  · rw [upd_ne (ne_of_none e hn), e]; simp
  · obtain ⟨o, es, ep, ho, r⟩ := hm
    exact ⟨o, es, ep, k _ o (fun z => (hf _ z).2.1 rfl) ho, r⟩
  · by_cases hb : b = T
    · subst hb
      rw [upd_same] at e
      cases e
      exact new
    · rw [upd_ne hb] at e
      refine (I.hok b u e).stay (fun c v hc q => k c v ?_ q) (fun c q => by rw [upd_ne (ne_of_none q hn)]; exact q) fun c xs q => by rw [upd_ne (ne_of_none q hn)]; exact q
      rcases hc with z | z
      · rw [z]; exact nit b u e
      · exact nit c _ z

/-! ### locking a thing while a statement runs -/
theorem Inv.lock {d : Addr} {u : HO} (I : Inv X pins σ H s) (h : H d = some u) (mu : Mut (some u)) : ∃ od, Inv X pins σ (upd H d (.frz od u)) s := by
  have x := I.hok d u h
  have ex : ∃ od, s.heap.get? d = some od := by
    cases u with
    | lst xs => obtain ⟨_, _, _, _, e⟩ := x; exact ⟨_, e⟩
    | dK kvs => obtain ⟨_, _, _, _, o, _, _, e, _⟩ := x; exact ⟨o, e⟩
    | dT kvs => obtain ⟨_, _, _, _, o, _, _, e, _⟩ := x; exact ⟨o, e⟩
    | set S n => obtain ⟨o, _, _, _, e, _⟩ := x; exact ⟨o, e⟩
    | ins C dx fs => obtain ⟨_, _, _, e, _⟩ := x; exact ⟨_, e⟩
    | ext φ => obtain ⟨_, ⟨_, e⟩, _⟩ := x; exact ⟨_, e⟩
    | _ => exact False.elim mu
  obtain ⟨od, e⟩ := ex
  have new : ObjOk X.prog X.w (upd H d (.frz od u)) s.heap d (.frz od u) := by
    refine ⟨e, x.stay (fun b v _ q => q) (fun b q => ?_) fun b xs q => ?_⟩
    · rw [upd_ne (fun z => by rw [z, h] at q; cases q; exact mu)]; exact q
    · rw [upd_ne (fun z => by rw [z, h] at q; cases q; exact mu)]; exact q
  exact ⟨od, I.write (x := d) (e := d) (t' := s.toks) (h' := s.heap) (by rw [h]; exact mu) (.inl rfl) (fun b v _ q => q) ⟨od, e⟩ new⟩
theorem Inv.nofrz {d : Addr} {u : HO} (I : Inv X pins σ H s) (h : H d = some u) (mu : Mut (some u)) : ∀ o' u', X.H_0 d ≠ some (.frz o' u') := fun o' u' e => by
  have q := I.base.frzs d o' u' e
  rw [h] at q
  cases q
  exact mu
theorem Inv.unlock {d : Addr} {od : Obj} {u : HO} (I : Inv X pins σ H s) (h : H d = some (.frz od u)) (hn : ∀ o' u', X.H_0 d ≠ some (.frz o' u')) : Inv X pins σ (upd H d u) s := by
  have neH : ∀ b o, H b = some o → (∀ o' u', o ≠ .frz o' u') → b ≠ d := fun b o e hne z => by
    rw [z, h] at e
    cases e
    exact hne _ _ rfl
  have neN : ∀ b, H b = none → b ≠ d := fun b e z => by rw [z, h] at e; cases e
  refine ⟨I.ok, I.os, I.bare, ⟨I.base.keep, I.base.slot, fun b o e n hx => ?_, I.base.there, fun b xs e => ?_, fun b o x e => ?_, fun b ps e => ?_⟩, I.loc, I.cell, ?_, fun x c e => ?_, fun p hp => ?_, fun b o e => ?_, I.len⟩
  · rw [upd_ne (neN b (I.base.free b o e n hx))]; exact I.base.free b o e n hx
  · have q := I.base.tups b xs e
    rw [upd_ne (neH b _ q (fun _ _ z => nomatch z))]; exact q
  · have q := I.base.frzs b o x e
    rw [upd_ne (fun z => by rw [z] at e; exact hn _ _ e)]; exact q
  · obtain ⟨m, q⟩ := I.base.tbls b ps e
    exact ⟨m, by rw [upd_ne (neH b _ q (fun _ _ z => nomatch z))]; exact q⟩
  · rw [upd_ne (neN _ I.free)]; exact I.free
  · rw [upd_ne (neN c (I.freeC x c e))]; exact I.freeC x c e
  · obtain ⟨e, n, r⟩ := I.pin p hp
    exact ⟨e, by rw [upd_ne (neN _ n)]; exact n, r⟩
  · by_cases hb : b = d
    · rw [hb, upd_same] at e
      cases e
      rw [hb]
      obtain ⟨_, x⟩ := I.hok d _ h
      exact x.stay (fun c v _ q => q) (fun c q => by rw [upd_ne (neH c _ q (fun _ _ z => nomatch z))]; exact q) fun c xs q => by rw [upd_ne (neH c _ q (fun _ _ z => nomatch z))]; exact q
    · rw [upd_ne hb] at e
      exact (I.hok b o e).stay (fun c v _ q => q) (fun c q => by rw [upd_ne (neH c _ q (fun _ _ z => nomatch z))]; exact q) fun c xs q => by rw [upd_ne (neH c _ q (fun _ _ z => nomatch z))]; exact q
end
/-- the statement runs while the thing at d is locked (read, not written); d and what stands there are the reading's choice -/
def tLock (t : TS) : TS := fun D σ H => ∃ d u, H d = some u ∧ Mut (some u) ∧ ∀ od, t ⟨fun σ' H' => H' d = some (.frz od u) ∧ D.nx σ' (upd H' d u), fun v H' => H' d = some (.frz od u) ∧ D.rt v (upd H' d u), fun σ' H' => H' d = some (.frz od u) ∧ D.bk σ' (upd H' d u), fun σ' H' => H' d = some (.frz od u) ∧ D.ct σ' (upd H' d u)⟩ σ (upd H d (.frz od u))
section
variable {X : Cx}
theorem ps_lock {st : Stmt} {t : TS} (h : PS X st t) : PS X st (tLock t) := by
  intro pins s σ H D I hw
  obtain ⟨d, u, hd, mu, hw⟩ := hw
  obtain ⟨od, I1⟩ := I.lock hd mu
  refine thn (h pins s σ _ _ I1 (hw od)) fun f s1 q => ?_
  cases f with
  | next => obtain ⟨σ', H', I2, e, q⟩ := q; exact ⟨σ', _, I2.unlock e (I.nofrz hd mu), q⟩
  | brk => obtain ⟨σ', H', I2, e, q⟩ := q; exact ⟨σ', _, I2.unlock e (I.nofrz hd mu), q⟩
  | cont => obtain ⟨σ', H', I2, e, q⟩ := q; exact ⟨σ', _, I2.unlock e (I.nofrz hd mu), q⟩
  | ret v => obtain ⟨x, σ', H', I2, r, e, q⟩ := q; exact ⟨x, σ', _, I2.unlock e (I.nofrz hd mu), r, q⟩

/-! ### one iterator just laid -/
theorem pi_one {tg : Expr} {pins : List (Addr × Obj)} {σ : St} {H : Hp} {s : Shared} {R : It → Hp → Prop} {J : It} {tn : Nat → Heap → Prop} {tk : Nat} (I : Inv X pins σ H s) (o : Obj)
    (T : Turn X.prog X.w X.K tg J [s.heap.objs.size] s.heap.objs.size tn) (st : tn 0 (s.heap.push o)) (q : R J H) : PIE X pins σ tg R (.ref s.heap.objs.size) { s with heap := s.heap.push o, toks := tk } := by
  refine ⟨s.heap.objs.size, [s.heap.objs.size], tn, J, H, rfl, I.kept fun b ob e => Heap.get?_push_of_some _ e, T, st, fun b hb => ?_, q⟩
  have e : b = s.heap.objs.size := by simpa using hb
  subst e
  exact I.fpOk (Nat.le_refl _) (I.hok.fresh (Nat.le_refl _))
end

/-! ### range with a step -/
/-- lo, lo + c, .. (n of them) -/
def Itc (lo c : Int) (n : Nat) : It := ⟨fun i _ => i < n, fun i H x H' => H' = H ∧ x = .int (lo + (i : Nat) * c), fun i _ => n ≤ i⟩
theorem turn_rangeC {P : Program} {w : World} {K : PySem.W.Frag} {tg : Expr} (it : Addr) (lo c : Int) (n : Nat) : Turn P w K tg (Itc lo c n) [it] it (fun i h => IsRangeIter h it (lo + (i : Nat) * c) ((n : Int) - (i : Nat)) c) where
  mem := by simp
  obj := fun i h st b hb => by
    have e : b = it := by simpa using hb
    subst e
    exact ⟨_, st, fun v z => nomatch z⟩
  keep := fun i h h' st k => k it (by simp) _ st
  item := by
    intro X hP hw hK hc i pins s σ H E I hf st hg
    subst hP hw hK
    obtain ⟨f0, f1, f2, f3, f4, f5⟩ := hf it (by simp)
    have W := Walks.range (prog := X.prog) (w := X.w) (I.ok.hd hc) it lo c n
    refine W.item i s _ _ hg st fun v h' tk hv st' kk => ?_
    obtain ⟨t, rfl⟩ := hv
    have I1 : Inv X pins σ H { s with heap := h', toks := tk } := I.turned (fun b o hb e => kk b o (by simpa using hb) e) f0 f1 f3 f4 f5
    exact ⟨_, rfl, go_of (s := { s with heap := h', toks := tk }) (n := "range_iterator") st' rfl rfl (by decide) ⟨.int (lo + (i : Nat) * c), H, I1, ⟨t, rfl⟩, ⟨rfl, rfl⟩, st', fun b hb => (hf b hb).1⟩⟩
  done := by
    intro X hP hw hK hc i pins s σ H E I hf st hg
    subst hP hw hK
    obtain ⟨f0, f1, f2, f3, f4, f5⟩ := hf it (by simp)
    exact wpAny_pyNext_range_end (I.ok.hd hc) st (by have : n ≤ i := hg; omega) fun h' eb => ⟨rfl, I.turned (t' := s.toks) (fun b o hb e => eb b o hb e) f0 f1 f3 f4 f5⟩
  self := fun A i s Q E st h => wpAny_pyIter_rangeiter st h
/-- range(i, j, c): small bounds, n items -/
def RgC (i j c : Int) (n : Nat) : Prop := c ≠ 0 ∧ c.natAbs < 1073741824 ∧ Builtin.Range.small i j c = true ∧ Builtin.Range.rangeSize i j c = n
def iRng3 (ta : TA) : TI := fun σ H R => ta σ H fun vs H1 => ∃ (i j c : Int) (n : Nat), vs = [.int i, .int j, .int c] ∧ RgC i j c n ∧ R (Itc i c n) H1
section
variable {X : Cx} {tg : Expr}
theorem pi_range3 {a b c : Expr} {ta : TA} {p pos : Pos} (hg : Gl X "range") (hm : X.mg "range" = none) (ha : PA X [a, b, c] ta)
    (hs : starEach [a, b, c] X.env = (false, eval a X.env) :: starEach [b, c] X.env := by rfl) (hpl : (backTo pos (starEach [b, c] X.env)).any (·.1) = false := by rfl) :
    PI X tg (.Call (.Name "range" p) [a, b, c] [] pos) (iRng3 ta) := by
  intro pins s σ H R I h
  refine Call_ (ld_blt I hg hm boot_range (PyProof.Rows.callWith_type1 (thn (ha pos pins s σ H _ I h) fun us s1 ⟨vs, H1, I1, r1, q1⟩ => ?_) hs hpl))
  obtain ⟨i, j, k, n, e, ⟨c0, c1, c2, c3⟩, q⟩ := q1
  subst e
  cases r1 with
  | cons r rr =>
    cases rr with
    | cons r' rr =>
      cases rr with
      | cons r'' rr =>
        cases rr
        obtain ⟨t, rfl⟩ := r
        obtain ⟨t', rfl⟩ := r'
        obtain ⟨t'', rfl⟩ := r''
        refine call_range_3 c0 ?_ (.inl (PyProof.noPylong_small c1))
        refine wpAny_pyIter_range (IsRange.new ..) c2 ?_
        have I2 : Inv X pins σ H1 { s1 with heap := s1.heap.push { cls := .type "range", data := .fields #[.int i t, .int j t', .int k t''] } } := I1.kept (t' := s1.toks) fun b o e => Heap.get?_push_of_some _ e
        refine pi_one (tk := s1.toks) I2 _ (turn_rangeC _ i k n) ?_ q
        have e1 : i + ((0 : Nat) : Int) * k = i := by simp
        have e2 : (n : Int) - ((0 : Nat) : Int) = Builtin.Range.rangeSize i j k := by rw [c3]; simp
        show IsRangeIter _ _ (i + ((0 : Nat) : Int) * k) ((n : Int) - ((0 : Nat) : Int)) k
        rw [e1, e2]
        exact Heap.get?_push_size _ rfl
end
/-- the turns of a step range, for the for loop -/
theorem for_rangeC {lo c : Int} {n : Nat} {g : TG} {tb : TS} {D : Ends} {σ : St} {H : Hp} (Pv : Nat → St → Hp → Prop) (h0 : Pv 0 σ H)
    (hs : ∀ i σ H, i < n → Pv i σ H → g (.int (lo + (i : Nat) * c)) σ H fun σ2 H2 => tb { D with nx := Pv (i + 1), ct := Pv (i + 1), bk := D.nx } σ2 H2) (hd : ∀ σ H, Pv n σ H → D.nx σ H) :
    ∃ W : Nat → Nat → St → Hp → Prop, (∃ m, W 0 m σ H) ∧ ∀ i m σ H, W i m σ H →
      ((Itc lo c n).stop i H ∧ D.nx σ H) ∨ ((Itc lo c n).go i H ∧ ∃ N : St → Hp → Prop, (∀ σ' H', N σ' H' → ∃ m', m' < m ∧ W (i + 1) m' σ' H') ∧ ∀ x H', (Itc lo c n).yld i H x H' → g x σ H' fun σ2 H2 => tb { D with nx := N, ct := N, bk := D.nx } σ2 H2) := by
  refine ⟨fun i m σ H => m = n - i ∧ i ≤ n ∧ Pv i σ H, ⟨n, by simp, Nat.zero_le _, h0⟩, ?_⟩
  rintro i m σ H ⟨rfl, hi, p⟩
  by_cases hlt : i < n
  · refine .inr ⟨hlt, Pv (i + 1), fun σ' H' p' => ⟨n - (i + 1), by omega, rfl, hlt, p'⟩, fun x H' y => ?_⟩
    obtain ⟨e, y⟩ := y
    subst e y
    exact hs i σ _ hlt p
  · have e : i = n := by omega
    subst e
    exact .inl ⟨Nat.le_refl _, hd σ H p⟩

/-! ### reversed(list) -/
/-- the list at a (n items at the start, which the loop leaves there), from its end -/
def Itv (K : PySem.W.Frag) (a : Addr) (n : Nat) : It :=
  ⟨fun i H => i < n ∧ ∃ (xs : List V) (x : V), SqL K H a xs ∧ xs[n - 1 - i]? = some x, fun i H x H' => H' = H ∧ ∀ xs, SqL K H a xs → xs[n - 1 - i]? = some x, fun i _ => n ≤ i⟩
theorem turn_rev {P : Program} {w : World} {K : PySem.W.Frag} {tg : Expr} (a it : Addr) (n : Nat) : Turn P w K tg (Itv K a n) [it] it (fun i h => i ≤ n ∧ h.IsRevIter it a ((n : Int) - 1 - (i : Nat))) where
  mem := by simp
  obj := fun i h st b hb => by
    have e : b = it := by simpa using hb
    subst e
    obtain ⟨_, o, e, c, d⟩ := st
    exact ⟨o, e, fun v z => by rw [d] at z; cases z⟩
  keep := fun i h h' st k => ⟨st.1, st.2.at fun o e => k it (by simp) o e⟩
  item := by
    intro X hP hw hK hc i pins s σ H E I hf st hg
    subst hP hw hK
    obtain ⟨hin, xs, x, hq, hx⟩ := hg
    obtain ⟨its, rv, p, hz⟩ := I.list hq
    obtain ⟨u, hu, ru⟩ := rv.get hx
    obtain ⟨f0, f1, f2, f3, f4, f5⟩ := hf it (by simp)
    obtain ⟨_, hit⟩ := st
    have e1 : (n : Int) - 1 - ((i : Nat) : Int) = ((n - 1 - i : Nat) : Int) := by omega
    rw [e1] at hit
    refine wpAny_pyNext_rev_item hit p.isList (x := u) (by simpa using hu) fun h' st' sb => ?_
    have e2 : ((n - 1 - i : Nat) : Int) - 1 = (n : Int) - 1 - ((i + 1 : Nat) : Int) := by omega
    rw [e2] at st'
    have I1 : Inv X pins σ H { s with heap := h' } := I.turned (t' := s.toks) (fun b o hb e => (sb.2 b hb).trans e) f0 f1 f3 f4 f5
    obtain ⟨o, e, c, d⟩ := id st'
    exact ⟨u, rfl, go_of (s := { s with heap := h' }) e c d (by decide) ⟨x, H, I1, ru, ⟨rfl, fun ys hy => by rw [I.list_inj hy hq]; exact hx⟩, ⟨hin, st'⟩, fun b hb => (hf b hb).1⟩⟩
  done := by
    intro X hP hw hK hc i pins s σ H E I hf st hg
    subst hP hw hK
    obtain ⟨f0, f1, f2, f3, f4, f5⟩ := hf it (by simp)
    obtain ⟨hin, hit⟩ := st
    have hge : n ≤ i := hg
    have e1 : (n : Int) - 1 - ((i : Nat) : Int) = -1 := by omega
    rw [e1] at hit
    exact wpAny_pyNext_rev_end (I.ok.hd hc) hit fun h' eb => ⟨rfl, I.turned (t' := s.toks) (fun b o hb e => eb b o hb e) f0 f1 f3 f4 f5⟩
  self := fun A i s Q E st h => wpAny_pyIter_revIter st.2 h
def iRev (K : PySem.W.Frag) (ta : TA) : TI := fun σ H R => ta σ H fun vs H1 => ∃ (a : Addr) (xs : List V), vs = [.ref a] ∧ SqL K H1 a xs ∧ R (Itv K a xs.length) H1
section
variable {X : Cx} {tg : Expr}
theorem pi_reversed {e : Expr} {ta : TA} {p pos : Pos} (hg : Gl X "reversed") (hm : X.mg "reversed" = none) (ha : PA X [e] ta) (hs : starEach [e] X.env = [(false, eval e X.env)] := by rfl) : PI X tg (.Call (.Name "reversed" p) [e] [] pos) (iRev X.K ta) := by
  intro pins s σ H R I h
  refine Call_ (ld_blt I hg hm boot_reversed5 (PyProof.Rows.callWith_type1 (thn (ha pos pins s σ H _ I h) fun us s1 ⟨vs, H1, I1, r1, q1⟩ => ?_) hs rfl))
  obtain ⟨a, xs, e, hq, q⟩ := q1
  subst e
  cases r1 with
  | cons r rr =>
    cases rr
    cases r
    obtain ⟨its, rv, p', hz⟩ := I1.list hq
    have hl := rv.length
    have e1 : ((its.toArray.size : Nat) : Int) - 1 = (xs.length : Int) - 1 - ((0 : Nat) : Int) := by simp only [List.size_toArray]; omega
    refine call_reversed_list p'.isList (wpAny_pyIter_revIter (l := a) (i := ((its.toArray.size : Nat) : Int) - 1) ⟨_, Heap.get?_push_size _ rfl, rfl, rfl⟩ ?_)
    refine pi_one (tk := s1.toks) I1 _ (turn_rev a _ xs.length) ⟨Nat.zero_le _, ?_⟩ q
    rw [← e1]
    exact ⟨_, Heap.get?_push_size _ rfl, rfl, rfl⟩
end

/-! ### a str -/

/-! ### a dict's keys: any dict's entries -/
section
variable {prog : Program} {w : World} {A : Around} {E : Value → Shared → Prop} {s : Shared}
end

/-! ### a locked dict -/
theorem kv_get {κ : Type} {kvs : List (κ × V)} {vs : List (κ × Value)} (h : KV kvs vs) : ∀ {i : Nat} {k : κ} {v : V}, kvs[i]? = some (k, v) → ∃ u, vs[i]? = some (k, u) ∧ RelV v u := by
  unfold KV at h
  induction h with
  | nil => intro i k v e; simp at e
  | @cons a b l₁ l₂ r t ih =>
    intro i k v e
    cases i with
    | zero =>
      simp only [List.getElem?_cons_zero, Option.some.injEq] at e
      subst e
      refine ⟨b.2, ?_, r.2⟩
      simp only [List.getElem?_cons_zero]
      exact congrArg some (Prod.ext r.1.symm rfl)
    | succ j =>
      simp only [List.getElem?_cons_succ] at e ⊢
      exact ih e
theorem relV_key {k : Key} {u : Value} (h : keyIs k u = true) : RelV (kV k) u := by
  rcases keyIs_shape h with ⟨i, t, rfl, rfl⟩ | ⟨x, t, rfl, rfl⟩
  · exact ⟨t, rfl⟩
  · exact ⟨t, rfl⟩
section
variable {X : Cx} {pins : List (Addr × Obj)} {σ : St} {H : Hp} {s : Shared} {d : Addr} {o : Obj}
theorem Inv.frzK {kvs : List (Key × V)} (I : Inv X pins σ H s) (h : H d = some (.frz o (.dK kvs))) :
    (d == sysModules) = false ∧ s.heap.get? d = some o ∧ o.ExactDict ∧ ∃ (es : Array DictEntry) (ep : Nat) (vs : List (Key × Value)), o.data = .dict es ep ∧ es.size = kvs.length ∧ KV kvs vs ∧ s.heap.DictAt (mixKind X.prog X.w) d vs ep := by
  obtain ⟨hd, z, hs, vs, kv, o', es, ep, ho, hx, hdt, r⟩ := I.hok d _ h
  rw [hd] at ho
  cases ho
  refine ⟨hs, hd, hx, es, ep, vs, hdt, ?_, kv, o, es, hd, hx, hdt, r⟩
  have l1 := r.2.1.length
  have l2 : kvs.length = vs.length := Paired.length kv
  rw [Array.length_toList] at l1
  omega
end

/-- the pairs, each a new tuple -/
def Iti (d : Addr) (o : Obj) (kvs : List (Key × V)) : It :=
  ⟨fun i H => H d = some (.frz o (.dK kvs)) ∧ i < kvs.length, fun i H x H' => ∃ T k v, kvs[i]? = some (k, v) ∧ x = .ref T ∧ H T = none ∧ H' = upd H T (.tup [kV k, v]), fun i H => H d = some (.frz o (.dK kvs)) ∧ kvs.length ≤ i⟩
theorem dict_ep {o : Obj} {es es' : Array DictEntry} {ep ep' : Nat} (h : o.data = .dict es ep) (h' : o.data = .dict es' ep') : es' = es ∧ ep' = ep := by
  rw [h] at h'
  cases h'
  exact ⟨rfl, rfl⟩
section
variable {P : Program} {w : World} {K : PySem.W.Frag} {tg : Expr} {d : Addr} {o : Obj} {es : Array DictEntry} {ep : Nat}
theorem turn_items {kvs : List (Key × V)} {elts : List Expr} {kk : Nat} {tpos : Pos} (it : Addr) (hod : o.data = .dict es ep) :
    Turn P w K (.Tuple elts kk tpos) (Iti d o kvs) [it] it (fun i h => ∃ ok ov, IsItemIter h it d i kvs.length ep ok ov) where
  mem := by simp
  obj := fun i h st b hb => by
    have e : b = it := by simpa using hb
    subst e
    obtain ⟨ok, ov, e⟩ := st
    exact ⟨_, e, fun v z => nomatch z⟩
  keep := fun i h h' st k => let ⟨ok, ov, e⟩ := st; ⟨ok, ov, k it (by simp) _ e⟩
  item := by
    intro X hP hw hK hc i pins s σ H E I hf st hg
    subst hP hw hK
    obtain ⟨hd, hi⟩ := hg
    obtain ⟨hs, hgd, hx, es', ep', vs, hdt, hsz, kv, hm⟩ := I.frzK hd
    obtain ⟨rfl, rfl⟩ := dict_ep hod hdt
    obtain ⟨⟨k, v⟩, hkv⟩ : ∃ p, kvs[i]? = some p := ⟨kvs[i], List.getElem?_eq_getElem hi⟩
    obtain ⟨u, hu, ru⟩ := kv_get kv hkv
    have hl : kvs.length = vs.length := Paired.length kv
    obtain ⟨ok, ov, he⟩ := st
    rw [hl] at he
    have hlt : it < s.heap.objs.size := Heap.lt_size he
    refine wpAny_pyNext_items_item he hm hu fun key h' hkey ho hT hz hk => ?_
    refine ⟨_, rfl, wpAny_letOwnedTupleGo_items (s := { s with heap := h' }) ho fun h'' he' sb => ?_⟩
    have hT2 : h''.get? s.heap.objs.size = some { cls := .type "tuple", data := .seq #[key, u] } := (sb.2 _ (Nat.ne_of_gt hlt)).trans hT
    have new : ObjOk X.prog X.w (upd H s.heap.objs.size (.tup [kV k, v])) h'' s.heap.objs.size (.tup [kV k, v]) :=
      ⟨by show 2 ≤ sizeLine; decide, [key, u], .cons (relV_key (show keyIs k key = true from hkey)) (.cons ru .nil), ⟨_, hT2, rfl, _, rfl⟩⟩
    have I1 : Inv X pins σ (upd H s.heap.objs.size (.tup [kV k, v])) { s with heap := h'' } :=
      I.turnedNew (t' := s.toks) (ch := [it]) (fun b ob hb e => (sb.2 b (by simpa using hb)).trans (hk b ob (by simpa using hb) e)) hf (Nat.le_refl _) new
    refine ⟨.ref s.heap.objs.size, _, I1, rfl, ⟨_, k, v, hkv, rfl, I.hok.fresh (Nat.le_refl _), rfl⟩, ⟨key, u, ?_⟩, fun b hb => ?_⟩
    · rw [hl]; exact he'
    · have e : b = it := by simpa using hb
      rw [e, upd_ne (Nat.ne_of_lt hlt)]
      exact (hf it (by simp)).1
  done := by
    intro X hP hw hK hc i pins s σ H E I hf st hg
    subst hP hw hK
    obtain ⟨hd, hi⟩ := hg
    obtain ⟨f0, f1, f2, f3, f4, f5⟩ := hf it (by simp)
    obtain ⟨hs, hgd, hx, es', ep', vs, hdt, hsz, kv, hm⟩ := I.frzK hd
    obtain ⟨rfl, rfl⟩ := dict_ep hod hdt
    have hl : kvs.length = vs.length := Paired.length kv
    obtain ⟨ok, ov, he⟩ := st
    rw [hl] at he
    exact wpAny_pyNext_items_end (I.ok.hd hc) he hm (List.getElem?_eq_none (by omega)) fun h' eb => ⟨rfl, I.turned (t' := s.toks) (fun b ob hb e => eb b ob hb e) f0 f1 f3 f4 f5⟩
  self := fun A i s Q E st h => let ⟨_, _, e⟩ := st; PySem.W.kcp_self e h
end

/-! ### for k in d, d.keys(), d.values(), d.items() -/
def iItems (td : TE) : TI := fun σ H R => td σ H fun x H1 => ∃ d o kvs, x = .ref d ∧ H1 d = some (.frz o (.dK kvs)) ∧ R (Iti d o kvs) H1
section
variable {X : Cx} {tg e : Expr} {td : TE} {apos cpos : Pos}
theorem pi_items {elts : List Expr} {kk : Nat} {tpos : Pos} (he : PE X e td) (hbase : attributeBase e "items" X.env (eval e X.env) = eval e X.env := by rfl) (hline : (apos.endLine == cpos.line) = true := by rfl) :
    PI X (.Tuple elts kk tpos) (.Call (.Attribute e "items" apos) [] [] cpos) (iItems td) := by
  intro pins s σ H R I h
  refine wpAny_Call_method (T := "dict") (id := "dict.items") hbase rfl hline F.plainAttrs_dict F.slot_dict_items F.type_dict_items (thn (he pins s σ H _ I h) fun u s1 ⟨x, H1, I1, rx, d, o, kvs, ex, hd, q⟩ => ?_)
  subst ex
  obtain rfl : u = Value.ref d := rx
  obtain ⟨hs, hgd, hx, es, ep, vs, hdt, hsz, kv, hm⟩ := I1.frzK hd
  have hl : kvs.length = vs.length := Paired.length kv
  refine ⟨hm.dictOf.typeIs, hm.dictOf.mapOf.noDict, ?_⟩
  have I2 : Inv X pins σ H1 { s1 with heap := s1.heap.push { cls := .type "dict_items", data := .fields #[.ref d] } } := I1.kept (t' := s1.toks) fun b ob q => Heap.get?_push_of_some _ q
  have fin : wpAny (model X.prog X.w) X.A (pyIter (.ref s1.heap.objs.size)) (PIE X pins σ (.Tuple elts kk tpos) R) X.xe { s1 with heap := s1.heap.push { cls := .type "dict_items", data := .fields #[.ref d] } } := by
    refine wpAny_pyIter_items (d := d) (knd := mixKind X.prog X.w) ⟨_, Heap.get?_push_size _ rfl, rfl, rfl⟩ (hm.push _) (pi_one (tk := s1.toks) I2 _ (turn_items _ hdt) ⟨.none, .none, ?_⟩ q)
    rw [hl]
    exact Heap.get?_push_size _ rfl
  show wpAny _ _ (callWith cpos (.builtin "dict.items") [.ref d] [] []) _ X.xe s1
  exact method_meetsIn F.slot_dict_items F.entry_dict_items rfl (PySem.evalArgs_none ⟨rfl, hm.dictOf.typeIs, F.args_dict_items_1 _, _, meets_dict_items (mixKind X.prog X.w) d hs, ⟨vs, hm.dictOf⟩, fin⟩)
end

/-! ### enumerate(list) -/
/-! ### zip(list, list) -/
theorem boot_zip5 : bootBuiltins "zip" = some (.type "zip") := by decide +kernel
/-- the lists at a and b as they stand at each turn, the items in new pairs -/
def Itz (K : PySem.W.Frag) (a b : Addr) : It :=
  ⟨fun i H => ∃ (xs ys : List V) (x y : V), SqL K H a xs ∧ SqL K H b ys ∧ xs[i]? = some x ∧ ys[i]? = some y,
    fun i H v H' => ∃ T x y, v = .ref T ∧ H T = none ∧ H' = upd H T (.tup [x, y]) ∧ (∀ xs, SqL K H a xs → xs[i]? = some x) ∧ ∀ ys, SqL K H b ys → ys[i]? = some y,
    fun i H => ∃ xs ys : List V, SqL K H a xs ∧ SqL K H b ys ∧ (xs.length ≤ i ∨ ys.length ≤ i)⟩
theorem turn_zip {P : Program} {w : World} {K : PySem.W.Frag} {elts : List Expr} {kk : Nat} {tpos : Pos} {a b z TI TO i1 i2 : Addr} (D : ZipApart z TI TO i1 i2 a b) :
    Turn P w K (.Tuple elts kk tpos) (Itz K a b) [z, TI, TO, i1, i2] z (fun i h => IsZip h z TI TO .none ∧ IsPair h TI (.ref i1) (.ref i2) ∧ (∃ x y, IsPair h TO x y) ∧ h.IsListIter i1 a i ∧ h.IsListIter i2 b i) where
  mem := by simp
  obj := fun i h st c hc => by
    obtain ⟨hz, hTI, ⟨x, y, hTO⟩, ⟨o1, e1, _, d1⟩, ⟨o2, e2, _, d2⟩⟩ := st
    have e' : c = z ∨ c = TI ∨ c = TO ∨ c = i1 ∨ c = i2 := by simpa using hc
    rcases e' with q | q | q | q | q
    · rw [q]; exact ⟨_, hz, fun v q => nomatch q⟩
    · rw [q]; exact ⟨_, hTI, fun v q => nomatch q⟩
    · rw [q]; exact ⟨_, hTO, fun v q => nomatch q⟩
    · rw [q]; exact ⟨o1, e1, fun v q => by rw [d1] at q; cases q⟩
    · rw [q]; exact ⟨o2, e2, fun v q => by rw [d2] at q; cases q⟩
  keep := fun i h h' st k => by
    obtain ⟨hz, hTI, ⟨x, y, hTO⟩, h1, h2⟩ := st
    exact ⟨k z (by simp) _ hz, k TI (by simp) _ hTI, ⟨x, y, k TO (by simp) _ hTO⟩, h1.at fun o q => k i1 (by simp) o q, h2.at fun o q => k i2 (by simp) o q⟩
  item := by
    intro X hP hw hK hc i pins s σ H E I hf st hg
    subst hP hw hK
    obtain ⟨hz, hTI, ⟨x0, y0, hTO⟩, h1, h2⟩ := st
    obtain ⟨xs, ys, x, y, hqx, hqy, hx, hy⟩ := hg
    obtain ⟨its, rv, p, _⟩ := I.list hqx
    obtain ⟨its2, rv2, p2, _⟩ := I.list hqy
    obtain ⟨u, hu, ru⟩ := rv.get hx
    obtain ⟨u2, hu2, ru2⟩ := rv2.get hy
    have hzl : z < s.heap.objs.size := Heap.lt_size hz
    refine wpAny_pyNext_zip_item D hz hTI hTO h1 h2 p.isList p2.isList (x := u) (y := u2) (by simpa using hu) (by simpa using hu2) fun h' z' TO' h1' h2' hT hsz hk => ?_
    refine ⟨_, rfl, wpAny_letOwnedTupleGo_zip (s := { s with heap := h' }) z' fun h'' z'' sb => ?_⟩
    have hT2 : h''.get? s.heap.objs.size = some { cls := .type "tuple", data := .seq #[u, u2] } := (sb.2 _ (Nat.ne_of_gt hzl)).trans hT
    have new : ObjOk X.prog X.w (upd H s.heap.objs.size (.tup [x, y])) h'' s.heap.objs.size (.tup [x, y]) :=
      ⟨by show 2 ≤ sizeLine; decide, [u, u2], .cons ru (.cons ru2 .nil), ⟨_, hT2, rfl, _, rfl⟩⟩
    have I1 : Inv X pins σ (upd H s.heap.objs.size (.tup [x, y])) { s with heap := h'' } :=
      I.turnedNew (t' := s.toks) (ch := [z, TI, TO, i1, i2]) (fun c o hb q => (sb.2 c (fun q' => hb (by simp [q']))).trans (hk c o (fun q' => hb (by simp [q'])) (fun q' => hb (by simp [q'])) (fun q' => hb (by simp [q'])) (fun q' => hb (by simp [q'])) q)) hf (Nat.le_refl _) new
    refine ⟨.ref s.heap.objs.size, _, I1, rfl, ⟨_, x, y, rfl, I.hok.fresh (Nat.le_refl _), rfl, fun l hl => by rw [I.list_inj hl hqx]; exact hx, fun l hl => by rw [I.list_inj hl hqy]; exact hy⟩, ⟨z'', ?_, ⟨u, u2, ?_⟩, ?_, ?_⟩, fun c hcm => ?_⟩
    · exact (sb.2 _ D.TIz).trans (hk _ _ D.TIz D.TITO D.TIi1 D.TIi2 hTI)
    · exact (sb.2 _ D.TOz).trans TO'
    · exact h1'.at fun o q => (sb.2 _ D.i1z).trans q
    · exact h2'.at fun o q => (sb.2 _ D.i2z).trans q
    · have hlt : c < s.heap.objs.size := by
        have e' : c = z ∨ c = TI ∨ c = TO ∨ c = i1 ∨ c = i2 := by simpa using hcm
        rcases e' with q | q | q | q | q
        · rw [q]; exact hzl
        · rw [q]; exact Heap.lt_size hTI
        · rw [q]; exact Heap.lt_size hTO
        · rw [q]; obtain ⟨_, e1, _⟩ := h1; exact Heap.lt_size e1
        · rw [q]; obtain ⟨_, e2, _⟩ := h2; exact Heap.lt_size e2
      rw [upd_ne (Nat.ne_of_lt hlt)]
      exact (hf c hcm).1
  done := by
    intro X hP hw hK hc i pins s σ H E I hf st hg
    subst hP hw hK
    obtain ⟨hz, hTI, ⟨x0, y0, hTO⟩, h1, h2⟩ := st
    obtain ⟨xs, ys, hqx, hqy, hend⟩ := hg
    obtain ⟨its, rv, p, _⟩ := I.list hqx
    obtain ⟨its2, rv2, p2, _⟩ := I.list hqy
    have l1 := rv.length
    have l2 := rv2.length
    have he : its.toArray[i]? = none ∨ its2.toArray[i]? = none := by
      rcases hend with q | q
      · exact .inl (by simp; omega)
      · exact .inr (by simp; omega)
    exact wpAny_pyNext_zip_end (I.ok.hd hc) D hz hTI hTO h1 h2 p.isList p2.isList he fun h' hk => ⟨rfl, I.turnedL (t' := s.toks) (ch := [z, TI, TO, i1, i2]) (fun c o hb q =>
      hk c o (fun q' => hb (by simp [q'])) (fun q' => hb (by simp [q'])) (fun q' => hb (by simp [q'])) (fun q' => hb (by simp [q'])) q) hf⟩
  self := fun A i s Q E st h => wpAny_pyIter_zip st.1 h
def iZip (K : PySem.W.Frag) (ta : TA) : TI := fun σ H R => ta σ H fun vs H1 => ∃ a b xs ys, vs = [.ref a, .ref b] ∧ SqL K H1 a xs ∧ SqL K H1 b ys ∧ R (Itz K a b) H1
theorem pi_zip {X : Cx} {e e2 : Expr} {ta : TA} {p pos tpos : Pos} {elts : List Expr} {kk : Nat} (hg : Gl X "zip") (hm : X.mg "zip" = none) (ha : PA X [e, e2] ta)
    (hs : starEach [e, e2] X.env = (false, eval e X.env) :: starEach [e2] X.env := by rfl) (hpl : (backTo pos (starEach [e2] X.env)).any (·.1) = false := by rfl) :
    PI X (.Tuple elts kk tpos) (.Call (.Name "zip" p) [e, e2] [] pos) (iZip X.K ta) := by
  intro pins s σ H R I h
  refine Call_ (ld_blt I hg hm boot_zip5 (PyProof.Rows.callWith_type1 (thn (ha pos pins s σ H _ I h) fun us s1 ⟨vs, H1, I1, r1, q1⟩ => ?_) hs hpl))
  obtain ⟨a, b, xs, ys, ex, hqx, hqy, q⟩ := q1
  subst ex
  cases r1 with
  | cons r rr =>
    cases rr with
    | cons r' rr =>
      cases rr
      cases r
      cases r'
      obtain ⟨its, rv, p1, _⟩ := I1.list hqx
      obtain ⟨its2, rv2, p2, _⟩ := I1.list hqy
      have la : a < s1.heap.objs.size := p1.lt
      have lb : b < s1.heap.objs.size := p2.lt
      refine call_zip_2 p1.isList p2.isList fun h' hz hTI hTO h1 h2 hsz hk => wpAny_pyIter_zip hz ?_
      have I2 : Inv X pins σ H1 { s1 with heap := h' } := I1.kept (t' := s1.toks) hk
      refine ⟨s1.heap.objs.size + 4, [s1.heap.objs.size + 4, s1.heap.objs.size + 2, s1.heap.objs.size + 3, s1.heap.objs.size, s1.heap.objs.size + 1], _, _, H1, rfl, I2, turn_zip (PySem.W.ktu_apart s1.heap.objs.size a b la lb), ⟨hz, hTI, ⟨_, _, hTO⟩, h1, h2⟩, fun c hcm => ?_, q⟩
      have e' : c = s1.heap.objs.size + 4 ∨ c = s1.heap.objs.size + 2 ∨ c = s1.heap.objs.size + 3 ∨ c = s1.heap.objs.size ∨ c = s1.heap.objs.size + 1 := by simpa using hcm
      have hle : s1.heap.objs.size ≤ c := by
        rcases e' with z | z | z | z | z
        · rw [z]; exact Nat.le_add_right _ _
        · rw [z]; exact Nat.le_add_right _ _
        · rw [z]; exact Nat.le_add_right _ _
        · rw [z]; exact Nat.le_refl _
        · rw [z]; exact Nat.le_add_right _ _
      exact I1.fpOk hle (I1.hok.fresh hle)
end L2

section 
namespace Bits
open PySem PyProof.Rows








end Bits
end 

section 
namespace TL
open PySem PySem.Builtin PySem.Builtin.Str PySem.StrLaws


/-! ### the list functions -/




/-! ### the model's split and partition are these -/




/-! ### computing spl and par -/


/-! ### digits -/

/-! ### words: x.split() -/
end TL
end 

namespace L2
open PySem PySem.Spec PyProof.Rows




section
variable {X : Cx} {pins : List (Addr × Obj)} {σ : St} {H : Hp} {s : Shared} {Q : VK}
end

section
variable {X : Cx}





/-! ### of a text alone -/

/-! ### of a text and a text -/

end

section
variable {X : Cx} {o e : Expr} {to te : TE}

end
end L2

namespace L2
open PySem PySem.Spec PyProof.Rows

section
variable {X : Cx}
end

/-! ### slices of a text -/


end L2

namespace Att
open PySem PySem.W PySem.Calls PyProof.Rows

/-! ### the script -/



/-! ### the attachment: holds_open's last premise (the goal 'hc' behind k_head) from a wpAny of the law's body -/



/-! ### rules over ANY heap (no ledger) from facts about the written part K: the library's own take a ledger (News) for what they write -/
section
variable {prog : Program} {w : World} {A : Around} {E : Value → Shared → Prop} {s : Shared} {K : Frag}





/-! the whole heap as the ledger: makes every rule that writes through a ledger a rule over any heap -/

end
end Att

namespace L2
open PySem PySem.Spec PyProof.Rows



end L2

namespace L2
open PySem PySem.Spec PyProof.Rows


end L2

/- THE LAST THEOREM (shape; LID, My.* are yours):
   My.Adr: a structure of the addresses that your layer names (classes, functions); My.Txt K t: a structure (Prop) of the equations over K;
   My.txt_mk : {K} {implicit addresses ..} (e1 : nsIn K mainGlobals "law" = some (some (.ref f))) (e2 : K.lookup f = some ⟨oc, od, .func (fnOf "law" "law" params body scope dV kV doc pm an cdv ct), sl⟩) (e3 : codeIn K cdv "law" = true) .. : ∃ t, My.Txt K t

set_option maxRecDepth 100000 in
set_option maxHeartbeats 0 in
theorem PySem.Challenge.cw_LID_holds : PySem.Challenge.rw_LID.Holds := by
  w_on; o_law; k_head; (case hw => w_witness2)
  k_fill
  refine L2.walk_of (l := PySem.Challenge.rw_LID) (n := 63) (k := 40) (x := "script") (CX := fun w => ..) (sp := fun _ => My.sp_law) rfl (by decide) rfl ⟨rfl, by decide, by decide⟩ (fun w h Y => PySem.W.kIn_of Y) ?F ?S ?C
  case F =>
    intro w mg fa h KX G hmg
    have T : ∃ t, My.Txt (L2.KOf KX) t := by
      dsimp only [L2.KOf]                          -- K must stand as «<heap const> w.params» for k_is
      refine' My.txt_mk ?e1 ?e2 ?e3 ..
      (case e1 => PySem.W.k_is)                    -- in the order: a name -> its address -> its object -> its parts
      (case e2 => PySem.W.k_is)
      ..
    obtain ⟨t, T⟩ := T
    have e0 := hmg.symm.trans (PySem.W.mg_of KX G T.law)
    cases e0                                       -- fa is the law's own address
    exact ⟨_, fun s u => .of_eq rfl, fun base kb nb => My.law_fn T kb nb⟩     -- if «.of_eq rfl» comes too early: refine' ⟨_, ?b, fun base kb nb => My.law_fn T kb nb⟩; exact fun s u => .of_eq rfl
  case S => exact fun w H a ns hl hO hS => ..
  case C => exact ..
(the tactic k_is has no namespace: write k_is) -/

/-! SHORT WORDS over the layer: a def of the text, its body, what a loop and a test want. -/
namespace L2
open PySem PySem.Spec PyProof.Rows

/-! ### the text by places -/
/-- the j-th statement of a class's body -/
def inClass (s : Stmt) (j : Nat) : Stmt := match s with
  | .ClassDef _ _ _ body _ _ _ _ _ _ _ => body.getD j (.Pass ⟨0, 0, 0, 0⟩)
  | _ => .Pass ⟨0, 0, 0, 0⟩
def defArgs (s : Stmt) : Arguments := match s with
  | .FunctionDef _ a _ _ _ _ _ _ _ _ => a
  | _ => { posonlyargs := [], args := [], vararg := none, kwonlyargs := [], kw_defaults := [], kwarg := none, defaults := [] }
def defBody (s : Stmt) : List Stmt := match s with
  | .FunctionDef _ _ b _ _ _ _ _ _ _ => b
  | _ => []
def defScope (s : Stmt) : Scope := match s with
  | .FunctionDef _ _ _ _ _ _ sc _ _ _ => sc
  | _ => { kind := .function, names := [], isGenerator := false, isCoroutine := false }

/-! ### no exception leaves a def -/
abbrev CX0 : CXT := fun _ _ _ _ _ _ => False
abbrev E0 : XK := fun _ _ _ => False
theorem pass0 {X : Cx} : Passes CX0 X E0 := fun _ _ _ _ _ _ _ h => h.elim

/-! ### a def (or method) of the text as it stands behind the top -/
structure Fun (K : PySem.W.Frag) (x qual : Str) (st : Stmt) (f : Addr) (fd : FuncData) : Prop where
  ex : ∃ (oc : Value) (od : Option Addr) (kV doc pm : Value) (an : Option Addr) (cdv ct : Value) (osl : Array (Option Value)),
    fd = PySem.W.fnOf x qual (defArgs st) (defBody st) (defScope st) .none kV doc pm an cdv ct ∧ K.lookup f = some ⟨oc, od, .func fd, osl⟩ ∧ PySem.W.codeIn K cdv qual = true
  kp : PySem.W.keepIn K (.ref f) = true
section
variable {P : Program} {w : World} {K : PySem.W.Frag} {mg : Str → Option Value} {base : Heap}
/-- THE RULE for a def: its body as a term of rules, and the reading of that term -/
theorem Fun.ok {x qual : Str} {st : Stmt} {f : Addr} {fd : FuncData} {N ps : List Str} {k : Nat} {sp : Sp} (F : Fun K x qual st f fd) (S : FnScope N ps (defScope st)) (len : ∀ vs H Q E, sp vs H Q E → vs.length = ps.length)
    (hbody : ∀ (cdv : Value) (A : Around) (outer : List Env) (s : Shared) (H : Hp) (vs : List V) (Q : VK) (E : XK), Room k (A.deeper (envOfC qual (defScope st) s.heap.objs.size f cdv)) → sp vs H Q E →
      ∃ t, PSs (cxOf CX0 P w K mg base N qual (defScope st) f cdv A outer s H E).nox (defBody st) t ∧ t { nx := fun _ H' => Q .non H', rt := Q } (start N vs) H) : FnOk P w K mg base CX0 (k + 1) f fd ps sp := by
  obtain ⟨oc, od, kV, doc, pm, an, cdv, ct, osl, rfl, lk, hcd⟩ := F.ex
  refine fn_of lk hcd S len fun A outer s H vs Q E hr hsp => ?_
  obtain ⟨t, h, q⟩ := hbody cdv A outer s H vs Q E hr hsp
  exact ⟨t, h.nox, q⟩
/-- how its arguments bind (no defaults): h is «fun _ _ _ _ _ _ us hl => match us, hl with | [_, _], _ => rfl», one _ a parameter -/
theorem Fun.binds {x qual : Str} {st : Stmt} {f : Addr} {fd : FuncData} {ps : List Str} (F : Fun K x qual st f fd)
    (h : ∀ (kV doc pm : Value) (an : Option Addr) (cdv ct : Value) (us : List Value), us.length = ps.length → bindArgs (PySem.W.fnOf x qual (defArgs st) (defBody st) (defScope st) .none kV doc pm an cdv ct) ⟨us, []⟩ = pure (ps.zip us)) : Binds K fd ps [] := by
  obtain ⟨oc, od, kV, doc, pm, an, cdv, ct, osl, rfl, lk, hcd⟩ := F.ex
  exact .all (h kV doc pm an cdv ct)
theorem fun_mk {x qual : Str} {st : Stmt} {f : Addr} {oc : Value} {od an : Option Addr} {osl : Array (Option Value)} {kV doc pm cdv ct : Value} (l : K.lookup f = some ⟨oc, od, .func (PySem.W.fnOf x qual (defArgs st) (defBody st) (defScope st) .none kV doc pm an cdv ct), osl⟩)
    (c : PySem.W.codeIn K cdv qual = true) (k : PySem.W.keepIn K (.ref f) = true) : Fun K x qual st f (PySem.W.fnOf x qual (defArgs st) (defBody st) (defScope st) .none kV doc pm an cdv ct) := ⟨⟨oc, od, kV, doc, pm, an, cdv, ct, osl, rfl, l, c⟩, k⟩
end
theorem hu_of {A : Around} {k : Nat} (hr : Room k A) : A.units + 1 < cLine := Nat.lt_of_le_of_lt (Nat.add_le_add_left (by decide : 1 ≤ 64) _) hr.units

/-! ### expressions in short: the name that stands in the i-th slot -/
section
variable {X : Cx}
theorem pv (i : Nat) {x : Str} {pos : Pos} (hN : X.N[i]? = some x := by rfl) (hv : Vis X.env.scope x := by first | exact Or.inl rfl | exact Or.inr (Or.inl rfl) | exact Or.inr (Or.inr rfl)) (hd : (x == ("__debug__" : Str)) = false := by decide)
    (hcd : (x == ("__classdict__" : Str)) = false := by decide) : PE X (.Name x pos) (tVar i) := pe_var hN hv hd hcd
/-- len of a dict -/
theorem call_lenD : CallR X (.builtin "len") (fun xs H Q => ∃ a kvs, xs = [V.ref a] ∧ H a = some (.dK kvs) ∧ Q (.int kvs.length) H) := by
  intro pins s σ H xs us Q I r h
  obtain ⟨a, kvs, rfl, ha, q⟩ := h
  obtain ⟨u, rfl, ru⟩ := vals1 r
  cases ru
  exact d_len I (.inl ha) fun t s' I' => ⟨.int kvs.length, H, I', ⟨t, rfl⟩, q⟩
end

/-! ### tests -/
theorem iteF {A B : Prop} (h : B) : if false = true then A else B := by
  rw [if_neg Bool.false_ne_true]
  exact h
theorem iteT {A B : Prop} (h : A) : if true = true then A else B := by
  rw [if_pos rfl]
  exact h
theorem ite2 {c A B : Prop} [Decidable c] (h1 : c → A) (h2 : ¬ c → B) : if c then A else B := by
  by_cases h : c
  · rw [if_pos h]
    exact h1 h
  · rw [if_neg h]
    exact h2 h

/-! ### heaps -/
/-- all that was tracked is as it was -/
def Same (H H' : Hp) : Prop := ∀ b o, H b = some o → H' b = some o
theorem Same.trans {H H1 H2 : Hp} (a : Same H H1) (b : Same H1 H2) : Same H H2 := fun c o h => b c o (a c o h)
theorem Same.free {H H' : Hp} (e : Same H H') {l : Addr} (h : H' l = Option.none) : H l = Option.none := by
  cases q : H l with
  | none => rfl
  | some o =>
    rw [e l o q] at h
    cases h
theorem Same.seq {K : PySem.W.Frag} {H H' : Hp} {a : Addr} {xs : List V} (e : Same H H') (h : SqL K H a xs) : SqL K H' a xs := by
  rcases h with (h | ⟨o, h⟩) | h
  · exact .inl (.inl (e _ _ h))
  · exact .inl (.inr ⟨o, e _ _ h⟩)
  · exact .inr h

/-! ### a dict's pairs: keys that differ -/
section
variable {κ : Type} [DecidableEq κ]
end
/-! ### lists -/
theorem at_of {xs : List V} {z : Int} {j : Nat} {v : V} (e : z = (j : Int)) (h : xs[j]? = some v) : atI xs z = some v := by
  rw [e]
  exact atI_nat h
/-- a new instance and its __init__ leave all that was tracked as it was -/
theorem Same.made {H H1 : Hp} {x dx C : Addr} (nx : H x = Option.none) (nd : H dx = Option.none) (k : ∀ b o, (upd (upd H dx (.own x)) x (.ins C dx [])) b = some o → b ≠ x → H1 b = some o) : Same H H1 := fun b o e =>
  k b o (by rw [upd_ne (ne_of_none e nx), upd_ne (ne_of_none e nd)]; exact e) (ne_of_none e nx)
end L2

end
section
set_option Elab.async false
set_option linter.all false
set_option maxRecDepth 100000
set_option maxHeartbeats 2000000
namespace L2
open PySem PySem.Spec PyProof.Rows
open PySem.W (WData Codec OpenSpec Well WellAll ReadsW ReadsAllW)
/-! ### an answer as data -/
mutual
/-- x stands for the datum d, lists and tuples all the way -/
inductive Dw (K : PySem.W.Frag) (H : Hp) : V → WData → Prop
  | non : Dw K H .non .none
  | bl (b : Bool) : Dw K H (.bl b) (.bool b)
  | int (i : Int) : Dw K H (.int i) (.int i)
  | str (x : Str) : Dw K H (.str x) (.str x)
  | byt (b : Array UInt8) : Dw K H (.byt b) (.bytes b.toList)
  | lst {a : Addr} {xs : List V} {ds : List WData} : SqL K H a xs → DwAll K H xs ds → Dw K H (.ref a) (.list ds)
  | tup {a : Addr} {xs : List V} {ds : List WData} : SqT K H a xs → DwAll K H xs ds → Dw K H (.ref a) (.tuple ds)
inductive DwAll (K : PySem.W.Frag) (H : Hp) : List V → List WData → Prop
  | nil : DwAll K H [] []
  | cons {v : V} {vs : List V} {d : WData} {ds : List WData} : Dw K H v d → DwAll K H vs ds → DwAll K H (v :: vs) (d :: ds)
end
theorem dw_ints {K : PySem.W.Frag} {H : Hp} : ∀ ns : List Int, DwAll K H (ns.map V.int) (ns.map WData.int)
  | [] => .nil
  | n :: r => .cons (.int n) (dw_ints r)
theorem ints_dw {K : PySem.W.Frag} {H : Hp} : ∀ (ns : List Int) (xs : List V), DwAll K H xs (ns.map WData.int) → xs = ns.map V.int
  | [], xs, h => by
    cases h
    rfl
  | n :: r, xs, h => by
    cases h with
    | cons h1 h2 =>
      cases h1
      rw [ints_dw r _ h2] <;> rfl
section
variable {P : Program} {w : World} {K : PySem.W.Frag} {H : Hp} {h : Heap} {R : PySem.W.WRecords} {cl : Str → Option Addr}
theorem sqL_at {a : Addr} {xs : List V} (hok : HOk P w H h) (KX : K.In h) (q : SqL K H a xs) : ∃ (its : List Value) (o : Obj) (n : Nat), Vals xs its ∧ h.get? a = some o ∧ o.cls = .type "list" ∧ o.data = .seq its.toArray n := by
  rcases q with q | ⟨o, its, n, e, hc, _, hd, _, hv⟩
  · obtain ⟨_, its, n, hv, e⟩ := (show ObjOk P w H h a (.lst xs) from q.ok hok)
    exact ⟨its, _, n, hv, e, rfl, rfl⟩
  · exact ⟨its.toList, o, n, hv, KX _ _ e, hc, by simp [hd]⟩
theorem sqT_at {a : Addr} {xs : List V} (hok : HOk P w H h) (KX : K.In h) (q : SqT K H a xs) : ∃ (its : List Value) (o : Obj) (n : Nat), Vals xs its ∧ h.get? a = some o ∧ o.cls = .type "tuple" ∧ o.data = .seq its.toArray n := by
  rcases q with q | ⟨o, its, n, e, hc, hd, _, hv⟩
  · obtain ⟨_, its, hv, o, e, hc, n, hd⟩ := (show ObjOk P w H h a (.tup xs) from q.ok hok)
    exact ⟨its, o, n, hv, e, hc, hd⟩
  · exact ⟨its.toList, o, n, hv, KX _ _ e, hc, by simp [hd]⟩
mutual
theorem Dw.reads (hok : HOk P w H h) (KX : K.In h) : ∀ (d : WData) (v : V) (u : Value), Dw K H v d → RelV v u → ∃ as, ReadsW R cl h u d as
  | .none, _, _, x, r => by
    cases x
    cases r
    exact ⟨_, ReadsW.none⟩
  | .bool b, _, _, x, r => by
    cases x
    cases r
    exact ⟨_, ReadsW.bool b⟩
  | .int i, _, _, x, r => by
    cases x
    obtain ⟨t, rfl⟩ := r
    exact ⟨_, ReadsW.int i t⟩
  | .str s, _, _, x, r => by
    cases x
    obtain ⟨t, rfl⟩ := r
    exact ⟨_, ReadsW.str s t⟩
  | .bytes b, _, _, x, r => by
    cases x
    obtain ⟨t, rfl⟩ := r
    exact ⟨_, ReadsW.bytes _ t⟩
  | .list ds, _, _, x, r => by
    cases x with
    | lst hs ha =>
      cases r
      obtain ⟨its, o, n, rv, ho, hc, hd⟩ := sqL_at hok KX hs
      obtain ⟨as, hr⟩ := Dw.readsAll hok KX ds _ its ha rv
      exact ⟨_, ReadsW.list ho hc hd hr⟩
  | .tuple ds, _, _, x, r => by
    cases x with
    | tup hs ha =>
      cases r
      obtain ⟨its, o, n, rv, ho, hc, hd⟩ := sqT_at hok KX hs
      obtain ⟨as, hr⟩ := Dw.readsAll hok KX ds _ its ha rv
      exact ⟨_, ReadsW.tuple ho hc hd hr⟩
  | .float _, _, _, x, _ => by cases x
  | .dict _, _, _, x, _ => by cases x
  | .bytearray _, _, _, x, _ => by cases x
  | .set _, _, _, x, _ => by cases x
  | .frozenset _, _, _, x, _ => by cases x
  | .obj _ _, _, _, x, _ => by cases x
theorem Dw.readsAll (hok : HOk P w H h) (KX : K.In h) : ∀ (ds : List WData) (vs : List V) (us : List Value), DwAll K H vs ds → Vals vs us → ∃ as, ReadsAllW R cl h us ds as
  | [], _, _, x, r => by
    cases x
    cases r
    exact ⟨_, ReadsAllW.nil⟩
  | d :: ds, _, _, x, r => by
    cases x with
    | cons h1 h2 =>
      cases r with
      | cons r1 r2 =>
        obtain ⟨as, q1⟩ := Dw.reads hok KX d _ _ h1 r1
        obtain ⟨bs, q2⟩ := Dw.readsAll hok KX ds _ _ h2 r2
        exact ⟨_, ReadsAllW.cons q1 q2⟩
end
end
/-! ### the arguments -/
mutual
/-- data that a codec tells -/
def plW : WData → Bool
  | .none => true
  | .bool _ => true
  | .int _ => true
  | .str _ => true
  | .bytes _ => true
  | .list xs => plWs xs
  | .tuple xs => plWs xs
  | _ => false
def plWs : List WData → Bool
  | [] => true
  | x :: r => plW x && plWs r
end
theorem plWs_map {α : Type} {f : α → WData} (h : ∀ a, plW (f a) = true) : ∀ l : List α, plWs (l.map f) = true
  | [] => rfl
  | x :: r => by
    show (plW (f x) && plWs (r.map f)) = true
    rw [h x, plWs_map h r] <;> rfl
theorem pl_enc : ∀ (c : Codec) (a : c.denote), plW (c.enc a) = true
  | .unit, _ => rfl
  | .bool, _ => rfl
  | .int _ _, _ => rfl
  | .nat _ _, _ => rfl
  | .u8, _ => rfl
  | .bytes _ _, _ => rfl
  | .text _ _ _ _, _ => rfl
  | .list _ _ c, a => plWs_map (fun x => pl_enc c x) a
  | .pair c d, a => by
    show (plW (c.enc a.1) && (plW (d.enc a.2) && true)) = true
    rw [pl_enc c a.1, pl_enc d a.2] <;> rfl
  | .triple c d e, a => by
    show (plW (c.enc a.1) && (plW (d.enc a.2.1) && (plW (e.enc a.2.2) && true))) = true
    rw [pl_enc c a.1, pl_enc d a.2.1, pl_enc e a.2.2] <;> rfl
  | .option c, none => rfl
  | .option c, some x => pl_enc c x
theorem pl_encAll : ∀ (cs : List Codec) (a : Codec.denoteAll cs), plWs (Codec.encAll cs a) = true
  | [], _ => rfl
  | c :: cs, a => by
    show (plW (c.enc a.1) && plWs (Codec.encAll cs a.2)) = true
    rw [pl_enc c a.1, pl_encAll cs a.2] <;> rfl
theorem weight_mem : ∀ {xs : List WData} {d : WData}, d ∈ xs → d.weight ≤ WData.weightAll xs
  | [], d, h => absurd h (by simp)
  | x :: r, d, h => by
    show d.weight ≤ x.weight + 1 + WData.weightAll r
    rcases List.mem_cons.mp h with e | m
    · rw [e]
      omega
    · have z := weight_mem m
      omega
def toV : Value → V
  | .none => .non
  | .bool b => .bl b
  | .int i _ => .int i
  | .str x _ => .str x
  | .bytes b _ => .byt b
  | .ref a => .ref a
  | _ => .non
/-- a value of the arguments, its objects among A -/
def OkU (A : List Addr) : Value → Prop
  | .none => True
  | .bool _ => True
  | .int _ _ => True
  | .str _ _ => True
  | .bytes _ _ => True
  | .ref a => a ∈ A
  | _ => False
theorem OkU.mono {A B : List Addr} (h : ∀ a ∈ A, a ∈ B) : ∀ {u : Value}, OkU A u → OkU B u := fun {u} x => by
  cases u with
  | ref a => exact h a x
  | none => trivial
  | bool b => trivial
  | int i t => trivial
  | str s t => trivial
  | bytes b t => trivial
  | _ => exact False.elim x
theorem relV_toV {A : List Addr} {u : Value} (x : OkU A u) : RelV (toV u) u := by
  cases u with
  | ref a => rfl
  | none => rfl
  | bool b => rfl
  | int i t => exact ⟨t, rfl⟩
  | str s t => exact ⟨t, rfl⟩
  | bytes b t => exact ⟨t, rfl⟩
  | _ => exact False.elim x
theorem vals_toV {A : List Addr} : ∀ {vs : List Value}, (∀ u ∈ vs, OkU A u) → Vals (vs.map toV) vs
  | [], _ => .nil
  | u :: r, h => .cons (relV_toV (h u (List.mem_cons_self ..))) (vals_toV fun x hx => h x (List.mem_cons_of_mem _ hx))
/-- an object of the arguments -/
def ArgOb (h : Heap) (A : List Addr) (a : Addr) : Prop := ∃ vs : List Value, vs.length ≤ sizeLine ∧ (∀ u ∈ vs, OkU A u) ∧
  (h.get? a = some { cls := .type "list", data := .seq vs.toArray } ∨ h.get? a = some { cls := .type "tuple", data := .seq vs.toArray })
theorem ArgOb.mono {h : Heap} {A B : List Addr} {a : Addr} (k : ∀ a ∈ A, a ∈ B) (x : ArgOb h A a) : ArgOb h B a := by
  obtain ⟨vs, h1, h2, h3⟩ := x
  exact ⟨vs, h1, fun u hu => (h2 u hu).mono k, h3⟩
theorem wellAll_len {P : Params} {h : Heap} : ∀ {vs : List Value} {ds : List WData}, WellAll P h vs ds → vs.length = ds.length
  | _, _, .nil => rfl
  | _, _, .cons _ b => by
    show _ + 1 = _ + 1
    rw [wellAll_len b]
theorem well_list {P : Params} {h : Heap} {v : Value} {ds : List WData} (x : Well P h v (.list ds)) : ∃ (a : Addr) (vs : List Value), v = .ref a ∧ h.get? a = some { cls := .type "list", data := .seq vs.toArray } ∧ WellAll P h vs ds := by
  cases x with
  | list ho hall => exact ⟨_, _, rfl, ho, hall⟩
theorem well_tuple {P : Params} {h : Heap} {v : Value} {ds : List WData} (x : Well P h v (.tuple ds)) : ∃ (a : Addr) (vs : List Value), v = .ref a ∧ h.get? a = some { cls := .type "tuple", data := .seq vs.toArray } ∧ WellAll P h vs ds := by
  cases x with
  | tuple ho hall => exact ⟨_, _, rfl, ho, hall⟩
theorem well_cons {P : Params} {h : Heap} {us : List Value} {d : WData} {ds : List WData} (x : WellAll P h us (d :: ds)) : ∃ (v : Value) (vs : List Value), us = v :: vs ∧ Well P h v d ∧ WellAll P h vs ds := by
  cases x with
  | cons a b => exact ⟨_, _, rfl, a, b⟩
theorem line_of {n : Nat} (h : n ≤ 1048576) : n ≤ sizeLine := Nat.le_trans h (by decide)
section
variable {P : Params} {h : Heap}
mutual
theorem area_one : ∀ (d : WData) (v : Value), Well P h v d → plW d = true → d.weight ≤ 1048576 → ∃ A : List Addr, OkU A v ∧ ∀ a ∈ A, ArgOb h A a
  | .none, _, x, _, _ => by
    cases x
    exact ⟨[], trivial, fun a m => absurd m (by simp)⟩
  | .bool b, _, x, _, _ => by
    cases x
    exact ⟨[], trivial, fun a m => absurd m (by simp)⟩
  | .int i, _, x, _, _ => by
    cases x
    exact ⟨[], trivial, fun a m => absurd m (by simp)⟩
  | .str s, _, x, _, _ => by
    cases x
    exact ⟨[], trivial, fun a m => absurd m (by simp)⟩
  | .bytes b, _, x, _, _ => by
    cases x
    exact ⟨[], trivial, fun a m => absurd m (by simp)⟩
  | .list ds, _, x, p, z => by
    obtain ⟨a, vs, rfl, ho, hall⟩ := well_list x
    have z2 : WData.weightAll ds ≤ 1048576 := z
    obtain ⟨A, h1, h2⟩ := area_all ds _ hall p fun d hd => Nat.le_trans (weight_mem hd) z2
    have k : ∀ b ∈ A, b ∈ a :: A := fun b hb => List.mem_cons_of_mem _ hb
    refine ⟨a :: A, List.mem_cons_self .., fun b hb => ?_⟩
    rcases List.mem_cons.mp hb with e | m
    · rw [e]
      exact ⟨vs, line_of (by rw [wellAll_len hall]; exact Nat.le_trans (PySem.W.length_le_weightAllW ds) z2), fun u hu => (h1 u hu).mono k, .inl ho⟩
    · exact (h2 b m).mono k
  | .tuple ds, _, x, p, z => by
    obtain ⟨a, vs, rfl, ho, hall⟩ := well_tuple x
    have z2 : WData.weightAll ds ≤ 1048576 := z
    obtain ⟨A, h1, h2⟩ := area_all ds _ hall p fun d hd => Nat.le_trans (weight_mem hd) z2
    have k : ∀ b ∈ A, b ∈ a :: A := fun b hb => List.mem_cons_of_mem _ hb
    refine ⟨a :: A, List.mem_cons_self .., fun b hb => ?_⟩
    rcases List.mem_cons.mp hb with e | m
    · rw [e]
      exact ⟨vs, line_of (by rw [wellAll_len hall]; exact Nat.le_trans (PySem.W.length_le_weightAllW ds) z2), fun u hu => (h1 u hu).mono k, .inr ho⟩
    · exact (h2 b m).mono k
  | .float _, _, _, p, _ => Bool.noConfusion (show false = true from p)
  | .dict _, _, _, p, _ => Bool.noConfusion (show false = true from p)
  | .bytearray _, _, _, p, _ => Bool.noConfusion (show false = true from p)
  | .set _, _, _, p, _ => Bool.noConfusion (show false = true from p)
  | .frozenset _, _, _, p, _ => Bool.noConfusion (show false = true from p)
  | .obj _ _, _, _, p, _ => Bool.noConfusion (show false = true from p)
theorem area_all : ∀ (ds : List WData) (vs : List Value), WellAll P h vs ds → plWs ds = true → (∀ d ∈ ds, d.weight ≤ 1048576) → ∃ A : List Addr, (∀ u ∈ vs, OkU A u) ∧ ∀ a ∈ A, ArgOb h A a
  | [], _, x, _, _ => by
    cases x
    exact ⟨[], fun u m => absurd m (by simp), fun a m => absurd m (by simp)⟩
  | d :: ds, _, x, p, z => by
    obtain ⟨v, vs, rfl, x1, x2⟩ := well_cons x
    have q : plW d = true ∧ plWs ds = true := Bool.and_eq_true_iff.mp p
    obtain ⟨A, a1, a2⟩ := area_one d v x1 q.1 (z d (List.mem_cons_self ..))
    obtain ⟨B, b1, b2⟩ := area_all ds vs x2 q.2 fun e he => z e (List.mem_cons_of_mem _ he)
    have kA : ∀ b ∈ A, b ∈ A ++ B := fun b hb => List.mem_append.mpr (.inl hb)
    have kB : ∀ b ∈ B, b ∈ A ++ B := fun b hb => List.mem_append.mpr (.inr hb)
    refine ⟨A ++ B, fun u hu => ?_, fun b hb => ?_⟩
    · rcases List.mem_cons.mp hu with e | m
      · rw [e]
        exact a1.mono kA
      · exact (b1 u m).mono kB
    · rcases List.mem_append.mp hb with m | m
      · exact (a2 b m).mono kA
      · exact (b2 b m).mono kB
end
end
/-- what is tracked of an argument's object -/
def hoOf (o : Obj) : Option HO := match o.data with
  | .seq vs _ => if (o.cls == Value.type "list") = true then some (.frz o (.lst (vs.toList.map toV))) else some (.frz o (.tup (vs.toList.map toV)))
  | _ => none
def argH (K : PySem.W.Frag) (h : Heap) (A : List Addr) : Hp := fun b => if b ∈ A then (if (K.lookup b).isNone = true then (h.get? b).bind hoOf else none) else none
/-- nothing is tracked but what is known to the object -/
def OnlyF (H : Hp) : Prop := ∀ b, H b = none ∨ ∃ o u, H b = some (.frz o u)
theorem hoOf_lst (vs : List Value) : hoOf { cls := .type "list", data := .seq vs.toArray } = some (.frz { cls := .type "list", data := .seq vs.toArray } (.lst (vs.map toV))) := by
  show (if (Value.type "list" == Value.type "list") = true then some (HO.frz { cls := .type "list", data := .seq vs.toArray } (.lst (vs.toArray.toList.map toV))) else some (HO.frz { cls := .type "list", data := .seq vs.toArray } (.tup (vs.toArray.toList.map toV)))) = _
  rw [if_pos (beq_self_eq_true _)]
theorem hoOf_tup (vs : List Value) : hoOf { cls := .type "tuple", data := .seq vs.toArray } = some (.frz { cls := .type "tuple", data := .seq vs.toArray } (.tup (vs.map toV))) := by
  show (if (Value.type "tuple" == Value.type "list") = true then some (HO.frz { cls := .type "tuple", data := .seq vs.toArray } (.lst (vs.toArray.toList.map toV))) else some (HO.frz { cls := .type "tuple", data := .seq vs.toArray } (.tup (vs.toArray.toList.map toV)))) = _
  rw [if_neg (by decide)]
section
variable {P : Program} {w : World} {K : PySem.W.Frag} {h : Heap} {A : List Addr}
theorem argH_at {b : Addr} {o : Obj} (hb : b ∈ A) (hk : K.lookup b = none) (e : h.get? b = some o) : argH K h A b = hoOf o := by
  unfold argH
  rw [if_pos hb, hk, if_pos (show (none : Option Obj).isNone = true from rfl), e] <;> rfl
theorem of_argH {b : Addr} {u : HO} (q : argH K h A b = some u) : b ∈ A ∧ K.lookup b = none := by
  unfold argH at q
  by_cases hb : b ∈ A
  · rw [if_pos hb] at q
    cases hk : K.lookup b with
    | none => exact ⟨hb, rfl⟩
    | some o =>
      rw [hk, if_neg (by simp)] at q
      cases q
  · rw [if_neg hb] at q
    cases q
/-- what stands tracked -/
theorem argH_is (ar : ∀ a ∈ A, ArgOb h A a) {b : Addr} {u : HO} (q : argH K h A b = some u) : K.lookup b = none ∧ ∃ vs : List Value, vs.length ≤ sizeLine ∧ (∀ u ∈ vs, OkU A u) ∧
    ((h.get? b = some { cls := .type "list", data := .seq vs.toArray } ∧ u = .frz { cls := .type "list", data := .seq vs.toArray } (.lst (vs.map toV))) ∨
     (h.get? b = some { cls := .type "tuple", data := .seq vs.toArray } ∧ u = .frz { cls := .type "tuple", data := .seq vs.toArray } (.tup (vs.map toV)))) := by
  obtain ⟨hb, hk⟩ := of_argH q
  obtain ⟨vs, h1, h2, h3⟩ := ar b hb
  refine ⟨hk, vs, h1, h2, ?_⟩
  rcases h3 with e | e
  · rw [argH_at hb hk e, hoOf_lst] at q
    exact .inl ⟨e, (Option.some.inj q).symm⟩
  · rw [argH_at hb hk e, hoOf_tup] at q
    exact .inr ⟨e, (Option.some.inj q).symm⟩
theorem argH_only (ar : ∀ a ∈ A, ArgOb h A a) : OnlyF (argH K h A) := fun b => by
  cases q : argH K h A b with
  | none => exact .inl rfl
  | some u =>
    obtain ⟨_, vs, _, _, ⟨_, e⟩ | ⟨_, e⟩⟩ := argH_is ar q
    · exact .inr ⟨_, _, by rw [e]⟩
    · exact .inr ⟨_, _, by rw [e]⟩
theorem argH_ok (ar : ∀ a ∈ A, ArgOb h A a) : HOk P w (argH K h A) h := fun b u q => by
  obtain ⟨_, vs, h1, h2, ⟨e, rfl⟩ | ⟨e, rfl⟩⟩ := argH_is ar q
  · exact ⟨e, by rw [List.length_map]; exact h1, vs, _, vals_toV h2, e⟩
  · exact ⟨e, by rw [List.length_map]; exact h1, vs, vals_toV h2, _, e, rfl, _, rfl⟩
theorem seq_inj {c c' : Value} {vs us : List Value} (e : (some { cls := c, data := .seq vs.toArray } : Option Obj) = some { cls := c', data := .seq us.toArray }) : c = c' ∧ vs = us := by
  have e1 := Option.some.inj e
  have e2 : c = c' := congrArg Obj.cls e1
  have e3 : Data.seq vs.toArray = Data.seq us.toArray := congrArg Obj.data e1
  injection e3 with e4
  refine ⟨e2, ?_⟩
  have e5 := congrArg Array.toList e4
  simpa using e5
/-- a list argument -/
theorem argL (KX : K.In h) (ar : ∀ a ∈ A, ArgOb h A a) {a : Addr} {vs : List Value} (ha : a ∈ A) (e : h.get? a = some { cls := .type "list", data := .seq vs.toArray }) : (∀ u ∈ vs, OkU A u) ∧ SqL K (argH K h A) a (vs.map toV) := by
  obtain ⟨us, h1, h2, h3⟩ := ar a ha
  have hu : us = vs := by
    rcases h3 with q | q
    · rw [e] at q
      exact (seq_inj q).2.symm
    · rw [e] at q
      exact absurd (Value.type.inj (seq_inj q).1) (by decide)
  subst hu
  refine ⟨h2, ?_⟩
  cases hk : K.lookup a with
  | none => exact .inl (.inr ⟨_, by rw [argH_at ha hk e, hoOf_lst]⟩)
  | some o =>
    have e2 := KX a o hk
    rw [e] at e2
    obtain rfl := Option.some.inj e2
    exact .inr ⟨_, us.toArray, _, hk, rfl, rfl, rfl, by rw [List.size_toArray]; exact h1, by simpa using vals_toV h2⟩
theorem argT (KX : K.In h) (ar : ∀ a ∈ A, ArgOb h A a) {a : Addr} {vs : List Value} (ha : a ∈ A) (e : h.get? a = some { cls := .type "tuple", data := .seq vs.toArray }) : (∀ u ∈ vs, OkU A u) ∧ SqT K (argH K h A) a (vs.map toV) := by
  obtain ⟨us, h1, h2, h3⟩ := ar a ha
  have hu : us = vs := by
    rcases h3 with q | q
    · rw [e] at q
      exact absurd (Value.type.inj (seq_inj q).1) (by decide)
    · rw [e] at q
      exact (seq_inj q).2.symm
  subst hu
  refine ⟨h2, ?_⟩
  cases hk : K.lookup a with
  | none => exact .inl (.inr ⟨_, by rw [argH_at ha hk e, hoOf_tup]⟩)
  | some o =>
    have e2 := KX a o hk
    rw [e] at e2
    obtain rfl := Option.some.inj e2
    exact .inr ⟨_, us.toArray, _, hk, rfl, rfl, by rw [List.size_toArray]; exact h1, by simpa using vals_toV h2⟩
mutual
theorem dw_one {Pm : Params} (KX : K.In h) (ar : ∀ a ∈ A, ArgOb h A a) : ∀ (d : WData) (v : Value), Well Pm h v d → plW d = true → OkU A v → Dw K (argH K h A) (toV v) d
  | .none, _, x, _, _ => by
    cases x
    exact .non
  | .bool b, _, x, _, _ => by
    cases x
    exact .bl b
  | .int i, _, x, _, _ => by
    cases x
    exact .int i
  | .str s, _, x, _, _ => by
    cases x
    exact .str s
  | .bytes b, _, x, _, _ => by
    cases x
    have z := Dw.byt (K := K) (H := argH K h A) b.toArray
    exact z
  | .list ds, _, x, p, hu => by
    obtain ⟨a, vs, rfl, ho, hall⟩ := well_list x
    obtain ⟨h2, hs⟩ := argL KX ar hu ho
    exact .lst hs (dw_all KX ar ds _ hall p h2)
  | .tuple ds, _, x, p, hu => by
    obtain ⟨a, vs, rfl, ho, hall⟩ := well_tuple x
    obtain ⟨h2, hs⟩ := argT KX ar hu ho
    exact .tup hs (dw_all KX ar ds _ hall p h2)
  | .float _, _, _, p, _ => Bool.noConfusion (show false = true from p)
  | .dict _, _, _, p, _ => Bool.noConfusion (show false = true from p)
  | .bytearray _, _, _, p, _ => Bool.noConfusion (show false = true from p)
  | .set _, _, _, p, _ => Bool.noConfusion (show false = true from p)
  | .frozenset _, _, _, p, _ => Bool.noConfusion (show false = true from p)
  | .obj _ _, _, _, p, _ => Bool.noConfusion (show false = true from p)
theorem dw_all {Pm : Params} (KX : K.In h) (ar : ∀ a ∈ A, ArgOb h A a) : ∀ (ds : List WData) (vs : List Value), WellAll Pm h vs ds → plWs ds = true → (∀ u ∈ vs, OkU A u) → DwAll K (argH K h A) (vs.map toV) ds
  | [], _, x, _, _ => by
    cases x
    exact .nil
  | d :: ds, _, x, p, hu => by
    obtain ⟨v, vs, rfl, x1, x2⟩ := well_cons x
    have q : plW d = true ∧ plWs ds = true := Bool.and_eq_true_iff.mp p
    exact .cons (dw_one KX ar d v x1 q.1 (hu _ (List.mem_cons_self ..))) (dw_all KX ar ds vs x2 q.2 fun u m => hu u (List.mem_cons_of_mem _ m))
end
end
/-! ### the call -/
theorem spec_call {P : Program} {w : World} {K : PySem.W.Frag} {mg mb : Str → Option Value} {CX : CXT} {k : Nat} {fa : Addr} {fd : FuncData} {ps : List Str} {sp : Sp} {s₁ : Shared} {vals : List Value} {ds : List WData} {R : PySem.W.WRecords} {cl : Str → Option Addr} {d0 : WData}
    (KX : K.In s₁.heap) (hns : s₁.heap.Ns mainGlobals mg) (hb : s₁.heap.Ns builtinsNs mb) (hbb : ∀ x : Str, x ≠ "__name__" → mb x = bootBuiltins x) (hlim : s₁.heap.NoLimit) (hg : s₁.gens = #[])
    (hwl : WellAll w.params s₁.heap vals ds) (hpl : plWs ds = true) (hwt : ∀ d ∈ ds, d.weight ≤ 1048576) (hr : Room k callerA)
    (F : ∀ base : Heap, K.In base → base.Ns mainGlobals mg → FnOk P w K mg base CX k fa fd ps sp) (hbind : ∀ (s : Shared) (us : List Value), us.length = ps.length → BindsTo s fd ⟨us, []⟩ (ps.zip us)) (hlen : ds.length = ps.length)
    (hsp : ∀ (H : Hp) (xs : List V), OnlyF H → DwAll K H xs ds → sp xs H (fun v H' => Dw K H' v d0) fun _ _ _ => False)
    (hCX : ∀ H e s', CX [] H s₁ (fun _ _ _ => False) e s' → False) :
    codeAny (model P w) callerA (.call (.ref fa) ⟨vals, []⟩) (fun r s' => ∃ u as, r = .ok (.ret u) ∧ ReadsW R cl s'.heap u d0 as ∧ OldK s₁.heap s'.heap ∧ s'.os = s₁.os ∧ AllBare s'.gens) s₁ := by
  obtain ⟨A, ho, ar⟩ := area_all ds vals hwl hpl hwt
  have hO : OnlyF (argH K s₁.heap A) := argH_only ar
  have hok : HOk P w (argH K s₁.heap A) s₁.heap := argH_ok ar
  have hS := dw_all KX ar ds vals hwl hpl ho
  have hV := vals_toV ho
  have hK : ∀ b u, argH K s₁.heap A b = some u → K.lookup b = none := fun b u q => (argH_is ar q).1
  have noA : ∀ {b : Addr} {o : Obj} {es : Array DictEntry} {ep : Nat}, s₁.heap.get? b = some o → o.data = .dict es ep → argH K s₁.heap A b = none := fun {b o es ep} e d => by
    cases q : argH K s₁.heap A b with
    | none => rfl
    | some u =>
      obtain ⟨_, vs, _, _, ⟨e2, _⟩ | ⟨e2, _⟩⟩ := argH_is ar q
      · rw [e2] at e
        cases e
        have d' : Data.seq vs.toArray _ = Data.dict es ep := d
        cases d'
      · rw [e2] at e
        cases e
        have d' : Data.seq vs.toArray _ = Data.dict es ep := d
        cases d'
  generalize argH K s₁.heap A = H at hO hok hS hK noA
  have base_of : ∀ {b : Addr} {o : Obj}, s₁.heap.get? b = some o → H b = none → (hidT s₁.heap H).get? b = some o := fun e n => hidT_get e n
  have nsK : ∀ {b : Addr} {m : Str → Option Value}, s₁.heap.Ns b m → (hidT s₁.heap H).Ns b m := fun {b m} ⟨o, es, ep, e, d, r⟩ => ⟨o, es, ep, base_of e (noA e d), d, r⟩
  have nK : ∀ b o, K.lookup b = some o → H b = none := fun b o e => by
    cases q : H b with
    | none => rfl
    | some u =>
      rw [hK b u q] at e
      cases e
  have hKb : K.In (hidT s₁.heap H) := fun b o e => base_of (KX b o e) (nK b o e)
  have hM : Mod K mg (hidT s₁.heap H) := ⟨hKb, nsK hns, ⟨mb, nsK hb, hbb⟩, let ⟨mc, h1, h2⟩ := hlim; ⟨mc, nsK h1, h2⟩⟩
  have e0 : Env0 P w K mg (hidT s₁.heap H) callerA [] s₁ H := ⟨rfl, hM, fun b o e => of_hidT e, Nat.le_of_eq (hidT_size _ _), trivial, fun b hb => absurd (show b ∈ ([] : List Addr) from hb) (by simp), hok, .of_eq hg⟩
  have hl : vals.length = ps.length := by rw [wellAll_len hwl]; exact hlen
  refine codeAny_mono ((F _ hKb (nsK hns)).run callerA [] s₁ H ⟨vals, []⟩ vals (vals.map toV) _ _ hr e0 (hbind s₁ vals hl) hV (hsp H _ hO hS)) fun r s' x => ?_
  cases r with
  | error e => exact (hCX H e s' x).elim
  | ok fl =>
    cases fl with
    | next => exact False.elim x
    | brk => exact False.elim x
    | cont => exact False.elim x
    | ret u =>
      obtain ⟨v, H', os, bare, un, hok', r', q⟩ := x
      have kept : ∀ b o, s₁.heap.get? b = some o → s'.heap.get? b = some o := fun b o e => by
        cases q2 : H b with
        | none => exact un.keep b o e q2 (by intro z; exact absurd (show b ∈ ([] : List Addr) from z) (by simp)) (by simp)
        | some u2 =>
          rcases hO b with z | ⟨ob, u3, z⟩
          · rw [q2] at z
            cases z
          · have z2 := un.frzs b ob _ z
            obtain ⟨e1, _⟩ := hok b _ z
            obtain ⟨e2, _⟩ := hok' b _ z2
            rw [e] at e1
            cases e1
            exact e2
      have KX' : K.In s'.heap := fun b o e => kept b o (KX b o e)
      obtain ⟨as, hrd⟩ := Dw.reads (R := R) (cl := cl) hok' KX' d0 v u q r'
      exact ⟨u, as, rfl, hrd, OldK.of_keep kept, os, bare⟩
/-! ### the row -/
theorem layable_weight {ds : List WData} (h : WData.layableAll ds = true) : ∀ d ∈ ds, d.weight ≤ 1048576 := fun d hd =>
  (PySem.W.layableW_iff.mp (List.all_eq_true.mp h d hd)).2.2
theorem encAll_len : ∀ (cs : List Codec) (a : Codec.denoteAll cs), (Codec.encAll cs a).length = cs.length
  | [], _ => rfl
  | c :: cs, a => by
    show (Codec.encAll cs a.2).length + 1 = cs.length + 1
    rw [encAll_len cs a.2]
/-- the goal that k_headS leaves (case hc), from the promise of the row's def: whatever the arguments that the codecs let and the row asks for, the def gives what stands for enc (f ..) -/
theorem walk_spec {r : OpenSpec} {k : Nat} {q : Program} {loose : List Str} {XP : (Str → Option Value) → Heap → Prop} {YP : World → Heap → Prop} {d : DefRec} {K : Params → PySem.W.Frag} {CX : World → CXT} {ps : List Str} {sp : World → Sp}
    (hwell : r.wellSaid = true) (hdf : d.params.defaults = []) (hlen : r.args.length = ps.length) (hr : Room k callerA)
    (hY : ∀ (w : World) (h : Heap), YP w h → (K w.params).In h)
    (F : ∀ (w : World) (mg : Str → Option Value) (fa : Addr) (h : Heap), YP w h → (K w.params).In h → h.Ns mainGlobals mg → mg d.name = some (.ref fa) →
      ∃ fd : FuncData, (∀ (s : Shared) (us : List Value), us.length = ps.length → BindsTo s fd ⟨us, []⟩ (ps.zip us)) ∧
        ∀ base : Heap, (K w.params).In base → base.Ns mainGlobals mg → FnOk r.prog w (K w.params) mg base (CX w) k fa fd ps (sp w))
    (hsp : ∀ (w : World) (H : Hp) (xs : List V) (a : Codec.denoteAll r.args), OnlyF H → Codec.withinAll r.args a = true → Codec.app r.args r.asked a = true → DwAll (K w.params) H xs (Codec.encAll r.args a) →
      sp w xs H (fun v H' => Dw (K w.params) H' v (r.ret.enc (Codec.app r.args r.f a))) fun _ _ _ => False)
    (hCX : ∀ (w : World) (H : Hp) (s : Shared) (e : Value) (s' : Shared), CX w [] H s (fun _ _ _ => False) e s' → False) :
    PySem.W.WalkOS q loose XP YP r d [] (fun f vs => PySem.call f vs) := by
  intro w s_0 s₁ mg mb G Y fa o pm cd doc dV kV ho hd hcd hD hmg hg args vals as hpre hlay hrd hwl hlo
  obtain ⟨a, e1, e2⟩ := PySem.W.os_pre_some hpre
  obtain ⟨e3, hwi⟩ := Codec.encAll_of_decAll r.args args a e1
  subst e3
  have KX := hY w _ Y
  obtain ⟨fd, hb, hF⟩ := F w mg fa _ Y KX G.T.g hmg
  refine PySem.W.enter_call (codeAny_mono (spec_call (R := []) (cl := classAt s_0.heap) (d0 := r.ret.enc (Codec.app r.args r.f a)) KX G.T.g G.T.b G.T.builtins G.T.nolimit hg hwl (pl_encAll _ _) (layable_weight hlay) hr hF hb (by rw [encAll_len]; exact hlen)
    (fun H xs hO hS => hsp w H xs a hO hwi e2 hS) fun H e s' => hCX w H s₁ e s') fun r' s' hq => ?_)
  obtain ⟨u, as', rfl, h1, h2, h3, h4⟩ := hq
  exact ⟨.inl ⟨u, _, as', rfl, fun _ => rfl, h1, (OpenSpec.post_iff hwell hwi _ _).mpr rfl, fun z => Bool.noConfusion (show false = true from z)⟩, h2, h3, h4⟩
/-- the same where the promise hangs on the written part alone -/
theorem walk_specK {r : OpenSpec} {k : Nat} {q : Program} {loose : List Str} {XP : (Str → Option Value) → Heap → Prop} {YP : World → Heap → Prop} {d : DefRec} {K : Params → PySem.W.Frag} {CX : CXT} {ps : List Str} {sp : PySem.W.Frag → Sp}
    (hwell : r.wellSaid = true) (hdf : d.params.defaults = []) (hlen : r.args.length = ps.length) (hr : Room k callerA)
    (hY : ∀ (w : World) (h : Heap), YP w h → (K w.params).In h)
    (F : ∀ (w : World) (mg : Str → Option Value) (fa : Addr) (h : Heap), YP w h → (K w.params).In h → h.Ns mainGlobals mg → mg d.name = some (.ref fa) →
      ∃ fd : FuncData, (∀ (s : Shared) (us : List Value), us.length = ps.length → BindsTo s fd ⟨us, []⟩ (ps.zip us)) ∧
        ∀ base : Heap, (K w.params).In base → base.Ns mainGlobals mg → FnOk r.prog w (K w.params) mg base CX k fa fd ps (sp (K w.params)))
    (hsp : ∀ (K : PySem.W.Frag) (H : Hp) (xs : List V) (a : Codec.denoteAll r.args), OnlyF H → Codec.withinAll r.args a = true → Codec.app r.args r.asked a = true → DwAll K H xs (Codec.encAll r.args a) →
      sp K xs H (fun v H' => Dw K H' v (r.ret.enc (Codec.app r.args r.f a))) fun _ _ _ => False)
    (hCX : ∀ (H : Hp) (s : Shared) (e : Value) (s' : Shared), CX [] H s (fun _ _ _ => False) e s' → False) :
    PySem.W.WalkOS q loose XP YP r d [] (fun f vs => PySem.call f vs) :=
  walk_spec (K := K) (CX := fun _ => CX) (sp := fun w => sp (K w.params)) hwell hdf hlen hr hY F (fun w H xs a h1 h2 h3 h4 => hsp (K w.params) H xs a h1 h2 h3 h4) fun _ H s e s' => hCX H s e s'
end L2
end

end
section
set_option autoImplicit false
namespace HvM
open Hv
abbrev P2 := Nat × Nat
/-! ### the order of the table -/
theorem first_iff {x y : P2} : firstOf x y = true ↔ (y.2 < x.2 ∨ (x.2 = y.2 ∧ x.1 < y.1)) := by
  unfold firstOf
  simp
theorem first_ff {x y : P2} : firstOf x y = false ↔ ¬ (y.2 < x.2 ∨ (x.2 = y.2 ∧ x.1 < y.1)) := by
  rw [← first_iff]; simp
/-- x stands at or before y -/
def Le2 (x y : P2) : Prop := firstOf y x = false
theorem le2_iff {x y : P2} : Le2 x y ↔ (y.2 < x.2 ∨ (x.2 = y.2 ∧ x.1 ≤ y.1)) := by
  unfold Le2
  rw [first_ff]
  omega
theorem le2_of_first {x y : P2} (h : firstOf x y = true) : Le2 x y := by
  rw [first_iff] at h
  rw [le2_iff]
  omega
theorem le2_trans {x y z : P2} (a : Le2 x y) (b : Le2 y z) : Le2 x z := by
  rw [le2_iff] at *
  omega
theorem le2_total (x y : P2) : Le2 x y ∨ Le2 y x := by
  rw [le2_iff, le2_iff]
  omega
theorem le2_antisymm {x y : P2} (a : Le2 x y) (b : Le2 y x) : x = y := by
  rw [le2_iff] at *
  apply Prod.ext <;> omega
theorem insert_perm (x : P2) : ∀ l : List P2, (Hv.insert x l).Perm (x :: l)
  | [] => .refl _
  | y :: l => by
    unfold Hv.insert
    split
    · exact .refl _
    · exact (List.Perm.cons y (insert_perm x l)).trans (List.Perm.swap x y l)
theorem sorted_perm : ∀ l : List P2, (Hv.sorted l).Perm l
  | [] => .refl _
  | x :: l => (insert_perm x (Hv.sorted l)).trans (List.Perm.cons x (sorted_perm l))
theorem insert_pw (x : P2) : ∀ l : List P2, l.Pairwise Le2 → (Hv.insert x l).Pairwise Le2
  | [], _ => by simp [Hv.insert]
  | y :: l, h => by
    unfold Hv.insert
    split
    · rename_i q
      have hy : Le2 x y := le2_of_first q
      refine List.pairwise_cons.mpr ⟨fun z hz => ?_, h⟩
      rcases List.mem_cons.mp hz with e | e
      · subst e; exact hy
      · exact le2_trans hy ((List.pairwise_cons.mp h).1 z e)
    · rename_i q
      have hy : Le2 y x := by
        show firstOf x y = false
        simpa using q
      refine List.pairwise_cons.mpr ⟨fun z hz => ?_, insert_pw x l (List.pairwise_cons.mp h).2⟩
      have hz' := (insert_perm x l).mem_iff.mp hz
      rcases List.mem_cons.mp hz' with e | e
      · subst e; exact hy
      · exact (List.pairwise_cons.mp h).1 z e
theorem sorted_pw : ∀ l : List P2, (Hv.sorted l).Pairwise Le2
  | [] => List.Pairwise.nil
  | x :: l => insert_pw x _ (sorted_pw l)
/-- two lists of the same things, both in order, are one -/
theorem uniq {α : Type} {R : α → α → Prop} (anti : ∀ x y, R x y → R y x → x = y) : ∀ {l m : List α}, l.Perm m → l.Pairwise R → m.Pairwise R → l = m
  | [], m, p, _, _ => by
    have : m = [] := List.Perm.eq_nil p.symm
    rw [this]
  | x :: l, [], p, _, _ => by
    have := p.length_eq
    simp at this
  | x :: l, y :: m, p, hl, hm => by
    have h1 := List.pairwise_cons.mp hl
    have h2 := List.pairwise_cons.mp hm
    have e : x = y := by
      rcases List.mem_cons.mp (p.mem_iff.mp (List.mem_cons_self (a := x) (l := l))) with e | e
      · exact e
      · rcases List.mem_cons.mp (p.mem_iff.mpr (List.mem_cons_self (a := y) (l := m))) with q | q
        · exact q.symm
        · exact anti _ _ (h1.1 y q) (h2.1 x e)
    subst e
    rw [uniq anti (List.Perm.cons_inv p) h1.2 h2.2]
theorem sorted_is {l m : List P2} (p : m.Perm l) (h : m.Pairwise Le2) : Hv.sorted l = m :=
  uniq (fun _ _ => le2_antisymm) ((sorted_perm l).trans p.symm) (sorted_pw l) h
theorem sorted_congr {l m : List P2} (p : l.Perm m) : Hv.sorted l = Hv.sorted m :=
  sorted_is ((sorted_perm m).trans p.symm) (sorted_pw m)
theorem sorted_id {l : List P2} (h : l.Pairwise Le2) : Hv.sorted l = l := sorted_is (.refl _) h
theorem sorted_len (l : List P2) : (Hv.sorted l).length = l.length := (sorted_perm l).length_eq
/-- the counts, the greatest first -/
theorem sorted_counts (l : List P2) : ((Hv.sorted l).map (fun y => y.2)).Pairwise (fun a b => b ≤ a) := by
  rw [List.pairwise_map]
  refine List.Pairwise.imp (fun {a b} h => ?_) (sorted_pw l)
  rw [le2_iff] at h
  omega
theorem counts_is {l : List P2} {vs : List Nat} (p : vs.Perm (l.map fun y => y.2)) (h : vs.Pairwise fun a b => b ≤ a) : vs = (Hv.sorted l).map fun y => y.2 :=
  uniq (fun _ _ a b => Nat.le_antisymm b a) (p.trans ((sorted_perm l).map _).symm) h (sorted_counts l)
/-! ### kept -/
theorem lessBy_perm {l m : List P2} (c : Nat) (p : l.Perm m) : (lessBy c l).Perm (lessBy c m) := (p.filter _).map _
theorem kept_small {k n err : Nat} {l : List P2} (h : l.length ≤ k) : kept k n err l = ⟨k, n, err, Hv.sorted l⟩ := by
  unfold kept
  have e : (Hv.sorted l)[k]? = none := List.getElem?_eq_none_iff.mpr (by rw [sorted_len]; exact h)
  simp only [e]
theorem kept_big {k n err c : Nat} {l : List P2} (h : ((Hv.sorted l).map fun y => y.2)[k]? = some c) : kept k n err l = ⟨k, n, err + c, Hv.sorted (lessBy c l)⟩ := by
  unfold kept
  rw [List.getElem?_map] at h
  cases e : (Hv.sorted l)[k]? with
  | none => rw [e] at h; cases h
  | some y =>
    rw [e] at h
    have hc : y.2 = c := Option.some.inj h
    subst hc
    simp only [e]
    rw [sorted_congr (lessBy_perm y.2 (sorted_perm l))]
theorem kept_congr {k n err : Nat} {l m : List P2} (p : l.Perm m) : kept k n err l = kept k n err m := by
  unfold kept
  rw [sorted_congr p]
/-! ### a good table -/
structure Tab (l : List P2) : Prop where
  nd : (l.map fun y => y.1).Nodup
  pos : ∀ y ∈ l, 1 ≤ y.2
theorem Tab.perm {l m : List P2} (p : l.Perm m) (t : Tab l) : Tab m := ⟨(p.map _).nodup_iff.mp t.nd, fun y h => t.pos y (p.mem_iff.mpr h)⟩
theorem Tab.lessBy {l : List P2} (c : Nat) (t : Tab l) : Tab (Hv.lessBy c l) := by
  refine ⟨?_, fun y h => ?_⟩
  · unfold Hv.lessBy
    rw [List.map_map]
    exact (List.filter_sublist.map _).nodup t.nd
  · unfold Hv.lessBy at h
    obtain ⟨z, hz, rfl⟩ := List.mem_map.mp h
    have := (List.mem_filter.mp hz).2
    simp at this
    show 1 ≤ z.2 - c
    omega
theorem Tab.sorted {l : List P2} (t : Tab l) : Tab (Hv.sorted l) := t.perm (sorted_perm l).symm
/-! ### a key's count -/
theorem countIn_nil (x : Nat) : countIn [] x = 0 := rfl
theorem countIn_pos {y : P2} {l : List P2} {x : Nat} (e : y.1 = x) : countIn (y :: l) x = y.2 := by simp [countIn, e]
theorem countIn_neg {y : P2} {l : List P2} {x : Nat} (e : ¬ y.1 = x) : countIn (y :: l) x = countIn l x := by simp [countIn, e]
theorem countIn_mem {l : List P2} {y : P2} (nd : (l.map fun y => y.1).Nodup) (h : y ∈ l) : countIn l y.1 = y.2 := by
  induction l with
  | nil => cases h
  | cons z l ih =>
    rw [List.map_cons, List.nodup_cons] at nd
    rcases List.mem_cons.mp h with e | e
    · subst e; exact countIn_pos rfl
    · rw [countIn_neg, ih nd.2 e]
      intro q
      exact nd.1 (List.mem_map.mpr ⟨y, e, q.symm⟩)
theorem countIn_none {l : List P2} {x : Nat} (h : x ∉ l.map fun y => y.1) : countIn l x = 0 := by
  induction l with
  | nil => rfl
  | cons z l ih =>
    rw [List.map_cons, List.mem_cons, not_or] at h
    rw [countIn_neg (fun q => h.1 q.symm), ih h.2]
theorem countIn_perm {l m : List P2} {x : Nat} (nd : (l.map fun y => y.1).Nodup) (p : l.Perm m) : countIn l x = countIn m x := by
  by_cases h : x ∈ l.map fun y => y.1
  · obtain ⟨y, hy, rfl⟩ := List.mem_map.mp h
    rw [countIn_mem nd hy, countIn_mem ((p.map _).nodup_iff.mp nd) (p.mem_iff.mp hy)]
  · rw [countIn_none h, countIn_none fun q => h ((p.map _).mem_iff.mpr q)]
theorem has_perm {l m : List P2} {x : Nat} (p : l.Perm m) : (l.any fun y => y.1 == x) = (m.any fun y => y.1 == x) := by
  rw [Bool.eq_iff_iff, List.any_eq_true, List.any_eq_true]
  exact ⟨fun ⟨y, h, e⟩ => ⟨y, p.mem_iff.mp h, e⟩, fun ⟨y, h, e⟩ => ⟨y, p.mem_iff.mpr h, e⟩⟩
theorem has_iff {l : List P2} {x : Nat} : (l.any fun y => y.1 == x) = true ↔ x ∈ l.map fun y => y.1 := by
  rw [List.any_eq_true, List.mem_map]
  exact ⟨fun ⟨y, h, e⟩ => ⟨y, h, by simpa using e⟩, fun ⟨y, h, e⟩ => ⟨y, h, by simpa using e⟩⟩
/-! ### a dict of counts: in its place, or at the end -/
def put (l : List P2) (x c : Nat) : List P2 :=
  if (l.any fun y => y.1 == x) = true then l.map (fun y => if y.1 = x then (y.1, c) else y) else l ++ [(x, c)]
theorem others_none {l : List P2} {x : Nat} (h : x ∉ l.map fun y => y.1) : others l x = l := by
  unfold others
  rw [List.filter_eq_self]
  intro y hy
  simp only [bne_iff_ne, ne_eq]
  intro e
  exact h (List.mem_map.mpr ⟨y, hy, e⟩)
theorem others_cons_pos {y : P2} {l : List P2} {x : Nat} (e : y.1 = x) : others (y :: l) x = others l x := by simp [others, e]
theorem others_cons_neg {y : P2} {l : List P2} {x : Nat} (e : ¬ y.1 = x) : others (y :: l) x = y :: others l x := by simp [others, e]
theorem others_not_mem (l : List P2) (x : Nat) : x ∉ (others l x).map fun y => y.1 := by
  intro h
  obtain ⟨y, hy, e⟩ := List.mem_map.mp h
  have := (List.mem_filter.mp hy).2
  simp at this
  exact this e
theorem others_perm {l m : List P2} (x : Nat) (p : l.Perm m) : (others l x).Perm (others m x) := p.filter _
theorem map_put_id {l : List P2} {x c : Nat} (h : x ∉ l.map fun y => y.1) : l.map (fun y => if y.1 = x then (y.1, c) else y) = l := by
  induction l with
  | nil => rfl
  | cons y l ih =>
    rw [List.map_cons, List.mem_cons, not_or] at h
    rw [List.map_cons, ih h.2, if_neg fun q => h.1 q.symm]
theorem map_put_perm {x c : Nat} : ∀ {l : List P2}, (l.map fun y => y.1).Nodup → x ∈ (l.map fun y => y.1) → (l.map (fun y => if y.1 = x then (y.1, c) else y)).Perm ((x, c) :: others l x)
  | [], _, h => by cases h
  | y :: l, nd, h => by
    rw [List.map_cons, List.nodup_cons] at nd
    by_cases e : y.1 = x
    · rw [List.map_cons, if_pos e, others_cons_pos e]
      have hx : x ∉ l.map fun y => y.1 := by rw [← e]; exact nd.1
      rw [map_put_id hx, others_none hx, e]
    · rw [List.map_cons, if_neg e, others_cons_neg e]
      have hx : x ∈ l.map fun y => y.1 := by
        rw [List.map_cons, List.mem_cons] at h
        rcases h with h | h
        · exact absurd h.symm e
        · exact h
      exact (List.Perm.cons y (map_put_perm nd.2 hx)).trans (List.Perm.swap _ _ _)
theorem put_perm {l : List P2} {x c : Nat} (nd : (l.map fun y => y.1).Nodup) : (put l x c).Perm ((x, c) :: others l x) := by
  unfold put
  split
  · rename_i h
    exact map_put_perm nd (has_iff.mp h)
  · rename_i h
    have hx : x ∉ l.map fun y => y.1 := fun q => h (has_iff.mpr q)
    rw [others_none hx]
    exact List.perm_append_comm
theorem Tab.cons_others {l : List P2} (x : Nat) {c : Nat} (t : Tab l) (hc : 1 ≤ c) : Tab ((x, c) :: others l x) := by
  refine ⟨?_, fun y h => ?_⟩
  · rw [List.map_cons, List.nodup_cons]
    exact ⟨others_not_mem l x, (List.filter_sublist.map _).nodup t.nd⟩
  · rcases List.mem_cons.mp h with e | e
    · subst e; exact hc
    · exact t.pos y (List.mem_filter.mp e).1
theorem Tab.put {l : List P2} {x c : Nat} (t : Tab l) (hc : 1 ≤ c) : Tab (put l x c) := (t.cons_others x hc).perm (put_perm t.nd).symm
theorem put_len (l : List P2) (x c : Nat) : (put l x c).length ≤ l.length + 1 := by
  unfold put
  split
  · rw [List.length_map]; exact Nat.le_succ _
  · rw [List.length_append]; exact Nat.le_refl _
theorem others_len (l : List P2) (x : Nat) : (others l x).length ≤ l.length := List.length_filter_le _ _
theorem both_perm {a l m : List P2} (p : l.Perm m) (nd : (l.map fun y => y.1).Nodup) : (both a l).Perm (both a m) ∧ ((both a l).map fun y => y.1).Nodup := by
  unfold both
  induction a generalizing l m with
  | nil => exact ⟨p, nd⟩
  | cons y a ih =>
    rw [List.foldl_cons, List.foldl_cons]
    refine ih ?_ ?_
    · rw [countIn_perm nd p]
      exact List.Perm.cons _ (others_perm _ p)
    · rw [List.map_cons, List.nodup_cons]
      exact ⟨others_not_mem l y.1, (List.filter_sublist.map _).nodup nd⟩
/-- the counts of one table put, one by one, to a dict -/
def putAll (a l : List P2) : List P2 := a.foldl (fun d y => put d y.1 (countIn d y.1 + y.2)) l
theorem putAll_perm {a l m : List P2} (p : l.Perm m) (nd : (l.map fun y => y.1).Nodup) : (putAll a l).Perm (both a m) := by
  unfold putAll both
  induction a generalizing l m with
  | nil => exact p
  | cons y a ih =>
    rw [List.foldl_cons, List.foldl_cons]
    refine ih ?_ ?_
    · refine (put_perm nd).trans ?_
      rw [countIn_perm nd p]
      exact List.Perm.cons _ (others_perm _ p)
    · refine ((put_perm nd).map _).nodup_iff.mpr ?_
      rw [List.map_cons, List.nodup_cons]
      exact ⟨others_not_mem l y.1, (List.filter_sublist.map _).nodup nd⟩
/-! both, either way round -/
theorem countIn_cons_others (l : List P2) (x c z : Nat) : countIn ((x, c) :: others l x) z = if x = z then c else countIn l z := by
  by_cases e : x = z
  · rw [countIn_pos (show ((x, c) : P2).1 = z from e), if_pos e]
  · rw [countIn_neg (show ¬ ((x, c) : P2).1 = z from e), if_neg e]
    induction l with
    | nil => rfl
    | cons y l ih =>
      by_cases q : y.1 = x
      · rw [others_cons_pos q, ih, countIn_neg]
        intro r
        exact e (q.symm.trans r)
      · rw [others_cons_neg q]
        by_cases r : y.1 = z
        · rw [countIn_pos r, countIn_pos r]
        · rw [countIn_neg r, countIn_neg r, ih]
theorem put_same {l : List P2} {x : Nat} (nd : (l.map fun y => y.1).Nodup) (h : x ∈ l.map fun y => y.1) : put l x (countIn l x) = l := by
  unfold put
  rw [if_pos (has_iff.mpr h)]
  have e : ∀ y ∈ l, (if y.1 = x then (y.1, countIn l x) else y) = y := fun y hy => by
    split
    · rename_i q
      rw [← q, countIn_mem nd hy]
    · rfl
  rw [List.map_congr_left e, List.map_id']
/-! ### sums -/
theorem foldl_add (l : List Nat) : ∀ a : Nat, l.foldl (fun (a b : Nat) => a + b) a = a + l.sum := by
  induction l with
  | nil => intro a; simp
  | cons x l ih => intro a; rw [List.foldl_cons, ih, List.sum_cons]; omega
theorem total_sum (l : List Nat) : Hv.total l = l.sum := by
  unfold Hv.total
  rw [foldl_add]
  omega
def csum (l : List P2) : Nat := (l.map fun y => y.2).sum
theorem counts_csum (s : Hv.Sum) : counts s = csum s.tab := by unfold counts csum; rw [total_sum]
theorem csum_nil : csum [] = 0 := rfl
theorem csum_cons (y : P2) (l : List P2) : csum (y :: l) = y.2 + csum l := by unfold csum; rw [List.map_cons, List.sum_cons]
theorem csum_perm {l m : List P2} (p : l.Perm m) : csum l = csum m := (p.map _).sum_nat
theorem csum_others {l : List P2} (x : Nat) (nd : (l.map fun y => y.1).Nodup) : csum (others l x) + countIn l x = csum l := by
  induction l with
  | nil => rfl
  | cons y l ih =>
    rw [List.map_cons, List.nodup_cons] at nd
    by_cases e : y.1 = x
    · have hx : x ∉ l.map fun y => y.1 := by rw [← e]; exact nd.1
      rw [others_cons_pos e, countIn_pos e, others_none hx, csum_cons]; omega
    · rw [others_cons_neg e, countIn_neg e, csum_cons, csum_cons]
      have := ih nd.2
      omega
theorem csum_mem {l : List P2} {y : P2} (h : y ∈ l) : y.2 ≤ csum l := by
  induction l with
  | nil => cases h
  | cons z l ih =>
    rw [csum_cons]
    rcases List.mem_cons.mp h with e | e
    · subst e; omega
    · have := ih e; omega
theorem csum_append (l m : List P2) : csum (l ++ m) = csum l + csum m := by
  induction l with
  | nil => simp [csum]
  | cons y l ih => rw [List.cons_append, csum_cons, csum_cons, ih]; omega
theorem lessBy_append (c : Nat) (l m : List P2) : lessBy c (l ++ m) = lessBy c l ++ lessBy c m := by
  unfold lessBy
  rw [List.filter_append, List.map_append]
theorem lessBy_le (c : Nat) (l : List P2) : csum (lessBy c l) ≤ csum l := by
  induction l with
  | nil => exact Nat.le_refl _
  | cons y l ih =>
    unfold lessBy at *
    rw [List.filter_cons]
    split
    · rw [List.map_cons, csum_cons, csum_cons]
      show y.2 - c + _ ≤ _
      omega
    · rw [csum_cons]; omega
theorem lessBy_all {c : Nat} {l : List P2} (h : ∀ y ∈ l, c ≤ y.2) : csum (lessBy c l) + l.length * c = csum l := by
  induction l with
  | nil => simp [lessBy, csum]
  | cons y l ih =>
    have h1 := h y List.mem_cons_self
    have h2 := ih fun z hz => h z (List.mem_cons_of_mem _ hz)
    unfold lessBy at *
    rw [List.filter_cons, csum_cons, List.length_cons, Nat.add_mul]
    split
    · rename_i q
      simp at q
      rw [List.map_cons, csum_cons]
      show y.2 - c + _ + _ = _
      omega
    · rename_i q
      simp at q
      omega
theorem sorted_front {l : List P2} {k : Nat} {y : P2} (hs : l.Pairwise Le2) (h : l[k]? = some y) : (∀ z ∈ l.take (k + 1), y.2 ≤ z.2) ∧ ∀ z ∈ l.drop k, z.2 ≤ y.2 := by
  induction l generalizing k with
  | nil => simp at h
  | cons x l ih =>
    obtain ⟨h1, h2⟩ := List.pairwise_cons.mp hs
    cases k with
    | zero =>
      simp at h
      subst h
      refine ⟨fun z hz => by simp at hz; subst hz; exact Nat.le_refl _, fun z hz => ?_⟩
      rw [List.drop_zero] at hz
      rcases List.mem_cons.mp hz with e | e
      · subst e; exact Nat.le_refl _
      · have := le2_iff.mp (h1 z e); omega
    | succ k =>
      have hk : l[k]? = some y := by simpa using h
      obtain ⟨a, b⟩ := ih h2 hk
      refine ⟨fun z hz => ?_, fun z hz => b z (by simpa using hz)⟩
      rw [List.take_succ_cons] at hz
      rcases List.mem_cons.mp hz with e | e
      · subst e
        have := le2_iff.mp (h1 y (List.mem_of_getElem? hk))
        omega
      · exact a z e
theorem lessBy_len {l : List P2} {k : Nat} {y : P2} (hs : l.Pairwise Le2) (h : l[k]? = some y) : (lessBy y.2 l).length ≤ k := by
  have hd := (sorted_front hs h).2
  unfold lessBy
  rw [List.length_map]
  have e : l.filter (fun z => decide (y.2 < z.2)) = (l.take k).filter fun z => decide (y.2 < z.2) := by
    conv => lhs; rw [← List.take_append_drop k l]
    rw [List.filter_append]
    have : (l.drop k).filter (fun z => decide (y.2 < z.2)) = [] := by
      rw [List.filter_eq_nil_iff]
      intro z hz
      have := hd z hz
      simp
      omega
    rw [this, List.append_nil]
  rw [e]
  exact Nat.le_trans (List.length_filter_le _ _) (by rw [List.length_take]; exact Nat.min_le_left _ _)
theorem lessBy_sum {l : List P2} {k : Nat} {y : P2} (hs : l.Pairwise Le2) (h : l[k]? = some y) : csum (lessBy y.2 l) + (k + 1) * y.2 ≤ csum l := by
  have hf := (sorted_front hs h).1
  have hk : k < l.length := (List.getElem?_eq_some_iff.mp h).1
  have e : l = l.take (k + 1) ++ l.drop (k + 1) := (List.take_append_drop _ _).symm
  have h1 := lessBy_all hf
  have h2 := lessBy_le y.2 (l.drop (k + 1))
  rw [List.length_take, Nat.min_eq_left (by omega)] at h1
  have e1 : csum (lessBy y.2 l) = csum (lessBy y.2 (l.take (k + 1))) + csum (lessBy y.2 (l.drop (k + 1))) := by
    conv => lhs; rw [e]
    rw [lessBy_append, csum_append]
  have e2 : csum l = csum (l.take (k + 1)) + csum (l.drop (k + 1)) := by
    conv => lhs; rw [e]
    rw [csum_append]
  omega
/-! ### a summary that the calls have made -/
structure Ok (s : Hv.Sum) : Prop where
  k1 : 1 ≤ s.k
  k2 : s.k ≤ 1024
  len : s.tab.length ≤ s.k
  tab : Tab s.tab
  keys : ∀ y ∈ s.tab, y.1 < 2 ^ 64
  srt : s.tab.Pairwise Le2
  all : s.n < 2 ^ 63
  less : (s.k + 1) * s.err + csum s.tab ≤ s.n
theorem Ok.err {s : Hv.Sum} (h : Ok s) : s.err < 2 ^ 63 := by
  have h1 := h.less
  have h2 := h.all
  have h3 : s.err ≤ (s.k + 1) * s.err := Nat.le_mul_of_pos_left _ (Nat.succ_pos _)
  omega
theorem Ok.count {s : Hv.Sum} (h : Ok s) {y : P2} (hy : y ∈ s.tab) : y.2 < 2 ^ 63 := by
  have h1 := h.less
  have h2 := h.all
  have h3 := csum_mem hy
  omega
theorem kept_ok {k n err : Nat} {l : List P2} (k1 : 1 ≤ k) (k2 : k ≤ 1024) (t : Tab l) (hk : ∀ y ∈ l, y.1 < 2 ^ 64) (hn : n < 2 ^ 63) (hl : (k + 1) * err + csum l ≤ n) : Ok (kept k n err l) := by
  by_cases h : l.length ≤ k
  · rw [kept_small h]
    exact ⟨k1, k2, by rw [sorted_len]; exact h, t.sorted, fun y hy => hk y ((sorted_perm l).mem_iff.mp hy), sorted_pw l, hn, by
      show (k + 1) * err + csum (Hv.sorted l) ≤ n
      rw [csum_perm (sorted_perm l)]; exact hl⟩
  · obtain ⟨y, hy⟩ : ∃ y, (Hv.sorted l)[k]? = some y := ⟨_, List.getElem?_eq_getElem (by rw [sorted_len]; omega)⟩
    rw [kept_big (c := y.2) (by rw [List.getElem?_map, hy]; rfl)]
    have p := lessBy_perm y.2 (sorted_perm l)
    refine ⟨k1, k2, ?_, (t.lessBy y.2).sorted, fun z hz => ?_, sorted_pw _, hn, ?_⟩
    · show (Hv.sorted (lessBy y.2 l)).length ≤ k
      rw [sorted_len, ← p.length_eq]
      exact lessBy_len (sorted_pw l) hy
    · have hz' := (sorted_perm _).mem_iff.mp hz
      unfold lessBy at hz'
      obtain ⟨u, hu, rfl⟩ := List.mem_map.mp hz'
      exact hk u (List.mem_filter.mp hu).1
    · show (k + 1) * (err + y.2) + csum (Hv.sorted (lessBy y.2 l)) ≤ n
      have h1 := lessBy_sum (sorted_pw l) hy
      rw [csum_perm (sorted_perm _), ← csum_perm p, Nat.mul_add]
      rw [csum_perm (sorted_perm l)] at h1
      omega
/-- what comes in, as a dict that holds the table's pairs has it -/
def come (d : List P2) (x w : Nat) : List P2 := if 0 < w then put d x (countIn d x + w) else d
theorem added_kept {s : Hv.Sum} {d : List P2} (t : Tab s.tab) (p : d.Perm s.tab) (x w : Nat) : added s x w = kept s.k (s.n + w) s.err (come d x w) := by
  have ndd : (d.map fun y => y.1).Nodup := (p.map _).nodup_iff.mpr t.nd
  unfold added come low
  by_cases h : 0 < w
  · rw [if_neg (by omega), if_pos h]
    refine kept_congr ?_
    rw [← countIn_perm ndd p]
    exact ((put_perm ndd).trans (List.Perm.cons _ (others_perm x p))).symm
  · have hw : w = 0 := by omega
    subst hw
    rw [if_neg h]
    split
    · exact kept_congr p.symm
    · rename_i q
      have hx : x ∈ s.tab.map fun y => y.1 := by
        by_cases r : x ∈ s.tab.map fun y => y.1
        · exact r
        · exact absurd (by rw [countIn_none r]) q
      refine kept_congr ?_
      have := (put_perm (x := x) (c := countIn s.tab x) t.nd).symm
      rw [put_same t.nd hx] at this
      exact this.trans p.symm
theorem come_tab {d : List P2} (t : Tab d) (x w : Nat) : Tab (come d x w) := by
  unfold come
  split
  · exact t.put (by omega)
  · exact t
theorem come_keys {d : List P2} (t : Tab d) {x : Nat} (w : Nat) (hx : x < 2 ^ 64) (h : ∀ y ∈ d, y.1 < 2 ^ 64) : ∀ y ∈ come d x w, y.1 < 2 ^ 64 := by
  unfold come
  split
  · intro y hy
    rcases List.mem_cons.mp ((put_perm t.nd).mem_iff.mp hy) with e | e
    · subst e; exact hx
    · exact h y (List.mem_filter.mp e).1
  · exact h
theorem come_sum {d : List P2} (t : Tab d) (x w : Nat) : csum (come d x w) = csum d + w := by
  unfold come
  split
  · rw [csum_perm (put_perm t.nd), csum_cons]
    have := csum_others x t.nd
    show countIn d x + w + _ = _
    omega
  · omega
theorem come_len (d : List P2) (x w : Nat) : (come d x w).length ≤ d.length + 1 := by
  unfold come
  split
  · exact put_len _ _ _
  · exact Nat.le_succ _
theorem added_ok {s : Hv.Sum} (h : Ok s) {x w : Nat} (hx : x < 2 ^ 64) (hn : s.n + w < 2 ^ 63) : Ok (added s x w) := by
  rw [added_kept h.tab (.refl _) x w]
  refine kept_ok h.k1 h.k2 (come_tab h.tab x w) (come_keys h.tab w hx h.keys) hn ?_
  rw [come_sum h.tab]
  have := h.less
  omega
theorem added_kn (s : Hv.Sum) (x w : Nat) : (added s x w).k = s.k ∧ (added s x w).n = s.n + w := by
  unfold added kept
  simp only
  split <;> exact ⟨rfl, rfl⟩
/-! merged -/
theorem both_csum (a l : List P2) (nd : (l.map fun y => y.1).Nodup) : csum (both a l) = csum a + csum l ∧ ((both a l).map fun y => y.1).Nodup := by
  unfold both
  induction a generalizing l with
  | nil => exact ⟨by rw [csum_nil]; exact (Nat.zero_add _).symm, nd⟩
  | cons y a ih =>
    rw [List.foldl_cons]
    have nd' : ((((y.1, countIn l y.1 + y.2) : P2) :: others l y.1).map fun y => y.1).Nodup := by
      rw [List.map_cons, List.nodup_cons]
      exact ⟨others_not_mem l y.1, (List.filter_sublist.map _).nodup nd⟩
    obtain ⟨h1, h2⟩ := ih _ nd'
    refine ⟨?_, h2⟩
    rw [h1, csum_cons, csum_cons]
    have := csum_others y.1 nd
    show csum a + (countIn l y.1 + y.2 + _) = _
    omega
theorem both_tab {a l : List P2} (ta : ∀ y ∈ a, 1 ≤ y.2) (t : Tab l) : Tab (both a l) := by
  unfold both
  induction a generalizing l with
  | nil => exact t
  | cons y a ih =>
    rw [List.foldl_cons]
    refine ih (fun z hz => ta z (List.mem_cons_of_mem _ hz)) (t.cons_others y.1 ?_)
    have := ta y List.mem_cons_self
    omega
theorem both_keys {a l : List P2} {b : Nat} (ha : ∀ y ∈ a, y.1 < b) (hl : ∀ y ∈ l, y.1 < b) : ∀ y ∈ both a l, y.1 < b := by
  unfold both
  induction a generalizing l with
  | nil => exact hl
  | cons y a ih =>
    rw [List.foldl_cons]
    refine ih (fun z hz => ha z (List.mem_cons_of_mem _ hz)) fun z hz => ?_
    rcases List.mem_cons.mp hz with e | e
    · subst e; exact ha y List.mem_cons_self
    · exact hl z (List.mem_filter.mp e).1
theorem merged_ok {s u : Hv.Sum} (h : Ok s) (g : Ok u) (hk : u.k = s.k) (hn : s.n + u.n < 2 ^ 63) : Ok (merged s u) := by
  unfold merged
  refine kept_ok h.k1 h.k2 (both_tab h.tab.pos g.tab) (both_keys h.keys g.keys) hn ?_
  rw [(both_csum _ _ g.tab.nd).1, Nat.mul_add]
  have h1 := h.less
  have h2 := g.less
  rw [hk] at h2
  omega
/-- both, the other way round: the same pairs -/
theorem countIn_both (a : List P2) : ∀ (l : List P2) (x : Nat), (a.map fun y => y.1).Nodup → countIn (both a l) x = countIn a x + countIn l x := by
  unfold both
  induction a with
  | nil => intro l x _; rw [countIn_nil, Nat.zero_add]; rfl
  | cons y a ih =>
    intro l x nd
    rw [List.map_cons, List.nodup_cons] at nd
    rw [List.foldl_cons, ih _ x nd.2, countIn_cons_others]
    by_cases e : y.1 = x
    · rw [if_pos e, countIn_pos e, countIn_none (by rw [← e]; exact nd.1), ← e]
      omega
    · rw [if_neg e, countIn_neg e]
theorem tab_ext {l m : List P2} (tl : Tab l) (tm : Tab m) (h : ∀ x, countIn l x = countIn m x) : l.Perm m := by
  have sub : ∀ {l m : List P2}, Tab l → Tab m → (∀ x, countIn l x = countIn m x) → ∀ y ∈ l, y ∈ m := fun {l m} tl tm h y hy => by
    have e := h y.1
    rw [countIn_mem tl.nd hy] at e
    by_cases r : y.1 ∈ m.map fun y => y.1
    · obtain ⟨z, hz, ez⟩ := List.mem_map.mp r
      have e2 := countIn_mem tm.nd hz
      rw [ez, ← e] at e2
      have : y = z := Prod.ext ez.symm e2
      rw [this]; exact hz
    · rw [countIn_none r] at e
      have := tl.pos y hy
      omega
  have ndl : l.Nodup := (List.pairwise_map.mp tl.nd).imp fun h e => h (congrArg _ e)
  have ndm : m.Nodup := (List.pairwise_map.mp tm.nd).imp fun h e => h (congrArg _ e)
  exact (List.perm_ext_iff_of_nodup ndl ndm).mpr fun y => ⟨sub tl tm h y, sub tm tl (fun x => (h x).symm) y⟩
theorem both_comm {a l : List P2} (ta : Tab a) (tl : Tab l) : (both a l).Perm (both l a) :=
  tab_ext (both_tab ta.pos tl) (both_tab tl.pos ta) fun x => by
    rw [countIn_both a l x ta.nd, countIn_both l a x tl.nd, Nat.add_comm]
end HvM

end
section
set_option autoImplicit false
namespace HvM
open Hv
/-! ### proper is good -/
theorem inOrder_pw : ∀ {l : List P2}, inOrder l = true → l.Pairwise Le2
  | [], _ => List.Pairwise.nil
  | [x], _ => by simp
  | x :: y :: l, h => by
    unfold inOrder at h
    rw [Bool.and_eq_true] at h
    have ih := inOrder_pw h.2
    have hxy := le2_of_first h.1
    refine List.pairwise_cons.mpr ⟨fun z hz => ?_, ih⟩
    rcases List.mem_cons.mp hz with e | e
    · subst e; exact hxy
    · exact le2_trans hxy ((List.pairwise_cons.mp ih).1 z e)
theorem once_nodup : ∀ {l : List Nat}, once l = true ↔ l.Nodup
  | [] => by simp [once]
  | x :: l => by
    unfold once
    rw [Bool.and_eq_true, List.nodup_cons, once_nodup]
    simp
/-- with the keys each once, in order is strictly in order -/
theorem pw_inOrder : ∀ {l : List P2}, (l.map fun y => y.1).Nodup → l.Pairwise Le2 → inOrder l = true
  | [], _, _ => rfl
  | [_], _, _ => rfl
  | x :: y :: l, nd, h => by
    unfold inOrder
    obtain ⟨h1, h2⟩ := List.pairwise_cons.mp h
    rw [List.map_cons, List.nodup_cons] at nd
    rw [Bool.and_eq_true]
    refine ⟨?_, pw_inOrder nd.2 h2⟩
    have := le2_iff.mp (h1 y List.mem_cons_self)
    have ne : x.1 ≠ y.1 := fun e => nd.1 (List.mem_map.mpr ⟨y, List.mem_cons_self, e.symm⟩)
    rw [first_iff]
    omega
/-- what proper asks, in words -/
structure Proper (s : Hv.Sum) : Prop where
  k1 : 1 ≤ s.k
  k2 : s.k ≤ 1024
  len : s.tab.length ≤ s.k
  keys : ∀ y ∈ s.tab, y.1 < 2 ^ 64
  pos : ∀ y ∈ s.tab, 1 ≤ y.2
  nd : (s.tab.map fun y => y.1).Nodup
  ord : inOrder s.tab = true
  all : s.n < 2 ^ 63
  less : (s.k + 1) * s.err + csum s.tab ≤ s.n
  exact_ : s.err = 0 → csum s.tab = s.n
theorem proper_iff {s : Hv.Sum} : proper s = true ↔ Proper s := by
  unfold proper
  simp only [Bool.and_eq_true, decide_eq_true_eq, List.all_eq_true, once_nodup, Bool.or_eq_true, bne_iff_ne, beq_iff_eq, counts_csum]
  constructor
  · rintro ⟨a, b, c, d, e, f, g, h, i⟩
    refine ⟨a, b, c, fun y hy => (d y hy).1, fun y hy => (d y hy).2, e, f, g, h, fun z => ?_⟩
    rcases i with i | i
    · exact absurd z i
    · exact i
  · rintro ⟨a, b, c, d1, d2, e, f, g, h, i⟩
    refine ⟨a, b, c, fun y hy => ⟨d1 y hy, d2 y hy⟩, e, f, g, h, ?_⟩
    by_cases z : s.err = 0
    · exact .inr (i z)
    · exact .inl z
theorem Proper.ok {s : Hv.Sum} (h : Proper s) : Ok s := ⟨h.k1, h.k2, h.len, ⟨h.nd, h.pos⟩, h.keys, inOrder_pw h.ord, h.all, h.less⟩
theorem unpack_ok {b : Bytes} {s : Hv.Sum} (h : Hv.unpack b = some s) : Proper s := by
  unfold Hv.unpack at h
  simp only at h
  split at h
  · cases h
  · split at h
    · rename_i q
      rw [Option.some.injEq] at h
      subst h
      exact proper_iff.mp q
    · cases h
theorem empty_ok {k : Nat} (h1 : 1 ≤ k) (h2 : k ≤ 1024) : Ok (Hv.empty k) :=
  ⟨h1, h2, Nat.zero_le _, ⟨List.nodup_nil, fun _ h => nomatch h⟩, fun _ h => (nomatch h), List.Pairwise.nil, by show 0 < 2 ^ 63; decide, by show (k + 1) * 0 + 0 ≤ 0; simp⟩
/-! ### a list of calls -/
open HvCalls (Call)
def ofB (b : Bytes) : List Int := b.map fun (c : UInt8) => (c.toNat : Int)
def ofN (l : List Nat) : List Int := l.map fun (n : Nat) => (n : Int)
/-- a call as its numbers -/
def enc : Call → List Int
  | .init k => [1, (k : Int)]
  | .add x w => [2, (x : Int), (w : Int)]
  | .total => [3]
  | .error => [4]
  | .bounds x => [5, (x : Int)]
  | .count => [6]
  | .entry i => [7, (i : Int)]
  | .heavy a b => [8, (a : Int), (b : Int)]
  | .merge p => 9 :: (p.length : Int) :: ofB p
  | .pack => [10]
  | .unpack p => 11 :: (p.length : Int) :: ofB p
  | .stream l => 12 :: (l.length : Int) :: ofN l
def N64 (n : Nat) : Prop := n < 2 ^ 64
/-- what is handed in with a call -/
def Fit : Call → Prop
  | .init k => N64 k
  | .add x w => N64 x ∧ N64 w
  | .bounds x => N64 x
  | .entry i => N64 i
  | .heavy a b => N64 a ∧ N64 b
  | .merge p => p.length ≤ 400
  | .unpack p => p.length ≤ 400
  | .stream l => l.length ≤ 400 ∧ ∀ n ∈ l, N64 n
  | _ => True
/-- what is answered -/
def out : HvCalls.State → List Call → List Int
  | _, [] => []
  | s, c :: r => ((SumNeutral.told (HvCalls.step s c).2).length : Int) :: (SumNeutral.told (HvCalls.step s c).2 ++ out (HvCalls.step s c).1 r)
theorem whole_id (c : List (List Int)) : PyYqhvya.whole c = c := by
  unfold PyYqhvya.whole
  split <;> rfl
theorem nat_of {z : Int} (h : 0 ≤ z) : SumNeutral.nat z = some z.toNat := by
  unfold SumNeutral.nat
  rw [if_neg (by omega)]
theorem natural_iff {z : Int} {b : Nat} : SumNeutral.natural z b = true ↔ 0 ≤ z ∧ z < 2 ^ b := by
  unfold SumNeutral.natural
  rw [Bool.and_eq_true, decide_eq_true_eq, decide_eq_true_eq]
theorem n64_of {z : Int} (h : SumNeutral.natural z 64 = true) : 0 ≤ z ∧ N64 z.toNat ∧ (z.toNat : Int) = z := by
  obtain ⟨a, b⟩ := natural_iff.mp h
  refine ⟨a, ?_, Int.toNat_of_nonneg a⟩
  unfold N64
  have : ((2 ^ 64 : Nat) : Int) = (2 : Int) ^ 64 := by decide
  omega
theorem bytes_of {l : List Int} (h : l.all (fun z => SumNeutral.natural z 8) = true) : ∃ b : Bytes, SumNeutral.bytes l = some b ∧ ofB b = l ∧ b.length = l.length := by
  have hz : ∀ z ∈ l, 0 ≤ z ∧ z < 256 := fun z hz => by
    have := natural_iff.mp (List.all_eq_true.mp h z hz)
    have e : (2 : Int) ^ 8 = 256 := by decide
    omega
  refine ⟨l.map fun z => UInt8.ofNat z.toNat, ?_, ?_, by rw [List.length_map]⟩
  · unfold SumNeutral.bytes
    rw [if_pos]
    unfold NeutralIO.bytes
    rw [List.all_eq_true]
    intro z q
    have := hz z q
    simp
    omega
  · unfold ofB
    rw [List.map_map]
    conv => rhs; rw [← List.map_id l]
    refine List.map_congr_left fun z q => ?_
    have := hz z q
    show ((UInt8.ofNat z.toNat).toNat : Int) = id z
    rw [UInt8.toNat_ofNat_of_lt' (by show z.toNat < 256; omega)]
    exact Int.toNat_of_nonneg this.1
theorem nats_of : ∀ {l : List Int}, l.all (fun z => SumNeutral.natural z 64) = true → ∃ m : List Nat, l.mapM SumNeutral.nat = some m ∧ ofN m = l ∧ m.length = l.length ∧ ∀ n ∈ m, N64 n
  | [], _ => ⟨[], rfl, rfl, rfl, fun _ h => nomatch h⟩
  | z :: l, h => by
    rw [List.all_cons, Bool.and_eq_true] at h
    obtain ⟨m, h1, h2, h3, h4⟩ := nats_of h.2
    obtain ⟨a, b, c⟩ := n64_of h.1
    refine ⟨z.toNat :: m, ?_, ?_, ?_, ?_⟩
    · rw [List.mapM_cons, nat_of a, h1]; rfl
    · show (z.toNat : Int) :: ofN m = z :: l
      rw [h2, c]
    · simp [h3]
    · intro n hn
      rcases List.mem_cons.mp hn with e | e
      · subst e; exact b
      · exact h4 n e
/-- a call that may be asked, read -/
theorem read_call {c : List (List Int)} (ha : SumNeutral.asked1 c = true) (hf : SumNeutral.fits c = true) : ∃ d, SumNeutral.callOf c = some d ∧ Fit d ∧ (c.length = 1 → c = [enc d]) ∧
    (∀ p r, c = [[p], r] → enc d = p :: (r.length : Int) :: r) ∧ (c.length = 1 ∨ ∃ p r, c = [[p], r]) := by
  unfold SumNeutral.asked1 at ha
  split at ha
  · obtain ⟨a, b, e⟩ := n64_of ha
    exact ⟨.init _, by simp only [SumNeutral.callOf, nat_of a]; rfl, b, fun _ => by simp only [enc, e], fun p r q => (by cases q), .inl rfl⟩
  · rw [Bool.and_eq_true] at ha
    obtain ⟨a, b, e⟩ := n64_of ha.1
    obtain ⟨a', b', e'⟩ := n64_of ha.2
    exact ⟨.add _ _, by simp only [SumNeutral.callOf, nat_of a, nat_of a']; rfl, ⟨b, b'⟩, fun _ => by simp only [enc, e, e'], fun p r q => (by cases q), .inl rfl⟩
  · exact ⟨.total, rfl, trivial, fun _ => rfl, fun p r q => (by cases q), .inl rfl⟩
  · exact ⟨.error, rfl, trivial, fun _ => rfl, fun p r q => (by cases q), .inl rfl⟩
  · obtain ⟨a, b, e⟩ := n64_of ha
    exact ⟨.bounds _, by simp only [SumNeutral.callOf, nat_of a]; rfl, b, fun _ => by simp only [enc, e], fun p r q => (by cases q), .inl rfl⟩
  · exact ⟨.count, rfl, trivial, fun _ => rfl, fun p r q => (by cases q), .inl rfl⟩
  · obtain ⟨a, b, e⟩ := n64_of ha
    exact ⟨.entry _, by simp only [SumNeutral.callOf, nat_of a]; rfl, b, fun _ => by simp only [enc, e], fun p r q => (by cases q), .inl rfl⟩
  · rw [Bool.and_eq_true] at ha
    obtain ⟨a, b, e⟩ := n64_of ha.1
    obtain ⟨a', b', e'⟩ := n64_of ha.2
    exact ⟨.heavy _ _, by simp only [SumNeutral.callOf, nat_of a, nat_of a']; rfl, ⟨b, b'⟩, fun _ => by simp only [enc, e, e'], fun p r q => (by cases q), .inl rfl⟩
  · rename_i p
    obtain ⟨b, h1, h2, h3⟩ := bytes_of ha
    have hc : SumNeutral.callOf [[9], p] = some (.merge b) := by simp only [SumNeutral.callOf, h1]; rfl
    refine ⟨.merge b, hc, ?_, fun q => (by cases q), fun p' r q => ?_, .inr ⟨9, p, rfl⟩⟩
    · unfold SumNeutral.fits at hf
      rw [hc] at hf
      simpa [SumNeutral.moderate, Fit] using hf
    · cases q
      simp only [enc, h2, h3]
  · exact ⟨.pack, rfl, trivial, fun _ => rfl, fun p r q => (by cases q), .inl rfl⟩
  · rename_i p
    obtain ⟨b, h1, h2, h3⟩ := bytes_of ha
    have hc : SumNeutral.callOf [[11], p] = some (.unpack b) := by simp only [SumNeutral.callOf, h1]; rfl
    refine ⟨.unpack b, hc, ?_, fun q => (by cases q), fun p' r q => ?_, .inr ⟨11, p, rfl⟩⟩
    · unfold SumNeutral.fits at hf
      rw [hc] at hf
      simpa [SumNeutral.moderate, Fit] using hf
    · cases q
      simp only [enc, h2, h3]
  · rename_i l
    obtain ⟨m, h1, h2, h3, h4⟩ := nats_of ha
    have hc : SumNeutral.callOf [[12], l] = some (.stream m) := by simp only [SumNeutral.callOf, h1]; rfl
    refine ⟨.stream m, hc, ⟨?_, h4⟩, fun q => (by cases q), fun p' r q => ?_, .inr ⟨12, l, rfl⟩⟩
    · unfold SumNeutral.fits at hf
      rw [hc] at hf
      simpa [SumNeutral.moderate] using hf
    · cases q
      simp only [enc, h2, h3]
  · cases ha
/-- a call's shape in the list: no row, or one -/
theorem ite_pair {c : Prop} [Decidable c] {x y : Nat} {o : Option (Nat × Nat)} {G : Nat → Nat → Prop} (ha : G x y) (ho : ∀ n k, o = some (n, k) → G n k) : ∀ n k, (if c then some (x, y) else o) = some (n, k) → G n k := by
  intro n k h
  by_cases q : c
  · rw [if_pos q] at h
    injection h with h
    injection h with h1 h2
    subst h1 h2
    exact ha
  · rw [if_neg q] at h
    exact ho n k h
theorem shape_of {p : Int} {n k : Nat} (h : PyYqhvya.shape p = some (n, k)) : k = 0 ∨ (n = 0 ∧ k = 1) := by
  have l : ∀ n : Nat, (0 = 0 ∨ (n = 0 ∧ (0 : Nat) = 1)) := fun _ => .inl rfl
  have r : ((1 : Nat) = 0 ∨ ((0 : Nat) = 0 ∧ (1 : Nat) = 1)) := .inr ⟨rfl, rfl⟩
  exact ite_pair (G := fun n k => k = 0 ∨ (n = 0 ∧ k = 1)) (l 1) (ite_pair (l 2) (ite_pair (l 0) (ite_pair (l 0) (ite_pair (l 1) (ite_pair (l 0) (ite_pair (l 1) (ite_pair (l 2) (ite_pair r (ite_pair (l 0) (ite_pair r (ite_pair r (fun _ _ z => absurd z (by simp))))))))))))) n k h
theorem call_flat {l t : List Int} {c : List (List Int)} (h : PyFlat.call PyYqhvya.shape l = some (c, t)) (ha : SumNeutral.asked1 c = true) (hf : SumNeutral.fits c = true) :
    ∃ d, SumNeutral.callOf c = some d ∧ Fit d ∧ l = enc d ++ t := by
  obtain ⟨d, h1, h2, h3, h4, h5⟩ := read_call ha hf
  refine ⟨d, h1, h2, ?_⟩
  cases l with
  | nil => cases h
  | cons p r =>
    cases hs : PyYqhvya.shape p with
    | none => simp only [PyFlat.call, hs] at h; cases h
    | some nk =>
      obtain ⟨n, k⟩ := nk
      simp only [PyFlat.call, hs] at h
      split at h
      · cases h
      · rename_i hlen
        rcases shape_of hs with hk | ⟨hn, hk⟩
        · subst hk
          simp only [PyFlat.rows] at h
          injection h with h
          injection h with hc ht
          subst hc ht
          have := h3 rfl
          injection this with this
          rw [← this, List.cons_append, List.take_append_drop]
        · subst hn hk
          simp only [PyFlat.rows, List.drop_zero, List.take_zero] at h
          cases hr : PyFlat.row r with
          | none => rw [hr] at h; cases h
          | some xs =>
            obtain ⟨x, s⟩ := xs
            rw [hr] at h
            simp only at h
            injection h with h
            injection h with hc ht
            subst hc ht
            rw [h4 p x rfl]
            cases r with
            | nil => cases hr
            | cons m r =>
              simp only [PyFlat.row] at hr
              split at hr
              · rename_i q
                injection hr with hr
                injection hr with e1 e2
                subst e1 e2
                rw [List.cons_append, List.cons_append, List.take_append_drop, List.length_take, Nat.min_eq_left q.2, Int.toNat_of_nonneg q.1]
              · cases hr
theorem calls_flat : ∀ {f : Nat} {l : List Int} {cs : List (List (List Int))}, PyFlat.calls PyYqhvya.shape f l = some cs → cs.all SumNeutral.asked1 = true → cs.all SumNeutral.fits = true →
    ∃ ds : List Call, l = ds.flatMap enc ∧ (∀ d ∈ ds, Fit d) ∧ ds.length = cs.length ∧ ∀ s, PyFlat.told (PyFlat.played SumNeutral.step s cs) = out s ds
  | f, [], cs, h, _, _ => by
    unfold PyFlat.calls at h
    injection h with h
    subst h
    exact ⟨[], rfl, fun _ h => (nomatch h), rfl, fun _ => rfl⟩
  | 0, _ :: _, cs, h, _, _ => by
    unfold PyFlat.calls at h
    cases h
  | f + 1, p :: r, cs, h, ha, hf => by
    unfold PyFlat.calls at h
    cases hc : PyFlat.call PyYqhvya.shape (p :: r) with
    | none => rw [hc] at h; cases h
    | some ct =>
      obtain ⟨c, t⟩ := ct
      rw [hc] at h
      simp only at h
      cases hr : PyFlat.calls PyYqhvya.shape f t with
      | none => rw [hr] at h; cases h
      | some cs' =>
        rw [hr] at h
        simp only at h
        injection h with h
        subst h
        rw [List.all_cons, Bool.and_eq_true] at ha hf
        obtain ⟨d, h1, h2, h3⟩ := call_flat hc ha.1 hf.1
        obtain ⟨ds, g1, g2, g3, g4⟩ := calls_flat hr ha.2 hf.2
        refine ⟨d :: ds, ?_, ?_, ?_, fun s => ?_⟩
        · rw [h3, g1, List.flatMap_cons]
        · intro x hx
          rcases List.mem_cons.mp hx with e | e
          · subst e; exact h2
          · exact g2 x e
        · simp [g3]
        · have e : SumNeutral.step s c = ((HvCalls.step s d).1, SumNeutral.told (HvCalls.step s d).2) := by
            unfold SumNeutral.step
            rw [h1]
          unfold PyFlat.played out
          rw [e]
          show ((SumNeutral.told (HvCalls.step s d).2).length : Int) :: SumNeutral.told (HvCalls.step s d).2 ++ PyFlat.told _ = _
          rw [g4]
          rfl
/-- THE REQUEST: what may be asked is calls one behind another; what is due -/
theorem spec_of {l : List Int} (h : PyYqhvya.answers_asked l = true) : ∃ ds : List Call, l = ds.flatMap enc ∧ (∀ d ∈ ds, Fit d) ∧ ds.length ≤ 20 ∧ PyYqhvya.answers l = out none ds := by
  unfold PyYqhvya.answers_asked at h
  unfold PyYqhvya.answers
  unfold PyYqhvya.calls at h ⊢
  cases hc : PyFlat.calls PyYqhvya.shape l.length l with
  | none => rw [hc] at h; cases h
  | some cs =>
    rw [hc] at h
    simp only at h ⊢
    have e : cs.map PyYqhvya.whole = cs := by
      rw [show PyYqhvya.whole = id from funext whole_id, List.map_id]
    rw [e] at h ⊢
    rw [Bool.and_eq_true] at h
    obtain ⟨h1, h2⟩ := h
    unfold SumNeutral.asked at h2
    rw [Bool.and_eq_true, Bool.and_eq_true, Bool.and_eq_true] at h2
    obtain ⟨ds, g1, g2, g3, g4⟩ := calls_flat hc h2.2.1 h2.2.2.1
    exact ⟨ds, g1, g2, by rw [g3]; exact of_decide_eq_true h2.2.2.2, g4 _⟩
/-! ### a state that the calls have made -/
def OkS : HvCalls.State → Prop
  | none => True
  | some s => Ok s
theorem addAll_ok {l : List P2} : ∀ {s : Hv.Sum}, Ok s → (∀ y ∈ l, N64 y.1) → s.n + csum l < 2 ^ 63 → Ok (HvCalls.addAll s l) := by
  unfold HvCalls.addAll
  induction l with
  | nil => intro s h _ _; exact h
  | cons y l ih =>
    intro s h hk hn
    rw [csum_cons] at hn
    rw [List.foldl_cons]
    refine ih (added_ok h (hk y List.mem_cons_self) (by omega)) (fun z hz => hk z (List.mem_cons_of_mem _ hz)) ?_
    rw [(added_kn s y.1 y.2).2]
    omega
theorem pairsOf_keys : ∀ {l : List Nat} {p : List P2}, HvCalls.pairsOf l = some p → (∀ n ∈ l, N64 n) → ∀ y ∈ p, N64 y.1
  | [], p, h, _ => by
    unfold HvCalls.pairsOf at h
    injection h with h
    subst h
    exact fun _ h => nomatch h
  | [x], p, h, _ => by cases h
  | x :: w :: r, p, h, hl => by
    unfold HvCalls.pairsOf at h
    split at h
    · cases h
    · split at h
      · rename_i l e
        injection h with h
        subst h
        intro y hy
        rcases List.mem_cons.mp hy with q | q
        · subst q; exact hl x List.mem_cons_self
        · exact pairsOf_keys e (fun n hn => hl n (List.mem_cons_of_mem _ (List.mem_cons_of_mem _ hn))) y q
      · cases h
theorem step_ok {s : HvCalls.State} {c : Call} (h : OkS s) (hf : Fit c) : OkS (HvCalls.step s c).1 := by
  unfold HvCalls.step
  cases c with
  | init k =>
    simp only
    split
    · exact h
    · rename_i q
      exact empty_ok (by omega) (by show k ≤ 1024; unfold COUNTERS at q; omega)
  | unpack p =>
    simp only
    split
    · exact h
    · rename_i t e
      exact (unpack_ok e).ok
  | add x w =>
    cases s with
    | none => exact h
    | some t =>
      simp only [HvCalls.act]
      split
      · exact h
      · rename_i q
        exact added_ok h hf.1 (by unfold ALL at q; omega)
  | stream l =>
    cases s with
    | none => exact h
    | some t =>
      simp only [HvCalls.act]
      split
      · exact h
      · rename_i p e
        split
        · exact h
        · rename_i q
          refine addAll_ok h (pairsOf_keys e hf.2) ?_
          unfold ALL at q
          rw [total_sum] at q
          have e : csum p = (p.map fun (y : Nat × Nat) => y.2).sum := rfl
          rw [← e] at q
          omega
  | merge p =>
    cases s with
    | none => exact h
    | some t =>
      simp only [HvCalls.act]
      split
      · exact h
      · rename_i u e
        split
        · exact h
        · rename_i q
          exact merged_ok h (unpack_ok e).ok (by omega) (by unfold ALL at q; omega)
  | _ =>
    cases s with
    | none => exact h
    | some t => exact h
/-! ### what each call does -/
theorem step_init {s : HvCalls.State} {k : Nat} (h : 1 ≤ k ∧ k ≤ 1024) : HvCalls.step s (.init k) = (some (Hv.empty k), .done) := by
  show (if k = 0 ∨ COUNTERS < k then _ else _) = _
  rw [if_neg (by unfold COUNTERS; omega)]
theorem step_init_no {s : HvCalls.State} {k : Nat} (h : ¬ (1 ≤ k ∧ k ≤ 1024)) : HvCalls.step s (.init k) = (s, .refused (-1)) := by
  show (if k = 0 ∨ COUNTERS < k then _ else _) = _
  rw [if_pos (by unfold COUNTERS; omega)]
  rfl
theorem act_add {s : Hv.Sum} {x v : Nat} (h : v < 2 ^ 32 ∧ s.n + v < 2 ^ 63) : HvCalls.act s (.add x v) = (added s x v, .done) := by
  show (if HvCalls.WEIGHT ≤ v ∨ ALL ≤ s.n + v then _ else _) = _
  rw [if_neg (by unfold HvCalls.WEIGHT ALL; omega)]
theorem act_add_no {s : Hv.Sum} {x v : Nat} (h : ¬ (v < 2 ^ 32 ∧ s.n + v < 2 ^ 63)) : HvCalls.act s (.add x v) = (s, .refused (-1)) := by
  show (if HvCalls.WEIGHT ≤ v ∨ ALL ≤ s.n + v then _ else _) = _
  rw [if_pos (by unfold HvCalls.WEIGHT ALL; omega)]
  rfl
theorem act_heavy_no {s : Hv.Sum} {a b : Nat} (h : b = 0 ∨ b < a) : HvCalls.act s (.heavy a b) = (s, .refused (-1)) := by
  show (s, if b = 0 ∨ b < a then _ else _) = _
  rw [if_pos h]
  rfl
theorem act_heavy_err {s : Hv.Sum} {a b : Nat} (h : ¬ (b = 0 ∨ b < a)) (h2 : s.n * a < s.err * b) : HvCalls.act s (.heavy a b) = (s, .refused (-3)) := by
  show (s, if b = 0 ∨ b < a then _ else if above s a b s.err = true then _ else _) = _
  rw [if_neg h, if_pos (by unfold above; exact decide_eq_true h2)]
  rfl
theorem act_heavy {s : Hv.Sum} {a b : Nat} (h : ¬ (b = 0 ∨ b < a)) (h2 : ¬ s.n * a < s.err * b) : HvCalls.act s (.heavy a b) = (s, .row (heavies s a b)) := by
  show (s, if b = 0 ∨ b < a then _ else if above s a b s.err = true then _ else _) = _
  rw [if_neg h, if_neg (by unfold above; rw [decide_eq_true_eq]; exact h2)]
theorem act_entry {s : Hv.Sum} {i : Nat} {y : P2} (h : s.tab[i]? = some y) : HvCalls.act s (.entry i) = (s, .nums [y.1, y.2]) := by
  show (s, match s.tab[i]? with | some y => _ | none => _) = _
  rw [h]
theorem act_entry_no {s : Hv.Sum} {i : Nat} (h : s.tab[i]? = none) : HvCalls.act s (.entry i) = (s, .refused (-2)) := by
  show (s, match s.tab[i]? with | some y => _ | none => _) = _
  rw [h]
  rfl
theorem act_merge_none {s : Hv.Sum} {p : Bytes} (h : Hv.unpack p = none) : HvCalls.act s (.merge p) = (s, .refused (-1)) := by
  show (match Hv.unpack p with | none => _ | some u => _) = _
  rw [h]
  rfl
theorem act_merge_no {s u : Hv.Sum} {p : Bytes} (h : Hv.unpack p = some u) (h2 : u.k ≠ s.k ∨ 2 ^ 63 ≤ s.n + u.n) : HvCalls.act s (.merge p) = (s, .refused (-1)) := by
  show (match Hv.unpack p with | none => _ | some u => _) = _
  rw [h]
  show (if u.k ≠ s.k ∨ ALL ≤ s.n + u.n then _ else _) = _
  rw [if_pos (show u.k ≠ s.k ∨ ALL ≤ s.n + u.n from h2)]
  rfl
theorem act_merge {s u : Hv.Sum} {p : Bytes} (h : Hv.unpack p = some u) (h2 : ¬ (u.k ≠ s.k ∨ 2 ^ 63 ≤ s.n + u.n)) : HvCalls.act s (.merge p) = (merged s u, .done) := by
  show (match Hv.unpack p with | none => _ | some u => _) = _
  rw [h]
  show (if u.k ≠ s.k ∨ ALL ≤ s.n + u.n then _ else _) = _
  rw [if_neg (show ¬ (u.k ≠ s.k ∨ ALL ≤ s.n + u.n) from h2)]
theorem step_unpack_no {s : HvCalls.State} {p : Bytes} (h : Hv.unpack p = none) : HvCalls.step s (.unpack p) = (s, .refused (-1)) := by
  show (match Hv.unpack p with | none => _ | some t => _) = _
  rw [h]
  rfl
theorem step_unpack {s : HvCalls.State} {p : Bytes} {t : Hv.Sum} (h : Hv.unpack p = some t) : HvCalls.step s (.unpack p) = (some t, .done) := by
  show (match Hv.unpack p with | none => _ | some t => _) = _
  rw [h]
theorem act_stream_bad {s : Hv.Sum} {l : List Nat} (h : HvCalls.pairsOf l = none) : HvCalls.act s (.stream l) = (s, .refused (-1)) := by
  show (match HvCalls.pairsOf l with | none => _ | some p => _) = _
  rw [h]
  rfl
theorem act_stream_no {s : Hv.Sum} {l : List Nat} {p : List P2} (h : HvCalls.pairsOf l = some p) (h2 : 2 ^ 63 ≤ s.n + csum p) : HvCalls.act s (.stream l) = (s, .refused (-1)) := by
  show (match HvCalls.pairsOf l with | none => _ | some p => _) = _
  rw [h]
  show (if ALL ≤ s.n + Hv.total (p.map fun (y : Nat × Nat) => y.2) then _ else _) = _
  rw [total_sum, if_pos (show ALL ≤ s.n + (p.map fun (y : Nat × Nat) => y.2).sum from h2)]
  rfl
theorem act_stream {s : Hv.Sum} {l : List Nat} {p : List P2} (h : HvCalls.pairsOf l = some p) (h2 : ¬ 2 ^ 63 ≤ s.n + csum p) : HvCalls.act s (.stream l) = (HvCalls.addAll s p, .done) := by
  show (match HvCalls.pairsOf l with | none => _ | some p => _) = _
  rw [h]
  show (if ALL ≤ s.n + Hv.total (p.map fun (y : Nat × Nat) => y.2) then _ else _) = _
  rw [total_sum, if_neg (show ¬ ALL ≤ s.n + (p.map fun (y : Nat × Nat) => y.2).sum from h2)]
/-- a call that needs a summary -/
def needs : Call → Bool
  | .init _ => false
  | .unpack _ => false
  | _ => true
theorem step_none {c : Call} (h : needs c = true) : HvCalls.step none c = (none, .refused (-9)) := by
  cases c <;> first | rfl | cases h
theorem step_some {c : Call} {t : Hv.Sum} (h : needs c = true) : HvCalls.step (some t) c = (some (HvCalls.act t c).1, (HvCalls.act t c).2) := by
  cases c <;> first | rfl | cases h
/-- the state behind calls -/
def after (s : HvCalls.State) (cs : List Call) : HvCalls.State := cs.foldl (fun s c => (HvCalls.step s c).1) s
theorem out_snoc (c : Call) : ∀ (cs : List Call) (s : HvCalls.State), out s (cs ++ [c]) = out s cs ++ (((SumNeutral.told (HvCalls.step (after s cs) c).2).length : Int) :: SumNeutral.told (HvCalls.step (after s cs) c).2)
  | [], s => by
    show out s [c] = _
    unfold out
    show _ :: (_ ++ []) = _
    rw [List.append_nil]
    rfl
  | d :: cs, s => by
    have ih := out_snoc c cs (HvCalls.step s d).1
    show _ :: (_ ++ out (HvCalls.step s d).1 (cs ++ [c])) = (_ :: (_ ++ out (HvCalls.step s d).1 cs)) ++ _
    rw [ih, List.cons_append, List.append_assoc]
    rfl
theorem after_snoc (c : Call) (cs : List Call) (s : HvCalls.State) : after s (cs ++ [c]) = (HvCalls.step (after s cs) c).1 := by
  unfold after
  rw [List.foldl_append]
  rfl
end HvM

end
section
set_option autoImplicit false
namespace HvM
open Hv
/-! ### numbers as bytes -/
/-- the digits of a number, the lowest first -/
def dig : Nat → Nat → List Nat
  | 0, _ => []
  | w + 1, x => x % 256 :: dig w (x / 256)
theorem dig_len : ∀ w x, (dig w x).length = w
  | 0, _ => rfl
  | w + 1, x => by unfold dig; rw [List.length_cons, dig_len w]
theorem dig_snoc : ∀ w x, dig (w + 1) x = dig w x ++ [x / 256 ^ w % 256]
  | 0, x => by simp [dig]
  | w + 1, x => by
    rw [dig, dig_snoc w, dig, List.cons_append, Nat.div_div_eq_div_mul, Nat.pow_succ, Nat.mul_comm (256 ^ w)]
theorem le_dig : ∀ w x, (le w x).map (fun c => c.toNat) = dig w x
  | 0, _ => rfl
  | w + 1, x => by
    have ih := le_dig w x
    rw [dig_snoc]
    unfold le at ih ⊢
    rw [List.range_succ, List.map_append, List.map_append, ih]
    congr 1
    show [(UInt8.ofNat (x / 256 ^ w % 256)).toNat] = [x / 256 ^ w % 256]
    rw [UInt8.toNat_ofNat_of_lt' (by show _ < 256; exact Nat.mod_lt _ (by decide))]
theorem ofB_map (b : Bytes) : ofB b = ofN (b.map fun c => c.toNat) := by
  unfold ofB ofN
  rw [List.map_map]
  rfl
theorem ofB_le (w x : Nat) : ofB (le w x) = ofN (dig w x) := by rw [ofB_map, le_dig]
theorem ofB_append (a b : Bytes) : ofB (a ++ b) = ofB a ++ ofB b := by unfold ofB; rw [List.map_append]
theorem ofN_append (a b : List Nat) : ofN (a ++ b) = ofN a ++ ofN b := by unfold ofN; rw [List.map_append]
theorem ofB_len (b : Bytes) : (ofB b).length = b.length := by unfold ofB; rw [List.length_map]
theorem ofN_len (b : List Nat) : (ofN b).length = b.length := by unfold ofN; rw [List.length_map]
theorem le_len (w x : Nat) : (le w x).length = w := by unfold le; rw [List.length_map, List.length_range]
/-- what digits come to -/
def val : List Nat → Nat
  | [] => 0
  | d :: l => d + 256 * val l
theorem num_val (b : Bytes) : num b = val (b.map fun c => c.toNat) := by
  unfold num
  induction b with
  | nil => rfl
  | cons c b ih => rw [List.foldr_cons, ih, List.map_cons, val]
theorem val_append (a b : List Nat) : val (a ++ b) = val a + 256 ^ a.length * val b := by
  induction a with
  | nil => simp [val]
  | cons d a ih =>
    rw [List.cons_append, val, val, ih, List.length_cons, Nat.pow_succ, Nat.mul_add, ← Nat.mul_assoc, Nat.mul_comm 256 (256 ^ a.length)]
    omega
theorem val_snoc (a : List Nat) (d : Nat) : val (a ++ [d]) = val a + 256 ^ a.length * d := by
  rw [val_append]
  simp [val]
/-- read from behind -/
theorem val_rev (b : List Nat) : b.reverse.foldl (fun v d => v * 256 + d) 0 = val b := by
  rw [List.foldl_reverse]
  induction b with
  | nil => rfl
  | cons d b ih => rw [List.foldr_cons, ih, val]; omega
theorem val_lt : ∀ {b : List Nat}, (∀ d ∈ b, d < 256) → val b < 256 ^ b.length
  | [], _ => by simp [val]
  | d :: b, h => by
    have h1 := h d List.mem_cons_self
    have h2 := val_lt (b := b) fun z hz => h z (List.mem_cons_of_mem _ hz)
    rw [val, List.length_cons, Nat.pow_succ]
    omega
theorem val_dig : ∀ w x, val (dig w x) = x % 256 ^ w
  | 0, x => by simp [dig, val, Nat.mod_one]
  | w + 1, x => by
    rw [dig, val, val_dig w, Nat.pow_succ, Nat.mul_comm (256 ^ w), Nat.mod_mul]
theorem bytes_lt (b : Bytes) : ∀ d ∈ b.map (fun c => c.toNat), d < 256 := by
  intro d hd
  obtain ⟨c, _, rfl⟩ := List.mem_map.mp hd
  exact c.toNat_lt
theorem num_lt (b : Bytes) : num b < 256 ^ b.length := by
  rw [num_val]
  have := val_lt (bytes_lt b)
  rwa [List.length_map] at this
theorem num_take8 (b : Bytes) : num (b.take 8) < 2 ^ 64 := by
  have h := num_lt (b.take 8)
  have h2 : (b.take 8).length ≤ 8 := by rw [List.length_take]; exact Nat.min_le_left _ _
  have h3 : 256 ^ (b.take 8).length ≤ 256 ^ 8 := Nat.pow_le_pow_right (by decide) h2
  have h4 : (256 : Nat) ^ 8 = 2 ^ 64 := by decide
  omega
/-- the numbers from one place on, so many -/
def sub (b : Bytes) (i n : Nat) : Bytes := (b.drop i).take n
theorem sub_len {b : Bytes} {i n : Nat} (h : i + n ≤ b.length) : (sub b i n).length = n := by
  unfold sub
  rw [List.length_take, List.length_drop]
  omega
def pairAt (b : Bytes) (i : Nat) : Nat × Nat := (num (sub b i 8), num (sub b (i + 8) 8))
theorem pairsIn_drop : ∀ (m : Nat) (b : Bytes) (i : Nat), pairsIn m (b.drop i) = (List.range m).map fun j => pairAt b (i + 16 * j)
  | 0, _, _ => rfl
  | m + 1, b, i => by
    rw [pairsIn, List.drop_drop, List.drop_drop, pairsIn_drop m b (i + 16), List.range_succ_eq_map, List.map_cons, List.map_map]
    congr 1
    refine List.map_congr_left fun j _ => ?_
    show pairAt b (i + 16 + 16 * j) = pairAt b (i + 16 * (j + 1))
    rw [show i + 16 + 16 * j = i + 16 * (j + 1) by omega]
/-- the summary that the bytes tell, proper or not -/
def told (b : Bytes) : Hv.Sum := ⟨num (sub b 0 4), num (sub b 8 8), num (sub b 16 8), (List.range (num (sub b 4 4))).map fun j => pairAt b (24 + 16 * j)⟩
theorem unpack_told (b : Bytes) : Hv.unpack b = if (24 ≤ b.length ∧ num (sub b 4 4) ≤ 1024 ∧ b.length = 24 + 16 * num (sub b 4 4)) ∧ proper (told b) = true then some (told b) else none := by
  unfold Hv.unpack
  simp only
  have e : (⟨num (b.take 4), num ((b.drop 8).take 8), num ((b.drop 16).take 8), pairsIn (num ((b.drop 4).take 4)) (b.drop 24)⟩ : Hv.Sum) = told b := by
    unfold told
    rw [pairsIn_drop]
    rfl
  have e4 : num ((b.drop 4).take 4) = num (sub b 4 4) := rfl
  rw [e, e4]
  by_cases h : b.length < 24 ∨ COUNTERS < num (sub b 4 4) ∨ b.length ≠ 24 + 16 * num (sub b 4 4)
  · rw [if_pos h, if_neg]
    intro q
    unfold COUNTERS at h
    omega
  · rw [if_neg h]
    have h' : 24 ≤ b.length ∧ num (sub b 4 4) ≤ 1024 ∧ b.length = 24 + 16 * num (sub b 4 4) := by
      unfold COUNTERS at h
      omega
    by_cases p : proper (told b) = true
    · rw [if_pos p, if_pos ⟨h', p⟩]
    · rw [if_neg p, if_neg fun q => p q.2]
/-- a summary as its bytes' numbers -/
theorem pack_dig (s : Hv.Sum) : ofB (Hv.pack s) = ofN (dig 4 s.k ++ (dig 4 s.tab.length ++ (dig 8 s.n ++ (dig 8 s.err ++ s.tab.flatMap fun y => dig 8 y.1 ++ dig 8 y.2)))) := by
  unfold Hv.pack
  rw [ofB_append, ofB_append, ofB_append, ofB_append, ofN_append, ofN_append, ofN_append, ofN_append, ofB_le, ofB_le, ofB_le, ofB_le]
  congr 4
  induction s.tab with
  | nil => rfl
  | cons y l ih => rw [List.flatMap_cons, List.flatMap_cons, ofB_append, ofB_append, ofN_append, ofN_append, ih, ofB_le, ofB_le]
theorem put_new {l : List P2} {x c : Nat} (h : x ∉ l.map fun y => y.1) : put l x c = l ++ [(x, c)] := by
  unfold put
  rw [if_neg fun q => h (has_iff.mp q)]
theorem lessBy_snoc (c : Nat) (l : List P2) (y : P2) : lessBy c (l ++ [y]) = if c < y.2 then lessBy c l ++ [(y.1, y.2 - c)] else lessBy c l := by
  rw [lessBy_append]
  by_cases h : c < y.2
  · rw [if_pos h]
    simp [lessBy, h]
  · rw [if_neg h]
    simp [lessBy, h]
theorem lessBy_keys {c x : Nat} {l : List P2} (h : x ∉ l.map fun y => y.1) : x ∉ (lessBy c l).map fun y => y.1 := by
  intro q
  obtain ⟨z, hz, e⟩ := List.mem_map.mp q
  unfold lessBy at hz
  obtain ⟨u, hu, rfl⟩ := List.mem_map.mp hz
  exact h (List.mem_map.mpr ⟨u, (List.mem_filter.mp hu).1, e⟩)
theorem pack_len (s : Hv.Sum) : (Hv.pack s).length = 24 + 16 * s.tab.length := by
  unfold Hv.pack
  rw [List.length_append, List.length_append, List.length_append, List.length_append, le_len, le_len, le_len, le_len]
  have : (s.tab.flatMap fun (y : Nat × Nat) => le 8 y.1 ++ le 8 y.2).length = 16 * s.tab.length := by
    induction s.tab with
    | nil => rfl
    | cons y l ih => rw [List.flatMap_cons, List.length_append, List.length_append, le_len, le_len, ih, List.length_cons]; omega
  omega
theorem heavies_len (s : Hv.Sum) (a b : Nat) : (heavies s a b).length ≤ s.tab.length := by
  unfold heavies
  rw [List.length_map]
  exact List.length_filter_le _ _
theorem told_len {s : HvCalls.State} (h : OkS s) (c : HvCalls.Call) : (SumNeutral.told (HvCalls.step s c).2).length ≤ 17000 := by
  cases hn : needs c with
  | false =>
    cases c with
    | init k =>
      by_cases hk : 1 ≤ k ∧ k ≤ 1024
      · rw [step_init hk]; show 1 ≤ 17000; decide
      · rw [step_init_no hk]; show 1 ≤ 17000; decide
    | unpack p =>
      cases hu : Hv.unpack p with
      | none => rw [step_unpack_no hu]; show 1 ≤ 17000; decide
      | some t => rw [step_unpack hu]; show 1 ≤ 17000; decide
    | _ => cases hn
  | true =>
    cases s with
    | none => rw [step_none hn]; show 1 ≤ 17000; decide
    | some t =>
      have ok : Ok t := h
      have hl := ok.len
      have hk := ok.k2
      rw [step_some hn]
      show (SumNeutral.told (HvCalls.act t c).2).length ≤ 17000
      cases c with
      | add x v =>
        by_cases hv : v < 2 ^ 32 ∧ t.n + v < 2 ^ 63
        · rw [act_add hv]; show 1 ≤ 17000; decide
        · rw [act_add_no hv]; show 1 ≤ 17000; decide
      | total => show 2 ≤ 17000; decide
      | error => show 2 ≤ 17000; decide
      | bounds x => show 4 ≤ 17000; decide
      | count => show 2 ≤ 17000; decide
      | entry i =>
        cases e : t.tab[i]? with
        | none => rw [act_entry_no e]; show 1 ≤ 17000; decide
        | some y => rw [act_entry e]; show 3 ≤ 17000; decide
      | heavy a b =>
        by_cases h1 : b = 0 ∨ b < a
        · rw [act_heavy_no h1]; show 1 ≤ 17000; decide
        · by_cases h2 : t.n * a < t.err * b
          · rw [act_heavy_err h1 h2]; show 1 ≤ 17000; decide
          · rw [act_heavy h1 h2]
            have := heavies_len t a b
            simp only [SumNeutral.told, SumNeutral.rowN, SumNeutral.ints, List.length_cons, List.length_map]
            omega
      | pack =>
        show (SumNeutral.told (.bytes (Hv.pack t))).length ≤ 17000
        have := pack_len t
        simp only [SumNeutral.told, SumNeutral.bytesN, SumNeutral.rowN, List.length_cons, List.length_map]
        omega
      | merge p =>
        cases hu : Hv.unpack p with
        | none => rw [act_merge_none hu]; show 1 ≤ 17000; decide
        | some u =>
          by_cases h2 : u.k ≠ t.k ∨ 2 ^ 63 ≤ t.n + u.n
          · rw [act_merge_no hu h2]; show 1 ≤ 17000; decide
          · rw [act_merge hu h2]; show 1 ≤ 17000; decide
      | stream l =>
        cases hp : HvCalls.pairsOf l with
        | none => rw [act_stream_bad hp]; show 1 ≤ 17000; decide
        | some p =>
          by_cases h2 : 2 ^ 63 ≤ t.n + csum p
          · rw [act_stream_no hp h2]; show 1 ≤ 17000; decide
          · rw [act_stream hp h2]; show 1 ≤ 17000; decide
      | init k => cases hn
      | unpack p => cases hn
theorem after_ok : ∀ {cs : List HvCalls.Call} {s : HvCalls.State}, OkS s → (∀ c ∈ cs, Fit c) → OkS (after s cs)
  | [], _, h, _ => h
  | c :: cs, s, h, hf => after_ok (cs := cs) (s := (HvCalls.step s c).1) (step_ok h (hf c List.mem_cons_self)) fun d hd => hf d (List.mem_cons_of_mem _ hd)
theorem out_len : ∀ {cs : List HvCalls.Call} {s : HvCalls.State}, OkS s → (∀ c ∈ cs, Fit c) → (out s cs).length ≤ 17001 * cs.length
  | [], _, _, _ => Nat.zero_le _
  | c :: cs, s, h, hf => by
    have ih := out_len (cs := cs) (s := (HvCalls.step s c).1) (step_ok h (hf c List.mem_cons_self)) fun d hd => hf d (List.mem_cons_of_mem _ hd)
    have h1 := told_len h c
    unfold out
    rw [List.length_cons, List.length_append, List.length_cons]
    omega
end HvM

end
section
set_option autoImplicit false
namespace HvM
open Hv
/-! ### bytes there and back -/
theorem num_le {w x : Nat} (h : x < 256 ^ w) : num (le w x) = x := by
  rw [num_val, le_dig, val_dig, Nat.mod_eq_of_lt h]
theorem dig_val : ∀ {b : List Nat}, (∀ d ∈ b, d < 256) → dig b.length (val b) = b
  | [], _ => rfl
  | d :: b, h => by
    have hd : d < 256 := h d List.mem_cons_self
    have ih := dig_val (b := b) fun z hz => h z (List.mem_cons_of_mem _ hz)
    have e : val (d :: b) = d + 256 * val b := by simp [val]
    rw [List.length_cons, dig, e, show (d + 256 * val b) % 256 = d by omega, show (d + 256 * val b) / 256 = val b by omega, ih]
theorem ofB_inj {a b : Bytes} (h : ofB a = ofB b) : a = b := by
  unfold ofB at h
  refine List.map_inj_right (f := fun (c : UInt8) => (c.toNat : Int)) (fun x y e => ?_) |>.mp h
  have e' : x.toNat = y.toNat := by have e2 : (x.toNat : Int) = (y.toNat : Int) := e; omega
  exact UInt8.toNat_inj.mp e'
theorem le_num (b : Bytes) : le b.length (num b) = b := by
  refine ofB_inj ?_
  rw [ofB_le, num_val, ofB_map]
  have e := dig_val (bytes_lt b)
  rw [List.length_map] at e
  rw [e]
theorem le_sub {b : Bytes} {i n : Nat} (h : i + n ≤ b.length) : le n (num (sub b i n)) = sub b i n := by
  have e := le_num (sub b i n)
  rw [sub_len h] at e
  exact e
theorem sub_mid {a c r : Bytes} {i n : Nat} (hi : a.length = i) (hn : c.length = n) : sub (a ++ (c ++ r)) i n = c := by
  subst hi; subst hn
  unfold sub
  rw [List.drop_left, List.take_left]
theorem sub_drop (b : Bytes) (i n : Nat) : sub b i n ++ b.drop (i + n) = b.drop i := by
  unfold sub
  rw [← List.drop_drop]
  exact List.take_append_drop n (b.drop i)
/-- the pairs as bytes -/
def flatB (t : List P2) : Bytes := t.flatMap fun y => le 8 y.1 ++ le 8 y.2
theorem flatB_len (t : List P2) : (flatB t).length = 16 * t.length := by
  unfold flatB
  induction t with
  | nil => rfl
  | cons y t ih => rw [List.flatMap_cons, List.length_append, ih, List.length_append, le_len, le_len, List.length_cons]; omega
theorem flatB_at {t : List P2} {j : Nat} {y : P2} (h : t[j]? = some y) : flatB t = flatB (t.take j) ++ ((le 8 y.1 ++ le 8 y.2) ++ flatB (t.drop (j + 1))) := by
  have e : t = t.take j ++ y :: t.drop (j + 1) := by
    obtain ⟨hl, he⟩ := List.getElem?_eq_some_iff.mp h
    rw [← he, List.getElem_cons_drop, List.take_append_drop]
  conv => lhs; rw [e]
  unfold flatB
  rw [List.flatMap_append, List.flatMap_cons]
theorem pairAt_flat {h0 : Bytes} {i : Nat} {t : List P2} {j : Nat} {y : P2} (hi : h0.length = i) (hy : t[j]? = some y) (h1 : y.1 < 2 ^ 64) (h2 : y.2 < 2 ^ 64) : pairAt (h0 ++ flatB t) (i + 16 * j) = y := by
  have hj : j < t.length := by
    obtain ⟨hl, _⟩ := List.getElem?_eq_some_iff.mp hy
    exact hl
  have l1 : (h0 ++ flatB (t.take j)).length = i + 16 * j := by
    rw [List.length_append, flatB_len, List.length_take, hi]
    omega
  have e1 : h0 ++ flatB t = (h0 ++ flatB (t.take j)) ++ (le 8 y.1 ++ (le 8 y.2 ++ flatB (t.drop (j + 1)))) := by
    rw [flatB_at hy, List.append_assoc, List.append_assoc]
  have e2 : h0 ++ flatB t = (h0 ++ flatB (t.take j) ++ le 8 y.1) ++ (le 8 y.2 ++ flatB (t.drop (j + 1))) := by
    rw [e1]
    simp only [List.append_assoc]
  unfold pairAt
  have p : (256 : Nat) ^ 8 = 2 ^ 64 := by decide
  have s1 : sub (h0 ++ flatB t) (i + 16 * j) 8 = le 8 y.1 := by
    rw [e1]; exact sub_mid l1 (le_len _ _)
  have s2 : sub (h0 ++ flatB t) (i + 16 * j + 8) 8 = le 8 y.2 := by
    rw [e2]; exact sub_mid (by rw [List.length_append, l1, le_len]) (le_len _ _)
  rw [s1, s2, num_le (by rw [p]; exact h1), num_le (by rw [p]; exact h2)]
theorem head_len (k m n e : Nat) : (le 4 k ++ (le 4 m ++ (le 8 n ++ le 8 e))).length = 24 := by
  simp only [List.length_append, le_len]
theorem pack_flat (s : Hv.Sum) : Hv.pack s = (le 4 s.k ++ (le 4 s.tab.length ++ (le 8 s.n ++ le 8 s.err))) ++ flatB s.tab := by
  unfold Hv.pack flatB
  simp only [List.append_assoc]
theorem told_pack {s : Hv.Sum} (h : Proper s) : told (Hv.pack s) = s ∧ num (sub (Hv.pack s) 4 4) = s.tab.length := by
  have p4 : (256 : Nat) ^ 4 = 2 ^ 32 := by decide
  have p8 : (256 : Nat) ^ 8 = 2 ^ 64 := by decide
  have hk := h.k2
  have hl := h.len
  have hn := h.all
  have he := h.ok.err
  have b1 : sub (Hv.pack s) 0 4 = le 4 s.k := by
    unfold Hv.pack
    exact sub_mid (a := []) rfl (le_len _ _)
  have b2 : sub (Hv.pack s) 4 4 = le 4 s.tab.length := by
    unfold Hv.pack
    exact sub_mid (le_len _ _) (le_len _ _)
  have b3 : sub (Hv.pack s) 8 8 = le 8 s.n := by
    unfold Hv.pack
    rw [← List.append_assoc]
    exact sub_mid (by rw [List.length_append, le_len, le_len]) (le_len _ _)
  have b4 : sub (Hv.pack s) 16 8 = le 8 s.err := by
    unfold Hv.pack
    rw [← List.append_assoc, ← List.append_assoc]
    exact sub_mid (by rw [List.length_append, List.length_append, le_len, le_len, le_len]) (le_len _ _)
  have n1 : num (sub (Hv.pack s) 0 4) = s.k := by rw [b1, num_le (by rw [p4]; omega)]
  have n2 : num (sub (Hv.pack s) 4 4) = s.tab.length := by rw [b2, num_le (by rw [p4]; omega)]
  have n3 : num (sub (Hv.pack s) 8 8) = s.n := by rw [b3, num_le (by rw [p8]; omega)]
  have n4 : num (sub (Hv.pack s) 16 8) = s.err := by rw [b4, num_le (by rw [p8]; omega)]
  refine ⟨?_, n2⟩
  unfold told
  rw [n1, n2, n3, n4]
  have e : (List.range s.tab.length).map (fun j => pairAt (Hv.pack s) (24 + 16 * j)) = s.tab := by
    refine List.ext_getElem? fun j => ?_
    rw [List.getElem?_map]
    by_cases hj : j < s.tab.length
    · rw [List.getElem?_range hj]
      obtain ⟨y, hy⟩ : ∃ y, s.tab[j]? = some y := ⟨_, List.getElem?_eq_getElem hj⟩
      have hm := List.mem_of_getElem? hy
      have hc := h.ok.count hm
      rw [hy, pack_flat]
      show some (pairAt _ _) = some y
      rw [pairAt_flat (head_len _ _ _ _) hy (h.keys y hm) (by omega)]
    · rw [List.getElem?_eq_none (by rw [List.length_range]; omega), List.getElem?_eq_none (by omega)]
      rfl
  rw [e]
theorem unpack_pack {s : Hv.Sum} (h : Proper s) : Hv.unpack (Hv.pack s) = some s := by
  obtain ⟨e1, e2⟩ := told_pack h
  have hk := h.k2
  have hl := h.len
  rw [unpack_told, e1, e2, if_pos]
  exact ⟨⟨by rw [pack_len]; omega, by omega, by rw [pack_len]⟩, proper_iff.mpr h⟩
theorem flat_told (b : Bytes) : ∀ (m i : Nat), b.length = i + 16 * m → (List.range m).flatMap (fun j => sub b (i + 16 * j) 8 ++ sub b (i + 16 * j + 8) 8) = b.drop i
  | 0, i, h => by
    rw [List.range_zero, List.flatMap_nil, List.drop_eq_nil_of_le (by omega)]
  | m + 1, i, h => by
    have ih := flat_told b m (i + 16) (by omega)
    rw [List.range_succ_eq_map, List.flatMap_cons, List.flatMap_map]
    have e : (List.range m).flatMap (fun a => sub b (i + 16 * Nat.succ a) 8 ++ sub b (i + 16 * Nat.succ a + 8) 8) = b.drop (i + 16) := by
      rw [← ih]
      congr 1
      funext j
      rw [show i + 16 * Nat.succ j = i + 16 + 16 * j by omega]
    rw [e, List.append_assoc]
    show sub b i 8 ++ (sub b (i + 8) 8 ++ b.drop (i + 8 + 8)) = b.drop i
    rw [sub_drop, sub_drop]
theorem pack_told {b : Bytes} (h1 : 24 ≤ b.length) (h2 : b.length = 24 + 16 * num (sub b 4 4)) : Hv.pack (told b) = b := by
  have hf : (told b).tab.flatMap (fun y => le 8 y.1 ++ le 8 y.2) = b.drop 24 := by
    unfold told
    rw [List.flatMap_map, ← flat_told b (num (sub b 4 4)) 24 h2]
    rw [List.flatMap_def, List.flatMap_def]
    congr 1
    refine List.map_congr_left fun j hj => ?_
    have hj := List.mem_range.mp hj
    show le 8 (num (sub b (24 + 16 * j) 8)) ++ le 8 (num (sub b (24 + 16 * j + 8) 8)) = _
    rw [le_sub (by omega), le_sub (by omega)]
  have hl : (told b).tab.length = num (sub b 4 4) := by
    unfold told
    rw [List.length_map, List.length_range]
  unfold Hv.pack
  rw [hf, hl]
  show le 4 (num (sub b 0 4)) ++ (le 4 (num (sub b 4 4)) ++ (le 8 (num (sub b 8 8)) ++ (le 8 (num (sub b 16 8)) ++ b.drop 24))) = b
  rw [le_sub (by omega), le_sub (by omega), le_sub (by omega), le_sub (by omega)]
  have c1 := sub_drop b 16 8
  have c2 := sub_drop b 8 8
  have c3 := sub_drop b 4 4
  have c4 := sub_drop b 0 4
  rw [c1, c2, c3, c4, List.drop_zero]
/-! ### a table read as a dict -/
def dictOf (l : List P2) : List P2 := l.foldl (fun d y => put d y.1 y.2) []
theorem dictOf_snoc (l : List P2) (y : P2) : dictOf (l ++ [y]) = put (dictOf l) y.1 y.2 := by
  unfold dictOf
  rw [List.foldl_append]
  rfl
theorem put_keys_nd {l : List P2} {x c : Nat} (nd : (l.map fun y => y.1).Nodup) : ((put l x c).map fun y => y.1).Nodup := by
  have p := (put_perm (x := x) (c := c) nd).map fun y => y.1
  rw [p.nodup_iff, List.map_cons, List.nodup_cons]
  refine ⟨others_not_mem l x, ?_⟩
  unfold others
  exact nd.sublist ((List.filter_sublist).map _)
theorem put_mem {l : List P2} {x c : Nat} {y : P2} (h : y ∈ put l x c) : y = (x, c) ∨ y ∈ l := by
  unfold put at h
  split at h
  · obtain ⟨z, hz, e⟩ := List.mem_map.mp h
    split at e
    · rename_i e2
      left
      rw [← e, e2]
    · right
      rw [← e]
      exact hz
  · rcases List.mem_append.mp h with h | h
    · exact .inr h
    · exact .inl (List.mem_singleton.mp h)
theorem dictOf_mem {l : List P2} : ∀ y ∈ dictOf l, y ∈ l := by
  have key : ∀ (l d : List P2) (y : P2), y ∈ l.foldl (fun d y => put d y.1 y.2) d → y ∈ d ∨ y ∈ l := by
    intro l
    induction l with
    | nil => intro d y h; exact .inl h
    | cons z l ih =>
      intro d y h
      rcases ih _ _ h with h | h
      · rcases put_mem h with h | h
        · exact .inr (by rw [h]; exact List.mem_cons_self)
        · exact .inl h
      · exact .inr (List.mem_cons_of_mem _ h)
  intro y h
  rcases key l [] y h with h | h
  · cases h
  · exact h
theorem dictOf_nd (l : List P2) : ((dictOf l).map fun y => y.1).Nodup := by
  have key : ∀ (l d : List P2), (d.map fun y => y.1).Nodup → ((l.foldl (fun d y => put d y.1 y.2) d).map fun y => y.1).Nodup := by
    intro l
    induction l with
    | nil => intro d h; exact h
    | cons z l ih => intro d h; exact ih _ (put_keys_nd h)
  exact key l [] List.nodup_nil
theorem dictOf_len (l : List P2) : (dictOf l).length ≤ l.length := by
  have key : ∀ (l d : List P2), (l.foldl (fun d y => put d y.1 y.2) d).length ≤ d.length + l.length := by
    intro l
    induction l with
    | nil => intro d; exact Nat.le_refl _
    | cons z l ih =>
      intro d
      have h1 := ih (put d z.1 z.2)
      have h2 := put_len d z.1 z.2
      rw [List.foldl_cons, List.length_cons]
      omega
  have h := key l []
  rw [List.length_nil, Nat.zero_add] at h
  exact h
theorem dictOf_id {l : List P2} (nd : (l.map fun y => y.1).Nodup) : dictOf l = l := by
  have key : ∀ (l d : List P2), ((d ++ l).map fun y => y.1).Nodup → l.foldl (fun d y => put d y.1 y.2) d = d ++ l := by
    intro l
    induction l with
    | nil => intro d _; rw [List.append_nil]; rfl
    | cons z l ih =>
      intro d h
      have hz : z.1 ∉ d.map fun y => y.1 := by
        rw [List.map_append, List.map_cons, List.nodup_append] at h
        intro hm
        exact h.2.2 _ hm _ List.mem_cons_self rfl
      rw [List.foldl_cons, put_new hz, ih _ (by rw [List.append_assoc]; exact h), List.append_assoc]
      rfl
  exact key l [] nd
/-- how many steps of sixteen, and their pairs -/
def turnsB (n : Nat) : Nat := (n - 24 + 15) / 16
def pairsB (b : Bytes) : List P2 := (List.range (turnsB b.length)).map fun j => pairAt b (24 + 16 * j)
def dB (b : Bytes) : List P2 := dictOf (pairsB b)
theorem sub_num_lt (b : Bytes) (i : Nat) : num (sub b i 8) < 2 ^ 64 := num_take8 (b.drop i)
theorem sub_num4_lt (b : Bytes) (i : Nat) : num (sub b i 4) < 2 ^ 32 := by
  have h := num_lt (sub b i 4)
  have h2 : (sub b i 4).length ≤ 4 := by unfold sub; rw [List.length_take]; omega
  have h3 : (256 : Nat) ^ (sub b i 4).length ≤ 256 ^ 4 := Nat.pow_le_pow_right (by decide) h2
  have h4 : (256 : Nat) ^ 4 = 2 ^ 32 := by decide
  omega
theorem pairsB_lt {b : Bytes} : ∀ y ∈ pairsB b, y.1 < 2 ^ 64 ∧ y.2 < 2 ^ 64 := by
  intro y h
  obtain ⟨j, _, rfl⟩ := List.mem_map.mp h
  exact ⟨sub_num_lt _ _, sub_num_lt _ _⟩
theorem dB_lt {b : Bytes} : ∀ y ∈ dB b, y.1 < 2 ^ 64 ∧ y.2 < 2 ^ 64 := fun y h => pairsB_lt y (dictOf_mem y h)
def Lim (k n : Nat) (d : List P2) : Prop := (1 ≤ k ∧ k ≤ 1024) ∧ n < 2 ^ 63 ∧ d.length ≤ k ∧ ∀ y ∈ d, y.2 ≠ 0
def Pro (k n e : Nat) (d : List P2) : Prop := (e = 0 → csum d = n) ∧ (e ≠ 0 → (k + 1) * e + csum d ≤ n)
def packN (k n e : Nat) (d : List P2) : List Nat := dig 4 k ++ (dig 4 d.length ++ (dig 8 n ++ (dig 8 e ++ (Hv.sorted d).flatMap fun y => dig 8 y.1 ++ dig 8 y.2)))
theorem packN_pack (k n e : Nat) (d : List P2) : ofN (packN k n e d) = ofB (Hv.pack ⟨k, n, e, Hv.sorted d⟩) := by
  rw [pack_dig]
  show ofN (packN k n e d) = ofN (dig 4 k ++ (dig 4 (Hv.sorted d).length ++ (dig 8 n ++ (dig 8 e ++ (Hv.sorted d).flatMap fun y => dig 8 y.1 ++ dig 8 y.2))))
  rw [sorted_len]
  rfl
abbrev kB (b : Bytes) : Nat := num (sub b 0 4)
abbrev nB (b : Bytes) : Nat := num (sub b 8 8)
abbrev eB (b : Bytes) : Nat := num (sub b 16 8)
theorem unpack_yes {b : Bytes} (h1 : Lim (kB b) (nB b) (dB b)) (h2 : Pro (kB b) (nB b) (eB b) (dB b)) (h3 : ofN (packN (kB b) (nB b) (eB b) (dB b)) = ofB b) :
    Hv.unpack b = some ⟨kB b, nB b, eB b, Hv.sorted (dB b)⟩ := by
  have pm := sorted_perm (dB b)
  have nd : ((Hv.sorted (dB b)).map fun y => y.1).Nodup := (pm.map _).nodup_iff.mpr (dictOf_nd _)
  have hp : Proper ⟨kB b, nB b, eB b, Hv.sorted (dB b)⟩ := by
    obtain ⟨⟨a1, a2⟩, a3, a4, a5⟩ := h1
    refine ⟨a1, a2, ?_, fun y hy => (dB_lt y (pm.mem_iff.mp hy)).1, fun y hy => ?_, nd, pw_inOrder nd (sorted_pw _), a3, ?_, fun z => ?_⟩
    · show (Hv.sorted (dB b)).length ≤ kB b
      rw [sorted_len]; exact a4
    · have := a5 y (pm.mem_iff.mp hy)
      omega
    · show (kB b + 1) * eB b + csum (Hv.sorted (dB b)) ≤ nB b
      rw [csum_perm pm]
      by_cases z : eB b = 0
      · have := h2.1 z
        rw [z, Nat.mul_zero]
        omega
      · exact h2.2 z
    · show csum (Hv.sorted (dB b)) = nB b
      rw [csum_perm pm]
      exact h2.1 z
  rw [packN_pack] at h3
  have e := ofB_inj h3
  have u := unpack_pack hp
  rw [e] at u
  exact u
theorem unpack_no {b : Bytes} {s : Hv.Sum} (h : Hv.unpack b = some s) : s = ⟨kB b, nB b, eB b, Hv.sorted (dB b)⟩ ∧ Lim (kB b) (nB b) (dB b) ∧ Pro (kB b) (nB b) (eB b) (dB b) ∧ ofN (packN (kB b) (nB b) (eB b) (dB b)) = ofB b := by
  have hp := unpack_ok h
  rw [unpack_told] at h
  split at h
  · rename_i q
    obtain ⟨⟨q1, q2, q3⟩, _⟩ := q
    have es : told b = s := Option.some.inj h
    have hm : turnsB b.length = num (sub b 4 4) := by unfold turnsB; omega
    have ep : pairsB b = s.tab := by
      rw [← es]
      unfold pairsB told
      rw [hm]
    have ed : dB b = s.tab := by
      unfold dB
      rw [ep, dictOf_id hp.nd]
    have e1 : s.k = kB b := by rw [← es]; rfl
    have e2 : s.n = nB b := by rw [← es]; rfl
    have e3 : s.err = eB b := by rw [← es]; rfl
    have eo : Hv.sorted (dB b) = s.tab := by rw [ed, sorted_id hp.ok.srt]
    have e : s = ⟨kB b, nB b, eB b, Hv.sorted (dB b)⟩ := by
      rw [eo, ← e1, ← e2, ← e3]
    refine ⟨e, ⟨⟨e1 ▸ hp.k1, e1 ▸ hp.k2⟩, e2 ▸ hp.all, ?_, fun y hy => ?_⟩, ⟨fun z => ?_, fun _ => ?_⟩, ?_⟩
    · rw [ed, ← e1]; exact hp.len
    · rw [ed] at hy
      have := hp.pos y hy
      omega
    · rw [ed, ← e2]; exact hp.exact_ (by rw [e3]; exact z)
    · rw [ed, ← e1, ← e2, ← e3]; exact hp.less
    · rw [packN_pack, ← e, ← es, pack_told q1 q3]
  · cases h
/-! ### a stream's row -/
def evens : List Nat → List Nat
  | [] => []
  | [a] => [a]
  | a :: _ :: r => a :: evens r
def odds : List Nat → List Nat
  | [] => []
  | [_] => []
  | _ :: b :: r => b :: odds r
theorem pairsOf_yes : ∀ {l : List Nat}, (evens l).length = (odds l).length → (∀ w ∈ odds l, w < 2 ^ 32) → HvCalls.pairsOf l = some ((evens l).zip (odds l))
  | [], _, _ => rfl
  | [_], h, _ => by simp [evens, odds] at h
  | x :: w :: r, h, hw => by
    have h1 : w < 2 ^ 32 := hw w (by simp [odds])
    have ih := pairsOf_yes (l := r) (by simpa [evens, odds] using h) fun z hz => hw z (by simp [odds, hz])
    have hn : ¬ HvCalls.WEIGHT ≤ w := by unfold HvCalls.WEIGHT; omega
    simp only [HvCalls.pairsOf, if_neg hn, ih]
    rfl
theorem pairsOf_no : ∀ {l : List Nat}, (¬ (evens l).length = (odds l).length ∨ ∃ w ∈ odds l, 2 ^ 32 ≤ w) → HvCalls.pairsOf l = none
  | [], h => by
    rcases h with h | ⟨w, hw, _⟩
    · exact absurd rfl h
    · cases hw
  | [_], _ => rfl
  | x :: w :: r, h => by
    by_cases hn : HvCalls.WEIGHT ≤ w
    · simp only [HvCalls.pairsOf, if_pos hn]
    · have ih := pairsOf_no (l := r) (by
        rcases h with h | ⟨z, hz, hb⟩
        · exact .inl (by simpa [evens, odds] using h)
        · right
          rcases List.mem_cons.mp (show z ∈ w :: odds r from hz) with e | e
          · subst e
            exact absurd hb hn
          · exact ⟨z, e, hb⟩)
      simp only [HvCalls.pairsOf, if_neg hn, ih]
theorem csum_zip : ∀ {a b : List Nat}, a.length = b.length → csum (a.zip b) = b.sum
  | [], [], _ => rfl
  | x :: a, y :: b, h => by
    rw [List.zip_cons_cons, csum_cons, List.sum_cons, csum_zip (a := a) (b := b) (by simpa using h)]
  | [], _ :: _, h => by simp at h
  | _ :: _, [], h => by simp at h
theorem evens_mem : ∀ {l : List Nat}, ∀ x ∈ evens l, x ∈ l
  | [], _, h => h
  | [_], _, h => h
  | a :: b :: r, x, h => by
    rcases List.mem_cons.mp (show x ∈ a :: evens r from h) with e | e
    · subst e; exact List.mem_cons_self
    · exact List.mem_cons_of_mem _ (List.mem_cons_of_mem _ (evens_mem (l := r) x e))
theorem odds_mem : ∀ {l : List Nat}, ∀ x ∈ odds l, x ∈ l
  | [], _, h => h
  | [_], _, h => by cases h
  | a :: b :: r, x, h => by
    rcases List.mem_cons.mp (show x ∈ b :: odds r from h) with e | e
    · subst e; exact List.mem_cons_of_mem _ List.mem_cons_self
    · exact List.mem_cons_of_mem _ (List.mem_cons_of_mem _ (odds_mem (l := r) x e))
theorem evens_len : ∀ l : List Nat, (evens l).length ≤ l.length ∧ (odds l).length ≤ l.length
  | [] => ⟨Nat.le_refl _, Nat.le_refl _⟩
  | [_] => ⟨Nat.le_refl _, Nat.zero_le _⟩
  | a :: b :: r => by
    have ih := evens_len r
    simp only [evens, odds, List.length_cons]
    omega
theorem act_add_stream (s : Hv.Sum) (x w : Nat) : HvCalls.act s (.add x w) = HvCalls.act s (.stream [x, w]) := by
  by_cases h1 : w < 2 ^ 32
  · have hp : HvCalls.pairsOf [x, w] = some [(x, w)] := pairsOf_yes (l := [x, w]) rfl fun z hz => by
      rcases List.mem_cons.mp (show z ∈ [w] from hz) with e | e
      · rw [e]; exact h1
      · cases e
    by_cases h2 : s.n + w < 2 ^ 63
    · rw [act_add ⟨h1, h2⟩, act_stream hp (by rw [csum_cons, csum_nil]; omega)]
      rfl
    · rw [act_add_no (fun z => h2 z.2), act_stream_no hp (by rw [csum_cons, csum_nil]; omega)]
  · rw [act_add_no (fun z => h1 z.1), act_stream_bad (pairsOf_no (.inr ⟨w, by simp [odds], by omega⟩))]
/-! ### two put together -/
theorem countIn_put {l : List P2} (nd : (l.map fun y => y.1).Nodup) (x c z : Nat) : countIn (put l x c) z = if x = z then c else countIn l z := by
  rw [countIn_perm (put_keys_nd nd) (put_perm nd), countIn_cons_others]
theorem putAll_snoc (a l : List P2) (y : P2) : putAll (a ++ [y]) l = put (putAll a l) y.1 (countIn (putAll a l) y.1 + y.2) := by
  unfold putAll
  rw [List.foldl_append]
  rfl
theorem putAll_nd (a : List P2) : ∀ l : List P2, (l.map fun y => y.1).Nodup → ((putAll a l).map fun y => y.1).Nodup := by
  induction a with
  | nil => intro l h; exact h
  | cons z a ih => intro l h; exact ih _ (put_keys_nd h)
theorem putAll_len (a : List P2) : ∀ l : List P2, (putAll a l).length ≤ l.length + a.length := by
  induction a with
  | nil => intro l; exact Nat.le_refl _
  | cons z a ih =>
    intro l
    have h1 := ih (put l z.1 (countIn l z.1 + z.2))
    have h2 := put_len l z.1 (countIn l z.1 + z.2)
    have e : putAll (z :: a) l = putAll a (put l z.1 (countIn l z.1 + z.2)) := rfl
    rw [e, List.length_cons]
    omega
theorem countIn_putAll (a : List P2) : ∀ (l : List P2) (x : Nat), (l.map fun y => y.1).Nodup → x ∉ (a.map fun y => y.1) → countIn (putAll a l) x = countIn l x := by
  induction a with
  | nil => intro l x _ _; rfl
  | cons z a ih =>
    intro l x nd h
    rw [List.map_cons, List.mem_cons, not_or] at h
    have e : putAll (z :: a) l = putAll a (put l z.1 (countIn l z.1 + z.2)) := rfl
    rw [e, ih _ x (put_keys_nd nd) h.2, countIn_put nd, if_neg (Ne.symm h.1)]
theorem merged_kept {s u : Hv.Sum} {ds du : List P2} (hs : Tab s.tab) (hu : Tab u.tab) (p : ds.Perm s.tab) (q : du.Perm u.tab) : Hv.merged s u = kept s.k (s.n + u.n) (s.err + u.err) (putAll du ds) := by
  unfold Hv.merged
  refine kept_congr ?_
  have t1 : Tab ds := hs.perm p.symm
  have t2 : Tab du := hu.perm q.symm
  have a1 : (putAll du ds).Perm (both du s.tab) := putAll_perm p t1.nd
  have a2 : (both du s.tab).Perm (both s.tab du) := both_comm t2 hs
  have a3 : (both s.tab du).Perm (both s.tab u.tab) := (both_perm q t2.nd).1
  exact (a1.trans (a2.trans a3)).symm
end HvM

end
section
set_option Elab.async false
set_option linter.all false
set_option maxRecDepth 100000
set_option maxHeartbeats 4000000
namespace L2
open PySem PySem.Spec PyProof.Rows
/-! ### a dict's view as a value -/
def ViewO (T : String) (v d : Addr) : HO := .ext fun h => ∃ o, h.get? v = some o ∧ o.cls = .type T ∧ o.data = .fields #[.ref d]
theorem view_ok {P : Program} {w : World} {H : Hp} {h : Heap} {v d : Addr} {T : String} (e : h.get? v = some { cls := .type T, data := .fields #[.ref d] }) : ObjOk P w H h v (ViewO T v d) :=
  ⟨⟨_, e, rfl, rfl⟩, ⟨_, e⟩, fun h1 h2 ⟨o, a, b, c⟩ k => ⟨o, k o a, b, c⟩⟩
def tView (T : String) (td : TE) : TE := fun σ H Q => td σ H fun x H1 => ∃ d kvs, x = .ref d ∧ H1 d = some (.dK kvs) ∧ ∀ v, H1 v = none → Q (.ref v) (upd H1 v (ViewO T v d))
section
variable {X : Cx} {e : Expr} {td : TE} {apos cpos : Pos}
theorem pe_values (he : PE X e td) (hbase : attributeBase e "values" X.env (eval e X.env) = eval e X.env := by rfl) (hline : (apos.endLine == cpos.line) = true := by rfl) :
    PE X (.Call (.Attribute e "values" apos) [] [] cpos) (tView "dict_values" td) := by
  intro pins s σ H Q I h
  refine wpAny_Call_method (T := "dict") (id := "dict.values") hbase rfl hline F.plainAttrs_dict F.slot_dict_values F.type_dict_values (thn (he pins s σ H _ I h) fun u s1 ⟨x, H1, I1, rx, d, kvs, ex, hd, q⟩ => ?_)
  subst ex
  obtain rfl : u = Value.ref d := rx
  obtain ⟨z, hs, vs, kv, dd⟩ := dk_rd I1.hok (.inl hd)
  refine ⟨dd.typeIs, dd.mapOf.noDict, ?_⟩
  have fin : EP X pins σ Q (.ref s1.heap.objs.size) { s1 with heap := s1.heap.push { cls := .type "dict_values", data := .fields #[.ref d] } } :=
    ⟨.ref s1.heap.objs.size, upd H1 s1.heap.objs.size (ViewO "dict_values" _ d), I1.laid (t' := s1.toks) (fun b ob q => Heap.get?_push_of_some _ q) (Nat.le_refl _) (view_ok (Heap.get?_push_size _ rfl)), rfl, q _ (I1.hok.fresh (Nat.le_refl _))⟩
  show wpAny _ _ (callWith cpos (.builtin "dict.values") [.ref d] [] []) _ X.xe s1
  exact method_meetsIn F.slot_dict_values F.entry_dict_values rfl (PySem.evalArgs_none ⟨rfl, dd.typeIs, F.args_dict_values_1 _, _, meets_dict_values (mixKind X.prog X.w) d hs, ⟨vs, dd⟩, fin⟩)
theorem pe_items (he : PE X e td) (hbase : attributeBase e "items" X.env (eval e X.env) = eval e X.env := by rfl) (hline : (apos.endLine == cpos.line) = true := by rfl) :
    PE X (.Call (.Attribute e "items" apos) [] [] cpos) (tView "dict_items" td) := by
  intro pins s σ H Q I h
  refine wpAny_Call_method (T := "dict") (id := "dict.items") hbase rfl hline F.plainAttrs_dict F.slot_dict_items F.type_dict_items (thn (he pins s σ H _ I h) fun u s1 ⟨x, H1, I1, rx, d, kvs, ex, hd, q⟩ => ?_)
  subst ex
  obtain rfl : u = Value.ref d := rx
  obtain ⟨z, hs, vs, kv, dd⟩ := dk_rd I1.hok (.inl hd)
  refine ⟨dd.typeIs, dd.mapOf.noDict, ?_⟩
  have fin : EP X pins σ Q (.ref s1.heap.objs.size) { s1 with heap := s1.heap.push { cls := .type "dict_items", data := .fields #[.ref d] } } :=
    ⟨.ref s1.heap.objs.size, upd H1 s1.heap.objs.size (ViewO "dict_items" _ d), I1.laid (t' := s1.toks) (fun b ob q => Heap.get?_push_of_some _ q) (Nat.le_refl _) (view_ok (Heap.get?_push_size _ rfl)), rfl, q _ (I1.hok.fresh (Nat.le_refl _))⟩
  show wpAny _ _ (callWith cpos (.builtin "dict.items") [.ref d] [] []) _ X.xe s1
  exact method_meetsIn F.slot_dict_items F.entry_dict_items rfl (PySem.evalArgs_none ⟨rfl, dd.typeIs, F.args_dict_items_1 _, _, meets_dict_items (mixKind X.prog X.w) d hs, ⟨vs, dd⟩, fin⟩)
end
/-! ### a built-in called with keywords -/
def CallRK (X : Cx) (f : Value) (ks : List Str) (r : List V → List V → Hp → VK → Prop) : Prop :=
  ∀ (pins : List (Addr × Obj)) (s : Shared) (σ : St) (H : Hp) (xs : List V) (us : List Value) (zs : List V) (ws : List Value) (Q : VK), Inv X pins σ H s → Vals xs us → Vals zs ws → r xs zs H Q →
    wpAny (model X.prog X.w) X.A (call f us (ks.zip ws)) (EP X pins σ Q) X.xe s
def tCBK (r : List V → List V → Hp → VK → Prop) (t tk : TA) : TE := fun σ H Q => t σ H fun vs H1 => tk σ H1 fun zs H2 => r vs zs H2 Q
section
variable {X : Cx} {x : Str} {p pos : Pos} {e : Expr} {es : List Expr} {kws : List Keyword} {t tk : TA} {id : String} {ks : List Str} {r : List V → List V → Hp → VK → Prop}
theorem pe_callBK (hc : CallRK X (.builtin id) ks r) (hg : Gl X x) (hm : X.mg x = none) (hv : bootBuiltins x = some (.builtin id)) (ha : PA X (e :: es) t) (hkw : PK X kws tk)
    (hks : (backToKw pos (keywordEach kws X.env)).filterMap (·.1) = ks := by rfl) (hn : x ≠ "__name__" := by decide) (hdb : (x == ("__debug__" : Str)) = false := by decide)
    (he : backTo pos (starEach (e :: es) X.env) = (false, eval e X.env) :: backTo pos (starEach es X.env) := by rfl)
    (hplain : (backTo pos (starEach (e :: es) X.env)).any (·.1) = false := by rfl)
    (hall : (backToKw pos (keywordEach kws X.env)).all (·.1.isSome) = true := by rfl)
    (hkn : (backToKw pos (keywordEach kws X.env)).any (·.1.isNone) = false := by rfl) :
    PE X (.Call (.Name x p) (e :: es) kws pos) (tCBK r t tk) := by
  intro pins s σ H Q I h
  refine wpAny_Call_Name_kw (ld_blt I hg hm hv ?_ hn hdb)
  refine PyProof.Rows.callWith_kw (thn (ha pos pins s σ H _ I h) fun us s1 ⟨vs, H1, I1, r1, q1⟩ => ?_) he hplain hall hkn
  refine thn (hkw pos pins s1 σ H1 _ I1 q1) fun ws s2 ⟨zs, H2, I2, r2, q2⟩ => ?_
  rw [hks]
  exact hc pins s2 σ H2 vs us zs ws Q I2 r1 r2 q2
end
/-! ### sorted(d.values(), reverse = b), the values ints -/
theorem ints_items : ∀ {us : List Value} {ns : List Int}, us.length = ns.length → (∀ (i : Nat) (u : Value) (n : Int), us[i]? = some u → ns[i]? = some n → ∃ t, u = .int n t) → IntsAre us ns
  | [], [], _, _ => .nil
  | [], _ :: _, h, _ => by simp at h
  | _ :: _, [], h, _ => by simp at h
  | u :: us, n :: ns, h, k => by
    obtain ⟨t, e⟩ := k 0 u n rfl rfl
    subst e
    exact .cons n t (ints_items (by simpa using h) fun i u' n' e1 e2 => k (i + 1) u' n' (by simpa using e1) (by simpa using e2))
def rSortedVals : List V → List V → Hp → VK → Prop := fun xs zs H Q => ∃ (v d : Addr) (kvs : List (Key × V)) (ns : List Int) (b : Bool), xs = [.ref v] ∧ zs = [.bl b] ∧ H v = some (ViewO "dict_values" v d) ∧ H d = some (.dK kvs) ∧
  kvs.map (·.2) = ns.map V.int ∧ ∀ (ns' : List Int) (p : Addr), ns'.Perm ns → Ordered b ns' → H p = none → Q (.ref p) (upd H p (.lst (ns'.map V.int)))
theorem cr_sortedVals {X : Cx} (hc : X.calm = true) : CallRK X (.builtin "sorted") [Str.ofString "reverse"] rSortedVals := by
  rintro pins s σ H xs us zs ws Q I rx rz ⟨v, d, kvs, ns, b, rfl, rfl, hv, hd, hns, q⟩
  obtain rfl := Vals.ref1 rx
  obtain ⟨u, rfl, ru⟩ := Vals.one rz
  obtain rfl : u = Value.bool b := ru
  obtain ⟨z, hs, vs, kv, dd⟩ := dk_rd I.hok (.inl hd)
  obtain ⟨ep, hat⟩ := dd.dictAt
  obtain ⟨⟨ov, o1, o2, o3⟩, _⟩ := (show ObjOk X.prog X.w H s.heap v (ViewO "dict_values" v d) from I.hok v _ hv)
  have hl : kvs.length = vs.length := Paired.length kv
  have hln : ns.length = kvs.length := by
    have := congrArg List.length hns
    rw [List.length_map, List.length_map] at this
    exact this.symm
  refine call_function_entry_kw kind_sorted plain_sorted entry_sorted (args_sorted_rev _ _) ?_
  unfold Builtin.«sorted»
  refine wpAny_bind (m := checkCount "sorted" 1 1 _) (wpAny_pure ?_)
  refine wpAny_bind (PySem.W.kdu_collect (A := X.A.in1) (PySem.W.kdl_values (knd := mixKind X.prog X.w) (kvs := vs) (ep := ep)) (I.ok.hd hc) ⟨⟨ov, o1, o2, o3⟩, hat⟩ (by rw [← hl]; exact z) fun h' tk acc hk hacc => ?_)
  have la : acc.toList.length = vs.length := by rw [Array.length_toList]; exact hacc.1
  have hI : IntsAre acc.toList ns := by
    refine ints_items (by rw [la, hln, hl]) fun i u n e1 e2 => ?_
    obtain ⟨k, hx⟩ := hacc.2 i u (by rw [← Array.getElem?_toList]; exact e1)
    have hki : (kvs.map (·.2))[i]? = some (V.int n) := by rw [hns, List.getElem?_map, e2]; rfl
    rw [List.getElem?_map] at hki
    cases e3 : kvs[i]? with
    | none => rw [e3] at hki; cases hki
    | some kv0 =>
      rw [e3] at hki
      obtain ⟨k0, v0⟩ := kv0
      have ev : v0 = V.int n := Option.some.inj hki
      subst ev
      obtain ⟨u', hu', ru'⟩ := kv_get kv e3
      rw [hx] at hu'
      have e4 : u = u' := by
        have := Option.some.inj hu'
        exact (Prod.mk.inj this).2
      subst e4
      exact ru'
  have I1 : Inv X pins σ H { s with heap := h', toks := tk } := I.kept hk
  refine wpAny_bind (wpAny_newList ?_ (by rw [la, ← hl]; exact z))
  have hoL : (h'.push (seqObj "list" acc.toList.toArray 0)).get? h'.objs.size = some (seqObj "list" acc.toList.toArray 0) := Heap.get?_push_size _ rfl
  refine wpAny_bind (wpAny_holding (wpAny_call_entry_kw slot_list_sort ⟨_, hoL, rfl⟩ entry_list_sort (list_sort_tree_revAny (b := b) hoL hI (by rw [la, ← hl]; exact z) fun out ns' a1 a2 a3 => ⟨_, rfl, ?_⟩) (args_list_sort_rev _ _)))
  obtain ⟨ep2, he2⟩ := PyProof.Rows.sortedHeap_at (vs := acc.toList) (out := out) hoL
  have hlen : (ns'.map V.int).length ≤ sizeLine := by rw [List.length_map, a2.length_eq, hln]; exact z
  refine wpAny_pure ⟨_, rfl, ⟨.ref h'.objs.size, upd H h'.objs.size (.lst (ns'.map V.int)), I1.laid (t' := tk) (fun b0 u0 e0 => ?_) (Nat.le_refl _) ⟨hlen, out.toList, ep2, vals_of_ints a1, he2⟩, rfl, q ns' _ a2 a3 (I1.hok.fresh (Nat.le_refl _))⟩⟩
  have e1 : (h'.push (seqObj "list" acc.toList.toArray 0)).get? b0 = some u0 := Heap.get?_push_of_some _ e0
  rw [PyProof.Rows.sortedHeap_old (Nat.ne_of_lt (Heap.lt_size e0)) (Heap.lt_size e1)]
  exact e1
/-- for k, v in d.items(): the dict is locked and stays as it is -/
theorem for_items {d : Addr} {o : Obj} {kvs : List (Key × V)} {g : TG} {tb : TS} {D : Ends} {σ : St} {H : Hp} (Pv : Nat → St → Hp → Prop) (h0 : Pv 0 σ H) (hl : ∀ i σ H, i ≤ kvs.length → Pv i σ H → H d = some (.frz o (.dK kvs)))
    (hs : ∀ i k v σ H T, kvs[i]? = some (k, v) → Pv i σ H → H T = none → g (.ref T) σ (upd H T (.tup [kV k, v])) fun σ2 H2 => tb { D with nx := Pv (i + 1), ct := Pv (i + 1), bk := D.nx } σ2 H2) (hd : ∀ σ H, Pv kvs.length σ H → D.nx σ H) :
    ∃ W : Nat → Nat → St → Hp → Prop, (∃ m, W 0 m σ H) ∧ ∀ i m σ H, W i m σ H →
      ((Iti d o kvs).stop i H ∧ D.nx σ H) ∨ ((Iti d o kvs).go i H ∧ ∃ N : St → Hp → Prop, (∀ σ' H', N σ' H' → ∃ m', m' < m ∧ W (i + 1) m' σ' H') ∧ ∀ x H', (Iti d o kvs).yld i H x H' → g x σ H' fun σ2 H2 => tb { D with nx := N, ct := N, bk := D.nx } σ2 H2) := by
  refine ⟨fun i m σ H => m = kvs.length - i ∧ i ≤ kvs.length ∧ Pv i σ H, ⟨kvs.length, by simp, Nat.zero_le _, h0⟩, ?_⟩
  rintro i m σ H ⟨rfl, hi, p⟩
  have q := hl i σ H hi p
  by_cases hlt : i < kvs.length
  · refine .inr ⟨⟨q, hlt⟩, Pv (i + 1), fun σ' H' p' => ⟨kvs.length - (i + 1), by omega, rfl, hlt, p'⟩, fun x H' y => ?_⟩
    obtain ⟨T, k, v, e, rfl, hT, rfl⟩ := y
    exact hs i k v σ H T e p hT
  · have e : i = kvs.length := by omega
    subst e
    exact .inl ⟨⟨q, Nat.le_refl _⟩, hd σ H p⟩
end L2

end
section
set_option Elab.async false
set_option linter.all false
set_option maxRecDepth 100000
set_option maxHeartbeats 4000000
namespace L2
open PySem PySem.Spec PyProof.Rows
/-! ### a dict of the module's top, ints to ints -/
def rowsB : List DictEntry → List (Int × Int) → Bool
  | [], [] => true
  | e :: es, y :: D => decide (e.hash = hashInt y.1) && (Value.isInt y.1 e.key && (Value.isInt y.2 e.val && rowsB es D))
  | _, _ => false
def dictB (o : Obj) (D : List (Int × Int)) : Bool := match o.cls, o.dict, o.data with
  | .type "dict", none, .dict es _ => o.slots.isEmpty && rowsB es.toList D
  | _, _, _ => false
structure DctK (K : PySem.W.Frag) (a : Addr) (D : List (Int × Int)) : Prop where
  ex : ∃ o : Obj, K.lookup a = some o ∧ dictB o D = true
  nd : (D.map (·.1)).Nodup
  ns : (a == sysModules) = false
def kvD (D : List (Int × Int)) : List (Key × V) := D.map fun y => (Sum.inl y.1, V.int y.2)
def vsOf : List DictEntry → List (Int × Int) → List (Key × Value)
  | e :: es, y :: D => (Sum.inl y.1, e.val) :: vsOf es D
  | _, _ => []
theorem rows_ok (P : Program) (w : World) : ∀ {es : List DictEntry} {D : List (Int × Int)}, rowsB es D = true →
    KV (kvD D) (vsOf es D) ∧ Pairs (mixKind P w) es (vsOf es D) ∧ (∀ e ∈ es, ∃ k, (mixKind P w).is k e.key = true ∧ e.hash = (mixKind P w).hash k) ∧ (vsOf es D).map (·.1) = D.map fun y => (Sum.inl y.1 : Key)
  | [], [], _ => ⟨.nil, .nil, (fun _ h => nomatch h), rfl⟩
  | [], _ :: _, h => by cases h
  | _ :: _, [], h => by cases h
  | e :: es, y :: D, h => by
    unfold rowsB at h
    rw [Bool.and_eq_true, Bool.and_eq_true, Bool.and_eq_true] at h
    obtain ⟨h1, h2, h3, h4⟩ := h
    obtain ⟨a, b, c, d⟩ := rows_ok P w h4
    refine ⟨.cons ⟨rfl, Value.isInt_shape h3⟩ a, .cons h2 rfl b, fun e' he => ?_, by show Sum.inl y.1 :: _ = _; rw [d]; rfl⟩
    rcases List.mem_cons.mp he with q | q
    · subst q
      exact ⟨Sum.inl y.1, h2, of_decide_eq_true h1⟩
    · exact c e' q
theorem nodup_inl : ∀ {D : List (Int × Int)}, (D.map (·.1)).Nodup → (D.map fun y => (Sum.inl y.1 : Key)).Nodup
  | [], _ => List.nodup_nil
  | y :: D, h => by
    rw [List.map_cons, List.nodup_cons] at h ⊢
    refine ⟨fun m => h.1 ?_, nodup_inl h.2⟩
    obtain ⟨z, hz, e⟩ := List.mem_map.mp m
    exact List.mem_map.mpr ⟨z, hz, Sum.inl.inj e⟩
theorem DctK.dict {K : PySem.W.Frag} {a : Addr} {D : List (Int × Int)} (d : DctK K a D) (P : Program) (w : World) {h : Heap} (X : K.In h) : ∃ vs, KV (kvD D) vs ∧ h.DictOf (mixKind P w) a vs := by
  obtain ⟨o, l, b⟩ := d.ex
  unfold dictB at b
  split at b
  · rename_i es ep hc hd hdt
    rw [Bool.and_eq_true] at b
    obtain ⟨r1, r2, r3, r4⟩ := rows_ok P w b.2
    have hs : o.slots = #[] := by simpa using b.1
    exact ⟨_, r1, o, es, ep, X a o l, ⟨hc, hd, hs⟩, hdt, (fun e he => r3 e (by simpa using he)), r2, by rw [r4]; exact nodup_inl d.nd⟩
  · cases b
theorem valV_kvD (D : List (Int × Int)) (k : Int) : valV (kvD D) (Sum.inl k) = (D.lookup k).map V.int := by
  induction D with
  | nil => rfl
  | cons y D ih =>
    show valV ((Sum.inl y.1, V.int y.2) :: kvD D) (Sum.inl k) = _
    by_cases e : y.1 = k
    · rw [valV_pos (show ((Sum.inl y.1, V.int y.2) : Key × V).1 = Sum.inl k by rw [e]), List.lookup_cons, show (k == y.1) = true by simp [e]]
      rfl
    · rw [valV_neg (fun q => e (Sum.inl.inj q)), ih, List.lookup_cons, show (k == y.1) = false by simp [Ne.symm e]]
def tDGetC (K : PySem.W.Frag) (td ty : TE) : TE := fun σ H Q => td σ H fun x H1 => ty σ H1 fun y H2 => ∃ a D k v, x = .ref a ∧ DctK K a D ∧ y = .int k ∧ D.lookup k = some v ∧ Q (.int v) H2
def tDInC (K : PySem.W.Frag) (ty td : TE) : TE := fun σ H Q => ty σ H fun y H1 => td σ H1 fun x H2 => ∃ a D k, x = .ref a ∧ DctK K a D ∧ y = .int k ∧ Q (.bl (D.lookup k).isSome) H2
section
variable {X : Cx} {o i : Expr} {pos : Pos} {td ty : TE}
theorem pe_dgetC (ho : PE X o td) (hi : PE X i ty) (hs : NoSl i) : PE X (.Subscript o i pos) (tDGetC X.K td ty) := by
  intro pins s σ H Q I h
  refine subD_of PySem.F.slot_dict_getitem.lookup hs (thn (ho pins s σ H _ I h) fun u s1 ⟨x, H1, I1, rx, q1⟩ => thn (hi pins s1 σ H1 _ I1 q1) fun iv s2 ⟨y, H2, I2, ry, a, D, k, v, ex, d, ey, l, q2⟩ => ?_)
  subst ex ey
  obtain rfl : u = Value.ref a := rx
  obtain ⟨vs, rel, dd⟩ := d.dict X.prog X.w I2.kIn
  obtain ⟨w', hw, rw'⟩ := RelO.some_of (v := V.int v) (o := valueAt vs (Sum.inl k)) (by
    have q := KV.val rel (Sum.inl k)
    rw [valV_kvD, l] at q
    exact q)
  exact ⟨dd.typeIs, wpAny_getItem_of (kV_is (k := Sum.inl k) ry) dd.mapOf hw ⟨V.int v, H2, I2.tok _, rw', q2⟩⟩
theorem pc_dinC (hi : PE X i ty) (ho : PE X o td) : PC X .In i o (tDInC X.K ty td) := by
  intro pins s σ H Q I h
  refine thn (hi pins s σ H _ I h) fun iv s1 ⟨y, H1, I1, ry, q1⟩ => thn (ho pins s1 σ H1 _ I1 q1) fun u s2 ⟨x, H2, I2, rx, a, D, k, ex, d, ey, q2⟩ => ?_
  subst ex ey
  obtain rfl : u = Value.ref a := rx
  obtain ⟨vs, rel, dd⟩ := d.dict X.prog X.w I2.kIn
  refine wpAny_in_of (kV_is (k := Sum.inl k) ry) d.ns dd.mapOf ?_
  have q := (KV.val rel (Sum.inl k)).isSome_eq
  rw [valV_kvD] at q
  rw [← q]
  exact ⟨.bl _, H2, I2.tok _, (by rw [Option.isSome_map]; rfl), q2⟩
end
end L2

end
section
set_option Elab.async false
set_option linter.all false
set_option maxRecDepth 100000
set_option maxHeartbeats 4000000
namespace L2
open PySem PySem.Spec PyProof.Rows
/-! ### sorting by a key that is a tuple of ints -/
/-- the one stands at or before the other -/
def LexLe (x y : List Int) : Prop := PyProof.Rows.lexLt itemOrd (y.map Sum.inl) (x.map Sum.inl) = false
theorem lexLe2 {a b c d : Int} : LexLe [a, b] [c, d] ↔ a < c ∨ (a = c ∧ b ≤ d) := by
  unfold LexLe
  simp only [List.map_cons, List.map_nil, PyProof.Rows.lexLt, itemOrd, itemLt]
  simp
  omega
theorem items_ints {zs : List Int} : ∀ {its : List Value} (i : Nat), Vals (zs.map V.int) its → tupItems (fun _ => false) i its = some (zs.map Sum.inl) := by
  induction zs with
  | nil => intro its i r; cases r; rfl
  | cons z zs ih =>
    intro its i r
    rw [List.map_cons] at r
    cases r with
    | cons r1 r2 =>
      obtain ⟨t, rfl⟩ := r1
      unfold tupItems
      rw [if_neg Bool.false_ne_true, ih (i + 1) r2]
      rfl
section
variable {X : Cx} {pins : List (Addr × Obj)} {σ : St} {H : Hp} {s : Shared}
theorem Inv.tupAt (I : Inv X pins σ H s) {b : Addr} {xs : List V} (h : H b = some (.tup xs)) : ∃ (its : List Value) (o : Obj) (n : Nat), Vals xs its ∧ s.heap.get? b = some o ∧ o.cls = .type "tuple" ∧ o.data = .seq its.toArray n := by
  obtain ⟨_, its, r, o, e, c, n, d⟩ := I.hok b _ h
  exact ⟨its, o, n, r, e, c, d⟩
theorem Inv.tupKey (I : Inv X pins σ H s) {b : Addr} {zs : List Int} (h : H b = some (.tup (zs.map V.int))) : G.tupKeyC s.heap (fun _ => false) (.ref b) = some (zs.map Sum.inl) := by
  obtain ⟨its, o, n, r, e, c, d⟩ := I.tupAt h
  unfold G.tupKeyC
  rw [if_pos (by unfold G.isTupObj; simp only [e, c]; rfl)]
  unfold PyProof.Rows.tupKey
  simp only [e, d]
  exact items_ints 0 r
/-- what a key function does with a thing: a tuple of ints comes back, what was tracked stays -/
def KeyCall (X : Cx) (A : Around) (f a : Addr) (H0 : Hp) (zs : List Int) : Prop :=
  ∀ (pins : List (Addr × Obj)) (s : Shared) (σ : St) (H : Hp), Inv X pins σ H s → (∀ b o, H0 b = some o → H b = some o) →
    wpAny (model X.prog X.w) A (call (.ref f) [.ref a]) (EP X pins σ fun v H' => ∃ b, v = .ref b ∧ H' b = some (.tup (zs.map V.int)) ∧ Same H H') (fun _ _ => False) s
def rv : Value → Addr
  | .ref a => a
  | _ => 0
theorem vals_refs : ∀ as : List Addr, Vals (as.map V.ref) (as.map Value.ref)
  | [] => .nil
  | a :: as => .cons rfl (vals_refs as)
/-- keys and things as the sort has them -/
theorem zip_refs (bs as : List Addr) : (bs.map Value.ref).zip (as.map Value.ref) = (bs.zip as).map fun p => (Value.ref p.1, Value.ref p.2) := by
  rw [List.zip_map]
  exact List.map_congr_left fun ⟨a, b⟩ _ => rfl
theorem sort_out {h : Heap} {kf : Addr → List Int} {bs as : List Addr} {st : Array Keyed} (hl : bs.length = as.length)
    (hk : ∀ (j : Nat) (b a : Addr), bs[j]? = some b → as[j]? = some a → G.tupKeyC h (fun _ => false) (.ref b) = some ((kf a).map Sum.inl))
    (hp : st.Perm ((bs.map Value.ref).toArray.zip (as.map Value.ref).toArray)) (hs : SortedToK (G.tupKindC h fun _ => false) st st.size) :
    ∃ as' : List Addr, (st.map (·.2)).toList = as'.map Value.ref ∧ as'.Perm as ∧ as'.Pairwise fun a b => LexLe (kf a) (kf b) := by
  have hl2 : st.toList.Perm ((bs.zip as).map fun p => (Value.ref p.1, Value.ref p.2)) := by
    rw [← zip_refs]
    have := Array.perm_iff_toList_perm.mp hp
    simpa using this
  have mem : ∀ p ∈ st.toList, ∃ q ∈ bs.zip as, p = (Value.ref q.1, Value.ref q.2) := fun p hp' => by
    obtain ⟨q, hq, e⟩ := List.mem_map.mp (hl2.mem_iff.mp hp')
    exact ⟨q, hq, e.symm⟩
  have key : ∀ q ∈ bs.zip as, G.tupKeyC h (fun _ => false) (.ref q.1) = some ((kf q.2).map Sum.inl) := fun q hq => by
    obtain ⟨j, hj⟩ := List.mem_iff_getElem?.mp hq
    obtain ⟨h1, h2⟩ := List.getElem?_zip_eq_some.mp hj
    exact hk j q.1 q.2 h1 h2
  refine ⟨st.toList.map fun p => rv p.2, ?_, ?_, ?_⟩
  · rw [Array.toList_map, List.map_map]
    refine List.map_congr_left fun p hp' => ?_
    obtain ⟨q, _, rfl⟩ := mem p hp'
    rfl
  · refine (hl2.map fun p => rv p.2).trans ?_
    rw [List.map_map]
    have e : (bs.zip as).map ((fun p : Value × Value => rv p.2) ∘ fun p => (Value.ref p.1, Value.ref p.2)) = as := by
      have e1 : ((fun p : Value × Value => rv p.2) ∘ fun p : Addr × Addr => (Value.ref p.1, Value.ref p.2)) = Prod.snd := rfl
      rw [e1, List.map_snd_zip (by omega)]
    rw [e]
  · rw [List.pairwise_map, List.pairwise_iff_getElem]
    intro i j hi hj hij
    have hi' : i < st.size := by simpa using hi
    have hj' : j < st.size := by simpa using hj
    have q := hs i j (Nat.le_of_lt hij) hj'
    obtain ⟨qi, mi, ei⟩ := mem _ (List.getElem_mem hi)
    obtain ⟨qj, mj, ej⟩ := mem _ (List.getElem_mem hj)
    have ki : KK (G.tupKindC h fun _ => false) st i = (kf qi.2).map Sum.inl := by
      unfold KK
      rw [Array.getElem?_eq_getElem hi']
      have e2 : st[i] = (Value.ref qi.1, Value.ref qi.2) := by rw [← ei]; simp
      rw [e2]
      show (G.tupKeyC h (fun _ => false) (Value.ref qi.1)).getD [] = _
      rw [key qi mi]
      rfl
    have kj : KK (G.tupKindC h fun _ => false) st j = (kf qj.2).map Sum.inl := by
      unfold KK
      rw [Array.getElem?_eq_getElem hj']
      have e2 : st[j] = (Value.ref qj.1, Value.ref qj.2) := by rw [← ej]; simp
      rw [e2]
      show (G.tupKeyC h (fun _ => false) (Value.ref qj.1)).getD [] = _
      rw [key qj mj]
      rfl
    rw [ki, kj] at q
    rw [ei, ej]
    exact q
theorem refs_inv : ∀ {as : List Addr} {us : List Value}, Vals (as.map V.ref) us → us = as.map Value.ref
  | [], _, r => by cases r; rfl
  | a :: as, _, r => by
    rw [List.map_cons] at r
    cases r with
    | cons r1 r2 =>
      cases (show _ = Value.ref a from r1)
      rw [refs_inv r2]
      rfl
theorem key_tail {A : Around} {E : Value → Shared → Prop} {P : PySem.Fin → Shared → Prop} (I : Inv X pins σ H s) {l kS : Addr} {ys : List V} {e1 : Nat} (hk : H kS = some (.lst ys)) (hl : H l = some (.frz (seqObj "list" #[] e1) (.lst [])))
    (hn : ∀ o' u', X.H_0 l ≠ some (.frz o' u')) {st : SortSt} {as' : List Addr} (hout : ((arrOf st).map (·.2)).toList = as'.map Value.ref) (hz : as'.length ≤ sizeLine) (hf : failedOf st = none)
    (h : ∀ (s' : Shared) (H' : Hp), (∀ b o, H b = some o → b ≠ l → b ≠ kS → H' b = some o) → Inv X pins σ (upd H' l (.lst (as'.map V.ref))) s' → P (.done (.ret .none)) s') :
    wpAny (model X.prog X.w) A (ksk_tail l false e1 (.ref kS) st) P E s := by
  have hkl : kS ≠ l := ne_of hk hl (by intro z; cases z)
  obtain ⟨z, its, n, r, hlen, e⟩ := I.lstM hk
  have I1 := I.lset (f := fun _ => (#[] : Array Value)) (its' := []) (ys := []) (t' := s.toks) hk e rfl .nil (Nat.zero_le _)
  have hl1 : (upd H kS (.lst [])) l = some (.frz (seqObj "list" #[] e1) (.lst [])) := by rw [upd_ne (Ne.symm hkl)]; exact hl
  have I2 := I1.unlock hl1 hn
  have el : (s.heap.update kS (Obj.mapSeq fun _ => (#[] : Array Value))).get? l = some (seqObj "list" #[] e1) := (I1.hok l _ hl1).1
  unfold ksk_tail
  dsimp only
  refine wpAny_bind (listUpdate_at e rfl ?_ (by rw [List.size_toArray, ← hlen]; exact z) (Nat.zero_le _))
  refine wpAny_bind (wpAny_letGo ?_)
  refine wpAny_bind (seqEpoch_at el rfl ?_)
  have hsz : ((arrOf st).map (·.2)).size = as'.length := by
    have := congrArg List.length hout
    rw [Array.length_toList, List.length_map] at this
    exact this
  refine wpAny_bind (listUpdate_at el rfl ?_ (Nat.zero_le _) (by simp only [Bool.false_eq_true, if_false]; rw [hsz]; omega))
  rw [hf]
  simp only [bne_self_eq_false, Bool.false_eq_true, if_false]
  have I3 := I2.lset (f := fun _ => (arrOf st).map (·.2)) (its := []) (its' := as'.map Value.ref) (ys := as'.map V.ref) (t' := s.toks) upd_same el (by rw [← hout, Array.toArray_toList]) (vals_refs as') (by rw [List.length_map]; exact hz)
  refine wpAny_pure (h _ (upd (upd H kS (.lst [])) l (.lst [])) (fun b o hb b1 b2 => by rw [upd_ne b1, upd_ne b2]; exact hb) I3)
theorem sort_key {A : Around} {E : Value → Shared → Prop} {P : PySem.Fin → Shared → Prop} (I : Inv X pins σ H s) {l f : Addr} {as : List Addr} (hH : H l = some (.lst (as.map V.ref))) (kf : Addr → List Int) (H0 : Hp)
    (hne : ∀ a ∈ as, ∃ z r, kf a = z :: r) (h0 : ∀ b o, H0 b = some o → b ≠ l ∧ H b = some o) (hkey : ∀ a ∈ as, KeyCall X A f a H0 (kf a))
    (h : ∀ (s' : Shared) (H' : Hp) (as' : List Addr), as'.Perm as → as'.Pairwise (fun a b => LexLe (kf a) (kf b)) → (∀ b o, H b = some o → b ≠ l → H' b = some o) → Inv X pins σ (upd H' l (.lst (as'.map V.ref))) s' → P (.done (.ret .none)) s') :
    wpAny (model X.prog X.w) A (ksk_tree l (.ref f) false) P E s := by
  obtain ⟨z, its, n, r, hlen, e⟩ := I.lstM hH
  obtain rfl := refs_inv r
  rw [List.length_map] at z
  have I1 := I.lset (f := fun _ => (#[] : Array Value)) (its' := []) (ys := []) (t' := s.toks) hH e rfl .nil (Nat.zero_le _)
  have nofrz : ∀ o' u', X.H_0 l ≠ some (.frz o' u') := I.nofrz hH trivial
  obtain ⟨e1, ho1⟩ : ∃ e1, (s.heap.update l (Obj.mapSeq fun _ => (#[] : Array Value))).get? l = some (seqObj "list" #[] e1) := ⟨_, get?_update_seq e fun _ => #[]⟩
  obtain ⟨od, I2⟩ := I1.lock (d := l) upd_same trivial
  have hod : od = seqObj "list" #[] e1 := by
    have q := (I2.hok l _ upd_same).1
    exact Option.some.inj (q.symm.trans ho1)
  subst hod
  unfold ksk_tree
  refine wpAny_bind (listItems_at e rfl ?_)
  refine wpAny_bind (listUpdate_at e rfl ?_ (by rw [List.size_toArray, List.length_map]; exact z) (Nat.zero_le _))
  refine wpAny_bind (seqEpoch_at ho1 rfl ?_)
  refine wpAny_bind (wpAny_newTuple ?_ (by simpa using z))
  have I3 := I2.kept (h' := (s.heap.update l (Obj.mapSeq fun _ => (#[] : Array Value))).push { cls := .type "tuple", data := .seq ((as.map Value.ref).toArray.toList).toArray }) (t' := s.toks) fun b u q => Heap.get?_push_of_some _ q
  refine wpAny_bind (wpAny_newList ?_ (Nat.zero_le _))
  have I4 := I3.lnew (its := []) (ys := []) (t' := s.toks) .nil (Nat.zero_le _)
  refine wpAny_holding ?_
  generalize hkS : ((s.heap.update l (Obj.mapSeq fun _ => (#[] : Array Value))).push { cls := .type "tuple", data := .seq ((as.map Value.ref).toArray.toList).toArray }).objs.size = kS at I4
  have hkl : l ≠ kS := by
    have q := I3.hok.fresh (a := kS) (by rw [← hkS]; exact Nat.le_refl _)
    exact ne_of_none (show (upd (upd H l (.lst [])) l (.frz (seqObj "list" #[] e1) (.lst []))) l = some _ from upd_same) q
  have hfk : ∀ b o, H b = some o → b ≠ kS := fun b o hb => by
    have q := I3.hok.fresh (a := kS) (by rw [← hkS]; exact Nat.le_refl _)
    by_cases hbl : b = l
    · rw [hbl]; exact hkl
    · refine ne_of_none (o := o) ?_ q
      rw [upd_ne hbl, upd_ne hbl]; exact hb
  unfold ksk_rest
  refine wpAny_bind (wpAny_rule ?_)
  first
    | rw [List.forIn_toArray]
    | (rw [← Array.forIn_toList]; simp only [List.toList_toArray])
  refine wpAny_bind (ksk_fold (fun i s' => ∃ (bs : List Addr) (H' : Hp), Inv X pins σ H' s' ∧ H' kS = some (.lst (bs.map V.ref)) ∧ H' l = some (.frz (seqObj "list" #[] e1) (.lst [])) ∧ (∀ b o, H b = some o → b ≠ l → H' b = some o) ∧
      bs.length = i ∧ ∀ (j : Nat) (b a : Addr), bs[j]? = some b → as[j]? = some a → H' b = some (.tup ((kf a).map V.int))) (as.map Value.ref) 0 _ ⟨[], _, I4, upd_same, ?_, ?_, rfl, fun j b a q => (by simp at q)⟩ ?step ?done)
  · rw [upd_ne hkl]; exact upd_same
  · intro b o hb hbl
    rw [upd_ne (hfk b o hb), upd_ne hbl, upd_ne hbl]; exact hb
  case step =>
    rintro j x s' hx ⟨bs, H', I', h1, h2, h3, h4, h5⟩
    rw [List.getElem?_map] at hx
    cases ha : as[j]? with
    | none => rw [ha] at hx; cases hx
    | some a =>
      rw [ha] at hx
      have ex : Value.ref a = x := Option.some.inj hx
      subst ex
      rw [Nat.zero_add] at h4 ⊢
      have hm := List.mem_of_getElem? ha
      refine wpAny_bind (wpAny_attempt (wpAny_mono (hkey a hm pins s' σ H' I' fun b o hb => h3 b o (h0 b o hb).2 (h0 b o hb).1) (fun v s'' hv => ?_) fun _ _ hF => hF.elim))
      obtain ⟨v0, H'', I'', r0, b, rfl, hb, sm⟩ := hv
      obtain rfl : v = Value.ref b := r0
      obtain ⟨z2, its2, n2, r2, hl2, e2⟩ := I''.lstM (sm _ _ h1)
      obtain rfl := refs_inv r2
      have hjl : j < as.length := (List.getElem?_eq_some_iff.mp ha).1
      dsimp only
      refine wpAny_bind (listUpdate_at e2 rfl ?_ (by rw [List.size_toArray, List.length_map, h4]; omega) (by rw [Array.size_push, List.size_toArray, List.length_map, h4]; omega))
      have I5 := I''.lset (f := fun k => k.push (Value.ref b)) (its' := (bs ++ [b]).map Value.ref) (ys := (bs ++ [b]).map V.ref) (t' := s''.toks) (sm _ _ h1) e2 (by simp) (vals_refs _) (by rw [List.length_map, List.length_append, h4]; simp; omega)
      have hlk : l ≠ kS := hkl
      refine wpAny_pure ⟨rfl, bs ++ [b], _, I5, upd_same, ?_, ?_, ?_, ?_⟩
      · rw [upd_ne hlk]; exact sm _ _ h2
      · intro c o hc hcl
        rw [upd_ne (hfk c o hc)]; exact sm _ _ (h3 c o hc hcl)
      · rw [List.length_append, h4]; rfl
      · intro i b' a' hb' ha'
        by_cases hij : i < bs.length
        · rw [List.getElem?_append_left hij] at hb'
          have q := sm _ _ (h5 i b' a' hb' ha')
          rw [upd_ne (ne_of q (sm _ _ h1) (by intro z; cases z))]
          exact q
        · have hi : i = bs.length := by
            have := (List.getElem?_eq_some_iff.mp hb').1
            rw [List.length_append, List.length_singleton] at this
            omega
          subst hi
          rw [List.getElem?_append_right (Nat.le_refl _), Nat.sub_self] at hb'
          have eb : b = b' := Option.some.inj hb'
          subst eb
          rw [h4, ha] at ha'
          have ea : a = a' := Option.some.inj ha'
          subst ea
          rw [upd_ne (ne_of hb (sm _ _ h1) (by intro z; cases z))]
          exact hb
  case done =>
    rintro s' ⟨bs, H', I', h1, h2, h3, h4, h5⟩
    rw [List.length_map, Nat.zero_add] at h4
    obtain ⟨z2, its2, n2, r2, hl2, e2⟩ := I'.lstM h1
    obtain rfl := refs_inv r2
    try dsimp only
    refine wpAny_bind (listItems_at e2 rfl ?_)
    have hk : ∀ (j : Nat) (b a : Addr), bs[j]? = some b → as[j]? = some a → G.tupKeyC s'.heap (fun _ => false) (.ref b) = some ((kf a).map Sum.inl) := fun j b a q1 q2 => I'.tupKey (h5 j b a q1 q2)
    have hz1 : ((bs.map Value.ref).toArray.zip (as.map Value.ref).toArray).size = as.length := by simp; omega
    unfold ksk_end
    simp only [Bool.false_eq_true, if_false]
    have fin : ∀ (st : SortSt) (as' : List Addr), ((arrOf st).map (·.2)).toList = as'.map Value.ref → as'.Perm as → as'.Pairwise (fun a b => LexLe (kf a) (kf b)) → failedOf st = none → wpAny (model X.prog X.w) A (ksk_tail l false e1 (.ref kS) st) P E s' := fun st as' q1 q2 q3 q4 =>
      key_tail I' h1 h2 nofrz q1 (by rw [q2.length_eq]; exact z) q4 fun s3 H3 k3 I6 => h s3 H3 as' q2 q3 (fun b o hb hbl => k3 b o (h3 b o hb hbl) hbl (hfk b o hb)) I6
    by_cases hlt : (as.map Value.ref).toArray.size < 2
    · rw [if_pos hlt, if_pos hlt]
      refine wpAny_bind (wpAny_pure ?_)
      rw [StateT.run_pure]
      refine wpAny_bind (wpAny_pure ?_)
      dsimp only
      obtain ⟨as', q1, q2, q3⟩ := sort_out (h := s'.heap) (kf := kf) (bs := bs) (as := as) (st := (bs.map Value.ref).toArray.zip (as.map Value.ref).toArray) h4 hk (Array.Perm.refl _) (fun i j hij hj => by
        rw [hz1] at hj
        simp at hlt
        have : i = j := by omega
        subst this
        exact KeyOrd.kle_refl _)
      exact fin _ as' q1 q2 q3 rfl
    · rw [if_neg hlt, if_neg hlt]
      have hge : 2 ≤ as.length := by simp at hlt; omega
      have tups : ∀ (bs as : List Addr), bs.length = as.length → (∀ a ∈ as, ∃ z r, kf a = z :: r) → (∀ (j : Nat) (b a : Addr), bs[j]? = some b → as[j]? = some a → H' b = some (.tup ((kf a).map V.int))) → ∃ fs, TupsOf s'.heap (fun _ => false) (bs.map Value.ref) fs ∧ fs.length = bs.length := by
        intro bs
        induction bs with
        | nil => intro as _ _ _; exact ⟨[], .nil, rfl⟩
        | cons b bs ih =>
          intro as hl' hne' h5'
          cases as with
          | nil => simp at hl'
          | cons a as =>
            obtain ⟨fs, t1, t2⟩ := ih as (by simpa using hl') (fun a' ha' => hne' a' (List.mem_cons_of_mem _ ha')) fun j b' a' q1 q2 => h5' (j + 1) b' a' (by simpa using q1) (by simpa using q2)
            obtain ⟨its3, o3, n3, r3, g1, g2, g3⟩ := I'.tupAt (h5' 0 b a rfl rfl)
            obtain ⟨z0, r0, ek⟩ := hne' a List.mem_cons_self
            rw [ek, List.map_cons] at r3
            cases r3 with
            | cons w1 w2 =>
              obtain ⟨t0, rfl⟩ := w1
              exact ⟨_ :: fs, .cons ⟨b, o3, _, n3, rfl, g1, g2, g3, rfl, fun _ => ⟨z0, t0, rfl⟩, fun q => absurd q Bool.false_ne_true⟩ t1, by simp [t2]⟩
      obtain ⟨fs, t1, t2⟩ := tups bs as h4 hne h5
      refine wpAny_bind (tup_kind (by rw [t2, h4]; omega) t1 ?_)
      refine wpAny_bind (wpAny_mono (G.wpS_sortRunsSt (κ := G.tupKindC s'.heap fun _ => false) (kd := tuples' true) (a₀ := (bs.map Value.ref).toArray.zip (as.map Value.ref).toArray) (st := SortSt.mk' (tuples' true) ((bs.map Value.ref).toArray.zip (as.map Value.ref).toArray) #[] 7 none)
        (Q := fun _ st' => (arrOf st').Perm ((bs.map Value.ref).toArray.zip (as.map Value.ref).toArray) ∧ failedOf st' = none ∧ SortedToK (G.tupKindC s'.heap fun _ => false) (arrOf st') ((bs.map Value.ref).toArray.zip (as.map Value.ref).toArray).size)
        (G.tupC_ltAt (s := s') true (G.KeepsTups.refl _)) (fun p hp => ?_) ⟨Array.Perm.refl _, rfl, rfl⟩ rfl (Stable.refl _) (by rw [hz1]; exact hge) fun st' a1 a2 a3 a4 => ⟨a1, a2, a3⟩) ?_ fun _ _ e => e)
      · have hp' : p ∈ (bs.zip as).map fun p => (Value.ref p.1, Value.ref p.2) := by
          rw [← zip_refs]
          simpa using hp
        obtain ⟨q, hq, rfl⟩ := List.mem_map.mp hp'
        obtain ⟨j, hj⟩ := List.mem_iff_getElem?.mp hq
        obtain ⟨g1, g2⟩ := List.getElem?_zip_eq_some.mp hj
        exact ⟨_, hk j q.1 q.2 g1 g2⟩
      · rintro ⟨⟨⟩, st'⟩ s2 ⟨rfl, a1, a2, a3⟩
        dsimp only
        obtain ⟨as', q1, q2, q3⟩ := sort_out (h := s2.heap) (kf := kf) (bs := bs) (as := as) (st := arrOf st') h4 hk a1 (by rw [a1.size_eq]; exact a3)
        exact fin st' as' q1 q2 q3 a2
/-- several new tuples are tracked at once -/
def HT (H : Hp) (as : List Addr) (ky : Addr → Key × V) : Hp := fun b => if b ∈ as then some (.tup [kV (ky b).1, (ky b).2]) else H b
theorem HT_in {as : List Addr} {ky : Addr → Key × V} {a : Addr} (h : a ∈ as) : HT H as ky a = some (.tup [kV (ky a).1, (ky a).2]) := by unfold HT; rw [if_pos h]
theorem HT_out {as : List Addr} {ky : Addr → Key × V} {a : Addr} (h : a ∉ as) : HT H as ky a = H a := by unfold HT; rw [if_neg h]
theorem Inv.tracked {as : List Addr} {ky : Addr → Key × V} {h' : Heap} {t' : Nat} (I : Inv X pins σ H s) (hk : ∀ b o, s.heap.get? b = some o → h'.get? b = some o) (hn : ∀ a ∈ as, s.heap.objs.size ≤ a)
    (ho : ∀ a ∈ as, ∃ key x, h'.get? a = some { cls := .type "tuple", data := .seq #[key, x] } ∧ RelV (kV (ky a).1) key ∧ RelV (ky a).2 x) : Inv X pins σ (HT H as ky) { s with heap := h', toks := t' } := by
  have fresh : ∀ a ∈ as, H a = none := fun a ha => I.hok.fresh (hn a ha)
  have nin : ∀ b o, H b = some o → b ∉ as := fun b o e z => by rw [fresh b z] at e; cases e
  have fp : ∀ a ∈ as, FpOk X pins H a := fun a ha => I.fpOk (hn a ha) (fresh a ha)
  refine I.step (g' := s.gens) (d' := s.drawn) (ch := as) (fun b hb => ⟨(fp b hb).2.2.2.1, (fp b hb).2.1, (fp b hb).2.2.2.2.1, (fp b hb).2.2.2.2.2⟩) (fun b o _ _ _ e _ => hk b o e) (fun b o _ _ _ e _ => ⟨o.slots, hk b o e⟩)
    (fun b o hb e n => by rw [HT_out hb]; exact n) (fun b o _ e => ⟨o, hk b o e⟩) (fun b xs e => by rw [HT_out (nin b _ e)]; exact e) (fun b o u e => by rw [HT_out (nin b _ e)]; exact e) (fun b ps e => ⟨#[], by rw [HT_out (nin b _ e), e]; simp⟩) (fun m hm => ?_) (fun b u e => ?_) I.bare
  · obtain ⟨o, es, ep, e, r⟩ := hm
    exact ⟨o, es, ep, hk _ o e, r⟩
  · by_cases hb : b ∈ as
    · rw [HT_in hb] at e
      cases e
      obtain ⟨key, x, g, r1, r2⟩ := ho b hb
      exact ⟨by show 2 ≤ sizeLine; decide, [key, x], .cons r1 (.cons r2 .nil), ⟨_, g, rfl, _, rfl⟩⟩
    · rw [HT_out hb] at e
      exact (I.hok b u e).stay (fun c v _ q => hk c v q) (fun c q => by rw [HT_out (nin c _ q)]; exact q) fun c xs q => by rw [HT_out (nin c _ q)]; exact q
/-- the pair that stands at an address -/
def kyOf (as : List Addr) (kvs : List (Key × V)) (a : Addr) : Key × V := ((as.zip kvs).lookup a).getD (Sum.inl 0, V.non)
theorem kyOf_at : ∀ {as : List Addr} {kvs : List (Key × V)}, as.Nodup → as.length = kvs.length → ∀ {j : Nat} {a : Addr} {y : Key × V}, as[j]? = some a → kvs[j]? = some y → kyOf as kvs a = y
  | [], _, _, _, j, a, y, h, _ => by simp at h
  | c :: as, [], _, hl, _, _, _, _, _ => by simp at hl
  | c :: as, x :: kvs, nd, hl, 0, a, y, h1, h2 => by
    simp at h1 h2
    subst h1 h2
    unfold kyOf
    simp [List.lookup]
  | c :: as, x :: kvs, nd, hl, j + 1, a, y, h1, h2 => by
    rw [List.nodup_cons] at nd
    have h1' : as[j]? = some a := by simpa using h1
    have h2' : kvs[j]? = some y := by simpa using h2
    have ih := kyOf_at nd.2 (by simpa using hl) h1' h2'
    have ne : (a == c) = false := by
      rw [beq_eq_false_iff_ne]
      intro e
      exact nd.1 (e ▸ List.mem_of_getElem? h1')
    unfold kyOf at ih ⊢
    rw [List.zip_cons_cons, List.lookup_cons, ne]
    exact ih
theorem kyOf_map {as : List Addr} {kvs : List (Key × V)} (nd : as.Nodup) (hl : as.length = kvs.length) : as.map (kyOf as kvs) = kvs := by
  apply List.ext_getElem?
  intro j
  rw [List.getElem?_map]
  cases e : as[j]? with
  | none =>
    have h1 := List.getElem?_eq_none_iff.mp e
    rw [List.getElem?_eq_none_iff.mpr (by omega)]
    rfl
  | some a =>
    have h1 := (List.getElem?_eq_some_iff.mp e).1
    obtain ⟨y, hy⟩ : ∃ y, kvs[j]? = some y := ⟨_, List.getElem?_eq_getElem (by omega)⟩
    rw [hy, ← kyOf_at nd hl e hy]
    rfl
/-- sorted(d.items(), key = f), the keys tuples of ints -/
def rSortedItems (X : Cx) : List V → List V → Hp → VK → Prop := fun xs zs H Q => ∃ (v d f : Addr) (kvs : List (Key × V)) (kf : Key × V → List Int), xs = [.ref v] ∧ zs = [.ref f] ∧ H v = some (ViewO "dict_items" v d) ∧ H d = some (.dK kvs) ∧
  (∀ y ∈ kvs, ∃ z r, kf y = z :: r) ∧ (∀ y ∈ kvs, ∀ (a : Addr) (H0 : Hp), H0 a = some (.tup [kV y.1, y.2]) → Same H H0 → KeyCall X X.A.in1.in1 f a H0 (kf y)) ∧
  ∀ (H' : Hp) (p : Addr) (as' : List Addr) (ys' : List (Key × V)), Same H H' → H p = none → ys'.Perm kvs → ys'.Pairwise (fun x y => LexLe (kf x) (kf y)) → Paired (fun a y => H' a = some (.tup [kV y.1, y.2])) as' ys' → H' p = some (.lst (as'.map V.ref)) → Q (.ref p) H'
theorem cr_sortedItems (hc : X.calm = true) : CallRK X (.builtin "sorted") [Str.ofString "key"] (rSortedItems X) := by
  rintro pins s σ H xs us zs ws Q I rx rz ⟨v, d, f, kvs, kf, rfl, rfl, hv, hd, hne, hkc, q⟩
  obtain rfl := Vals.ref1 rx
  obtain rfl := Vals.ref1 rz
  obtain ⟨z, hs, vs, kv, dd⟩ := dk_rd I.hok (.inl hd)
  obtain ⟨ep, hat⟩ := dd.dictAt
  obtain ⟨⟨ov, o1, o2, o3⟩, _⟩ := (show ObjOk X.prog X.w H s.heap v (ViewO "dict_items" v d) from I.hok v _ hv)
  have hl : kvs.length = vs.length := Paired.length kv
  refine call_function_entry_kw kind_sorted plain_sorted entry_sorted (ksk_s1 _ _) ?_
  unfold Builtin.«sorted»
  refine wpAny_bind (m := checkCount "sorted" 1 1 _) (wpAny_pure ?_)
  refine wpAny_bind (PySem.W.kdx_collect (A := X.A.in1) (knd := mixKind X.prog X.w) (kvs := vs) (ep := ep) (I.ok.hd hc) ⟨ov, o1, o2, o3⟩ hat (by rw [← hl]; exact z) fun h' tk as hk hla g => ?_)
  have nd : as.Nodup := g.rise.imp fun h e => absurd e (Nat.ne_of_lt h)
  have hla2 : as.length = kvs.length := by rw [hla, hl]
  have hge : ∀ a ∈ as, s.heap.objs.size ≤ a := fun a ha => Nat.le_of_lt (g.above a ha)
  have I1 : Inv X pins σ (HT H as (kyOf as kvs)) { s with heap := h', toks := tk } := I.tracked hk hge fun a ha => by
    obtain ⟨j, hj⟩ := List.mem_iff_getElem?.mp ha
    obtain ⟨key, k, x, e1, e2, e3⟩ := g.pairs j a hj
    obtain ⟨y, hy⟩ : ∃ y, kvs[j]? = some y := ⟨_, List.getElem?_eq_getElem (by have := (List.getElem?_eq_some_iff.mp hj).1; omega)⟩
    obtain ⟨k0, v0⟩ := y
    obtain ⟨u', hu', ru'⟩ := kv_get kv hy
    rw [e1] at hu'
    obtain ⟨ek, ex⟩ := Prod.mk.inj (Option.some.inj hu')
    subst ek ex
    rw [kyOf_at nd hla2 hj hy]
    exact ⟨key, x, e3, relV_key e2, ru'⟩
  have sm1 : Same H (HT H as (kyOf as kvs)) := fun b o e => by
    rw [HT_out fun w => by rw [I.hok.fresh (hge b w)] at e; cases e]
    exact e
  refine wpAny_bind (wpAny_newList ?_ (by rw [List.length_map, hla2]; exact z))
  have I2 := I1.lnew (its := as.map Value.ref) (ys := as.map V.ref) (t' := tk) (vals_refs as) (by rw [List.length_map, hla2]; exact z)
  have hfr : HT H as (kyOf as kvs) h'.objs.size = none := I1.fresh
  have hoL : (h'.push (seqObj "list" (as.map Value.ref).toArray 0)).get? h'.objs.size = some (seqObj "list" (as.map Value.ref).toArray 0) := Heap.get?_push_size _ rfl
  have mem : ∀ a ∈ as, kyOf as kvs a ∈ kvs := fun a ha => by
    have := List.mem_map_of_mem (f := kyOf as kvs) ha
    rwa [kyOf_map nd hla2] at this
  refine wpAny_bind (wpAny_holding (wpAny_call_entry_kw slot_list_sort ⟨_, hoL, rfl⟩ entry_list_sort ?body (ksk_l1 _ _)))
  show wpAny (model X.prog X.w) X.A.in1.in1 (Builtin.«list.sort» ⟨[.ref h'.objs.size], [(Str.ofString "key", .ref f)]⟩) _ _ _
  rw [ksk_t1]
  refine sort_key I2 upd_same (fun a => kf (kyOf as kvs a)) (HT H as (kyOf as kvs)) (fun a ha => hne _ (mem a ha)) (fun b o e => ⟨ne_of_none e hfr, by rw [upd_ne (ne_of_none e hfr)]; exact e⟩)
    (fun a ha => hkc _ (mem a ha) a _ (HT_in ha) sm1) fun s' H' as' p1 p2 p3 I3 => ⟨_, rfl, wpAny_pure ⟨_, rfl, ⟨.ref h'.objs.size, _, I3, rfl, ?_⟩⟩⟩
  refine q _ h'.objs.size as' (as'.map (kyOf as kvs)) (fun b o e => ?_) ?_ ?_ ?_ ?_ upd_same
  · have e2 := sm1 b o e
    rw [upd_ne (ne_of_none e2 hfr)]
    exact p3 b o (by rw [upd_ne (ne_of_none e2 hfr)]; exact e2) (ne_of_none e2 hfr)
  · cases w : H h'.objs.size with
    | none => rfl
    | some o => rw [sm1 _ _ w] at hfr; cases hfr
  · have := p1.map (kyOf as kvs)
    rwa [kyOf_map nd hla2] at this
  · rw [List.pairwise_map]
    exact p2
  · have all : ∀ (l : List Addr), (∀ a ∈ l, a ∈ as) → Paired (fun a y => (upd H' h'.objs.size (.lst (as'.map V.ref))) a = some (.tup [kV y.1, y.2])) l (l.map (kyOf as kvs)) := by
      intro l
      induction l with
      | nil => intro _; exact .nil
      | cons a l ih =>
        intro hm
        have ha := hm a List.mem_cons_self
        have e2 : HT H as (kyOf as kvs) a = _ := HT_in ha
        refine .cons ?_ (ih fun b hb => hm b (List.mem_cons_of_mem _ hb))
        show (upd H' h'.objs.size (.lst (as'.map V.ref))) a = some (.tup [kV (kyOf as kvs a).1, (kyOf as kvs a).2])
        rw [upd_ne (ne_of_none e2 hfr)]
        exact p3 a _ (by rw [upd_ne (ne_of_none e2 hfr)]; exact e2) (ne_of_none e2 hfr)
    exact all as' fun a ha => p1.mem_iff.mp ha
end
end L2

end
section
set_option Elab.async false
set_option linter.all false
set_option maxRecDepth 100000
set_option maxHeartbeats 4000000
namespace L2
open PySem PySem.Spec PyProof.Rows
/-- a def of the text as a key function -/
theorem keycall_fn {X : Cx} {k : Nat} {f a : Addr} {fd : FuncData} {x : Str} {sp : Sp} {H0 : Hp} {zs : List Int} (F : FnOk X.prog X.w X.K X.mg X.base CX0 k f fd [x] sp) (hr : Room (k + 2) X.A) (hb : Binds X.K fd [x] [])
    (h : ∀ (H : Hp) (Q : VK), (∀ b o, H0 b = some o → H b = some o) → (∀ (H' : Hp) (b : Addr), H' b = some (.tup (zs.map V.int)) → Same H H' → Q (.ref b) H') → sp [.ref a] H Q E0) : KeyCall X X.A.in1.in1 f a H0 zs := by
  intro pins s σ H I hs
  have r2 : Vals [V.ref a] [Value.ref a] := .cons rfl .nil
  refine wpAny_call (codeAny_mono (F.run X.A.in1.in1 X.stack s H ⟨[.ref a], []⟩ [.ref a] [.ref a] (fun v H' => ∃ b, v = .ref b ∧ H' b = some (.tup (zs.map V.int)) ∧ Same H H') E0 hr.in1.in1 I.env0.in1.in1 (hb s [.ref a] I.kIn rfl) r2
    (h H _ hs fun H' b h1 h2 => ⟨b, rfl, h1, h2⟩)) fun r s' hq => ?_)
  cases r with
  | error e => exact (show False from hq)
  | ok fl =>
    cases fl with
    | ret u => exact I.after hq
    | next => exact False.elim hq
    | brk => exact False.elim hq
    | cont => exact False.elim hq
end L2

end
section
set_option Elab.async false
set_option linter.all false
set_option maxRecDepth 100000
set_option maxHeartbeats 4000000
namespace HvM
open PySem PySem.Spec PyProof.Rows L2
/-! ### a dict of counts as the heap has it -/
def kvI (d : List P2) : List (Key × V) := d.map fun y => (Sum.inl (y.1 : Int), V.int (y.2 : Int))
theorem kvI_len (d : List P2) : (kvI d).length = d.length := by unfold kvI; rw [List.length_map]
theorem kvI_cons (y : P2) (d : List P2) : kvI (y :: d) = (Sum.inl (y.1 : Int), V.int (y.2 : Int)) :: kvI d := rfl
theorem key_eq {a b : Nat} : ((Sum.inl (a : Int) : Key) = Sum.inl (b : Int)) ↔ a = b := by
  constructor
  · intro h
    injection h with h
    omega
  · rintro rfl; rfl
theorem valV_kvI (d : List P2) (x : Nat) : valV (kvI d) (Sum.inl (x : Int)) = if (d.any fun y => y.1 == x) = true then some (V.int (Hv.countIn d x : Nat)) else none := by
  induction d with
  | nil => rfl
  | cons y d ih =>
    rw [kvI_cons]
    by_cases e : y.1 = x
    · rw [valV_pos (key_eq.mpr e), countIn_pos e, if_pos (by simp [e])]
    · rw [valV_neg (fun q => e (key_eq.mp q)), ih, countIn_neg e]
      have : ((y :: d).any fun y => y.1 == x) = (d.any fun y => y.1 == x) := by simp [e]
      rw [this]
theorem getD_kvI (d : List P2) (x : Nat) : (valV (kvI d) (Sum.inl (x : Int))).getD (V.int 0) = V.int (Hv.countIn d x : Nat) := by
  rw [valV_kvI]
  by_cases h : (d.any fun y => y.1 == x) = true
  · rw [if_pos h]; rfl
  · rw [if_neg h, countIn_none fun q => h (has_iff.mpr q)]; rfl
theorem isSome_kvI (d : List P2) (x : Nat) : (valV (kvI d) (Sum.inl (x : Int))).isSome = (d.any fun y => y.1 == x) := by
  rw [valV_kvI]
  cases h : (d.any fun y => y.1 == x) with
  | true => rw [if_pos rfl]; rfl
  | false => rw [if_neg Bool.false_ne_true]; rfl
theorem any_kvI (d : List P2) (x : Nat) : ((kvI d).any fun kv => decide (kv.1 = Sum.inl (x : Int))) = (d.any fun y => y.1 == x) := by
  rw [valV_any, isSome_kvI]
theorem putK_kvI (d : List P2) (x c : Nat) : putK (kvI d) (Sum.inl (x : Int)) (V.int (c : Int)) = kvI (put d x c) := by
  unfold putK put
  rw [any_kvI]
  by_cases h : (d.any fun y => y.1 == x) = true
  · rw [if_pos h, if_pos h]
    unfold kvI
    rw [List.map_map, List.map_map]
    refine List.map_congr_left fun y _ => ?_
    show (if (Sum.inl (y.1 : Int) : Key) = Sum.inl (x : Int) then _ else _) = _
    by_cases e : y.1 = x
    · rw [if_pos (key_eq.mpr e)]
      simp [e]
    · rw [if_neg fun q => e (key_eq.mp q)]
      simp [e]
  · rw [if_neg h, if_neg h]
    unfold kvI
    rw [List.map_append]
    rfl
theorem vals_kvI (d : List P2) : (kvI d).map (·.2) = ((d.map fun y => (y.2 : Int))).map V.int := by
  unfold kvI
  rw [List.map_map, List.map_map]
  rfl
theorem ints_desc {d : List P2} {ns : List Int} (p : ns.Perm (d.map fun y => (y.2 : Int))) (h : Ordered true ns) : ns = ((Hv.sorted d).map fun y => y.2).map fun (c : Nat) => (c : Int) := by
  refine uniq (R := fun (a b : Int) => b ≤ a) (fun _ _ a b => Int.le_antisymm b a) (p.trans ?_) h ?_
  · rw [List.map_map]
    exact ((sorted_perm d).map _).symm
  · rw [List.pairwise_map]
    exact (sorted_counts d).imp fun h => Int.ofNat_le.mpr h
theorem kvI_at {d : List P2} {i : Nat} {k : Key} {v : V} (h : (kvI d)[i]? = some (k, v)) : ∃ y, d[i]? = some y ∧ k = Sum.inl (y.1 : Int) ∧ v = V.int (y.2 : Int) := by
  unfold kvI at h
  rw [List.getElem?_map] at h
  cases e : d[i]? with
  | none => rw [e] at h; cases h
  | some y =>
    rw [e] at h
    have := Option.some.inj h
    exact ⟨y, rfl, (Prod.mk.inj this).1.symm, (Prod.mk.inj this).2.symm⟩
theorem take_snoc {α : Type} {l : List α} {i : Nat} {x : α} (h : l[i]? = some x) : l.take (i + 1) = l.take i ++ [x] := by
  rw [List.take_add_one, h]; rfl
theorem not_in_take {d : List P2} (nd : (d.map fun y => y.1).Nodup) {i : Nat} {y : P2} (h : d[i]? = some y) : y.1 ∉ (d.take i).map fun y => y.1 := by
  intro m
  have hs : (d.take i ++ [y]).Sublist d := by rw [← take_snoc h]; exact List.take_sublist _ _
  have n2 := (hs.map fun y => y.1).nodup nd
  rw [List.map_append, List.nodup_append] at n2
  exact n2.2.2 _ m _ (by simp) rfl
theorem lessBy_short (c : Nat) (l : List P2) : (Hv.lessBy c l).length ≤ l.length := by
  unfold Hv.lessBy
  rw [List.length_map]
  exact List.length_filter_le _ _
/-! ### parts of a list -/
theorem cut_mid {a b c : List V} {i j : Int} (hi : i = (a.length : Int)) (hj : j = ((a.length + b.length : Nat) : Int)) : cutV (a ++ (b ++ c)) (some i) (some j) = b := by
  unfold cutV
  have h1 : HT.sIx (a ++ (b ++ c)).length 0 (some i) = a.length := by
    show (if i < 0 then (i + _).toNat else min i.toNat _) = _
    rw [if_neg (by omega), List.length_append]
    omega
  have h2 : HT.sIx (a ++ (b ++ c)).length (a ++ (b ++ c)).length (some j) = a.length + b.length := by
    show (if j < 0 then (j + _).toNat else min j.toNat _) = _
    rw [if_neg (by omega), List.length_append, List.length_append]
    omega
  rw [h1, h2, List.drop_left, Nat.add_sub_cancel_left, List.take_left]
theorem at_mid {a c : List V} {x : V} {i : Int} (hi : i = (a.length : Int)) : atI (a ++ x :: c) i = some x :=
  at_of (j := a.length) hi (by rw [List.getElem?_append_right (Nat.le_refl _), Nat.sub_self]; rfl)
end HvM

end
section
set_option Elab.async false
set_option linter.all false
set_option maxRecDepth 100000
namespace HvM
open PySem PySem.Spec PyProof.Rows L2
/-! ### the table's order as a sort by (-count, key) tells it -/
def keyN : Key × V → List Int
  | (.inl k, .int c) => [-c, k]
  | _ => [0]
def unI : Key × V → P2
  | (.inl k, .int c) => (k.toNat, c.toNat)
  | _ => (0, 0)
theorem unI_kvI (d : List P2) : (kvI d).map unI = d := by
  unfold kvI
  rw [List.map_map]
  conv => rhs; rw [← List.map_id d]
  refine List.map_congr_left fun y _ => ?_
  show ((y.1 : Int).toNat, (y.2 : Int).toNat) = y
  rw [Int.toNat_natCast, Int.toNat_natCast]
theorem kvI_unI {d : List P2} {ys : List (Key × V)} (p : ys.Perm (kvI d)) : kvI (ys.map unI) = ys := by
  unfold kvI
  rw [List.map_map]
  conv => rhs; rw [← List.map_id ys]
  refine List.map_congr_left fun y hy => ?_
  obtain ⟨z, _, rfl⟩ := List.mem_map.mp (p.mem_iff.mp hy)
  show (Sum.inl (((z.1 : Int).toNat : Nat) : Int), V.int (((z.2 : Int).toNat : Nat) : Int)) = (Sum.inl (z.1 : Int), V.int (z.2 : Int))
  rw [Int.toNat_natCast, Int.toNat_natCast]
theorem sorted_rows {d : List P2} {ys : List (Key × V)} (p : ys.Perm (kvI d)) (h : ys.Pairwise fun x y => LexLe (keyN x) (keyN y)) : ys = kvI (Hv.sorted d) := by
  have p1 : (ys.map unI).Perm d := by
    have := p.map unI
    rwa [unI_kvI] at this
  have h1 : (ys.map unI).Pairwise Le2 := by
    rw [List.pairwise_map]
    refine List.Pairwise.imp_of_mem (fun {a b} ha hb hab => ?_) h
    obtain ⟨x, _, rfl⟩ := List.mem_map.mp (p.mem_iff.mp ha)
    obtain ⟨y, _, rfl⟩ := List.mem_map.mp (p.mem_iff.mp hb)
    have q : LexLe [-(x.2 : Int), (x.1 : Int)] [-(y.2 : Int), (y.1 : Int)] := hab
    rw [lexLe2] at q
    rw [le2_iff]
    show ((y.2 : Int).toNat < (x.2 : Int).toNat ∨ ((x.2 : Int).toNat = (y.2 : Int).toNat ∧ (x.1 : Int).toNat ≤ (y.1 : Int).toNat))
    rw [Int.toNat_natCast, Int.toNat_natCast, Int.toNat_natCast, Int.toNat_natCast]
    omega
  rw [sorted_is p1 h1, kvI_unI p]
end HvM

end
section
set_option Elab.async false
set_option linter.all false
set_option maxRecDepth 100000
set_option maxHeartbeats 4000000
namespace L2
open PySem PySem.Spec PyProof.Rows
/-! ### more calls over a dict's view; dict(d) -/
theorem kv_vals : ∀ {kvs : List (Key × V)} {vs : List (Key × Value)}, KV kvs vs → Vals (kvs.map (·.2)) (vs.map (·.2))
  | _, _, .nil => .nil
  | _, _, .cons h t => .cons h.2 (kv_vals t)
theorem preSum_ints : ∀ ns : List Int, preSum (fun i => (ns[i]?).getD 0) ns.length = ns.sum
  | [] => rfl
  | n :: ns => by
    rw [List.length_cons, PySem.W.kdu_shift, List.sum_cons, ← preSum_ints ns]
    rfl
def rSumVals : List V → Hp → VK → Prop := fun xs H Q => ∃ (v d : Addr) (kvs : List (Key × V)) (ns : List Int), xs = [.ref v] ∧ H v = some (ViewO "dict_values" v d) ∧ H d = some (.dK kvs) ∧ kvs.map (·.2) = ns.map V.int ∧ Q (.int ns.sum) H
theorem cr_sumVals {X : Cx} (hc : X.calm = true) : CallR X (.builtin "sum") rSumVals := by
  rintro pins s σ H xs us Q I rx ⟨v, d, kvs, ns, rfl, hv, hd, hns, q⟩
  obtain rfl := Vals.ref1 rx
  obtain ⟨z, hs, vs, kv, dd⟩ := dk_rd I.hok (.inl hd)
  obtain ⟨ep, hat⟩ := dd.dictAt
  obtain ⟨⟨ov, o1, o2, o3⟩, _⟩ := (show ObjOk X.prog X.w H s.heap v (ViewO "dict_values" v d) from I.hok v _ hv)
  have Ks := PySem.W.kdl_values (prog := X.prog) (w := X.w) (r := v) (d := d) (knd := mixKind X.prog X.w) (kvs := vs) (ep := ep)
  have hok : s.heap.IsValuesView v d ∧ s.heap.DictAt (mixKind X.prog X.w) d vs ep := ⟨⟨ov, o1, o2, o3⟩, hat⟩
  have hl : ns.length = vs.length := by
    have e1 := congrArg List.length hns
    rw [List.length_map, List.length_map] at e1
    rw [← e1]
    exact Paired.length kv
  obtain ⟨oI, St, hit, W, st⟩ := Ks.iter X.A.in1 s (I.ok.hd hc) hok
  refine call_sum_walkAnyS (hit _ _ ⟨s.heap.objs.size, _, _, _, vs.length, _, _, fun i => (ns[i]?).getD 0, rfl, W.toS, st, fun b hb => ?_, fun i u hu => ?_, fun s' t' hm => ?_⟩)
  · show b < (s.heap.push oI).objs.size
    rw [Heap.size_push]
    rcases List.mem_cons.mp hb with e | hb
    · rw [e]; exact Nat.lt_succ_self _
    · rw [List.mem_singleton.mp hb]; exact Nat.lt_succ_of_lt (Ks.there _ hok).2
  · obtain ⟨k, hx⟩ := hu
    have hi : i < vs.length := by
      obtain ⟨a, _⟩ := List.getElem?_eq_some_iff.mp hx
      exact a
    obtain ⟨n, hn⟩ : ∃ n, ns[i]? = some n := ⟨_, List.getElem?_eq_getElem (by omega)⟩
    have hki : (kvs.map (·.2))[i]? = some (V.int n) := by rw [hns, List.getElem?_map, hn]; rfl
    rw [List.getElem?_map] at hki
    cases e3 : kvs[i]? with
    | none => rw [e3] at hki; cases hki
    | some kv0 =>
      rw [e3] at hki
      obtain ⟨k0, v0⟩ := kv0
      have ev : v0 = V.int n := Option.some.inj hki
      subst ev
      obtain ⟨u', hu', ru'⟩ := kv_get kv e3
      rw [hx] at hu'
      have e4 : u = u' := (Prod.mk.inj (Option.some.inj hu')).2
      subst e4
      obtain ⟨t, rfl⟩ := ru'
      refine ⟨t, ?_⟩
      show Value.int n t = Value.int ((ns[i]?).getD 0) t
      rw [hn]
      rfl
  · have hk : ∀ b o, s.heap.get? b = some o → s'.heap.get? b = some o := fun b o e =>
      hm.heap b o (fun hI => absurd (Heap.lt_size e) (by rw [List.mem_singleton.mp hI]; exact Nat.lt_irrefl _)) (Heap.get?_push_of_some _ e)
    have es := Moved.eq_with hm
    rw [← hl, preSum_ints]
    rw [es]
    exact ⟨.int _, H, I.kept hk, ⟨_, rfl⟩, q⟩
def rListVals : List V → Hp → VK → Prop := fun xs H Q => ∃ (v d : Addr) (kvs : List (Key × V)), xs = [.ref v] ∧ H v = some (ViewO "dict_values" v d) ∧ H d = some (.dK kvs) ∧ ∀ l, H l = none → Q (.ref l) (upd H l (.lst (kvs.map (·.2))))
theorem call_listVals {X : Cx} (hc : X.calm = true) : CallR X (.type "list") rListVals := by
  rintro pins s σ H xs us Q I rx ⟨v, d, kvs, rfl, hv, hd, q⟩
  obtain rfl := Vals.ref1 rx
  obtain ⟨z, hs, vs, kv, dd⟩ := dk_rd I.hok (.inl hd)
  obtain ⟨ep, hat⟩ := dd.dictAt
  obtain ⟨⟨ov, o1, o2, o3⟩, _⟩ := (show ObjOk X.prog X.w H s.heap v (ViewO "dict_values" v d) from I.hok v _ hv)
  have hl : kvs.length = vs.length := Paired.length kv
  refine PySem.W.kdl_call (PySem.W.kdl_values (r := v) (d := d) (knd := mixKind X.prog X.w) (kvs := vs) (ep := ep)) (I.ok.hd hc) ⟨⟨ov, o1, o2, o3⟩, hat⟩ (by rw [← hl]; exact z) fun h' tk acc c' hk hS hacc => ?_
  have ea : acc.toList = vs.map (·.2) := PySem.W.kdl_vals_eq acc.toList (by rw [Array.length_toList]; exact hacc.1) fun j u e => hacc.2 j u (by rw [← Array.getElem?_toList]; exact e)
  refine ⟨.ref s.heap.objs.size, upd H s.heap.objs.size (.lst (kvs.map (·.2))), I.laid (t' := tk) hk (Nat.le_refl _) ⟨by rw [List.length_map]; exact z, acc.toList, c', by rw [ea]; exact kv_vals kv, hS⟩, rfl, q _ (I.hok.fresh (Nat.le_refl _))⟩
def rDictD : List V → Hp → VK → Prop := fun xs H Q => ∃ (d : Addr) (kvs : List (Key × V)), xs = [.ref d] ∧ H d = some (.dK kvs) ∧ ∀ p, H p = none → Q (.ref p) (upd H p (.dK kvs))
theorem call_dictD {X : Cx} : CallR X (.type "dict") rDictD := by
  rintro pins s σ H xs us Q I rx ⟨d, kvs, rfl, hd, q⟩
  obtain rfl := Vals.ref1 rx
  obtain ⟨z, hs, vs, kv, dd⟩ := dk_rd I.hok (.inl hd)
  have hl : kvs.length = vs.length := Paired.length kv
  have hm : (s.heap.objs.size == sysModules) = false := beq_eq_false_iff_ne.mpr (Nat.ne_of_gt I.big)
  refine kt_call_dict hs dd (by rw [← hl]; exact z) fun h' hn hsb => ?_
  refine ⟨.ref s.heap.objs.size, upd H s.heap.objs.size (.dK kvs), I.laid (t' := s.toks) (fun b o e => hsb.extBut b o (Nat.ne_of_lt (Heap.lt_size e)) (Heap.get?_push_of_some _ e)) (Nat.le_refl _) (show ObjOk X.prog X.w _ _ _ (.dK kvs) from ⟨z, hm, vs, kv, hn⟩), rfl, q _ (I.hok.fresh (Nat.le_refl _))⟩
/-! ### max(xs, default = z) -/
theorem args_max_default (a v : Value) : argsOk "max" ⟨[a], [(Str.ofString "default", v)]⟩ := by unfold argsOk; kernel_rfl
section
variable {prog : Program} {w : World} {A : Around} {R : Result → Shared → Prop} {I l : Addr} {its : Array Value}
/-- the loop behind its first turn: the best so far stands in S -/
theorem maxd_loop (hh : A.handled = none) (hIl : l ≠ I) (f : Nat → Int) (hf : ∀ (i : Nat) (v : Value), its[i]? = some v → ∃ t : Tok, v = Value.int (f i) t) (S : Addr) (hSI : S ≠ I) (hSl : S ≠ l) (d : Value) :
    ∀ (r j : Nat) (s : Shared) (b : Nat) (tb : Tok) (c : Nat), its.size = j + 1 + r → s.heap.IsListIter I l (j + 1) → s.heap.IsList l its → b ≤ j → (∀ i, i ≤ j → f i ≤ f b) →
      s.heap.get? S = some { cls := .type "list", dict := none, data := .seq #[.int (f b) tb, .int (f b) tb] c, slots := #[] } →
      (∀ b' t' h' tk, b' < its.size → (∀ i, i < its.size → f i ≤ f b') → (∀ x o, x ≠ I → x ≠ S → s.heap.get? x = some o → h'.get? x = some o) → R (.ok (.ret (.int (f b') t'))) { s with heap := h', toks := tk }) →
      codeAny (model prog w) A (.builtin "max.loop" ⟨[.ref I, .none, .ref S], [(Str.ofString "default", d)]⟩) R s := by
  have W := Walks.list (prog := prog) (w := w) (A := A.in1) hh I l hIl its
  have hname : (toString "max" ++ toString ".loop" : String) = "max.loop" := by decide
  have cmp := CmpOf.ints_gt (prog := prog) (w := w) (A := A.in1) (P := fun i v => its[i]? = some v) f hf
  have nI : ∀ {x : Addr}, x ≠ I → x ∉ [I] := fun h z => h (List.mem_singleton.mp z)
  intro r
  induction r with
  | zero =>
    intro j s b tb c hr hi hl hb hm hS hR
    refine codeAny_builtin F.entry_max_loop ?_
    rw [Around.under_plainId F.plain_max_loop _]
    show wpAny _ A.in1 (seqItems? (.ref S) >>= _) _ _ s
    refine wpAny_bind (wpAny_seqItems hS rfl ?_)
    show wpAny _ A.in1 (tryCatch (pyNext (.ref I)) _ >>= _) _ _ s
    refine wpAny_bind (wpAny_tryCatch (W.done s _ _ (by rw [hr]; exact ⟨hi, hl⟩) fun h' tk kp => ?_))
    have hS2 := kp S _ (nI hSI) hS
    show wpAny _ A.in1 (updateSeq S (fun _ => #[]) >>= _) _ _ _
    refine wpAny_bind (wpAny_updateSeq hS2 rfl (wpAny_bind (wpAny_letGo (wpAny_pure ?_))))
    exact hR b tb _ tk (by omega) (fun i h => hm i (by omega)) fun x o h1 h2 e => (Heap.get?_update_other _ _ (Ne.symm h2)).trans (kp x o (nI h1) e)
  | succ r ih =>
    intro j s b tb c hr hi hl hb hm hS hR
    refine codeAny_builtin F.entry_max_loop ?_
    rw [Around.under_plainId F.plain_max_loop _]
    show wpAny _ A.in1 (seqItems? (.ref S) >>= _) _ _ s
    refine wpAny_bind (wpAny_seqItems hS rfl ?_)
    show wpAny _ A.in1 (tryCatch (pyNext (.ref I)) _ >>= _) _ _ s
    refine wpAny_bind (wpAny_tryCatch (W.item (j + 1) s _ _ (by omega) ⟨hi, hl⟩ fun v h' tk hP st kp => ?_))
    obtain ⟨st1, st2⟩ := st
    obtain ⟨tv, rfl⟩ := hf _ _ hP
    have hS2 := kp S _ (nI hSI) hS
    obtain ⟨vb, hvb⟩ : ∃ vb, its[b]? = some vb := ⟨_, Array.getElem?_eq_getElem (by omega)⟩
    show wpAny _ A.in1 (tryCatch (holding [Value.int (f (j + 1)) tv, Value.int (f (j + 1)) tv] (richCompare .Gt (.int (f (j + 1)) tv) (.int (f b) tb) >>= _)) _ >>= _) _ _ _
    refine wpAny_bind (wpAny_tryCatch (wpAny_holding (wpAny_bind ((CmpOf.ints_gt (P := fun i v => ∃ t, v = .int (f i) t) f fun _ _ z => z) (j + 1) b _ _ _ _ _ ⟨_, rfl⟩ ⟨_, rfl⟩ ?_))))
    refine wpAny_bind (wpAny_holding (wpAny_truthy_bool (wpAny_bind (wpAny_letGo (wpAny_pure ?_)))))
    by_cases hgt : f (j + 1) > f b
    · rw [if_pos (show (fun i j => decide (f i > f j)) (j + 1) b = true from decide_eq_true hgt)]
      refine wpAny_bind (wpAny_updateSeq hS2 rfl (wpAny_bind (wpAny_letGo ?_)))
      rw [hname]
      have hS3 := Heap.get?_update_self (Obj.mapSeq fun _ => #[Value.int (f (j + 1)) tv, Value.int (f (j + 1)) tv]) hS2 rfl
      refine wpAny_pure ⟨plainId_quiet F.plain_max_loop _, ih (j + 1) _ (j + 1) tv _ (by omega) (st1.at fun o e => (Heap.get?_update_other _ _ hSI).trans e) (st2.at fun o e => (Heap.get?_update_other _ _ hSl).trans e) (Nat.le_refl _) (fun i h => ?_) hS3 fun b' t' h'' tk' h1 h2 kp' => ?_⟩
      · rcases Nat.lt_or_ge i (j + 1) with q | q
        · have := hm i (by omega)
          omega
        · rw [show i = j + 1 by omega]
          exact Int.le_refl _
      · exact hR b' t' h'' tk' h1 h2 fun x o q1 q2 e => kp' x o q1 q2 ((Heap.get?_update_other _ _ (Ne.symm q2)).trans (kp x o (nI q1) e))
    · rw [if_neg (show ¬ (fun i j => decide (f i > f j)) (j + 1) b = true from fun e => hgt (of_decide_eq_true e))]
      refine wpAny_bind (wpAny_letGo ?_)
      rw [hname]
      refine wpAny_pure ⟨plainId_quiet F.plain_max_loop _, ih (j + 1) _ b tb c (by omega) st1 st2 (by omega) (fun i h => ?_) hS2 fun b' t' h'' tk' h1 h2 kp' => ?_⟩
      · rcases Nat.lt_or_ge i (j + 1) with q | q
        · exact hm i (by omega)
        · rw [show i = j + 1 by omega]
          omega
      · exact hR b' t' h'' tk' h1 h2 fun x o q1 q2 e => kp' x o q1 q2 (kp x o (nI q1) e)
end
/-- max(xs, default = z), the items ints -/
def rMaxDef (K : PySem.W.Frag) : List V → List V → Hp → VK → Prop := fun xs zs H Q => ∃ (a : Addr) (ns : List Int) (z : Int), xs = [.ref a] ∧ zs = [.int z] ∧ SqL K H a (ns.map V.int) ∧
  ∀ m, (ns = [] → m = z) → (ns ≠ [] → m ∈ ns ∧ ∀ y ∈ ns, y ≤ m) → Q (.int m) H
theorem cr_maxDef {X : Cx} (hc : X.calm = true) : CallRK X (.builtin "max") [Str.ofString "default"] (rMaxDef X.K) := by
  rintro pins s σ H xs us zs ws Q I rx rz ⟨a, ns, z, rfl, rfl, hq, q⟩
  obtain rfl := Vals.ref1 rx
  obtain ⟨u, rfl, ru⟩ := Vals.one rz
  obtain ⟨tz, rfl⟩ := ru
  obtain ⟨its, rv, hl, _⟩ := I.list hq
  have hL := hl.isList
  have hlen : ns.length = its.length := by
    have := rv.length
    rw [List.length_map] at this
    exact this
  have hfv : ∀ (i : Nat) (v : Value), its.toArray[i]? = some v → ∃ t, v = .int ((ns[i]?).getD 0) t := fun i v e => by
    have e' : its[i]? = some v := by simpa using e
    obtain ⟨hi, _⟩ := List.getElem?_eq_some_iff.mp e'
    obtain ⟨n, hn⟩ : ∃ n, ns[i]? = some n := ⟨_, List.getElem?_eq_getElem (by omega)⟩
    have hx : (ns.map V.int)[i]? = some (V.int n) := by rw [List.getElem?_map, hn]; rfl
    obtain ⟨u, hu, ru⟩ := rv.get hx
    rw [e'] at hu
    have eu : v = u := Option.some.inj hu
    subst eu
    obtain ⟨t, rfl⟩ := ru
    exact ⟨t, by rw [hn]; rfl⟩
  have hname : (toString "max" ++ toString ".loop" : String) = "max.loop" := by decide
  have hal : a < s.heap.objs.size := by
    obtain ⟨o, ho, _⟩ := hL
    exact Heap.lt_size ho
  refine PyProof.Rows.kmk_tree PySem.F.kind_max PySem.F.plain_max PySem.F.entry_max (args_max_default _ _) ?_
  show wpAny _ X.A.in1 (Builtin.Builtins.bindParams "max" ["key", "default"] 0 ⟨[], [(Str.ofString "default", Value.int z tz)]⟩ >>= _) _ _ s
  refine wpAny_bind (wpAny_of_eq (show Builtin.Builtins.bindParams "max" ["key", "default"] 0 ⟨[], [(Str.ofString "default", Value.int z tz)]⟩ = pure [none, some (Value.int z tz)] from rfl) ?_)
  refine wpAny_bind (wpAny_pure ?_)
  refine wpAny_bind (wpAny_pyIter_list hL ?_)
  refine wpAny_bind (wpAny_newList ?_ (Nat.zero_le _))
  rw [hname]
  generalize hI : s.heap.objs.size = II
  generalize hh1 : s.heap.push { cls := .type "list_iterator", data := .fields #[.ref a, .int 0 0] } = h1
  have k1 : ∀ b o, s.heap.get? b = some o → h1.get? b = some o := fun b o e => by rw [← hh1]; exact Heap.get?_push_of_some _ e
  have hIt : h1.get? II = some { cls := .type "list_iterator", data := .fields #[.ref a, .int 0 0] } := by rw [← hh1, ← hI]; exact Heap.get?_push_size _ rfl
  have hIlt : II < h1.objs.size := Heap.lt_size hIt
  generalize hS0 : h1.objs.size = S
  have hSI : S ≠ II := by rw [← hS0]; exact Nat.ne_of_gt hIlt
  have haI : a ≠ II := by rw [← hI]; exact Nat.ne_of_lt hal
  have hSa : S ≠ a := by
    rw [← hS0]
    have : a < II := by rw [← hI]; exact hal
    exact Nat.ne_of_gt (Nat.lt_trans this hIlt)
  generalize hh2 : h1.push (seqObj "list" ([] : List Value).toArray 0) = h2
  have k2 : ∀ b o, h1.get? b = some o → h2.get? b = some o := fun b o e => by rw [← hh2]; exact Heap.get?_push_of_some _ e
  have hS : h2.get? S = some { cls := .type "list", dict := none, data := .seq #[] 0, slots := #[] } := by rw [← hh2, ← hS0]; exact Heap.get?_push_size _ rfl
  have hi0 : h2.IsListIter II a 0 := ⟨_, k2 _ _ hIt, rfl, rfl⟩
  have hl0 : h2.IsList a its.toArray := hL.at fun o e => k2 _ _ (k1 _ _ e)
  have W := Walks.list (prog := X.prog) (w := X.w) (A := X.A.in1.in1) (I.ok.hd hc) II a haI its.toArray
  have nI : ∀ {x : Addr}, x ≠ II → x ∉ [II] := fun h z => h (List.mem_singleton.mp z)
  have keepI : ∀ {h' : Heap} {tk : Nat}, (∀ x o, x ≠ II → x ≠ S → h2.get? x = some o → h'.get? x = some o) → Inv X pins σ H { s with heap := h', toks := tk } := fun kp => I.kept fun b o e =>
    kp b o (by rw [← hI]; exact Nat.ne_of_lt (Heap.lt_size e)) (by rw [← hS0]; exact Nat.ne_of_lt (Heap.lt_size (k1 _ _ e))) (k2 _ _ (k1 _ _ e))
  refine wpAny_pure ⟨plainId_quiet PySem.F.plain_max_loop _, ?_⟩
  show codeAny (model X.prog X.w) X.A (.builtin "max.loop" ⟨[.ref II, .none, .ref S], [(Str.ofString "default", Value.int z tz)]⟩) _ { s with heap := h2 }
  refine codeAny_builtin PySem.F.entry_max_loop ?_
  rw [Around.under_plainId PySem.F.plain_max_loop _]
  show wpAny _ X.A.in1 (seqItems? (.ref S) >>= _) _ _ _
  refine wpAny_bind (wpAny_seqItems hS rfl ?_)
  show wpAny _ X.A.in1 (tryCatch (pyNext (.ref II)) _ >>= _) _ _ _
  have W1 := Walks.list (prog := X.prog) (w := X.w) (A := X.A.in1) (I.ok.hd hc) II a haI its.toArray
  cases hns : ns with
  | nil =>
    have h0 : its.toArray.size = 0 := by rw [List.size_toArray, ← hlen, hns]; rfl
    refine wpAny_bind (wpAny_tryCatch (W1.done _ _ _ (by rw [h0]; exact ⟨hi0, hl0⟩) fun h' tk kp => ?_))
    refine wpAny_bind (wpAny_rule (wpAny_pure ?_))
    exact ⟨.int z, H, keepI fun x o q1 q2 e => kp x o (nI q1) e, ⟨_, rfl⟩, q z (fun _ => rfl) fun e => absurd hns e⟩
  | cons n ns' =>
    have hp : 0 < its.toArray.size := by rw [List.size_toArray, ← hlen, hns]; exact Nat.succ_pos _
    refine wpAny_bind (wpAny_tryCatch (W1.item 0 _ _ _ hp ⟨hi0, hl0⟩ fun v h' tk hP st kp => ?_))
    obtain ⟨st1, st2⟩ := st
    obtain ⟨tv, rfl⟩ := hfv _ _ hP
    have hS2 := kp S _ (nI hSI) hS
    show wpAny _ X.A.in1 (updateSeq S (fun _ => #[Value.int ((ns[0]?).getD 0) tv, Value.int ((ns[0]?).getD 0) tv]) >>= _) _ _ _
    refine wpAny_bind (wpAny_updateSeq hS2 rfl ?_)
    rw [hname]
    have hS3 := Heap.get?_update_self (Obj.mapSeq fun _ => #[Value.int ((ns[0]?).getD 0) tv, Value.int ((ns[0]?).getD 0) tv]) hS2 rfl
    refine wpAny_pure ⟨plainId_quiet PySem.F.plain_max_loop _, maxd_loop (I.ok.hd hc) haI (fun i => (ns[i]?).getD 0) hfv S hSI hSa _ (its.toArray.size - 1) 0 _ 0 tv _ (by omega) (st1.at fun o e => (Heap.get?_update_other _ _ hSI).trans e)
      (st2.at fun o e => (Heap.get?_update_other _ _ hSa).trans e) (Nat.le_refl _) (fun i h => by rw [show i = 0 by omega]; exact Int.le_refl _) hS3 fun b' t' h'' tk' h1 h2 kp' => ?_⟩
    have hb : b' < ns.length := by rw [hlen, ← List.size_toArray]; exact h1
    refine ⟨.int _, H, keepI fun x o q1 q2 e => kp' x o q1 q2 ((Heap.get?_update_other _ _ (Ne.symm q2)).trans (kp x o (nI q1) e)), ⟨_, rfl⟩, q _ (fun e => by rw [hns] at e; cases e) fun _ => ⟨?_, fun y hy => ?_⟩⟩
    · rw [List.getElem?_eq_getElem hb]
      exact List.getElem_mem hb
    · obtain ⟨i, hi, rfl⟩ := List.mem_iff_getElem.mp hy
      have := h2 i (by rw [List.size_toArray, ← hlen]; exact hi)
      rw [List.getElem?_eq_getElem hi] at this
      exact this
/-! ### xs[a:b:c] -/
def stepV (xs : List V) (lo hi st : Option Int) : List V :=
  (sliceRange (sliceBounds lo hi st xs.length).1 (sliceBounds lo hi st xs.length).2.1 (sliceBounds lo hi st xs.length).2.2).filterMap (xs[·]?)
def tSl3 (K : PySem.W.Frag) (te : TE) (tl th ts : TO) : TE := fun σ H Q => te σ H fun x H1 => tl σ H1 fun l H2 => th σ H2 fun u H3 => ts σ H3 fun t H4 => ∃ a xs, x = .ref a ∧ SqL K H4 a xs ∧ t ≠ some 0 ∧ ∀ p, H4 p = none → Q (.ref p) (upd H4 p (.lst (stepV xs l u t)))
theorem vals_pick {xs : List V} {us : List Value} (r : Vals xs us) : ∀ is : List Nat, Vals (is.filterMap (xs[·]?)) (is.filterMap (us[·]?))
  | [] => .nil
  | i :: is => by
    have ih := vals_pick r is
    cases hx : xs[i]? with
    | none =>
      have hu : us[i]? = none := by
        rw [List.getElem?_eq_none_iff] at hx ⊢
        have := r.length
        omega
      rw [List.filterMap_cons_none hx, List.filterMap_cons_none hu]
      exact ih
    | some x =>
      obtain ⟨u, hu, ru⟩ := r.get hx
      rw [List.filterMap_cons_some hx, List.filterMap_cons_some hu]
      exact .cons ru ih
theorem stepV_length (xs : List V) (lo hi st : Option Int) {us : List Value} (r : Vals xs us) : (slicePick us.toArray lo hi st).toList = (sliceRange (sliceBounds lo hi st xs.length).1 (sliceBounds lo hi st xs.length).2.1 (sliceBounds lo hi st xs.length).2.2).filterMap (us[·]?) := by
  unfold slicePick
  rw [List.size_toArray, ← r.length]
  simp
theorem pe_slice3 {X : Cx} {e st : Expr} {lo hi : Option Expr} {p2 pos : Pos} {te : TE} {tl th ts : TO} (he : PE X e te) (hl : PO X lo tl) (hu : PO X hi th) (hs : PO X (some st) ts) : PE X (.Subscript e (.Slice lo hi (some st) p2) pos) (tSl3 X.K te tl th ts) := by
  intro pins s σ H Q I h
  refine Subscript_ (thn (he pins s σ H _ I h) fun v s1 ⟨x, H1, I1, r1, q1⟩ => ?_)
  refine wpAny_Slice (thn (hl pins s1 σ H1 _ I1 q1) fun vl s2 ⟨l, H2, I2, pl, q2⟩ => thn (hu pins s2 σ H2 _ I2 q2) fun vu s3 ⟨u, H3, I3, pu, q3⟩ => thn (hs pins s3 σ H3 _ I3 q3) fun vs s4 ⟨t, H4, I4, ps, q4⟩ => ?_)
  obtain ⟨a, xs, ex, hx, h0, q⟩ := q4
  subst ex
  cases r1
  have I5 : Inv X pins σ H4 { s4 with heap := s4.heap.push { cls := .type "slice", data := .fields #[vl, vu, vs] } } := I4.kept (t' := s4.toks) fun b ob q => Heap.get?_push_of_some _ q
  obtain ⟨its, r, ht, hz⟩ := I5.list hx
  have hlen := r.length
  show wpAny (model X.prog X.w) X.A (subscriptTail e (.Slice lo hi (some st) p2) (.ref a) (.ref s4.heap.objs.size)) (EP X pins σ Q) X.xe { s4 with heap := s4.heap.push { cls := .type "slice", data := .fields #[vl, vu, vs] } }
  refine tail_any (ops := [.ref a, .ref s4.heap.objs.size]) ht.isList.typeIs slot_list_getitem.lookup ?_ (by with_unfolding_all rfl)
  refine wpAny_getItem_list_slice ht.isList (Heap.IsSliceOf.new ..) pl pu ps h0 ?_ (by rw [List.size_toArray] <;> omega)
  have ev := stepV_length xs l u t r
  have hv : Vals (stepV xs l u t) (slicePick its.toArray l u t).toList := by
    rw [ev]
    exact vals_pick r _
  have hlz : (stepV xs l u t).length ≤ sizeLine := by
    have e1 : (stepV xs l u t).length = (slicePick its.toArray l u t).size := hv.length.trans Array.length_toList
    have e2 := slicePick_size_le its.toArray l u t
    have e3 : its.toArray.size = its.length := List.size_toArray ..
    omega
  refine ⟨.ref _, _, I5.laid (t' := s4.toks) (o := .lst (stepV xs l u t)) (fun b ob q => Heap.get?_push_of_some _ q) (Nat.le_refl _) ⟨hlz, _, 0, hv, Heap.get?_push_size _ ?_⟩, rfl, q _ (I5.hok.fresh (Nat.le_refl _))⟩
  rfl
/-! ### loops -/
/-- for x in reversed(xs): the list is left as it is -/
theorem for_rev {K : PySem.W.Frag} {a : Addr} {xs : List V} {g : TG} {tb : TS} {D : Ends} {σ : St} {H : Hp} (Pv : Nat → St → Hp → Prop) (h0 : Pv 0 σ H) (hl : ∀ i σ H, i ≤ xs.length → Pv i σ H → SqL K H a xs)
    (hs : ∀ i x σ H, i < xs.length → xs[xs.length - 1 - i]? = some x → Pv i σ H → g x σ H fun σ2 H2 => tb { D with nx := Pv (i + 1), ct := Pv (i + 1), bk := D.nx } σ2 H2) (hd : ∀ σ H, Pv xs.length σ H → D.nx σ H) :
    ∃ W : Nat → Nat → St → Hp → Prop, (∃ m, W 0 m σ H) ∧ ∀ i m σ H, W i m σ H →
      ((Itv K a xs.length).stop i H ∧ D.nx σ H) ∨ ((Itv K a xs.length).go i H ∧ ∃ N : St → Hp → Prop, (∀ σ' H', N σ' H' → ∃ m', m' < m ∧ W (i + 1) m' σ' H') ∧ ∀ x H', (Itv K a xs.length).yld i H x H' → g x σ H' fun σ2 H2 => tb { D with nx := N, ct := N, bk := D.nx } σ2 H2) := by
  refine ⟨fun i m σ H => m = xs.length - i ∧ i ≤ xs.length ∧ Pv i σ H, ⟨xs.length, by simp, Nat.zero_le _, h0⟩, fun i m σ H ⟨e, hi, p⟩ => ?_⟩
  subst e
  have q := hl i σ H hi p
  rcases Nat.lt_or_ge i xs.length with hlt | hge
  · refine .inr ⟨⟨hlt, xs, xs[xs.length - 1 - i]'(by omega), q, List.getElem?_eq_getElem _⟩, Pv (i + 1), fun σ' H' p' => ⟨xs.length - (i + 1), by omega, rfl, hlt, p'⟩, fun x H' y => ?_⟩
    obtain ⟨e, y⟩ := y
    subst e
    exact hs i x σ _ hlt (y xs q) p
  · have e : i = xs.length := by omega
    subst e
    exact .inl ⟨Nat.le_refl _, hd σ H p⟩
/-- for x, y in zip(xs, ys), both of one length and left as they are -/
theorem for_zip {K : PySem.W.Frag} {a b : Addr} {xs ys : List V} {g : TG} {tb : TS} {D : Ends} {σ : St} {H : Hp} (hxy : xs.length = ys.length) (Pv : Nat → St → Hp → Prop) (h0 : Pv 0 σ H) (hl : ∀ i σ H, i ≤ xs.length → Pv i σ H → SqL K H a xs ∧ SqL K H b ys)
    (hs : ∀ i x y σ H T, xs[i]? = some x → ys[i]? = some y → Pv i σ H → H T = none → g (.ref T) σ (upd H T (.tup [x, y])) fun σ2 H2 => tb { D with nx := Pv (i + 1), ct := Pv (i + 1), bk := D.nx } σ2 H2) (hd : ∀ σ H, Pv xs.length σ H → D.nx σ H) :
    ∃ W : Nat → Nat → St → Hp → Prop, (∃ m, W 0 m σ H) ∧ ∀ i m σ H, W i m σ H →
      ((Itz K a b).stop i H ∧ D.nx σ H) ∨ ((Itz K a b).go i H ∧ ∃ N : St → Hp → Prop, (∀ σ' H', N σ' H' → ∃ m', m' < m ∧ W (i + 1) m' σ' H') ∧ ∀ x H', (Itz K a b).yld i H x H' → g x σ H' fun σ2 H2 => tb { D with nx := N, ct := N, bk := D.nx } σ2 H2) := by
  refine ⟨fun i m σ H => m = xs.length - i ∧ i ≤ xs.length ∧ Pv i σ H, ⟨xs.length, by simp, Nat.zero_le _, h0⟩, fun i m σ H ⟨e, hi, p⟩ => ?_⟩
  subst e
  obtain ⟨q1, q2⟩ := hl i σ H hi p
  rcases Nat.lt_or_ge i xs.length with hlt | hge
  · refine .inr ⟨⟨xs, ys, xs[i], ys[i]'(by omega), q1, q2, List.getElem?_eq_getElem _, List.getElem?_eq_getElem _⟩, Pv (i + 1), fun σ' H' p' => ⟨xs.length - (i + 1), by omega, rfl, hlt, p'⟩, fun v H' y => ?_⟩
    obtain ⟨T, x, y, rfl, hT, rfl, hx, hy⟩ := y
    exact hs i x y σ H T (hx xs q1) (hy ys q2) p hT
  · have e : i = xs.length := by omega
    subst e
    exact .inl ⟨⟨xs, ys, q1, q2, .inl (Nat.le_refl _)⟩, hd σ H p⟩
end L2

end
section
set_option Elab.async false
set_option linter.all false
set_option maxRecDepth 100000
set_option maxHeartbeats 4000000
namespace HvM
open PySem PySem.Spec PyProof.Rows L2
/-! ### the text by places -/
def top (i : Nat) : Stmt := PySem.Challenge.pw_heavykeys_s01_answers.main.body.getD i (.Pass ⟨0, 0, 0, 0⟩)
abbrev s_is_k : Stmt := top 4
theorem sc_is_k : FnScope ["number"] ["number"] (defScope s_is_k) := ⟨rfl, rfl, rfl, by decide +kernel, rfl, by decide +kernel, by decide +kernel⟩
abbrev s_rank : Stmt := top 5
theorem sc_rank : FnScope ["entry"] ["entry"] (defScope s_rank) := ⟨rfl, rfl, rfl, by decide +kernel, rfl, by decide +kernel, by decide +kernel⟩
abbrev s_Summary_init : Stmt := inClass (top 6) 0
theorem sc_Summary_init : FnScope ["self", "k"] ["self", "k"] (defScope s_Summary_init) := ⟨rfl, rfl, rfl, by decide +kernel, rfl, by decide +kernel, by decide +kernel⟩
abbrev s_Summary_ordered : Stmt := inClass (top 6) 1
theorem sc_Summary_ordered : FnScope ["self"] ["self"] (defScope s_Summary_ordered) := ⟨rfl, rfl, rfl, by decide +kernel, rfl, by decide +kernel, by decide +kernel⟩
abbrev s_Summary_low : Stmt := inClass (top 6) 2
theorem sc_Summary_low : FnScope ["self", "key"] ["self", "key"] (defScope s_Summary_low) := ⟨rfl, rfl, rfl, by decide +kernel, rfl, by decide +kernel, by decide +kernel⟩
abbrev s_Summary_high : Stmt := inClass (top 6) 3
theorem sc_Summary_high : FnScope ["self", "key"] ["self", "key"] (defScope s_Summary_high) := ⟨rfl, rfl, rfl, by decide +kernel, rfl, by decide +kernel, by decide +kernel⟩
abbrev s_Summary_is_above : Stmt := inClass (top 6) 4
theorem sc_Summary_is_above : FnScope ["self", "weight", "a", "b"] ["self", "weight", "a", "b"] (defScope s_Summary_is_above) := ⟨rfl, rfl, rfl, by decide +kernel, rfl, by decide +kernel, by decide +kernel⟩
abbrev s_Summary_can_take : Stmt := inClass (top 6) 5
theorem sc_Summary_can_take : FnScope ["self", "weights"] ["self", "weights"] (defScope s_Summary_can_take) := ⟨rfl, rfl, rfl, by decide +kernel, rfl, by decide +kernel, by decide +kernel⟩
abbrev s_Summary_add : Stmt := inClass (top 6) 6
theorem sc_Summary_add : FnScope ["self", "key", "weight"] ["self", "key", "weight"] (defScope s_Summary_add) := ⟨rfl, rfl, rfl, by decide +kernel, rfl, by decide +kernel, by decide +kernel⟩
abbrev s_Summary_can_merge : Stmt := inClass (top 6) 7
theorem sc_Summary_can_merge : FnScope ["self", "other"] ["self", "other"] (defScope s_Summary_can_merge) := ⟨rfl, rfl, rfl, by decide +kernel, rfl, by decide +kernel, by decide +kernel⟩
abbrev s_Summary_merge : Stmt := inClass (top 6) 8
theorem sc_Summary_merge : FnScope ["self", "other", "together", "key", "count"] ["self", "other"] (defScope s_Summary_merge) := ⟨rfl, rfl, rfl, by decide +kernel, rfl, by decide +kernel, by decide +kernel⟩
abbrev s_Summary_keep : Stmt := inClass (top 6) 9
theorem sc_Summary_keep : FnScope ["self", "cut", "kept", "key", "count"] ["self"] (defScope s_Summary_keep) := ⟨rfl, rfl, rfl, by decide +kernel, rfl, by decide +kernel, by decide +kernel⟩
abbrev s_Summary_is_within_limits : Stmt := inClass (top 6) 10
theorem sc_Summary_is_within_limits : FnScope ["self", "counts"] ["self"] (defScope s_Summary_is_within_limits) := ⟨rfl, rfl, rfl, by decide +kernel, rfl, by decide +kernel, by decide +kernel⟩
abbrev s_Summary_is_proper : Stmt := inClass (top 6) 11
theorem sc_Summary_is_proper : FnScope ["self", "counted"] ["self"] (defScope s_Summary_is_proper) := ⟨rfl, rfl, rfl, by decide +kernel, rfl, by decide +kernel, by decide +kernel⟩
abbrev s_bytes_of : Stmt := top 10
theorem sc_bytes_of : FnScope ["number", "width", "row", "place"] ["number", "width"] (defScope s_bytes_of) := ⟨rfl, rfl, rfl, by decide +kernel, rfl, by decide +kernel, by decide +kernel⟩
abbrev s_number_of : Stmt := top 11
theorem sc_number_of : FnScope ["row", "number", "byte"] ["row"] (defScope s_number_of) := ⟨rfl, rfl, rfl, by decide +kernel, rfl, by decide +kernel, by decide +kernel⟩
abbrev s_pack : Stmt := top 12
theorem sc_pack : FnScope ["summary", "row", "key", "count"] ["summary"] (defScope s_pack) := ⟨rfl, rfl, rfl, by decide +kernel, rfl, by decide +kernel, by decide +kernel⟩
abbrev s_parse : Stmt := top 13
theorem sc_parse : FnScope ["row", "summary", "place", "key"] ["row"] (defScope s_parse) := ⟨rfl, rfl, rfl, by decide +kernel, rfl, by decide +kernel, by decide +kernel⟩
abbrev s_unpack : Stmt := top 14
theorem sc_unpack : FnScope ["row", "summary"] ["row"] (defScope s_unpack) := ⟨rfl, rfl, rfl, by decide +kernel, rfl, by decide +kernel, by decide +kernel⟩
abbrev s_Line_init : Stmt := inClass (top 34) 0
theorem sc_Line_init : FnScope ["self"] ["self"] (defScope s_Line_init) := ⟨rfl, rfl, rfl, by decide +kernel, rfl, by decide +kernel, by decide +kernel⟩
abbrev s_split_calls : Stmt := top 35
theorem sc_split_calls : FnScope ["calls", "parts", "place", "number", "length"] ["calls"] (defScope s_split_calls) := ⟨rfl, rfl, rfl, by decide +kernel, rfl, by decide +kernel, by decide +kernel⟩
abbrev s_with_length : Stmt := top 36
theorem sc_with_length : FnScope ["row"] ["row"] (defScope s_with_length) := ⟨rfl, rfl, rfl, by decide +kernel, rfl, by decide +kernel, by decide +kernel⟩
abbrev s_answer_init : Stmt := top 37
theorem sc_answer_init : FnScope ["line", "k"] ["line", "k"] (defScope s_answer_init) := ⟨rfl, rfl, rfl, by decide +kernel, rfl, by decide +kernel, by decide +kernel⟩
abbrev s_answer_unpack : Stmt := top 38
theorem sc_answer_unpack : FnScope ["line", "row", "summary"] ["line", "row"] (defScope s_answer_unpack) := ⟨rfl, rfl, rfl, by decide +kernel, rfl, by decide +kernel, by decide +kernel⟩
abbrev s_answer_stream : Stmt := top 39
theorem sc_answer_stream : FnScope ["summary", "row", "keys", "weights", "key", "weight"] ["summary", "row"] (defScope s_answer_stream) := ⟨rfl, rfl, rfl, by decide +kernel, rfl, by decide +kernel, by decide +kernel⟩
abbrev s_answer_bounds : Stmt := top 40
theorem sc_answer_bounds : FnScope ["summary", "key", "there"] ["summary", "key"] (defScope s_answer_bounds) := ⟨rfl, rfl, rfl, by decide +kernel, rfl, by decide +kernel, by decide +kernel⟩
abbrev s_answer_entry : Stmt := top 41
theorem sc_answer_entry : FnScope ["summary", "i", "entries"] ["summary", "i"] (defScope s_answer_entry) := ⟨rfl, rfl, rfl, by decide +kernel, rfl, by decide +kernel, by decide +kernel⟩
abbrev s_answer_heavy : Stmt := top 42
theorem sc_answer_heavy : FnScope ["summary", "a", "b", "keys", "key", "count"] ["summary", "a", "b"] (defScope s_answer_heavy) := ⟨rfl, rfl, rfl, by decide +kernel, rfl, by decide +kernel, by decide +kernel⟩
abbrev s_answer_merge : Stmt := top 43
theorem sc_answer_merge : FnScope ["summary", "row", "other"] ["summary", "row"] (defScope s_answer_merge) := ⟨rfl, rfl, rfl, by decide +kernel, rfl, by decide +kernel, by decide +kernel⟩
abbrev s_answer_of_summary : Stmt := top 44
theorem sc_answer_of_summary : FnScope ["summary", "call", "number"] ["summary", "call"] (defScope s_answer_of_summary) := ⟨rfl, rfl, rfl, by decide +kernel, rfl, by decide +kernel, by decide +kernel⟩
abbrev s_answer_call : Stmt := top 45
theorem sc_answer_call : FnScope ["line", "call"] ["line", "call"] (defScope s_answer_call) := ⟨rfl, rfl, rfl, by decide +kernel, rfl, by decide +kernel, by decide +kernel⟩
abbrev s_answers : Stmt := top 46
theorem sc_answers : FnScope ["calls", "line", "told", "call", "answer"] ["calls"] (defScope s_answers) := ⟨rfl, rfl, rfl, by decide +kernel, rfl, by decide +kernel, by decide +kernel⟩
/-! ### what stands where -/
structure Adr where
  C_Summary : Addr
  C_Line : Addr
  f_is_k : Addr
  fd_is_k : FuncData
  f_rank : Addr
  fd_rank : FuncData
  f_Summary_init : Addr
  fd_Summary_init : FuncData
  f_Summary_ordered : Addr
  fd_Summary_ordered : FuncData
  f_Summary_low : Addr
  fd_Summary_low : FuncData
  f_Summary_high : Addr
  fd_Summary_high : FuncData
  f_Summary_is_above : Addr
  fd_Summary_is_above : FuncData
  f_Summary_can_take : Addr
  fd_Summary_can_take : FuncData
  f_Summary_add : Addr
  fd_Summary_add : FuncData
  f_Summary_can_merge : Addr
  fd_Summary_can_merge : FuncData
  f_Summary_merge : Addr
  fd_Summary_merge : FuncData
  f_Summary_keep : Addr
  fd_Summary_keep : FuncData
  f_Summary_is_within_limits : Addr
  fd_Summary_is_within_limits : FuncData
  f_Summary_is_proper : Addr
  fd_Summary_is_proper : FuncData
  f_bytes_of : Addr
  fd_bytes_of : FuncData
  f_number_of : Addr
  fd_number_of : FuncData
  f_pack : Addr
  fd_pack : FuncData
  f_parse : Addr
  fd_parse : FuncData
  f_unpack : Addr
  fd_unpack : FuncData
  f_Line_init : Addr
  fd_Line_init : FuncData
  f_split_calls : Addr
  fd_split_calls : FuncData
  f_with_length : Addr
  fd_with_length : FuncData
  f_answer_init : Addr
  fd_answer_init : FuncData
  f_answer_unpack : Addr
  fd_answer_unpack : FuncData
  f_answer_stream : Addr
  fd_answer_stream : FuncData
  f_answer_bounds : Addr
  fd_answer_bounds : FuncData
  f_answer_entry : Addr
  fd_answer_entry : FuncData
  f_answer_heavy : Addr
  fd_answer_heavy : FuncData
  f_answer_merge : Addr
  fd_answer_merge : FuncData
  f_answer_of_summary : Addr
  fd_answer_of_summary : FuncData
  f_answer_call : Addr
  fd_answer_call : FuncData
  f_answers : Addr
  fd_answers : FuncData
  d_NUMBERS_BEHIND : Addr
  t_WITH_ROW : Addr
structure Txt (K : PySem.W.Frag) (mg : Str → Option Value) (t : Adr) : Prop where
  cl_Summary : Cls K t.C_Summary
  g_Summary : mg "Summary" = some (.ref t.C_Summary)
  mk_Summary : Mk K t.C_Summary t.f_Summary_init
  no_Summary_k : NoAttr K t.C_Summary "k"
  no_Summary_total : NoAttr K t.C_Summary "total"
  no_Summary_error : NoAttr K t.C_Summary "error"
  no_Summary_table : NoAttr K t.C_Summary "table"
  cl_Line : Cls K t.C_Line
  g_Line : mg "Line" = some (.ref t.C_Line)
  mk_Line : Mk K t.C_Line t.f_Line_init
  no_Line_summary : NoAttr K t.C_Line "summary"
  ne_Summary_Line : t.C_Summary ≠ t.C_Line
  F_is_k : Fun K "is_k" "is_k" s_is_k t.f_is_k t.fd_is_k
  b_is_k : Binds K t.fd_is_k ["number"] []
  g_is_k : mg "is_k" = some (.ref t.f_is_k)
  F_rank : Fun K "rank" "rank" s_rank t.f_rank t.fd_rank
  b_rank : Binds K t.fd_rank ["entry"] []
  g_rank : mg "rank" = some (.ref t.f_rank)
  F_Summary_init : Fun K "__init__" "Summary.__init__" s_Summary_init t.f_Summary_init t.fd_Summary_init
  b_Summary_init : Binds K t.fd_Summary_init ["self", "k"] []
  F_Summary_ordered : Fun K "ordered" "Summary.ordered" s_Summary_ordered t.f_Summary_ordered t.fd_Summary_ordered
  b_Summary_ordered : Binds K t.fd_Summary_ordered ["self"] []
  m_Summary_ordered : Meth K t.C_Summary "ordered" t.f_Summary_ordered
  F_Summary_low : Fun K "low" "Summary.low" s_Summary_low t.f_Summary_low t.fd_Summary_low
  b_Summary_low : Binds K t.fd_Summary_low ["self", "key"] []
  m_Summary_low : Meth K t.C_Summary "low" t.f_Summary_low
  F_Summary_high : Fun K "high" "Summary.high" s_Summary_high t.f_Summary_high t.fd_Summary_high
  b_Summary_high : Binds K t.fd_Summary_high ["self", "key"] []
  m_Summary_high : Meth K t.C_Summary "high" t.f_Summary_high
  F_Summary_is_above : Fun K "is_above" "Summary.is_above" s_Summary_is_above t.f_Summary_is_above t.fd_Summary_is_above
  b_Summary_is_above : Binds K t.fd_Summary_is_above ["self", "weight", "a", "b"] []
  m_Summary_is_above : Meth K t.C_Summary "is_above" t.f_Summary_is_above
  F_Summary_can_take : Fun K "can_take" "Summary.can_take" s_Summary_can_take t.f_Summary_can_take t.fd_Summary_can_take
  b_Summary_can_take : Binds K t.fd_Summary_can_take ["self", "weights"] []
  m_Summary_can_take : Meth K t.C_Summary "can_take" t.f_Summary_can_take
  F_Summary_add : Fun K "add" "Summary.add" s_Summary_add t.f_Summary_add t.fd_Summary_add
  b_Summary_add : Binds K t.fd_Summary_add ["self", "key", "weight"] []
  m_Summary_add : Meth K t.C_Summary "add" t.f_Summary_add
  F_Summary_can_merge : Fun K "can_merge" "Summary.can_merge" s_Summary_can_merge t.f_Summary_can_merge t.fd_Summary_can_merge
  b_Summary_can_merge : Binds K t.fd_Summary_can_merge ["self", "other"] []
  m_Summary_can_merge : Meth K t.C_Summary "can_merge" t.f_Summary_can_merge
  F_Summary_merge : Fun K "merge" "Summary.merge" s_Summary_merge t.f_Summary_merge t.fd_Summary_merge
  b_Summary_merge : Binds K t.fd_Summary_merge ["self", "other"] []
  m_Summary_merge : Meth K t.C_Summary "merge" t.f_Summary_merge
  F_Summary_keep : Fun K "keep" "Summary.keep" s_Summary_keep t.f_Summary_keep t.fd_Summary_keep
  b_Summary_keep : Binds K t.fd_Summary_keep ["self"] []
  m_Summary_keep : Meth K t.C_Summary "keep" t.f_Summary_keep
  F_Summary_is_within_limits : Fun K "is_within_limits" "Summary.is_within_limits" s_Summary_is_within_limits t.f_Summary_is_within_limits t.fd_Summary_is_within_limits
  b_Summary_is_within_limits : Binds K t.fd_Summary_is_within_limits ["self"] []
  m_Summary_is_within_limits : Meth K t.C_Summary "is_within_limits" t.f_Summary_is_within_limits
  F_Summary_is_proper : Fun K "is_proper" "Summary.is_proper" s_Summary_is_proper t.f_Summary_is_proper t.fd_Summary_is_proper
  b_Summary_is_proper : Binds K t.fd_Summary_is_proper ["self"] []
  m_Summary_is_proper : Meth K t.C_Summary "is_proper" t.f_Summary_is_proper
  F_bytes_of : Fun K "bytes_of" "bytes_of" s_bytes_of t.f_bytes_of t.fd_bytes_of
  b_bytes_of : Binds K t.fd_bytes_of ["number", "width"] []
  g_bytes_of : mg "bytes_of" = some (.ref t.f_bytes_of)
  F_number_of : Fun K "number_of" "number_of" s_number_of t.f_number_of t.fd_number_of
  b_number_of : Binds K t.fd_number_of ["row"] []
  g_number_of : mg "number_of" = some (.ref t.f_number_of)
  F_pack : Fun K "pack" "pack" s_pack t.f_pack t.fd_pack
  b_pack : Binds K t.fd_pack ["summary"] []
  g_pack : mg "pack" = some (.ref t.f_pack)
  F_parse : Fun K "parse" "parse" s_parse t.f_parse t.fd_parse
  b_parse : Binds K t.fd_parse ["row"] []
  g_parse : mg "parse" = some (.ref t.f_parse)
  F_unpack : Fun K "unpack" "unpack" s_unpack t.f_unpack t.fd_unpack
  b_unpack : Binds K t.fd_unpack ["row"] []
  g_unpack : mg "unpack" = some (.ref t.f_unpack)
  F_Line_init : Fun K "__init__" "Line.__init__" s_Line_init t.f_Line_init t.fd_Line_init
  b_Line_init : Binds K t.fd_Line_init ["self"] []
  F_split_calls : Fun K "split_calls" "split_calls" s_split_calls t.f_split_calls t.fd_split_calls
  b_split_calls : Binds K t.fd_split_calls ["calls"] []
  g_split_calls : mg "split_calls" = some (.ref t.f_split_calls)
  F_with_length : Fun K "with_length" "with_length" s_with_length t.f_with_length t.fd_with_length
  b_with_length : Binds K t.fd_with_length ["row"] []
  g_with_length : mg "with_length" = some (.ref t.f_with_length)
  F_answer_init : Fun K "answer_init" "answer_init" s_answer_init t.f_answer_init t.fd_answer_init
  b_answer_init : Binds K t.fd_answer_init ["line", "k"] []
  g_answer_init : mg "answer_init" = some (.ref t.f_answer_init)
  F_answer_unpack : Fun K "answer_unpack" "answer_unpack" s_answer_unpack t.f_answer_unpack t.fd_answer_unpack
  b_answer_unpack : Binds K t.fd_answer_unpack ["line", "row"] []
  g_answer_unpack : mg "answer_unpack" = some (.ref t.f_answer_unpack)
  F_answer_stream : Fun K "answer_stream" "answer_stream" s_answer_stream t.f_answer_stream t.fd_answer_stream
  b_answer_stream : Binds K t.fd_answer_stream ["summary", "row"] []
  g_answer_stream : mg "answer_stream" = some (.ref t.f_answer_stream)
  F_answer_bounds : Fun K "answer_bounds" "answer_bounds" s_answer_bounds t.f_answer_bounds t.fd_answer_bounds
  b_answer_bounds : Binds K t.fd_answer_bounds ["summary", "key"] []
  g_answer_bounds : mg "answer_bounds" = some (.ref t.f_answer_bounds)
  F_answer_entry : Fun K "answer_entry" "answer_entry" s_answer_entry t.f_answer_entry t.fd_answer_entry
  b_answer_entry : Binds K t.fd_answer_entry ["summary", "i"] []
  g_answer_entry : mg "answer_entry" = some (.ref t.f_answer_entry)
  F_answer_heavy : Fun K "answer_heavy" "answer_heavy" s_answer_heavy t.f_answer_heavy t.fd_answer_heavy
  b_answer_heavy : Binds K t.fd_answer_heavy ["summary", "a", "b"] []
  g_answer_heavy : mg "answer_heavy" = some (.ref t.f_answer_heavy)
  F_answer_merge : Fun K "answer_merge" "answer_merge" s_answer_merge t.f_answer_merge t.fd_answer_merge
  b_answer_merge : Binds K t.fd_answer_merge ["summary", "row"] []
  g_answer_merge : mg "answer_merge" = some (.ref t.f_answer_merge)
  F_answer_of_summary : Fun K "answer_of_summary" "answer_of_summary" s_answer_of_summary t.f_answer_of_summary t.fd_answer_of_summary
  b_answer_of_summary : Binds K t.fd_answer_of_summary ["summary", "call"] []
  g_answer_of_summary : mg "answer_of_summary" = some (.ref t.f_answer_of_summary)
  F_answer_call : Fun K "answer_call" "answer_call" s_answer_call t.f_answer_call t.fd_answer_call
  b_answer_call : Binds K t.fd_answer_call ["line", "call"] []
  g_answer_call : mg "answer_call" = some (.ref t.f_answer_call)
  F_answers : Fun K "answers" "answers" s_answers t.f_answers t.fd_answers
  b_answers : Binds K t.fd_answers ["calls"] []
  g_answers : mg "answers" = some (.ref t.f_answers)
  c_GREATEST_K : ∃ (z : Int) (u : Tok), z = 1024 ∧ mg "GREATEST_K" = some (.int z u)
  c_WEIGHT_END : ∃ (z : Int) (u : Tok), z = 4294967296 ∧ mg "WEIGHT_END" = some (.int z u)
  c_TOTAL_END : ∃ (z : Int) (u : Tok), z = 9223372036854775808 ∧ mg "TOTAL_END" = some (.int z u)
  c_HEAD_WIDTH : ∃ (z : Int) (u : Tok), z = 24 ∧ mg "HEAD_WIDTH" = some (.int z u)
  c_ENTRY_WIDTH : ∃ (z : Int) (u : Tok), z = 16 ∧ mg "ENTRY_WIDTH" = some (.int z u)
  c_INIT : ∃ (z : Int) (u : Tok), z = 1 ∧ mg "INIT" = some (.int z u)
  c_ADD : ∃ (z : Int) (u : Tok), z = 2 ∧ mg "ADD" = some (.int z u)
  c_TOTAL : ∃ (z : Int) (u : Tok), z = 3 ∧ mg "TOTAL" = some (.int z u)
  c_ERROR : ∃ (z : Int) (u : Tok), z = 4 ∧ mg "ERROR" = some (.int z u)
  c_BOUNDS : ∃ (z : Int) (u : Tok), z = 5 ∧ mg "BOUNDS" = some (.int z u)
  c_COUNT : ∃ (z : Int) (u : Tok), z = 6 ∧ mg "COUNT" = some (.int z u)
  c_ENTRY : ∃ (z : Int) (u : Tok), z = 7 ∧ mg "ENTRY" = some (.int z u)
  c_HEAVY : ∃ (z : Int) (u : Tok), z = 8 ∧ mg "HEAVY" = some (.int z u)
  c_MERGE : ∃ (z : Int) (u : Tok), z = 9 ∧ mg "MERGE" = some (.int z u)
  c_UNPACK : ∃ (z : Int) (u : Tok), z = 11 ∧ mg "UNPACK" = some (.int z u)
  c_STREAM : ∃ (z : Int) (u : Tok), z = 12 ∧ mg "STREAM" = some (.int z u)
  c_DONE : ∃ (z : Int) (u : Tok), z = 0 ∧ mg "DONE" = some (.int z u)
  c_REFUSED : ∃ (z : Int) (u : Tok), z = -1 ∧ mg "REFUSED" = some (.int z u)
  c_NO_ENTRY : ∃ (z : Int) (u : Tok), z = -2 ∧ mg "NO_ENTRY" = some (.int z u)
  c_ERROR_ABOVE : ∃ (z : Int) (u : Tok), z = -3 ∧ mg "ERROR_ABOVE" = some (.int z u)
  c_NO_SUMMARY : ∃ (z : Int) (u : Tok), z = -9 ∧ mg "NO_SUMMARY" = some (.int z u)
  g_NUMBERS_BEHIND : mg "NUMBERS_BEHIND" = some (.ref t.d_NUMBERS_BEHIND)
  d_NUMBERS_BEHIND : DctK K t.d_NUMBERS_BEHIND [(1, 1), (2, 2), (3, 0), (4, 0), (5, 1), (6, 0), (7, 1), (8, 2), (10, 0)]
  g_WITH_ROW : mg "WITH_ROW" = some (.ref t.t_WITH_ROW)
  t_WITH_ROW : ∀ H, SqT K H t.t_WITH_ROW [.int (9), .int (11), .int (12)]
  n_dict : mg "dict" = none
  n_len : mg "len" = none
  n_list : mg "list" = none
  n_max : mg "max" = none
  n_range : mg "range" = none
  n_reversed : mg "reversed" = none
  n_sorted : mg "sorted" = none
  n_sum : mg "sum" = none
  n_zip : mg "zip" = none
theorem txt_mk {K : PySem.W.Frag} {h : Heap} {mg : Str → Option Value}
    {C_Summary : Addr}
    {C_Line : Addr}
    {f_is_k : Addr} {oc_is_k kV_is_k dc_is_k pm_is_k cd_is_k ct_is_k : Value} {od_is_k an_is_k : Option Addr} {sl_is_k : Array (Option Value)}
    {f_rank : Addr} {oc_rank kV_rank dc_rank pm_rank cd_rank ct_rank : Value} {od_rank an_rank : Option Addr} {sl_rank : Array (Option Value)}
    {f_Summary_init : Addr} {oc_Summary_init kV_Summary_init dc_Summary_init pm_Summary_init cd_Summary_init ct_Summary_init : Value} {od_Summary_init an_Summary_init : Option Addr} {sl_Summary_init : Array (Option Value)}
    {f_Summary_ordered : Addr} {oc_Summary_ordered kV_Summary_ordered dc_Summary_ordered pm_Summary_ordered cd_Summary_ordered ct_Summary_ordered : Value} {od_Summary_ordered an_Summary_ordered : Option Addr} {sl_Summary_ordered : Array (Option Value)}
    {f_Summary_low : Addr} {oc_Summary_low kV_Summary_low dc_Summary_low pm_Summary_low cd_Summary_low ct_Summary_low : Value} {od_Summary_low an_Summary_low : Option Addr} {sl_Summary_low : Array (Option Value)}
    {f_Summary_high : Addr} {oc_Summary_high kV_Summary_high dc_Summary_high pm_Summary_high cd_Summary_high ct_Summary_high : Value} {od_Summary_high an_Summary_high : Option Addr} {sl_Summary_high : Array (Option Value)}
    {f_Summary_is_above : Addr} {oc_Summary_is_above kV_Summary_is_above dc_Summary_is_above pm_Summary_is_above cd_Summary_is_above ct_Summary_is_above : Value} {od_Summary_is_above an_Summary_is_above : Option Addr} {sl_Summary_is_above : Array (Option Value)}
    {f_Summary_can_take : Addr} {oc_Summary_can_take kV_Summary_can_take dc_Summary_can_take pm_Summary_can_take cd_Summary_can_take ct_Summary_can_take : Value} {od_Summary_can_take an_Summary_can_take : Option Addr} {sl_Summary_can_take : Array (Option Value)}
    {f_Summary_add : Addr} {oc_Summary_add kV_Summary_add dc_Summary_add pm_Summary_add cd_Summary_add ct_Summary_add : Value} {od_Summary_add an_Summary_add : Option Addr} {sl_Summary_add : Array (Option Value)}
    {f_Summary_can_merge : Addr} {oc_Summary_can_merge kV_Summary_can_merge dc_Summary_can_merge pm_Summary_can_merge cd_Summary_can_merge ct_Summary_can_merge : Value} {od_Summary_can_merge an_Summary_can_merge : Option Addr} {sl_Summary_can_merge : Array (Option Value)}
    {f_Summary_merge : Addr} {oc_Summary_merge kV_Summary_merge dc_Summary_merge pm_Summary_merge cd_Summary_merge ct_Summary_merge : Value} {od_Summary_merge an_Summary_merge : Option Addr} {sl_Summary_merge : Array (Option Value)}
    {f_Summary_keep : Addr} {oc_Summary_keep kV_Summary_keep dc_Summary_keep pm_Summary_keep cd_Summary_keep ct_Summary_keep : Value} {od_Summary_keep an_Summary_keep : Option Addr} {sl_Summary_keep : Array (Option Value)}
    {f_Summary_is_within_limits : Addr} {oc_Summary_is_within_limits kV_Summary_is_within_limits dc_Summary_is_within_limits pm_Summary_is_within_limits cd_Summary_is_within_limits ct_Summary_is_within_limits : Value} {od_Summary_is_within_limits an_Summary_is_within_limits : Option Addr} {sl_Summary_is_within_limits : Array (Option Value)}
    {f_Summary_is_proper : Addr} {oc_Summary_is_proper kV_Summary_is_proper dc_Summary_is_proper pm_Summary_is_proper cd_Summary_is_proper ct_Summary_is_proper : Value} {od_Summary_is_proper an_Summary_is_proper : Option Addr} {sl_Summary_is_proper : Array (Option Value)}
    {f_bytes_of : Addr} {oc_bytes_of kV_bytes_of dc_bytes_of pm_bytes_of cd_bytes_of ct_bytes_of : Value} {od_bytes_of an_bytes_of : Option Addr} {sl_bytes_of : Array (Option Value)}
    {f_number_of : Addr} {oc_number_of kV_number_of dc_number_of pm_number_of cd_number_of ct_number_of : Value} {od_number_of an_number_of : Option Addr} {sl_number_of : Array (Option Value)}
    {f_pack : Addr} {oc_pack kV_pack dc_pack pm_pack cd_pack ct_pack : Value} {od_pack an_pack : Option Addr} {sl_pack : Array (Option Value)}
    {f_parse : Addr} {oc_parse kV_parse dc_parse pm_parse cd_parse ct_parse : Value} {od_parse an_parse : Option Addr} {sl_parse : Array (Option Value)}
    {f_unpack : Addr} {oc_unpack kV_unpack dc_unpack pm_unpack cd_unpack ct_unpack : Value} {od_unpack an_unpack : Option Addr} {sl_unpack : Array (Option Value)}
    {f_Line_init : Addr} {oc_Line_init kV_Line_init dc_Line_init pm_Line_init cd_Line_init ct_Line_init : Value} {od_Line_init an_Line_init : Option Addr} {sl_Line_init : Array (Option Value)}
    {f_split_calls : Addr} {oc_split_calls kV_split_calls dc_split_calls pm_split_calls cd_split_calls ct_split_calls : Value} {od_split_calls an_split_calls : Option Addr} {sl_split_calls : Array (Option Value)}
    {f_with_length : Addr} {oc_with_length kV_with_length dc_with_length pm_with_length cd_with_length ct_with_length : Value} {od_with_length an_with_length : Option Addr} {sl_with_length : Array (Option Value)}
    {f_answer_init : Addr} {oc_answer_init kV_answer_init dc_answer_init pm_answer_init cd_answer_init ct_answer_init : Value} {od_answer_init an_answer_init : Option Addr} {sl_answer_init : Array (Option Value)}
    {f_answer_unpack : Addr} {oc_answer_unpack kV_answer_unpack dc_answer_unpack pm_answer_unpack cd_answer_unpack ct_answer_unpack : Value} {od_answer_unpack an_answer_unpack : Option Addr} {sl_answer_unpack : Array (Option Value)}
    {f_answer_stream : Addr} {oc_answer_stream kV_answer_stream dc_answer_stream pm_answer_stream cd_answer_stream ct_answer_stream : Value} {od_answer_stream an_answer_stream : Option Addr} {sl_answer_stream : Array (Option Value)}
    {f_answer_bounds : Addr} {oc_answer_bounds kV_answer_bounds dc_answer_bounds pm_answer_bounds cd_answer_bounds ct_answer_bounds : Value} {od_answer_bounds an_answer_bounds : Option Addr} {sl_answer_bounds : Array (Option Value)}
    {f_answer_entry : Addr} {oc_answer_entry kV_answer_entry dc_answer_entry pm_answer_entry cd_answer_entry ct_answer_entry : Value} {od_answer_entry an_answer_entry : Option Addr} {sl_answer_entry : Array (Option Value)}
    {f_answer_heavy : Addr} {oc_answer_heavy kV_answer_heavy dc_answer_heavy pm_answer_heavy cd_answer_heavy ct_answer_heavy : Value} {od_answer_heavy an_answer_heavy : Option Addr} {sl_answer_heavy : Array (Option Value)}
    {f_answer_merge : Addr} {oc_answer_merge kV_answer_merge dc_answer_merge pm_answer_merge cd_answer_merge ct_answer_merge : Value} {od_answer_merge an_answer_merge : Option Addr} {sl_answer_merge : Array (Option Value)}
    {f_answer_of_summary : Addr} {oc_answer_of_summary kV_answer_of_summary dc_answer_of_summary pm_answer_of_summary cd_answer_of_summary ct_answer_of_summary : Value} {od_answer_of_summary an_answer_of_summary : Option Addr} {sl_answer_of_summary : Array (Option Value)}
    {f_answer_call : Addr} {oc_answer_call kV_answer_call dc_answer_call pm_answer_call cd_answer_call ct_answer_call : Value} {od_answer_call an_answer_call : Option Addr} {sl_answer_call : Array (Option Value)}
    {f_answers : Addr} {oc_answers kV_answers dc_answers pm_answers cd_answers ct_answers : Value} {od_answers an_answers : Option Addr} {sl_answers : Array (Option Value)}
    {z_GREATEST_K : Int} {u_GREATEST_K : Tok}
    {z_WEIGHT_END : Int} {u_WEIGHT_END : Tok}
    {z_TOTAL_END : Int} {u_TOTAL_END : Tok}
    {z_HEAD_WIDTH : Int} {u_HEAD_WIDTH : Tok}
    {z_ENTRY_WIDTH : Int} {u_ENTRY_WIDTH : Tok}
    {z_INIT : Int} {u_INIT : Tok}
    {z_ADD : Int} {u_ADD : Tok}
    {z_TOTAL : Int} {u_TOTAL : Tok}
    {z_ERROR : Int} {u_ERROR : Tok}
    {z_BOUNDS : Int} {u_BOUNDS : Tok}
    {z_COUNT : Int} {u_COUNT : Tok}
    {z_ENTRY : Int} {u_ENTRY : Tok}
    {z_HEAVY : Int} {u_HEAVY : Tok}
    {z_MERGE : Int} {u_MERGE : Tok}
    {z_UNPACK : Int} {u_UNPACK : Tok}
    {z_STREAM : Int} {u_STREAM : Tok}
    {z_DONE : Int} {u_DONE : Tok}
    {z_REFUSED : Int} {u_REFUSED : Tok}
    {z_NO_ENTRY : Int} {u_NO_ENTRY : Tok}
    {z_ERROR_ABOVE : Int} {u_ERROR_ABOVE : Tok}
    {z_NO_SUMMARY : Int} {u_NO_SUMMARY : Tok}
    {d_NUMBERS_BEHIND : Addr} {o_NUMBERS_BEHIND : Obj}
    {t_WITH_ROW : Addr} {its_WITH_ROW : Array Value} {n_WITH_ROW : Nat} {od_WITH_ROW : Option Addr} {sl_WITH_ROW : Array (Option Value)}
    (X : K.In h) (G : h.Ns mainGlobals mg)
    (a_Summary : PySem.W.nsIn K mainGlobals "Summary" = some (some (.ref C_Summary)))
    (a_Line : PySem.W.nsIn K mainGlobals "Line" = some (some (.ref C_Line)))
    (a_is_k : PySem.W.nsIn K mainGlobals "is_k" = some (some (.ref f_is_k)))
    (l_is_k : K.lookup f_is_k = some ⟨oc_is_k, od_is_k, .func (PySem.W.fnOf "is_k" "is_k" (defArgs s_is_k) (defBody s_is_k) (defScope s_is_k) .none kV_is_k dc_is_k pm_is_k an_is_k cd_is_k ct_is_k), sl_is_k⟩)
    (c_is_k : PySem.W.codeIn K cd_is_k "is_k" = true)
    (k_is_k : PySem.W.keepIn K (.ref f_is_k) = true)
    (a_rank : PySem.W.nsIn K mainGlobals "rank" = some (some (.ref f_rank)))
    (l_rank : K.lookup f_rank = some ⟨oc_rank, od_rank, .func (PySem.W.fnOf "rank" "rank" (defArgs s_rank) (defBody s_rank) (defScope s_rank) .none kV_rank dc_rank pm_rank an_rank cd_rank ct_rank), sl_rank⟩)
    (c_rank : PySem.W.codeIn K cd_rank "rank" = true)
    (k_rank : PySem.W.keepIn K (.ref f_rank) = true)
    (a_Summary_init : PySem.W.findIn K (.ref C_Summary) "__init__" = some (some (.ref f_Summary_init)))
    (i_Summary_init : PySem.W.isFn K (.ref f_Summary_init) = true)
    (l_Summary_init : K.lookup f_Summary_init = some ⟨oc_Summary_init, od_Summary_init, .func (PySem.W.fnOf "__init__" "Summary.__init__" (defArgs s_Summary_init) (defBody s_Summary_init) (defScope s_Summary_init) .none kV_Summary_init dc_Summary_init pm_Summary_init an_Summary_init cd_Summary_init ct_Summary_init), sl_Summary_init⟩)
    (c_Summary_init : PySem.W.codeIn K cd_Summary_init "Summary.__init__" = true)
    (k_Summary_init : PySem.W.keepIn K (.ref f_Summary_init) = true)
    (a_Summary_ordered : PySem.W.findIn K (.ref C_Summary) "ordered" = some (some (.ref f_Summary_ordered)))
    (i_Summary_ordered : PySem.W.isFn K (.ref f_Summary_ordered) = true)
    (l_Summary_ordered : K.lookup f_Summary_ordered = some ⟨oc_Summary_ordered, od_Summary_ordered, .func (PySem.W.fnOf "ordered" "Summary.ordered" (defArgs s_Summary_ordered) (defBody s_Summary_ordered) (defScope s_Summary_ordered) .none kV_Summary_ordered dc_Summary_ordered pm_Summary_ordered an_Summary_ordered cd_Summary_ordered ct_Summary_ordered), sl_Summary_ordered⟩)
    (c_Summary_ordered : PySem.W.codeIn K cd_Summary_ordered "Summary.ordered" = true)
    (k_Summary_ordered : PySem.W.keepIn K (.ref f_Summary_ordered) = true)
    (a_Summary_low : PySem.W.findIn K (.ref C_Summary) "low" = some (some (.ref f_Summary_low)))
    (i_Summary_low : PySem.W.isFn K (.ref f_Summary_low) = true)
    (l_Summary_low : K.lookup f_Summary_low = some ⟨oc_Summary_low, od_Summary_low, .func (PySem.W.fnOf "low" "Summary.low" (defArgs s_Summary_low) (defBody s_Summary_low) (defScope s_Summary_low) .none kV_Summary_low dc_Summary_low pm_Summary_low an_Summary_low cd_Summary_low ct_Summary_low), sl_Summary_low⟩)
    (c_Summary_low : PySem.W.codeIn K cd_Summary_low "Summary.low" = true)
    (k_Summary_low : PySem.W.keepIn K (.ref f_Summary_low) = true)
    (a_Summary_high : PySem.W.findIn K (.ref C_Summary) "high" = some (some (.ref f_Summary_high)))
    (i_Summary_high : PySem.W.isFn K (.ref f_Summary_high) = true)
    (l_Summary_high : K.lookup f_Summary_high = some ⟨oc_Summary_high, od_Summary_high, .func (PySem.W.fnOf "high" "Summary.high" (defArgs s_Summary_high) (defBody s_Summary_high) (defScope s_Summary_high) .none kV_Summary_high dc_Summary_high pm_Summary_high an_Summary_high cd_Summary_high ct_Summary_high), sl_Summary_high⟩)
    (c_Summary_high : PySem.W.codeIn K cd_Summary_high "Summary.high" = true)
    (k_Summary_high : PySem.W.keepIn K (.ref f_Summary_high) = true)
    (a_Summary_is_above : PySem.W.findIn K (.ref C_Summary) "is_above" = some (some (.ref f_Summary_is_above)))
    (i_Summary_is_above : PySem.W.isFn K (.ref f_Summary_is_above) = true)
    (l_Summary_is_above : K.lookup f_Summary_is_above = some ⟨oc_Summary_is_above, od_Summary_is_above, .func (PySem.W.fnOf "is_above" "Summary.is_above" (defArgs s_Summary_is_above) (defBody s_Summary_is_above) (defScope s_Summary_is_above) .none kV_Summary_is_above dc_Summary_is_above pm_Summary_is_above an_Summary_is_above cd_Summary_is_above ct_Summary_is_above), sl_Summary_is_above⟩)
    (c_Summary_is_above : PySem.W.codeIn K cd_Summary_is_above "Summary.is_above" = true)
    (k_Summary_is_above : PySem.W.keepIn K (.ref f_Summary_is_above) = true)
    (a_Summary_can_take : PySem.W.findIn K (.ref C_Summary) "can_take" = some (some (.ref f_Summary_can_take)))
    (i_Summary_can_take : PySem.W.isFn K (.ref f_Summary_can_take) = true)
    (l_Summary_can_take : K.lookup f_Summary_can_take = some ⟨oc_Summary_can_take, od_Summary_can_take, .func (PySem.W.fnOf "can_take" "Summary.can_take" (defArgs s_Summary_can_take) (defBody s_Summary_can_take) (defScope s_Summary_can_take) .none kV_Summary_can_take dc_Summary_can_take pm_Summary_can_take an_Summary_can_take cd_Summary_can_take ct_Summary_can_take), sl_Summary_can_take⟩)
    (c_Summary_can_take : PySem.W.codeIn K cd_Summary_can_take "Summary.can_take" = true)
    (k_Summary_can_take : PySem.W.keepIn K (.ref f_Summary_can_take) = true)
    (a_Summary_add : PySem.W.findIn K (.ref C_Summary) "add" = some (some (.ref f_Summary_add)))
    (i_Summary_add : PySem.W.isFn K (.ref f_Summary_add) = true)
    (l_Summary_add : K.lookup f_Summary_add = some ⟨oc_Summary_add, od_Summary_add, .func (PySem.W.fnOf "add" "Summary.add" (defArgs s_Summary_add) (defBody s_Summary_add) (defScope s_Summary_add) .none kV_Summary_add dc_Summary_add pm_Summary_add an_Summary_add cd_Summary_add ct_Summary_add), sl_Summary_add⟩)
    (c_Summary_add : PySem.W.codeIn K cd_Summary_add "Summary.add" = true)
    (k_Summary_add : PySem.W.keepIn K (.ref f_Summary_add) = true)
    (a_Summary_can_merge : PySem.W.findIn K (.ref C_Summary) "can_merge" = some (some (.ref f_Summary_can_merge)))
    (i_Summary_can_merge : PySem.W.isFn K (.ref f_Summary_can_merge) = true)
    (l_Summary_can_merge : K.lookup f_Summary_can_merge = some ⟨oc_Summary_can_merge, od_Summary_can_merge, .func (PySem.W.fnOf "can_merge" "Summary.can_merge" (defArgs s_Summary_can_merge) (defBody s_Summary_can_merge) (defScope s_Summary_can_merge) .none kV_Summary_can_merge dc_Summary_can_merge pm_Summary_can_merge an_Summary_can_merge cd_Summary_can_merge ct_Summary_can_merge), sl_Summary_can_merge⟩)
    (c_Summary_can_merge : PySem.W.codeIn K cd_Summary_can_merge "Summary.can_merge" = true)
    (k_Summary_can_merge : PySem.W.keepIn K (.ref f_Summary_can_merge) = true)
    (a_Summary_merge : PySem.W.findIn K (.ref C_Summary) "merge" = some (some (.ref f_Summary_merge)))
    (i_Summary_merge : PySem.W.isFn K (.ref f_Summary_merge) = true)
    (l_Summary_merge : K.lookup f_Summary_merge = some ⟨oc_Summary_merge, od_Summary_merge, .func (PySem.W.fnOf "merge" "Summary.merge" (defArgs s_Summary_merge) (defBody s_Summary_merge) (defScope s_Summary_merge) .none kV_Summary_merge dc_Summary_merge pm_Summary_merge an_Summary_merge cd_Summary_merge ct_Summary_merge), sl_Summary_merge⟩)
    (c_Summary_merge : PySem.W.codeIn K cd_Summary_merge "Summary.merge" = true)
    (k_Summary_merge : PySem.W.keepIn K (.ref f_Summary_merge) = true)
    (a_Summary_keep : PySem.W.findIn K (.ref C_Summary) "keep" = some (some (.ref f_Summary_keep)))
    (i_Summary_keep : PySem.W.isFn K (.ref f_Summary_keep) = true)
    (l_Summary_keep : K.lookup f_Summary_keep = some ⟨oc_Summary_keep, od_Summary_keep, .func (PySem.W.fnOf "keep" "Summary.keep" (defArgs s_Summary_keep) (defBody s_Summary_keep) (defScope s_Summary_keep) .none kV_Summary_keep dc_Summary_keep pm_Summary_keep an_Summary_keep cd_Summary_keep ct_Summary_keep), sl_Summary_keep⟩)
    (c_Summary_keep : PySem.W.codeIn K cd_Summary_keep "Summary.keep" = true)
    (k_Summary_keep : PySem.W.keepIn K (.ref f_Summary_keep) = true)
    (a_Summary_is_within_limits : PySem.W.findIn K (.ref C_Summary) "is_within_limits" = some (some (.ref f_Summary_is_within_limits)))
    (i_Summary_is_within_limits : PySem.W.isFn K (.ref f_Summary_is_within_limits) = true)
    (l_Summary_is_within_limits : K.lookup f_Summary_is_within_limits = some ⟨oc_Summary_is_within_limits, od_Summary_is_within_limits, .func (PySem.W.fnOf "is_within_limits" "Summary.is_within_limits" (defArgs s_Summary_is_within_limits) (defBody s_Summary_is_within_limits) (defScope s_Summary_is_within_limits) .none kV_Summary_is_within_limits dc_Summary_is_within_limits pm_Summary_is_within_limits an_Summary_is_within_limits cd_Summary_is_within_limits ct_Summary_is_within_limits), sl_Summary_is_within_limits⟩)
    (c_Summary_is_within_limits : PySem.W.codeIn K cd_Summary_is_within_limits "Summary.is_within_limits" = true)
    (k_Summary_is_within_limits : PySem.W.keepIn K (.ref f_Summary_is_within_limits) = true)
    (a_Summary_is_proper : PySem.W.findIn K (.ref C_Summary) "is_proper" = some (some (.ref f_Summary_is_proper)))
    (i_Summary_is_proper : PySem.W.isFn K (.ref f_Summary_is_proper) = true)
    (l_Summary_is_proper : K.lookup f_Summary_is_proper = some ⟨oc_Summary_is_proper, od_Summary_is_proper, .func (PySem.W.fnOf "is_proper" "Summary.is_proper" (defArgs s_Summary_is_proper) (defBody s_Summary_is_proper) (defScope s_Summary_is_proper) .none kV_Summary_is_proper dc_Summary_is_proper pm_Summary_is_proper an_Summary_is_proper cd_Summary_is_proper ct_Summary_is_proper), sl_Summary_is_proper⟩)
    (c_Summary_is_proper : PySem.W.codeIn K cd_Summary_is_proper "Summary.is_proper" = true)
    (k_Summary_is_proper : PySem.W.keepIn K (.ref f_Summary_is_proper) = true)
    (a_bytes_of : PySem.W.nsIn K mainGlobals "bytes_of" = some (some (.ref f_bytes_of)))
    (l_bytes_of : K.lookup f_bytes_of = some ⟨oc_bytes_of, od_bytes_of, .func (PySem.W.fnOf "bytes_of" "bytes_of" (defArgs s_bytes_of) (defBody s_bytes_of) (defScope s_bytes_of) .none kV_bytes_of dc_bytes_of pm_bytes_of an_bytes_of cd_bytes_of ct_bytes_of), sl_bytes_of⟩)
    (c_bytes_of : PySem.W.codeIn K cd_bytes_of "bytes_of" = true)
    (k_bytes_of : PySem.W.keepIn K (.ref f_bytes_of) = true)
    (a_number_of : PySem.W.nsIn K mainGlobals "number_of" = some (some (.ref f_number_of)))
    (l_number_of : K.lookup f_number_of = some ⟨oc_number_of, od_number_of, .func (PySem.W.fnOf "number_of" "number_of" (defArgs s_number_of) (defBody s_number_of) (defScope s_number_of) .none kV_number_of dc_number_of pm_number_of an_number_of cd_number_of ct_number_of), sl_number_of⟩)
    (c_number_of : PySem.W.codeIn K cd_number_of "number_of" = true)
    (k_number_of : PySem.W.keepIn K (.ref f_number_of) = true)
    (a_pack : PySem.W.nsIn K mainGlobals "pack" = some (some (.ref f_pack)))
    (l_pack : K.lookup f_pack = some ⟨oc_pack, od_pack, .func (PySem.W.fnOf "pack" "pack" (defArgs s_pack) (defBody s_pack) (defScope s_pack) .none kV_pack dc_pack pm_pack an_pack cd_pack ct_pack), sl_pack⟩)
    (c_pack : PySem.W.codeIn K cd_pack "pack" = true)
    (k_pack : PySem.W.keepIn K (.ref f_pack) = true)
    (a_parse : PySem.W.nsIn K mainGlobals "parse" = some (some (.ref f_parse)))
    (l_parse : K.lookup f_parse = some ⟨oc_parse, od_parse, .func (PySem.W.fnOf "parse" "parse" (defArgs s_parse) (defBody s_parse) (defScope s_parse) .none kV_parse dc_parse pm_parse an_parse cd_parse ct_parse), sl_parse⟩)
    (c_parse : PySem.W.codeIn K cd_parse "parse" = true)
    (k_parse : PySem.W.keepIn K (.ref f_parse) = true)
    (a_unpack : PySem.W.nsIn K mainGlobals "unpack" = some (some (.ref f_unpack)))
    (l_unpack : K.lookup f_unpack = some ⟨oc_unpack, od_unpack, .func (PySem.W.fnOf "unpack" "unpack" (defArgs s_unpack) (defBody s_unpack) (defScope s_unpack) .none kV_unpack dc_unpack pm_unpack an_unpack cd_unpack ct_unpack), sl_unpack⟩)
    (c_unpack : PySem.W.codeIn K cd_unpack "unpack" = true)
    (k_unpack : PySem.W.keepIn K (.ref f_unpack) = true)
    (a_Line_init : PySem.W.findIn K (.ref C_Line) "__init__" = some (some (.ref f_Line_init)))
    (i_Line_init : PySem.W.isFn K (.ref f_Line_init) = true)
    (l_Line_init : K.lookup f_Line_init = some ⟨oc_Line_init, od_Line_init, .func (PySem.W.fnOf "__init__" "Line.__init__" (defArgs s_Line_init) (defBody s_Line_init) (defScope s_Line_init) .none kV_Line_init dc_Line_init pm_Line_init an_Line_init cd_Line_init ct_Line_init), sl_Line_init⟩)
    (c_Line_init : PySem.W.codeIn K cd_Line_init "Line.__init__" = true)
    (k_Line_init : PySem.W.keepIn K (.ref f_Line_init) = true)
    (a_split_calls : PySem.W.nsIn K mainGlobals "split_calls" = some (some (.ref f_split_calls)))
    (l_split_calls : K.lookup f_split_calls = some ⟨oc_split_calls, od_split_calls, .func (PySem.W.fnOf "split_calls" "split_calls" (defArgs s_split_calls) (defBody s_split_calls) (defScope s_split_calls) .none kV_split_calls dc_split_calls pm_split_calls an_split_calls cd_split_calls ct_split_calls), sl_split_calls⟩)
    (c_split_calls : PySem.W.codeIn K cd_split_calls "split_calls" = true)
    (k_split_calls : PySem.W.keepIn K (.ref f_split_calls) = true)
    (a_with_length : PySem.W.nsIn K mainGlobals "with_length" = some (some (.ref f_with_length)))
    (l_with_length : K.lookup f_with_length = some ⟨oc_with_length, od_with_length, .func (PySem.W.fnOf "with_length" "with_length" (defArgs s_with_length) (defBody s_with_length) (defScope s_with_length) .none kV_with_length dc_with_length pm_with_length an_with_length cd_with_length ct_with_length), sl_with_length⟩)
    (c_with_length : PySem.W.codeIn K cd_with_length "with_length" = true)
    (k_with_length : PySem.W.keepIn K (.ref f_with_length) = true)
    (a_answer_init : PySem.W.nsIn K mainGlobals "answer_init" = some (some (.ref f_answer_init)))
    (l_answer_init : K.lookup f_answer_init = some ⟨oc_answer_init, od_answer_init, .func (PySem.W.fnOf "answer_init" "answer_init" (defArgs s_answer_init) (defBody s_answer_init) (defScope s_answer_init) .none kV_answer_init dc_answer_init pm_answer_init an_answer_init cd_answer_init ct_answer_init), sl_answer_init⟩)
    (c_answer_init : PySem.W.codeIn K cd_answer_init "answer_init" = true)
    (k_answer_init : PySem.W.keepIn K (.ref f_answer_init) = true)
    (a_answer_unpack : PySem.W.nsIn K mainGlobals "answer_unpack" = some (some (.ref f_answer_unpack)))
    (l_answer_unpack : K.lookup f_answer_unpack = some ⟨oc_answer_unpack, od_answer_unpack, .func (PySem.W.fnOf "answer_unpack" "answer_unpack" (defArgs s_answer_unpack) (defBody s_answer_unpack) (defScope s_answer_unpack) .none kV_answer_unpack dc_answer_unpack pm_answer_unpack an_answer_unpack cd_answer_unpack ct_answer_unpack), sl_answer_unpack⟩)
    (c_answer_unpack : PySem.W.codeIn K cd_answer_unpack "answer_unpack" = true)
    (k_answer_unpack : PySem.W.keepIn K (.ref f_answer_unpack) = true)
    (a_answer_stream : PySem.W.nsIn K mainGlobals "answer_stream" = some (some (.ref f_answer_stream)))
    (l_answer_stream : K.lookup f_answer_stream = some ⟨oc_answer_stream, od_answer_stream, .func (PySem.W.fnOf "answer_stream" "answer_stream" (defArgs s_answer_stream) (defBody s_answer_stream) (defScope s_answer_stream) .none kV_answer_stream dc_answer_stream pm_answer_stream an_answer_stream cd_answer_stream ct_answer_stream), sl_answer_stream⟩)
    (c_answer_stream : PySem.W.codeIn K cd_answer_stream "answer_stream" = true)
    (k_answer_stream : PySem.W.keepIn K (.ref f_answer_stream) = true)
    (a_answer_bounds : PySem.W.nsIn K mainGlobals "answer_bounds" = some (some (.ref f_answer_bounds)))
    (l_answer_bounds : K.lookup f_answer_bounds = some ⟨oc_answer_bounds, od_answer_bounds, .func (PySem.W.fnOf "answer_bounds" "answer_bounds" (defArgs s_answer_bounds) (defBody s_answer_bounds) (defScope s_answer_bounds) .none kV_answer_bounds dc_answer_bounds pm_answer_bounds an_answer_bounds cd_answer_bounds ct_answer_bounds), sl_answer_bounds⟩)
    (c_answer_bounds : PySem.W.codeIn K cd_answer_bounds "answer_bounds" = true)
    (k_answer_bounds : PySem.W.keepIn K (.ref f_answer_bounds) = true)
    (a_answer_entry : PySem.W.nsIn K mainGlobals "answer_entry" = some (some (.ref f_answer_entry)))
    (l_answer_entry : K.lookup f_answer_entry = some ⟨oc_answer_entry, od_answer_entry, .func (PySem.W.fnOf "answer_entry" "answer_entry" (defArgs s_answer_entry) (defBody s_answer_entry) (defScope s_answer_entry) .none kV_answer_entry dc_answer_entry pm_answer_entry an_answer_entry cd_answer_entry ct_answer_entry), sl_answer_entry⟩)
    (c_answer_entry : PySem.W.codeIn K cd_answer_entry "answer_entry" = true)
    (k_answer_entry : PySem.W.keepIn K (.ref f_answer_entry) = true)
    (a_answer_heavy : PySem.W.nsIn K mainGlobals "answer_heavy" = some (some (.ref f_answer_heavy)))
    (l_answer_heavy : K.lookup f_answer_heavy = some ⟨oc_answer_heavy, od_answer_heavy, .func (PySem.W.fnOf "answer_heavy" "answer_heavy" (defArgs s_answer_heavy) (defBody s_answer_heavy) (defScope s_answer_heavy) .none kV_answer_heavy dc_answer_heavy pm_answer_heavy an_answer_heavy cd_answer_heavy ct_answer_heavy), sl_answer_heavy⟩)
    (c_answer_heavy : PySem.W.codeIn K cd_answer_heavy "answer_heavy" = true)
    (k_answer_heavy : PySem.W.keepIn K (.ref f_answer_heavy) = true)
    (a_answer_merge : PySem.W.nsIn K mainGlobals "answer_merge" = some (some (.ref f_answer_merge)))
    (l_answer_merge : K.lookup f_answer_merge = some ⟨oc_answer_merge, od_answer_merge, .func (PySem.W.fnOf "answer_merge" "answer_merge" (defArgs s_answer_merge) (defBody s_answer_merge) (defScope s_answer_merge) .none kV_answer_merge dc_answer_merge pm_answer_merge an_answer_merge cd_answer_merge ct_answer_merge), sl_answer_merge⟩)
    (c_answer_merge : PySem.W.codeIn K cd_answer_merge "answer_merge" = true)
    (k_answer_merge : PySem.W.keepIn K (.ref f_answer_merge) = true)
    (a_answer_of_summary : PySem.W.nsIn K mainGlobals "answer_of_summary" = some (some (.ref f_answer_of_summary)))
    (l_answer_of_summary : K.lookup f_answer_of_summary = some ⟨oc_answer_of_summary, od_answer_of_summary, .func (PySem.W.fnOf "answer_of_summary" "answer_of_summary" (defArgs s_answer_of_summary) (defBody s_answer_of_summary) (defScope s_answer_of_summary) .none kV_answer_of_summary dc_answer_of_summary pm_answer_of_summary an_answer_of_summary cd_answer_of_summary ct_answer_of_summary), sl_answer_of_summary⟩)
    (c_answer_of_summary : PySem.W.codeIn K cd_answer_of_summary "answer_of_summary" = true)
    (k_answer_of_summary : PySem.W.keepIn K (.ref f_answer_of_summary) = true)
    (a_answer_call : PySem.W.nsIn K mainGlobals "answer_call" = some (some (.ref f_answer_call)))
    (l_answer_call : K.lookup f_answer_call = some ⟨oc_answer_call, od_answer_call, .func (PySem.W.fnOf "answer_call" "answer_call" (defArgs s_answer_call) (defBody s_answer_call) (defScope s_answer_call) .none kV_answer_call dc_answer_call pm_answer_call an_answer_call cd_answer_call ct_answer_call), sl_answer_call⟩)
    (c_answer_call : PySem.W.codeIn K cd_answer_call "answer_call" = true)
    (k_answer_call : PySem.W.keepIn K (.ref f_answer_call) = true)
    (a_answers : PySem.W.nsIn K mainGlobals "answers" = some (some (.ref f_answers)))
    (l_answers : K.lookup f_answers = some ⟨oc_answers, od_answers, .func (PySem.W.fnOf "answers" "answers" (defArgs s_answers) (defBody s_answers) (defScope s_answers) .none kV_answers dc_answers pm_answers an_answers cd_answers ct_answers), sl_answers⟩)
    (c_answers : PySem.W.codeIn K cd_answers "answers" = true)
    (k_answers : PySem.W.keepIn K (.ref f_answers) = true)
    (pg_Summary : PySem.W.plainGet K C_Summary Str.empty = true)
    (hd_Summary : PySem.W.hasDictIn K C_Summary = true)
    (po_Summary : PySem.W.plainOver K C_Summary = true)
    (sa_Summary : PySem.W.findIn K (.ref C_Summary) "__setattr__" = some (some (.builtin "object.__setattr__")))
    (mk_Summary : PySem.W.makesIn K C_Summary = true)
    (kc_Summary : PySem.W.keepIn K (.ref C_Summary) = true)
    (no_Summary_k : PySem.W.findIn K (.ref C_Summary) "k" = some none)
    (no_Summary_total : PySem.W.findIn K (.ref C_Summary) "total" = some none)
    (no_Summary_error : PySem.W.findIn K (.ref C_Summary) "error" = some none)
    (no_Summary_table : PySem.W.findIn K (.ref C_Summary) "table" = some none)
    (pg_Line : PySem.W.plainGet K C_Line Str.empty = true)
    (hd_Line : PySem.W.hasDictIn K C_Line = true)
    (po_Line : PySem.W.plainOver K C_Line = true)
    (sa_Line : PySem.W.findIn K (.ref C_Line) "__setattr__" = some (some (.builtin "object.__setattr__")))
    (mk_Line : PySem.W.makesIn K C_Line = true)
    (kc_Line : PySem.W.keepIn K (.ref C_Line) = true)
    (no_Line_summary : PySem.W.findIn K (.ref C_Line) "summary" = some none)
    (ne_Summary_Line : C_Summary ≠ C_Line)
    (a_GREATEST_K : PySem.W.nsIn K mainGlobals "GREATEST_K" = some (some (.int z_GREATEST_K u_GREATEST_K)))
    (e_GREATEST_K : z_GREATEST_K = 1024)
    (a_WEIGHT_END : PySem.W.nsIn K mainGlobals "WEIGHT_END" = some (some (.int z_WEIGHT_END u_WEIGHT_END)))
    (e_WEIGHT_END : z_WEIGHT_END = 4294967296)
    (a_TOTAL_END : PySem.W.nsIn K mainGlobals "TOTAL_END" = some (some (.int z_TOTAL_END u_TOTAL_END)))
    (e_TOTAL_END : z_TOTAL_END = 9223372036854775808)
    (a_HEAD_WIDTH : PySem.W.nsIn K mainGlobals "HEAD_WIDTH" = some (some (.int z_HEAD_WIDTH u_HEAD_WIDTH)))
    (e_HEAD_WIDTH : z_HEAD_WIDTH = 24)
    (a_ENTRY_WIDTH : PySem.W.nsIn K mainGlobals "ENTRY_WIDTH" = some (some (.int z_ENTRY_WIDTH u_ENTRY_WIDTH)))
    (e_ENTRY_WIDTH : z_ENTRY_WIDTH = 16)
    (a_INIT : PySem.W.nsIn K mainGlobals "INIT" = some (some (.int z_INIT u_INIT)))
    (e_INIT : z_INIT = 1)
    (a_ADD : PySem.W.nsIn K mainGlobals "ADD" = some (some (.int z_ADD u_ADD)))
    (e_ADD : z_ADD = 2)
    (a_TOTAL : PySem.W.nsIn K mainGlobals "TOTAL" = some (some (.int z_TOTAL u_TOTAL)))
    (e_TOTAL : z_TOTAL = 3)
    (a_ERROR : PySem.W.nsIn K mainGlobals "ERROR" = some (some (.int z_ERROR u_ERROR)))
    (e_ERROR : z_ERROR = 4)
    (a_BOUNDS : PySem.W.nsIn K mainGlobals "BOUNDS" = some (some (.int z_BOUNDS u_BOUNDS)))
    (e_BOUNDS : z_BOUNDS = 5)
    (a_COUNT : PySem.W.nsIn K mainGlobals "COUNT" = some (some (.int z_COUNT u_COUNT)))
    (e_COUNT : z_COUNT = 6)
    (a_ENTRY : PySem.W.nsIn K mainGlobals "ENTRY" = some (some (.int z_ENTRY u_ENTRY)))
    (e_ENTRY : z_ENTRY = 7)
    (a_HEAVY : PySem.W.nsIn K mainGlobals "HEAVY" = some (some (.int z_HEAVY u_HEAVY)))
    (e_HEAVY : z_HEAVY = 8)
    (a_MERGE : PySem.W.nsIn K mainGlobals "MERGE" = some (some (.int z_MERGE u_MERGE)))
    (e_MERGE : z_MERGE = 9)
    (a_UNPACK : PySem.W.nsIn K mainGlobals "UNPACK" = some (some (.int z_UNPACK u_UNPACK)))
    (e_UNPACK : z_UNPACK = 11)
    (a_STREAM : PySem.W.nsIn K mainGlobals "STREAM" = some (some (.int z_STREAM u_STREAM)))
    (e_STREAM : z_STREAM = 12)
    (a_DONE : PySem.W.nsIn K mainGlobals "DONE" = some (some (.int z_DONE u_DONE)))
    (e_DONE : z_DONE = 0)
    (a_REFUSED : PySem.W.nsIn K mainGlobals "REFUSED" = some (some (.int z_REFUSED u_REFUSED)))
    (e_REFUSED : z_REFUSED = -1)
    (a_NO_ENTRY : PySem.W.nsIn K mainGlobals "NO_ENTRY" = some (some (.int z_NO_ENTRY u_NO_ENTRY)))
    (e_NO_ENTRY : z_NO_ENTRY = -2)
    (a_ERROR_ABOVE : PySem.W.nsIn K mainGlobals "ERROR_ABOVE" = some (some (.int z_ERROR_ABOVE u_ERROR_ABOVE)))
    (e_ERROR_ABOVE : z_ERROR_ABOVE = -3)
    (a_NO_SUMMARY : PySem.W.nsIn K mainGlobals "NO_SUMMARY" = some (some (.int z_NO_SUMMARY u_NO_SUMMARY)))
    (e_NO_SUMMARY : z_NO_SUMMARY = -9)
    (a_NUMBERS_BEHIND : PySem.W.nsIn K mainGlobals "NUMBERS_BEHIND" = some (some (.ref d_NUMBERS_BEHIND)))
    (l_NUMBERS_BEHIND : K.lookup d_NUMBERS_BEHIND = some o_NUMBERS_BEHIND)
    (b_NUMBERS_BEHIND : dictB o_NUMBERS_BEHIND [(1, 1), (2, 2), (3, 0), (4, 0), (5, 1), (6, 0), (7, 1), (8, 2), (10, 0)] = true)
    (s_NUMBERS_BEHIND : (d_NUMBERS_BEHIND == sysModules) = false)
    (a_WITH_ROW : PySem.W.nsIn K mainGlobals "WITH_ROW" = some (some (.ref t_WITH_ROW)))
    (l_WITH_ROW : K.lookup t_WITH_ROW = some ⟨.type "tuple", od_WITH_ROW, .seq its_WITH_ROW n_WITH_ROW, sl_WITH_ROW⟩)
    (z_WITH_ROW : its_WITH_ROW.size ≤ sizeLine)
    (v_WITH_ROW : Vals [V.int (9), V.int (11), V.int (12)] its_WITH_ROW.toList)
    (n_dict : PySem.W.nsIn K mainGlobals "dict" = some none)
    (n_len : PySem.W.nsIn K mainGlobals "len" = some none)
    (n_list : PySem.W.nsIn K mainGlobals "list" = some none)
    (n_max : PySem.W.nsIn K mainGlobals "max" = some none)
    (n_range : PySem.W.nsIn K mainGlobals "range" = some none)
    (n_reversed : PySem.W.nsIn K mainGlobals "reversed" = some none)
    (n_sorted : PySem.W.nsIn K mainGlobals "sorted" = some none)
    (n_sum : PySem.W.nsIn K mainGlobals "sum" = some none)
    (n_zip : PySem.W.nsIn K mainGlobals "zip" = some none) :
    Txt K mg ⟨C_Summary, C_Line, f_is_k, (PySem.W.fnOf "is_k" "is_k" (defArgs s_is_k) (defBody s_is_k) (defScope s_is_k) .none kV_is_k dc_is_k pm_is_k an_is_k cd_is_k ct_is_k), f_rank, (PySem.W.fnOf "rank" "rank" (defArgs s_rank) (defBody s_rank) (defScope s_rank) .none kV_rank dc_rank pm_rank an_rank cd_rank ct_rank), f_Summary_init, (PySem.W.fnOf "__init__" "Summary.__init__" (defArgs s_Summary_init) (defBody s_Summary_init) (defScope s_Summary_init) .none kV_Summary_init dc_Summary_init pm_Summary_init an_Summary_init cd_Summary_init ct_Summary_init), f_Summary_ordered, (PySem.W.fnOf "ordered" "Summary.ordered" (defArgs s_Summary_ordered) (defBody s_Summary_ordered) (defScope s_Summary_ordered) .none kV_Summary_ordered dc_Summary_ordered pm_Summary_ordered an_Summary_ordered cd_Summary_ordered ct_Summary_ordered), f_Summary_low, (PySem.W.fnOf "low" "Summary.low" (defArgs s_Summary_low) (defBody s_Summary_low) (defScope s_Summary_low) .none kV_Summary_low dc_Summary_low pm_Summary_low an_Summary_low cd_Summary_low ct_Summary_low), f_Summary_high, (PySem.W.fnOf "high" "Summary.high" (defArgs s_Summary_high) (defBody s_Summary_high) (defScope s_Summary_high) .none kV_Summary_high dc_Summary_high pm_Summary_high an_Summary_high cd_Summary_high ct_Summary_high), f_Summary_is_above, (PySem.W.fnOf "is_above" "Summary.is_above" (defArgs s_Summary_is_above) (defBody s_Summary_is_above) (defScope s_Summary_is_above) .none kV_Summary_is_above dc_Summary_is_above pm_Summary_is_above an_Summary_is_above cd_Summary_is_above ct_Summary_is_above), f_Summary_can_take, (PySem.W.fnOf "can_take" "Summary.can_take" (defArgs s_Summary_can_take) (defBody s_Summary_can_take) (defScope s_Summary_can_take) .none kV_Summary_can_take dc_Summary_can_take pm_Summary_can_take an_Summary_can_take cd_Summary_can_take ct_Summary_can_take), f_Summary_add, (PySem.W.fnOf "add" "Summary.add" (defArgs s_Summary_add) (defBody s_Summary_add) (defScope s_Summary_add) .none kV_Summary_add dc_Summary_add pm_Summary_add an_Summary_add cd_Summary_add ct_Summary_add), f_Summary_can_merge, (PySem.W.fnOf "can_merge" "Summary.can_merge" (defArgs s_Summary_can_merge) (defBody s_Summary_can_merge) (defScope s_Summary_can_merge) .none kV_Summary_can_merge dc_Summary_can_merge pm_Summary_can_merge an_Summary_can_merge cd_Summary_can_merge ct_Summary_can_merge), f_Summary_merge, (PySem.W.fnOf "merge" "Summary.merge" (defArgs s_Summary_merge) (defBody s_Summary_merge) (defScope s_Summary_merge) .none kV_Summary_merge dc_Summary_merge pm_Summary_merge an_Summary_merge cd_Summary_merge ct_Summary_merge), f_Summary_keep, (PySem.W.fnOf "keep" "Summary.keep" (defArgs s_Summary_keep) (defBody s_Summary_keep) (defScope s_Summary_keep) .none kV_Summary_keep dc_Summary_keep pm_Summary_keep an_Summary_keep cd_Summary_keep ct_Summary_keep), f_Summary_is_within_limits, (PySem.W.fnOf "is_within_limits" "Summary.is_within_limits" (defArgs s_Summary_is_within_limits) (defBody s_Summary_is_within_limits) (defScope s_Summary_is_within_limits) .none kV_Summary_is_within_limits dc_Summary_is_within_limits pm_Summary_is_within_limits an_Summary_is_within_limits cd_Summary_is_within_limits ct_Summary_is_within_limits), f_Summary_is_proper, (PySem.W.fnOf "is_proper" "Summary.is_proper" (defArgs s_Summary_is_proper) (defBody s_Summary_is_proper) (defScope s_Summary_is_proper) .none kV_Summary_is_proper dc_Summary_is_proper pm_Summary_is_proper an_Summary_is_proper cd_Summary_is_proper ct_Summary_is_proper), f_bytes_of, (PySem.W.fnOf "bytes_of" "bytes_of" (defArgs s_bytes_of) (defBody s_bytes_of) (defScope s_bytes_of) .none kV_bytes_of dc_bytes_of pm_bytes_of an_bytes_of cd_bytes_of ct_bytes_of), f_number_of, (PySem.W.fnOf "number_of" "number_of" (defArgs s_number_of) (defBody s_number_of) (defScope s_number_of) .none kV_number_of dc_number_of pm_number_of an_number_of cd_number_of ct_number_of), f_pack, (PySem.W.fnOf "pack" "pack" (defArgs s_pack) (defBody s_pack) (defScope s_pack) .none kV_pack dc_pack pm_pack an_pack cd_pack ct_pack), f_parse, (PySem.W.fnOf "parse" "parse" (defArgs s_parse) (defBody s_parse) (defScope s_parse) .none kV_parse dc_parse pm_parse an_parse cd_parse ct_parse), f_unpack, (PySem.W.fnOf "unpack" "unpack" (defArgs s_unpack) (defBody s_unpack) (defScope s_unpack) .none kV_unpack dc_unpack pm_unpack an_unpack cd_unpack ct_unpack), f_Line_init, (PySem.W.fnOf "__init__" "Line.__init__" (defArgs s_Line_init) (defBody s_Line_init) (defScope s_Line_init) .none kV_Line_init dc_Line_init pm_Line_init an_Line_init cd_Line_init ct_Line_init), f_split_calls, (PySem.W.fnOf "split_calls" "split_calls" (defArgs s_split_calls) (defBody s_split_calls) (defScope s_split_calls) .none kV_split_calls dc_split_calls pm_split_calls an_split_calls cd_split_calls ct_split_calls), f_with_length, (PySem.W.fnOf "with_length" "with_length" (defArgs s_with_length) (defBody s_with_length) (defScope s_with_length) .none kV_with_length dc_with_length pm_with_length an_with_length cd_with_length ct_with_length), f_answer_init, (PySem.W.fnOf "answer_init" "answer_init" (defArgs s_answer_init) (defBody s_answer_init) (defScope s_answer_init) .none kV_answer_init dc_answer_init pm_answer_init an_answer_init cd_answer_init ct_answer_init), f_answer_unpack, (PySem.W.fnOf "answer_unpack" "answer_unpack" (defArgs s_answer_unpack) (defBody s_answer_unpack) (defScope s_answer_unpack) .none kV_answer_unpack dc_answer_unpack pm_answer_unpack an_answer_unpack cd_answer_unpack ct_answer_unpack), f_answer_stream, (PySem.W.fnOf "answer_stream" "answer_stream" (defArgs s_answer_stream) (defBody s_answer_stream) (defScope s_answer_stream) .none kV_answer_stream dc_answer_stream pm_answer_stream an_answer_stream cd_answer_stream ct_answer_stream), f_answer_bounds, (PySem.W.fnOf "answer_bounds" "answer_bounds" (defArgs s_answer_bounds) (defBody s_answer_bounds) (defScope s_answer_bounds) .none kV_answer_bounds dc_answer_bounds pm_answer_bounds an_answer_bounds cd_answer_bounds ct_answer_bounds), f_answer_entry, (PySem.W.fnOf "answer_entry" "answer_entry" (defArgs s_answer_entry) (defBody s_answer_entry) (defScope s_answer_entry) .none kV_answer_entry dc_answer_entry pm_answer_entry an_answer_entry cd_answer_entry ct_answer_entry), f_answer_heavy, (PySem.W.fnOf "answer_heavy" "answer_heavy" (defArgs s_answer_heavy) (defBody s_answer_heavy) (defScope s_answer_heavy) .none kV_answer_heavy dc_answer_heavy pm_answer_heavy an_answer_heavy cd_answer_heavy ct_answer_heavy), f_answer_merge, (PySem.W.fnOf "answer_merge" "answer_merge" (defArgs s_answer_merge) (defBody s_answer_merge) (defScope s_answer_merge) .none kV_answer_merge dc_answer_merge pm_answer_merge an_answer_merge cd_answer_merge ct_answer_merge), f_answer_of_summary, (PySem.W.fnOf "answer_of_summary" "answer_of_summary" (defArgs s_answer_of_summary) (defBody s_answer_of_summary) (defScope s_answer_of_summary) .none kV_answer_of_summary dc_answer_of_summary pm_answer_of_summary an_answer_of_summary cd_answer_of_summary ct_answer_of_summary), f_answer_call, (PySem.W.fnOf "answer_call" "answer_call" (defArgs s_answer_call) (defBody s_answer_call) (defScope s_answer_call) .none kV_answer_call dc_answer_call pm_answer_call an_answer_call cd_answer_call ct_answer_call), f_answers, (PySem.W.fnOf "answers" "answers" (defArgs s_answers) (defBody s_answers) (defScope s_answers) .none kV_answers dc_answers pm_answers an_answers cd_answers ct_answers), d_NUMBERS_BEHIND, t_WITH_ROW⟩ := by
  have F_is_k := fun_mk (st := s_is_k) l_is_k c_is_k k_is_k
  have F_rank := fun_mk (st := s_rank) l_rank c_rank k_rank
  have F_Summary_init := fun_mk (st := s_Summary_init) l_Summary_init c_Summary_init k_Summary_init
  have F_Summary_ordered := fun_mk (st := s_Summary_ordered) l_Summary_ordered c_Summary_ordered k_Summary_ordered
  have F_Summary_low := fun_mk (st := s_Summary_low) l_Summary_low c_Summary_low k_Summary_low
  have F_Summary_high := fun_mk (st := s_Summary_high) l_Summary_high c_Summary_high k_Summary_high
  have F_Summary_is_above := fun_mk (st := s_Summary_is_above) l_Summary_is_above c_Summary_is_above k_Summary_is_above
  have F_Summary_can_take := fun_mk (st := s_Summary_can_take) l_Summary_can_take c_Summary_can_take k_Summary_can_take
  have F_Summary_add := fun_mk (st := s_Summary_add) l_Summary_add c_Summary_add k_Summary_add
  have F_Summary_can_merge := fun_mk (st := s_Summary_can_merge) l_Summary_can_merge c_Summary_can_merge k_Summary_can_merge
  have F_Summary_merge := fun_mk (st := s_Summary_merge) l_Summary_merge c_Summary_merge k_Summary_merge
  have F_Summary_keep := fun_mk (st := s_Summary_keep) l_Summary_keep c_Summary_keep k_Summary_keep
  have F_Summary_is_within_limits := fun_mk (st := s_Summary_is_within_limits) l_Summary_is_within_limits c_Summary_is_within_limits k_Summary_is_within_limits
  have F_Summary_is_proper := fun_mk (st := s_Summary_is_proper) l_Summary_is_proper c_Summary_is_proper k_Summary_is_proper
  have F_bytes_of := fun_mk (st := s_bytes_of) l_bytes_of c_bytes_of k_bytes_of
  have F_number_of := fun_mk (st := s_number_of) l_number_of c_number_of k_number_of
  have F_pack := fun_mk (st := s_pack) l_pack c_pack k_pack
  have F_parse := fun_mk (st := s_parse) l_parse c_parse k_parse
  have F_unpack := fun_mk (st := s_unpack) l_unpack c_unpack k_unpack
  have F_Line_init := fun_mk (st := s_Line_init) l_Line_init c_Line_init k_Line_init
  have F_split_calls := fun_mk (st := s_split_calls) l_split_calls c_split_calls k_split_calls
  have F_with_length := fun_mk (st := s_with_length) l_with_length c_with_length k_with_length
  have F_answer_init := fun_mk (st := s_answer_init) l_answer_init c_answer_init k_answer_init
  have F_answer_unpack := fun_mk (st := s_answer_unpack) l_answer_unpack c_answer_unpack k_answer_unpack
  have F_answer_stream := fun_mk (st := s_answer_stream) l_answer_stream c_answer_stream k_answer_stream
  have F_answer_bounds := fun_mk (st := s_answer_bounds) l_answer_bounds c_answer_bounds k_answer_bounds
  have F_answer_entry := fun_mk (st := s_answer_entry) l_answer_entry c_answer_entry k_answer_entry
  have F_answer_heavy := fun_mk (st := s_answer_heavy) l_answer_heavy c_answer_heavy k_answer_heavy
  have F_answer_merge := fun_mk (st := s_answer_merge) l_answer_merge c_answer_merge k_answer_merge
  have F_answer_of_summary := fun_mk (st := s_answer_of_summary) l_answer_of_summary c_answer_of_summary k_answer_of_summary
  have F_answer_call := fun_mk (st := s_answer_call) l_answer_call c_answer_call k_answer_call
  have F_answers := fun_mk (st := s_answers) l_answers c_answers k_answers
  constructor
  · exact ⟨pg_Summary, hd_Summary, po_Summary, sa_Summary⟩
  · exact PySem.W.mg_of X G a_Summary
  · exact ⟨mk_Summary, a_Summary_init, i_Summary_init, kc_Summary⟩
  · exact no_Summary_k
  · exact no_Summary_total
  · exact no_Summary_error
  · exact no_Summary_table
  · exact ⟨pg_Line, hd_Line, po_Line, sa_Line⟩
  · exact PySem.W.mg_of X G a_Line
  · exact ⟨mk_Line, a_Line_init, i_Line_init, kc_Line⟩
  · exact no_Line_summary
  · exact ne_Summary_Line
  · exact F_is_k
  · exact F_is_k.binds (ps := ["number"]) fun _ _ _ _ _ _ us hl => match us, hl with | [_], _ => rfl
  · exact PySem.W.mg_of X G a_is_k
  · exact F_rank
  · exact F_rank.binds (ps := ["entry"]) fun _ _ _ _ _ _ us hl => match us, hl with | [_], _ => rfl
  · exact PySem.W.mg_of X G a_rank
  · exact F_Summary_init
  · exact F_Summary_init.binds (ps := ["self", "k"]) fun _ _ _ _ _ _ us hl => match us, hl with | [_, _], _ => rfl
  · exact F_Summary_ordered
  · exact F_Summary_ordered.binds (ps := ["self"]) fun _ _ _ _ _ _ us hl => match us, hl with | [_], _ => rfl
  · exact ⟨a_Summary_ordered, i_Summary_ordered, k_Summary_ordered⟩
  · exact F_Summary_low
  · exact F_Summary_low.binds (ps := ["self", "key"]) fun _ _ _ _ _ _ us hl => match us, hl with | [_, _], _ => rfl
  · exact ⟨a_Summary_low, i_Summary_low, k_Summary_low⟩
  · exact F_Summary_high
  · exact F_Summary_high.binds (ps := ["self", "key"]) fun _ _ _ _ _ _ us hl => match us, hl with | [_, _], _ => rfl
  · exact ⟨a_Summary_high, i_Summary_high, k_Summary_high⟩
  · exact F_Summary_is_above
  · exact F_Summary_is_above.binds (ps := ["self", "weight", "a", "b"]) fun _ _ _ _ _ _ us hl => match us, hl with | [_, _, _, _], _ => rfl
  · exact ⟨a_Summary_is_above, i_Summary_is_above, k_Summary_is_above⟩
  · exact F_Summary_can_take
  · exact F_Summary_can_take.binds (ps := ["self", "weights"]) fun _ _ _ _ _ _ us hl => match us, hl with | [_, _], _ => rfl
  · exact ⟨a_Summary_can_take, i_Summary_can_take, k_Summary_can_take⟩
  · exact F_Summary_add
  · exact F_Summary_add.binds (ps := ["self", "key", "weight"]) fun _ _ _ _ _ _ us hl => match us, hl with | [_, _, _], _ => rfl
  · exact ⟨a_Summary_add, i_Summary_add, k_Summary_add⟩
  · exact F_Summary_can_merge
  · exact F_Summary_can_merge.binds (ps := ["self", "other"]) fun _ _ _ _ _ _ us hl => match us, hl with | [_, _], _ => rfl
  · exact ⟨a_Summary_can_merge, i_Summary_can_merge, k_Summary_can_merge⟩
  · exact F_Summary_merge
  · exact F_Summary_merge.binds (ps := ["self", "other"]) fun _ _ _ _ _ _ us hl => match us, hl with | [_, _], _ => rfl
  · exact ⟨a_Summary_merge, i_Summary_merge, k_Summary_merge⟩
  · exact F_Summary_keep
  · exact F_Summary_keep.binds (ps := ["self"]) fun _ _ _ _ _ _ us hl => match us, hl with | [_], _ => rfl
  · exact ⟨a_Summary_keep, i_Summary_keep, k_Summary_keep⟩
  · exact F_Summary_is_within_limits
  · exact F_Summary_is_within_limits.binds (ps := ["self"]) fun _ _ _ _ _ _ us hl => match us, hl with | [_], _ => rfl
  · exact ⟨a_Summary_is_within_limits, i_Summary_is_within_limits, k_Summary_is_within_limits⟩
  · exact F_Summary_is_proper
  · exact F_Summary_is_proper.binds (ps := ["self"]) fun _ _ _ _ _ _ us hl => match us, hl with | [_], _ => rfl
  · exact ⟨a_Summary_is_proper, i_Summary_is_proper, k_Summary_is_proper⟩
  · exact F_bytes_of
  · exact F_bytes_of.binds (ps := ["number", "width"]) fun _ _ _ _ _ _ us hl => match us, hl with | [_, _], _ => rfl
  · exact PySem.W.mg_of X G a_bytes_of
  · exact F_number_of
  · exact F_number_of.binds (ps := ["row"]) fun _ _ _ _ _ _ us hl => match us, hl with | [_], _ => rfl
  · exact PySem.W.mg_of X G a_number_of
  · exact F_pack
  · exact F_pack.binds (ps := ["summary"]) fun _ _ _ _ _ _ us hl => match us, hl with | [_], _ => rfl
  · exact PySem.W.mg_of X G a_pack
  · exact F_parse
  · exact F_parse.binds (ps := ["row"]) fun _ _ _ _ _ _ us hl => match us, hl with | [_], _ => rfl
  · exact PySem.W.mg_of X G a_parse
  · exact F_unpack
  · exact F_unpack.binds (ps := ["row"]) fun _ _ _ _ _ _ us hl => match us, hl with | [_], _ => rfl
  · exact PySem.W.mg_of X G a_unpack
  · exact F_Line_init
  · exact F_Line_init.binds (ps := ["self"]) fun _ _ _ _ _ _ us hl => match us, hl with | [_], _ => rfl
  · exact F_split_calls
  · exact F_split_calls.binds (ps := ["calls"]) fun _ _ _ _ _ _ us hl => match us, hl with | [_], _ => rfl
  · exact PySem.W.mg_of X G a_split_calls
  · exact F_with_length
  · exact F_with_length.binds (ps := ["row"]) fun _ _ _ _ _ _ us hl => match us, hl with | [_], _ => rfl
  · exact PySem.W.mg_of X G a_with_length
  · exact F_answer_init
  · exact F_answer_init.binds (ps := ["line", "k"]) fun _ _ _ _ _ _ us hl => match us, hl with | [_, _], _ => rfl
  · exact PySem.W.mg_of X G a_answer_init
  · exact F_answer_unpack
  · exact F_answer_unpack.binds (ps := ["line", "row"]) fun _ _ _ _ _ _ us hl => match us, hl with | [_, _], _ => rfl
  · exact PySem.W.mg_of X G a_answer_unpack
  · exact F_answer_stream
  · exact F_answer_stream.binds (ps := ["summary", "row"]) fun _ _ _ _ _ _ us hl => match us, hl with | [_, _], _ => rfl
  · exact PySem.W.mg_of X G a_answer_stream
  · exact F_answer_bounds
  · exact F_answer_bounds.binds (ps := ["summary", "key"]) fun _ _ _ _ _ _ us hl => match us, hl with | [_, _], _ => rfl
  · exact PySem.W.mg_of X G a_answer_bounds
  · exact F_answer_entry
  · exact F_answer_entry.binds (ps := ["summary", "i"]) fun _ _ _ _ _ _ us hl => match us, hl with | [_, _], _ => rfl
  · exact PySem.W.mg_of X G a_answer_entry
  · exact F_answer_heavy
  · exact F_answer_heavy.binds (ps := ["summary", "a", "b"]) fun _ _ _ _ _ _ us hl => match us, hl with | [_, _, _], _ => rfl
  · exact PySem.W.mg_of X G a_answer_heavy
  · exact F_answer_merge
  · exact F_answer_merge.binds (ps := ["summary", "row"]) fun _ _ _ _ _ _ us hl => match us, hl with | [_, _], _ => rfl
  · exact PySem.W.mg_of X G a_answer_merge
  · exact F_answer_of_summary
  · exact F_answer_of_summary.binds (ps := ["summary", "call"]) fun _ _ _ _ _ _ us hl => match us, hl with | [_, _], _ => rfl
  · exact PySem.W.mg_of X G a_answer_of_summary
  · exact F_answer_call
  · exact F_answer_call.binds (ps := ["line", "call"]) fun _ _ _ _ _ _ us hl => match us, hl with | [_, _], _ => rfl
  · exact PySem.W.mg_of X G a_answer_call
  · exact F_answers
  · exact F_answers.binds (ps := ["calls"]) fun _ _ _ _ _ _ us hl => match us, hl with | [_], _ => rfl
  · exact PySem.W.mg_of X G a_answers
  · exact ⟨z_GREATEST_K, u_GREATEST_K, e_GREATEST_K, PySem.W.mg_of X G a_GREATEST_K⟩
  · exact ⟨z_WEIGHT_END, u_WEIGHT_END, e_WEIGHT_END, PySem.W.mg_of X G a_WEIGHT_END⟩
  · exact ⟨z_TOTAL_END, u_TOTAL_END, e_TOTAL_END, PySem.W.mg_of X G a_TOTAL_END⟩
  · exact ⟨z_HEAD_WIDTH, u_HEAD_WIDTH, e_HEAD_WIDTH, PySem.W.mg_of X G a_HEAD_WIDTH⟩
  · exact ⟨z_ENTRY_WIDTH, u_ENTRY_WIDTH, e_ENTRY_WIDTH, PySem.W.mg_of X G a_ENTRY_WIDTH⟩
  · exact ⟨z_INIT, u_INIT, e_INIT, PySem.W.mg_of X G a_INIT⟩
  · exact ⟨z_ADD, u_ADD, e_ADD, PySem.W.mg_of X G a_ADD⟩
  · exact ⟨z_TOTAL, u_TOTAL, e_TOTAL, PySem.W.mg_of X G a_TOTAL⟩
  · exact ⟨z_ERROR, u_ERROR, e_ERROR, PySem.W.mg_of X G a_ERROR⟩
  · exact ⟨z_BOUNDS, u_BOUNDS, e_BOUNDS, PySem.W.mg_of X G a_BOUNDS⟩
  · exact ⟨z_COUNT, u_COUNT, e_COUNT, PySem.W.mg_of X G a_COUNT⟩
  · exact ⟨z_ENTRY, u_ENTRY, e_ENTRY, PySem.W.mg_of X G a_ENTRY⟩
  · exact ⟨z_HEAVY, u_HEAVY, e_HEAVY, PySem.W.mg_of X G a_HEAVY⟩
  · exact ⟨z_MERGE, u_MERGE, e_MERGE, PySem.W.mg_of X G a_MERGE⟩
  · exact ⟨z_UNPACK, u_UNPACK, e_UNPACK, PySem.W.mg_of X G a_UNPACK⟩
  · exact ⟨z_STREAM, u_STREAM, e_STREAM, PySem.W.mg_of X G a_STREAM⟩
  · exact ⟨z_DONE, u_DONE, e_DONE, PySem.W.mg_of X G a_DONE⟩
  · exact ⟨z_REFUSED, u_REFUSED, e_REFUSED, PySem.W.mg_of X G a_REFUSED⟩
  · exact ⟨z_NO_ENTRY, u_NO_ENTRY, e_NO_ENTRY, PySem.W.mg_of X G a_NO_ENTRY⟩
  · exact ⟨z_ERROR_ABOVE, u_ERROR_ABOVE, e_ERROR_ABOVE, PySem.W.mg_of X G a_ERROR_ABOVE⟩
  · exact ⟨z_NO_SUMMARY, u_NO_SUMMARY, e_NO_SUMMARY, PySem.W.mg_of X G a_NO_SUMMARY⟩
  · exact PySem.W.mg_of X G a_NUMBERS_BEHIND
  · exact ⟨⟨o_NUMBERS_BEHIND, l_NUMBERS_BEHIND, b_NUMBERS_BEHIND⟩, by decide, s_NUMBERS_BEHIND⟩
  · exact PySem.W.mg_of X G a_WITH_ROW
  · exact fun H => .inr ⟨_, _, _, l_WITH_ROW, rfl, rfl, z_WITH_ROW, v_WITH_ROW⟩
  · exact PySem.W.mg_none_of X G n_dict
  · exact PySem.W.mg_none_of X G n_len
  · exact PySem.W.mg_none_of X G n_list
  · exact PySem.W.mg_none_of X G n_max
  · exact PySem.W.mg_none_of X G n_range
  · exact PySem.W.mg_none_of X G n_reversed
  · exact PySem.W.mg_none_of X G n_sorted
  · exact PySem.W.mg_none_of X G n_sum
  · exact PySem.W.mg_none_of X G n_zip
end HvM

end
section
set_option Elab.async false
set_option linter.all false
set_option maxRecDepth 100000
set_option maxHeartbeats 4000000
namespace HvM
open PySem PySem.Spec PyProof.Rows L2
open PySem.W (Codec)
/-! ### a summary on the heap -/
def sf (k n e : Int) (t : Addr) : List (Str × V) := [("k", .int k), ("total", .int n), ("error", .int e), ("table", .ref t)]
theorem sf_k (k n e : Int) (t : Addr) : (sf k n e t).lookup ("k" : Str) = some (.int k) := by rfl
theorem sf_n (k n e : Int) (t : Addr) : (sf k n e t).lookup ("total" : Str) = some (.int n) := by rfl
theorem sf_e (k n e : Int) (t : Addr) : (sf k n e t).lookup ("error" : Str) = some (.int e) := by rfl
theorem sf_t (k n e : Int) (t : Addr) : (sf k n e t).lookup ("table" : Str) = some (.ref t) := by rfl
theorem sf_pn (k n e : Int) (t : Addr) (z : Int) : putF "total" (.int z) (sf k n e t) = sf k z e t := by rfl
theorem sf_pe (k n e : Int) (t : Addr) (z : Int) : putF "error" (.int z) (sf k n e t) = sf k n z t := by rfl
theorem sf_pt (k n e : Int) (t u : Addr) : putF "table" (.ref u) (sf k n e t) = sf k n e u := by rfl
theorem sf_low (k n e : Int) (t : Addr) : (sf k n e t).lookup ("low" : Str) = none := by rfl
theorem sf_keep (k n e : Int) (t : Addr) : (sf k n e t).lookup ("keep" : Str) = none := by rfl
/-- the summary with these numbers and the dict d stands at p, its table at t -/
structure SA (C : Addr) (H : Hp) (p t : Addr) (k n e : Nat) (d : List P2) : Prop where
  obj : ∃ dx, H p = some (.ins C dx (sf k n e t))
  tab : H t = some (.dK (kvI d))
theorem SA.ne {C : Addr} {H : Hp} {p t : Addr} {k n e : Nat} {d : List P2} (h : SA C H p t k n e d) : p ≠ t := by
  obtain ⟨dx, h1⟩ := h.obj
  exact ne_of h1 h.tab (by intro z; cases z)
theorem none_of_kept {H H' : Hp} {p : Addr} {o o' : HO} (hp : H p = some o) (hp' : H' p = some o') (h : ∀ b o, H b = some o → b ≠ p → H' b = some o) : ∀ b, H' b = none → H b = none := fun b hb => by
  cases z : H b with
  | none => rfl
  | some u =>
    by_cases e : b = p
    · subst e; rw [hp'] at hb; cases hb
    · rw [h b u z e] at hb; cases hb
/-! ### promises -/
def spInit (C : Addr) : Sp := fun vs H Q _ => ∃ (p dx : Addr) (k : Nat), vs = [.ref p, .int k] ∧ H p = some (.ins C dx []) ∧ ∀ (H' : Hp) (t : Addr), H t = none → SA C H' p t k 0 0 [] → (∀ b o, H b = some o → b ≠ p → H' b = some o) → Q .non H'
def spLow (C : Addr) : Sp := fun vs H Q _ => ∃ (p t : Addr) (k n e x : Nat) (d : List P2), vs = [.ref p, .int x] ∧ SA C H p t k n e d ∧ Q (.int (Hv.countIn d x : Nat)) H
def spHigh (C : Addr) : Sp := fun vs H Q _ => ∃ (p t : Addr) (k n e x : Nat) (d : List P2), vs = [.ref p, .int x] ∧ SA C H p t k n e d ∧ Q (.int (Hv.countIn d x + e : Nat)) H
def spIsK : Sp := fun vs H Q _ => ∃ k : Nat, vs = [.int k] ∧ Q (.bl (decide (1 ≤ k ∧ k ≤ 1024))) H
/-- kept: the error and the dict behind it -/
def Kd (k e : Nat) (d : List P2) (e' : Nat) (d' : List P2) : Prop := (d.length ≤ k ∧ e' = e ∧ d' = d) ∨ ∃ c, ((Hv.sorted d).map fun y => y.2)[k]? = some c ∧ e' = e + c ∧ d' = Hv.lessBy c d
theorem Kd.kept {k n e e' : Nat} {d d' : List P2} (h : Kd k e d e' d') : Hv.kept k n e d = ⟨k, n, e', Hv.sorted d'⟩ := by
  rcases h with ⟨h1, rfl, rfl⟩ | ⟨c, h1, rfl, rfl⟩
  · exact kept_small h1
  · exact kept_big h1
def spKeep (C : Addr) : Sp := fun vs H Q _ => ∃ (p t : Addr) (k n e : Nat) (d : List P2), vs = [.ref p] ∧ SA C H p t k n e d ∧ (d.map fun y => y.1).Nodup ∧ d.length < sizeLine ∧
  ∀ (H' : Hp) (t' : Addr) (e' : Nat) (d' : List P2), Kd k e d e' d' → (t' = t ∨ H t' = none) → SA C H' p t' k n e' d' → (∀ b o, H b = some o → b ≠ p → H' b = some o) → (∀ b, H' b = none → H b = none) → Q .non H'
def spAdd (C : Addr) : Sp := fun vs H Q _ => ∃ (p t : Addr) (k n e x v : Nat) (d : List P2), vs = [.ref p, .int x, .int v] ∧ SA C H p t k n e d ∧ Tab d ∧ d.length + 1 < sizeLine ∧
  ∀ (H' : Hp) (t' : Addr) (e' : Nat) (d' : List P2), Kd k e (come d x v) e' d' → (t' = t ∨ H t' = none) → SA C H' p t' k (n + v) e' d' → (∀ b o, H b = some o → b ≠ p → b ≠ t → H' b = some o) → (∀ b, H' b = none → H b = none) → Q .non H'
section
variable {P : Program} {w : World} {K : PySem.W.Frag} {mg : Str → Option Value} {base : Heap}
theorem ok_init {ad : Adr} (T : Txt K mg ad) : FnOk P w K mg base CX0 1 ad.f_Summary_init ad.fd_Summary_init ["self", "k"] (spInit ad.C_Summary) := by
  refine T.F_Summary_init.ok sc_Summary_init (fun vs H Q E h => ?_) (fun cdv A outer s H vs Q E hr h => ?_)
  · obtain ⟨p, dx, k, rfl, _⟩ := h
    rfl
  · obtain ⟨p, dx, k, rfl, hp, q⟩ := h
    refine ⟨_, pss_cons (ps_fld (pv 0) (pv 1) rfl) (pss_cons (ps_fld (pv 0) pe_int rfl) (pss_cons (ps_fld (pv 0) pe_int rfl) (pss_one (ps_fld (pv 0) pe_dnewK rfl)))), ?_⟩
    refine ⟨_, rfl, _, rfl, p, _, dx, [], rfl, hp, T.cl_Summary, T.no_Summary_k, (by show 0 < 1000; decide), ?_⟩
    refine ⟨_, rfl, p, _, dx, _, rfl, upd_same, T.cl_Summary, T.no_Summary_total, (by show 1 < 1000; decide), ?_⟩
    refine ⟨_, rfl, p, _, dx, _, rfl, upd_same, T.cl_Summary, T.no_Summary_error, (by show 2 < 1000; decide), ?_⟩
    intro t ht
    have hpt : p ≠ t := by
      intro z
      subst z
      rw [upd_same] at ht
      cases ht
    refine ⟨_, rfl, p, _, dx, _, rfl, (by rw [upd_ne hpt]; exact upd_same), T.cl_Summary, T.no_Summary_table, (by show 3 < 1000; decide), ?_⟩
    have ht0 : H t = none := by
      rw [upd_ne (Ne.symm hpt), upd_ne (Ne.symm hpt), upd_ne (Ne.symm hpt)] at ht
      exact ht
    refine q _ t ht0 ⟨⟨dx, upd_same⟩, by rw [upd_ne (Ne.symm hpt)]; exact upd_same⟩ fun b o e hb => ?_
    rw [upd_ne hb, upd_ne (ne_of_none e ht0), upd_ne hb, upd_ne hb, upd_ne hb]
    exact e
theorem ok_low {ad : Adr} (T : Txt K mg ad) : FnOk P w K mg base CX0 1 ad.f_Summary_low ad.fd_Summary_low ["self", "key"] (spLow ad.C_Summary) := by
  refine T.F_Summary_low.ok sc_Summary_low (fun vs H Q E h => ?_) (fun cdv A outer s H vs Q E hr h => ?_)
  · obtain ⟨p, t, k, n, e, x, d, rfl, _⟩ := h
    rfl
  · obtain ⟨p, t, k, n, e, x, d, rfl, ⟨⟨dx, hp⟩, ht⟩, q⟩ := h
    refine ⟨_, pss_one (ps_ret (pe_dget2 (hu_of hr) (pe_fld (pv 0) rfl) (pv 1) pe_int ⟨rfl, rfl, rfl, rfl⟩)), ?_⟩
    refine ⟨_, rfl, p, _, dx, _, _, rfl, hp, T.cl_Summary, T.no_Summary_table, sf_t _ _ _ _, t, rfl, .inl ⟨_, .inl ht⟩, _, rfl, _, DGet.k (k := Sum.inl (x : Int)) ht, ?_⟩
    rw [getD_kvI]
    exact q
theorem ok_keep {ad : Adr} (T : Txt K mg ad) : FnOk P w K mg base CX0 1 ad.f_Summary_keep ad.fd_Summary_keep ["self"] (spKeep ad.C_Summary) := by
  refine T.F_Summary_keep.ok sc_Summary_keep (fun vs H Q E h => ?_) (fun cdv A outer s H vs Q E hr h => ?_)
  · obtain ⟨p, t, k, n, e, d, rfl, _⟩ := h
    rfl
  · obtain ⟨p, t, k, n, e, d, rfl, S, nd, hz, q⟩ := h
    obtain ⟨⟨dx, hp⟩, ht⟩ := S
    have hu := hu_of hr
    refine ⟨_, pss_cons (ps_if (pt_cmpR op_le (pe_callB call_lenD (by rfl) T.n_len PySem.boot_len (pa_cons (pe_fld (pv 0) rfl) pa_nil)) (pe_fld (pv 0) rfl) (nomark _)) (pss_one ps_retN) pss_nil)
      (pss_cons (ps_set (i := 1) sc_Summary_keep.nd rfl (Or.inl rfl) (pe_ix ix_list (pe_callBK (cr_sortedVals rfl) (by rfl) T.n_sorted (by rfl) (pa_cons (pe_values (pe_fld (pv 0) rfl)) pa_nil) (pk_cons pe_bl pk_nil)) (pe_fld (pv 0) rfl) (fun _ _ => rfl)))
      (pss_cons (ps_set (i := 2) sc_Summary_keep.nd rfl (Or.inl rfl) pe_dnewK)
      (pss_cons (ps_lock (ps_for PassesOwn.never rfl (pi_items (pe_fld (pv 0) rfl)) (pg_tup rfl (pgs_cons (pg_name (i := 3) sc_Summary_keep.nd rfl (Or.inl rfl)) (pgs_cons (pg_name (i := 4) sc_Summary_keep.nd rfl (Or.inl rfl)) pgs_nil)))
        (pss_one (ps_if (pt_cmpR op_gt (pv 4) (pv 1) (nomark _)) (pss_one (ps_dput hu (pv 2) (pv 3) (pe_op op_sub (pv 4) (pv 1)) rfl)) pss_nil))))
      (pss_cons (ps_fld (pv 0) (pv 2) rfl) (pss_one (ps_fldaug (pv 0) (pv 1) in_add)))))), ?_⟩
    refine ⟨_, rfl, p, _, dx, _, _, rfl, hp, T.cl_Summary, T.no_Summary_table, sf_t _ _ _ _, t, _, rfl, ht, _, rfl, p, _, dx, _, _, rfl, hp, T.cl_Summary, T.no_Summary_k, sf_k _ _ _ _, _, _, rfl, rfl, _, rfl, ?_⟩
    rw [kvI_len]
    refine ite2 (fun hle => ?_) (fun hgt => ?_)
    · have hle : d.length ≤ k := by have := of_decide_eq_true hle; omega
      exact q H t e d (.inl ⟨hle, rfl, rfl⟩) (.inl rfl) ⟨⟨dx, hp⟩, ht⟩ (fun b o z _ => z) fun b z => z
    · have hgt : k < d.length := by
        rcases Nat.lt_or_ge k d.length with z | z
        · exact z
        · exact absurd (decide_eq_true (by omega)) hgt
      -- cut
      refine ⟨_, rfl, p, _, dx, _, _, rfl, hp, T.cl_Summary, T.no_Summary_table, sf_t _ _ _ _, t, _, rfl, ht, fun v hv => ?_⟩
      have hpv : p ≠ v := ne_of_none hp hv
      have htv : t ≠ v := ne_of_none ht hv
      refine ⟨v, t, _, _, true, rfl, rfl, upd_same, (by rw [upd_ne htv]; exact ht), vals_kvI d, fun ns' l hperm hord hl => ?_⟩
      have e1 := ints_desc hperm hord
      obtain ⟨c, hc⟩ : ∃ c, ((Hv.sorted d).map fun y => y.2)[k]? = some c := ⟨_, List.getElem?_eq_getElem (by rw [List.length_map, sorted_len]; exact hgt)⟩
      have hpl : p ≠ l := ne_of_none (by rw [upd_ne hpv]; exact hp) hl
      have htl : t ≠ l := ne_of_none (by rw [upd_ne htv]; exact ht) hl
      refine ⟨_, rfl, p, _, dx, _, _, rfl, (by rw [upd_ne hpl, upd_ne hpv]; exact hp), T.cl_Summary, T.no_Summary_k, sf_k _ _ _ _, l, _, _, _, rfl, rfl, SqL.of upd_same, at_of (j := k) (v := V.int (c : Int)) rfl (by rw [e1, List.getElem?_map, List.getElem?_map, hc]; rfl), ?_⟩
      -- kept = {}
      intro u hu0
      have fr : ∀ b o, H b = some o → b ≠ v ∧ b ≠ l ∧ b ≠ u := fun b o hb => by
        have b1 : b ≠ v := ne_of_none hb hv
        have b2 : b ≠ l := ne_of_none (by rw [upd_ne b1]; exact hb) hl
        exact ⟨b1, b2, ne_of_none (by rw [upd_ne b2, upd_ne b1]; exact hb) hu0⟩
      have hu1 : H u = none := by
        cases z : H u with
        | none => rfl
        | some o => exact absurd rfl (fr u o z).2.2
      have keep1 : ∀ b o, H b = some o → (upd (upd (upd H v (ViewO "dict_values" v t)) l (.lst (ns'.map V.int))) u (.dK [])) b = some o := fun b o hb => by
        obtain ⟨b1, b2, b3⟩ := fr b o hb
        rw [upd_ne b3, upd_ne b2, upd_ne b1]; exact hb
      -- the loop
      refine ⟨t, _, keep1 _ _ ht, trivial, fun od => ?_⟩
      have hpt : p ≠ t := ne_of hp ht (by intro z; cases z)
      have hut : u ≠ t := Ne.symm (fr t _ ht).2.2
      refine ⟨_, rfl, p, _, dx, _, _, rfl, (by rw [upd_ne hpt]; exact keep1 _ _ hp), T.cl_Summary, T.no_Summary_table, sf_t _ _ _ _, t, od, _, rfl, upd_same,
        for_items (fun i σ H' => ∃ v3 v4, σ = [some (.ref p), some (.int c), some (.ref u), v3, v4] ∧ H' u = some (.dK (kvI (Hv.lessBy c (d.take i)))) ∧ H' t = some (.frz od (.dK (kvI d))) ∧ (∀ b o, H b = some o → b ≠ t → H' b = some o))
        ⟨none, none, rfl, by rw [upd_ne hut]; exact upd_same, upd_same, fun b o hb hbt => by rw [upd_ne hbt]; exact keep1 b o hb⟩ (fun i σ H' _ ⟨_, _, _, _, z, _⟩ => z) ?_ ?_⟩
      · rintro i k0 v0 σ H' TT hi ⟨v3, v4, rfl, h1, h2, h3⟩ hT
        obtain ⟨y, hy, rfl, rfl⟩ := kvI_at hi
        have huT : u ≠ TT := ne_of_none h1 hT
        have htT : t ≠ TT := ne_of_none h2 hT
        refine ⟨TT, _, rfl, SqT.of upd_same, rfl, _, _, rfl, _, _, rfl, rfl, ?_⟩
        refine ⟨_, rfl, _, rfl, _, _, rfl, rfl, _, rfl, ?_⟩
        refine ite2 (fun hlt => ?_) (fun hge => ?_)
        · have hlt : c < y.2 := by have := of_decide_eq_true hlt; omega
          have es : ((y.2 : Int) - (c : Int)) = ((y.2 - c : Nat) : Int) := by omega
          refine ⟨_, rfl, _, rfl, _, _, rfl, rfl, _, rfl, _, rfl, u, _, rfl, DPut.k (k := Sum.inl (y.1 : Int)) (by rw [upd_ne huT]; exact h1) (by rw [kvI_len]; exact Nat.lt_of_le_of_lt (Nat.le_trans (lessBy_short c _) (by rw [List.length_take]; exact Nat.min_le_right _ _)) hz), ?_⟩
          refine ⟨_, _, rfl, ?_, ?_, fun b o hb hbt => ?_⟩
          · rw [upd_same]
            show some (HO.dK (putK (kvI (Hv.lessBy c (List.take i d))) (Sum.inl (y.1 : Int)) (V.int ((y.2 : Int) - (c : Int))))) = _
            rw [es, putK_kvI, put_new (lessBy_keys (not_in_take nd hy)), take_snoc hy, lessBy_snoc, if_pos hlt]
          · rw [upd_ne (Ne.symm hut), upd_ne htT]; exact h2
          · rw [upd_ne (fr b o hb).2.2, upd_ne (ne_of_none (h3 b o hb hbt) hT)]; exact h3 b o hb hbt
        · have hge : ¬ c < y.2 := fun z => hge (decide_eq_true (by omega))
          refine ⟨_, _, rfl, ?_, ?_, fun b o hb hbt => ?_⟩
          · rw [upd_ne huT, h1, take_snoc hy, lessBy_snoc, if_neg hge]
          · rw [upd_ne htT]; exact h2
          · rw [upd_ne (ne_of_none (h3 b o hb hbt) hT)]; exact h3 b o hb hbt
      · rintro σ H' ⟨v3, v4, rfl, h1, h2, h3⟩
        rw [kvI_len, List.take_length] at h1
        refine ⟨h2, ?_⟩
        -- self.table = kept; self.error += cut
        refine ⟨_, rfl, _, rfl, p, _, dx, _, rfl, (by rw [upd_ne hpt]; exact h3 _ _ hp hpt), T.cl_Summary, T.no_Summary_table, (by show 4 < 1000; decide), ?_⟩
        refine ⟨_, rfl, p, _, dx, _, _, rfl, upd_same, T.cl_Summary, T.no_Summary_error, sf_e _ _ _ _, _, rfl, _, _, rfl, rfl, _, _, upd_same, (by show 4 < 1000; decide), ?_⟩
        have hup : u ≠ p := Ne.symm (fr p _ hp).2.2
        refine q _ u (e + c) (Hv.lessBy c d) (.inr ⟨c, hc, rfl, rfl⟩) (.inr hu1) ⟨⟨dx, ?_⟩, ?_⟩ (fun b o hb hbp => ?_) (none_of_kept hp upd_same fun b o hb hbp => ?_)
        · rw [upd_same, sf_pt, sf_pe]; rfl
        · rw [upd_ne hup, upd_ne hup, upd_ne hut]; exact h1
        · rw [upd_ne hbp, upd_ne hbp]
          by_cases hbt : b = t
          · subst hbt
            rw [upd_same, ← ht]; exact hb
          · rw [upd_ne hbt]; exact h3 b o hb hbt
        · rw [upd_ne hbp, upd_ne hbp]
          by_cases hbt : b = t
          · subst hbt
            rw [upd_same, ← ht]; exact hb
          · rw [upd_ne hbt]; exact h3 b o hb hbt
theorem ok_add {ad : Adr} (T : Txt K mg ad) : FnOk P w K mg base CX0 2 ad.f_Summary_add ad.fd_Summary_add ["self", "key", "weight"] (spAdd ad.C_Summary) := by
  refine T.F_Summary_add.ok sc_Summary_add (fun vs H Q E h => ?_) (fun cdv A outer s H vs Q E hr h => ?_)
  · obtain ⟨p, t, k, n, e, x, v, d, rfl, _⟩ := h
    rfl
  · obtain ⟨p, t, k, n, e, x, v, d, rfl, S, tb, hz, q⟩ := h
    have hu := hu_of hr
    have hpt := S.ne
    obtain ⟨⟨dx, hp⟩, ht⟩ := id S
    refine ⟨_, pss_cons (ps_if (pt_cmpR op_gt (pv 2) pe_int (nomark _)) (pss_one (ps_dput hu (pe_fld (pv 0) rfl) (pv 1) (pe_op op_add (pe_meth (pv 0) T.cl_Summary T.m_Summary_low (ok_low T) hr T.b_Summary_low .nil pass0 (pa_cons (pv 1) pa_nil)) (pv 2)) rfl)) pss_nil)
      (pss_cons (ps_fldaug (pv 0) (pv 2) in_add) (pss_one (ps_expr (pe_meth0 (pv 0) T.cl_Summary T.m_Summary_keep (ok_keep T) hr T.b_Summary_keep .nil pass0)))), ?_⟩
    have kp : ∀ H1 : Hp, H1 p = some (.ins ad.C_Summary dx (sf k n e t)) → H1 t = some (.dK (kvI (come d x v))) → (∀ b o, H b = some o → b ≠ t → H1 b = some o) → (∀ b, H1 b = none → H b = none) →
        spKeep ad.C_Summary [.ref p] (upd H1 p (.ins ad.C_Summary dx (putF "total" (.int ((n : Int) + (v : Int))) (sf k n e t)))) (fun _ H' => Q .non H') E0 := fun H1 h1 h2 h3 h4 => by
      refine ⟨p, t, k, n + v, e, come d x v, rfl, ⟨⟨dx, by rw [upd_same, sf_pn]; rfl⟩, by rw [upd_ne (Ne.symm hpt)]; exact h2⟩, (come_tab tb x v).nd, Nat.lt_of_le_of_lt (come_len d x v) hz, fun H' t' e' d' kd ht' S' fr gr => ?_⟩
      refine q H' t' e' d' kd ?_ S' (fun b o hb b1 b2 => fr b o (by rw [upd_ne b1]; exact h3 b o hb b2) b1) fun b hb => h4 b (by
        have z := gr b hb
        by_cases b1 : b = p
        · subst b1; rw [upd_same] at z; cases z
        · rw [upd_ne b1] at z; exact z)
      rcases ht' with z | z
      · exact .inl z
      · refine .inr (h4 t' ?_)
        by_cases b1 : t' = p
        · subst b1; rw [upd_same] at z; cases z
        · rw [upd_ne b1] at z; exact z
    refine ⟨_, rfl, _, _, rfl, rfl, _, rfl, ?_⟩
    refine ite2 (fun hgt => ?_) (fun hle => ?_)
    · have hgt : 0 < v := by have := of_decide_eq_true hgt; omega
      refine ⟨_, rfl, p, dx, _, rfl, hp, sf_low _ _ _ _, _, rfl, p, t, k, n, e, x, d, rfl, S, _, rfl, _, _, rfl, rfl, _, rfl, p, _, dx, _, _, rfl, hp, T.cl_Summary, T.no_Summary_table, sf_t _ _ _ _, _, rfl, t, _, rfl, DPut.k (k := Sum.inl (x : Int)) ht (by rw [kvI_len]; omega), ?_⟩
      have e1 : putK (kvI d) (Sum.inl (x : Int)) (V.int ((Hv.countIn d x : Nat) + (v : Int))) = kvI (come d x v) := by
        unfold come
        rw [if_pos hgt, ← putK_kvI]
        rfl
      have hp1 : (upd H t (.dK (putK (kvI d) (Sum.inl (x : Int)) (V.int ((Hv.countIn d x : Nat) + (v : Int)))))) p = some (.ins ad.C_Summary dx (sf k n e t)) := by rw [upd_ne hpt]; exact hp
      refine ⟨_, rfl, p, _, dx, _, _, rfl, hp1, T.cl_Summary, T.no_Summary_total, sf_n _ _ _ _, _, rfl, _, _, rfl, rfl, _, _, hp1, (by show 4 < 1000; decide), ?_⟩
      refine ⟨_, rfl, p, dx, _, rfl, upd_same, (by rw [sf_pn]; exact sf_keep _ _ _ _), ?_⟩
      refine kp _ hp1 (by rw [upd_same, e1]) (fun b o hb hbt => by rw [upd_ne hbt]; exact hb) fun b hb => ?_
      by_cases z : b = t
      · subst z; rw [upd_same] at hb; cases hb
      · rw [upd_ne z] at hb; exact hb
    · have hle : ¬ 0 < v := fun z => hle (decide_eq_true (by omega))
      refine ⟨_, rfl, p, _, dx, _, _, rfl, hp, T.cl_Summary, T.no_Summary_total, sf_n _ _ _ _, _, rfl, _, _, rfl, rfl, _, _, hp, (by show 4 < 1000; decide), ?_⟩
      refine ⟨_, rfl, p, dx, _, rfl, upd_same, (by rw [sf_pn]; exact sf_keep _ _ _ _), ?_⟩
      exact kp H hp (by unfold come; rw [if_neg hle]; exact ht) (fun b o hb _ => hb) fun b hb => hb
theorem ok_high {ad : Adr} (T : Txt K mg ad) : FnOk P w K mg base CX0 2 ad.f_Summary_high ad.fd_Summary_high ["self", "key"] (spHigh ad.C_Summary) := by
  refine T.F_Summary_high.ok sc_Summary_high (fun vs H Q E h => ?_) (fun cdv A outer s H vs Q E hr h => ?_)
  · obtain ⟨p, t, k, n, e, x, d, rfl, _⟩ := h
    rfl
  · obtain ⟨p, t, k, n, e, x, d, rfl, S, q⟩ := h
    obtain ⟨⟨dx, hp⟩, ht⟩ := id S
    refine ⟨_, pss_one (ps_ret (pe_op op_add (pe_meth (pv 0) T.cl_Summary T.m_Summary_low (ok_low T) hr T.b_Summary_low .nil pass0 (pa_cons (pv 1) pa_nil)) (pe_fld (pv 0) rfl))), ?_⟩
    refine ⟨_, rfl, p, dx, _, rfl, hp, sf_low _ _ _ _, _, rfl, p, t, k, n, e, x, d, rfl, S, _, rfl, p, _, dx, _, _, rfl, hp, T.cl_Summary, T.no_Summary_error, sf_e _ _ _ _, _, _, rfl, rfl, q⟩
theorem ok_isk {ad : Adr} (T : Txt K mg ad) : FnOk P w K mg base CX0 1 ad.f_is_k ad.fd_is_k ["number"] spIsK := by
  refine T.F_is_k.ok sc_is_k (fun vs H Q E h => ?_) (fun cdv A outer s H vs Q E hr h => ?_)
  · obtain ⟨k, rfl, _⟩ := h
    rfl
  · obtain ⟨k, rfl, q⟩ := h
    obtain ⟨zk, tk, ek, gK⟩ := T.c_GREATEST_K
    refine ⟨_, pss_one (ps_ret (pe_and (pe_cmpR op_ge (pv 0) pe_int (nomark _)) (pe_one (pe_cmpR op_le (pv 0) (pe_glob (v := .int zk) (by rfl) gK ⟨tk, rfl⟩) (nomark _))))), ?_⟩
    refine ⟨_, rfl, _, _, rfl, rfl, _, rfl, ite2 (fun h1 => ?_) (fun h1 => ?_)⟩
    · have h1 := of_decide_eq_true h1
      refine ⟨_, rfl, _, _, rfl, rfl, ?_⟩
      have e2 : decide ((k : Int) ≤ zk) = decide (1 ≤ k ∧ k ≤ 1024) := decide_eq_decide.mpr (by omega)
      show Q (V.bl (decide ((k : Int) ≤ zk))) H
      rw [e2]
      exact q
    · have e2 : (false : Bool) = decide (1 ≤ k ∧ k ≤ 1024) := (decide_eq_false (fun z => h1 (decide_eq_true (by omega)))).symm
      show Q (V.bl false) H
      rw [e2]
      exact q
end
/-! ### new things and what stays -/
theorem same_new {H : Hp} {r : Addr} {o : HO} (h : H r = none) : Same H (upd H r o) := fun b u hb => by rw [upd_ne (ne_of_none hb h)]; exact hb
theorem SA.same {C : Addr} {H H' : Hp} {p t : Addr} {k n e : Nat} {d : List P2} (h : SA C H p t k n e d) (q : Same H H') : SA C H' p t k n e d := by
  obtain ⟨⟨dx, a⟩, b⟩ := h
  exact ⟨⟨dx, q _ _ a⟩, q _ _ b⟩
theorem paired_map {α β γ : Type} {R : α → γ → Prop} {g : β → γ} : ∀ {l : List α} {m : List β}, Paired R l (m.map g) → Paired (fun a y => R a (g y)) l m
  | [], [], _ => .nil
  | _ :: _, [], h => by cases h
  | [], _ :: _, h => by cases h
  | _ :: _, _ :: _, h => by
    cases h with
    | cons r t => exact .cons r (paired_map t)
/-! ### promises of the rest -/
def TupAt (H : Hp) (a : Addr) (y : P2) : Prop := H a = some (.tup [.int (y.1 : Int), .int (y.2 : Int)])
def spRank : Sp := fun vs H Q _ => ∃ (a : Addr) (x y : Int), vs = [.ref a] ∧ H a = some (.tup [.int x, .int y]) ∧ ∀ (H' : Hp) (b : Addr), H' b = some (.tup [.int (-y), .int x]) → Same H H' → Q (.ref b) H'
def spOrd (C : Addr) : Sp := fun vs H Q _ => ∃ (p t : Addr) (k n e : Nat) (d : List P2), vs = [.ref p] ∧ SA C H p t k n e d ∧
  ∀ (H' : Hp) (l : Addr) (as : List Addr), H' l = some (.lst (as.map V.ref)) → Paired (fun a y => TupAt H' a y) as (Hv.sorted d) → Same H H' → H l = none → Q (.ref l) H'
def spAbove (C : Addr) : Sp := fun vs H Q _ => ∃ (p t : Addr) (k n e x a b : Nat) (d : List P2), vs = [.ref p, .int x, .int a, .int b] ∧ SA C H p t k n e d ∧ a < 2 ^ 64 ∧ b < 2 ^ 64 ∧ Q (.bl (decide (n * a < x * b))) H
def spCan (C : Addr) (K : PySem.W.Frag) : Sp := fun vs H Q _ => ∃ (p t q : Addr) (k n e : Nat) (d : List P2) (ws : List Nat), vs = [.ref p, .ref q] ∧ SA C H p t k n e d ∧ SqL K H q ((ofN ws).map V.int) ∧
  ∀ b : Bool, (b = true ↔ (∀ w ∈ ws, w < 2 ^ 32) ∧ n + ws.sum < 2 ^ 63) → Q (.bl b) H
def spCanM (C : Addr) : Sp := fun vs H Q _ => ∃ (p t k n e p2 t2 k2 n2 e2 : Nat) (d d2 : List P2), vs = [.ref p, .ref p2] ∧ SA C H p t k n e d ∧ SA C H p2 t2 k2 n2 e2 d2 ∧ Q (.bl (decide (k = k2 ∧ n + n2 < 2 ^ 63))) H
def spMerge (C : Addr) : Sp := fun vs H Q _ => ∃ (p t p2 t2 : Addr) (k n e k2 n2 e2 : Nat) (d d2 : List P2), vs = [.ref p, .ref p2] ∧ SA C H p t k n e d ∧ SA C H p2 t2 k2 n2 e2 d2 ∧ p ≠ p2 ∧ t ≠ t2 ∧
  (d.map fun y => y.1).Nodup ∧ (d2.map fun y => y.1).Nodup ∧ d.length + d2.length < sizeLine ∧
  ∀ (H' : Hp) (t' : Addr) (e' : Nat) (d' : List P2), Kd k (e + e2) (putAll d2 d) e' d' → H t' = none → SA C H' p t' k (n + n2) e' d' → (∀ b o, H b = some o → b ≠ p → H' b = some o) → (∀ b, H' b = none → H b = none) → Q .non H'
def spWithin (C : Addr) : Sp := fun vs H Q _ => ∃ (p t : Addr) (k n e : Nat) (d : List P2), vs = [.ref p] ∧ SA C H p t k n e d ∧ ∀ (H' : Hp) (b : Bool), (b = true ↔ Lim k n d) → Same H H' → Q (.bl b) H'
def spProper (C : Addr) : Sp := fun vs H Q _ => ∃ (p t : Addr) (k n e : Nat) (d : List P2), vs = [.ref p] ∧ SA C H p t k n e d ∧ k < 2 ^ 32 ∧ ∀ (H' : Hp) (b : Bool), (b = true ↔ Pro k n e d) → Same H H' → Q (.bl b) H'
theorem sum_ofN : ∀ ws : List Nat, (ofN ws).sum = ((ws.sum : Nat) : Int)
  | [] => rfl
  | w :: ws => by
    show ((w : Int) :: ofN ws).sum = _
    rw [List.sum_cons, List.sum_cons, sum_ofN ws]
    omega
theorem vals_sum (d : List P2) : ((d.map fun y => (y.2 : Int))).sum = ((csum d : Nat) : Int) := by
  have e : (d.map fun y => (y.2 : Int)) = ofN (d.map fun y => y.2) := by
    unfold ofN
    rw [List.map_map]
    rfl
  rw [e, sum_ofN]
  rfl
/-- 0 in a list of numbers -/
theorem in_zero (z : Int) : ∀ ns : List Int, inV (.int z) (ns.map V.int) = decide (z ∈ ns) := by
  intro ns
  induction ns with
  | nil => rfl
  | cons n ns ih =>
    have e : inV (.int z) ((n :: ns).map V.int) = (eqV (.int n) (.int z) || inV (.int z) (ns.map V.int)) := by
      first
        | rfl
        | simp [inV]
    rw [e, ih]
    show ((n == z) || decide (z ∈ ns)) = decide (z ∈ n :: ns)
    by_cases h1 : n = z
    · subst h1
      simp
    · have h2 : ¬ z = n := fun e => h1 e.symm
      simp [h1, h2]
theorem flat_ints : ∀ ns : List Int, (ns.map V.int).all flatV = true
  | [] => rfl
  | n :: ns => by rw [List.map_cons, List.all_cons, flat_ints ns]; rfl
section
variable {P : Program} {w : World} {K : PySem.W.Frag} {mg : Str → Option Value} {base : Heap}
theorem ok_rank {ad : Adr} (T : Txt K mg ad) : FnOk P w K mg base CX0 1 ad.f_rank ad.fd_rank ["entry"] spRank := by
  refine T.F_rank.ok sc_rank (fun vs H Q E h => ?_) (fun cdv A outer s H vs Q E hr h => ?_)
  · obtain ⟨a, x, y, rfl, _⟩ := h
    rfl
  · obtain ⟨a, x, y, rfl, ha, q⟩ := h
    refine ⟨_, pss_one (ps_ret (pe_tup (pa_cons (pe_un un_neg (pe_ix ix_tup (pv 0) pe_int (fun _ _ => rfl))) (pa_cons (pe_ix ix_tup (pv 0) pe_int (fun _ _ => rfl)) pa_nil)))), ?_⟩
    refine ⟨_, rfl, a, _, _, V.int y, rfl, rfl, SqT.of ha, at_of (j := 1) rfl rfl, y, rfl, _, rfl, a, _, _, V.int x, rfl, rfl, SqT.of ha, at_of (j := 0) rfl rfl, (by show 2 ≤ sizeLine; decide), fun t ht => ?_⟩
    exact q _ t upd_same (same_new ht)
theorem ok_ord {ad : Adr} (T : Txt K mg ad) : FnOk P w K mg base CX0 4 ad.f_Summary_ordered ad.fd_Summary_ordered ["self"] (spOrd ad.C_Summary) := by
  refine T.F_Summary_ordered.ok sc_Summary_ordered (fun vs H Q E h => ?_) (fun cdv A outer s H vs Q E hr h => ?_)
  · obtain ⟨p, t, k, n, e, d, rfl, _⟩ := h
    rfl
  · obtain ⟨p, t, k, n, e, d, rfl, ⟨⟨dx, hp⟩, ht⟩, q⟩ := h
    refine ⟨_, pss_one (ps_ret (pe_callBK (cr_sortedItems rfl) (by rfl) T.n_sorted (by rfl) (pa_cons (pe_items (pe_fld (pv 0) rfl)) pa_nil) (pk_cons (pe_glob (v := .ref ad.f_rank) (by rfl) T.g_rank rfl) pk_nil))), ?_⟩
    refine ⟨_, rfl, p, _, dx, _, _, rfl, hp, T.cl_Summary, T.no_Summary_table, sf_t _ _ _ _, t, _, rfl, ht, fun v hv => ?_⟩
    have htv : t ≠ v := ne_of_none ht hv
    have s1 : Same H (upd H v (ViewO "dict_items" v t)) := same_new hv
    refine ⟨v, t, ad.f_rank, kvI d, keyN, rfl, rfl, upd_same, s1 _ _ ht, fun y hy => ?_, fun y hy a H0 ha sm => ?_, fun H' l as ys sm hl pm pw pr hL => ?_⟩
    · obtain ⟨z, _, rfl⟩ := List.mem_map.mp hy
      exact ⟨_, _, rfl⟩
    · obtain ⟨z, _, rfl⟩ := List.mem_map.mp hy
      exact keycall_fn (ok_rank T) hr T.b_rank fun H1 Q1 hs q1 => ⟨a, (z.1 : Int), (z.2 : Int), rfl, hs _ _ ha, fun H2 b h1 h2 => q1 H2 b h1 h2⟩
    · have ey := sorted_rows pm pw
      rw [ey] at pr
      exact q H' l as hL (paired_map (g := fun (y : P2) => ((Sum.inl (y.1 : Int) : Key), V.int (y.2 : Int))) pr) (s1.trans sm) (s1.free hl)
theorem ok_above {ad : Adr} (T : Txt K mg ad) : FnOk P w K mg base CX0 1 ad.f_Summary_is_above ad.fd_Summary_is_above ["self", "weight", "a", "b"] (spAbove ad.C_Summary) := by
  refine T.F_Summary_is_above.ok sc_Summary_is_above (fun vs H Q E h => ?_) (fun cdv A outer s H vs Q E hr h => ?_)
  · obtain ⟨p, t, k, n, e, x, a, b, d, rfl, _⟩ := h
    rfl
  · obtain ⟨p, t, k, n, e, x, a, b, d, rfl, ⟨⟨dx, hp⟩, ht⟩, ha, hb, q⟩ := h
    refine ⟨_, pss_one (ps_ret (pe_cmpR op_gt (pe_op op_mul (pv 1) (pv 3)) (pe_op op_mul (pe_fld (pv 0) rfl) (pv 2)) (nomark _))), ?_⟩
    refine ⟨_, rfl, _, rfl, _, _, rfl, rfl, .inr ⟨by omega, by omega⟩, _, rfl, p, _, dx, _, _, rfl, hp, T.cl_Summary, T.no_Summary_total, sf_n _ _ _ _, _, rfl, _, _, rfl, rfl, .inr ⟨by omega, by omega⟩, _, _, rfl, rfl, ?_⟩
    have e2 : decide ((n : Int) * (a : Int) < (x : Int) * (b : Int)) = decide (n * a < x * b) := decide_eq_decide.mpr (by rw [← Int.natCast_mul, ← Int.natCast_mul]; exact Int.ofNat_lt)
    show Q (V.bl (decide ((n : Int) * (a : Int) < (x : Int) * (b : Int)))) H
    rw [e2]
    exact q
theorem ok_can {ad : Adr} (T : Txt K mg ad) : FnOk P w K mg base CX0 1 ad.f_Summary_can_take ad.fd_Summary_can_take ["self", "weights"] (spCan ad.C_Summary K) := by
  refine T.F_Summary_can_take.ok sc_Summary_can_take (fun vs H Q E h => ?_) (fun cdv A outer s H vs Q E hr h => ?_)
  · obtain ⟨p, t, a, k, n, e, d, ws, rfl, _⟩ := h
    rfl
  · obtain ⟨p, t, a, k, n, e, d, ws, rfl, ⟨⟨dx, hp⟩, ht⟩, hw, q⟩ := h
    obtain ⟨zw, tw, ew, gW⟩ := T.c_WEIGHT_END
    obtain ⟨zt, tt, et, gT⟩ := T.c_TOTAL_END
    refine ⟨_, pss_one (ps_ret (pe_and (pe_cmpR op_lt (pe_callBK (cr_maxDef rfl) (by rfl) T.n_max (by rfl) (pa_cons (pv 1) pa_nil) (pk_cons pe_int pk_nil)) (pe_glob (v := .int zw) (by rfl) gW ⟨tw, rfl⟩) (nomark _))
      (pe_one (pe_cmpR op_lt (pe_op op_add (pe_fld (pv 0) rfl) (pe_callB (cr_sum rfl) (by rfl) T.n_sum (by rfl) (pa_cons (pv 1) pa_nil))) (pe_glob (v := .int zt) (by rfl) gT ⟨tt, rfl⟩) (nomark _))))), ?_⟩
    refine ⟨_, rfl, a, ofN ws, 0, rfl, rfl, hw, fun m m1 m2 => ?_⟩
    have hm : m < zw ↔ ∀ w ∈ ws, w < 2 ^ 32 := by
      rw [ew]
      by_cases hn : ofN ws = []
      · have e0 : ws = [] := by
          cases ws with
          | nil => rfl
          | cons x r => cases hn
        subst e0
        rw [m1 hn]
        exact ⟨fun _ w hw => absurd hw (List.not_mem_nil), fun _ => by omega⟩
      · obtain ⟨h1, h2⟩ := m2 hn
        constructor
        · intro hlt w hw
          have := h2 (w : Int) (List.mem_map.mpr ⟨w, hw, rfl⟩)
          omega
        · intro hall
          obtain ⟨w, hw, e⟩ := List.mem_map.mp h1
          have h3 := hall w hw
          have e : (w : Int) = m := e
          omega
    refine ⟨_, _, rfl, rfl, _, rfl, ite2 (fun h1 => ?_) (fun h1 => ?_)⟩
    · have h1 := hm.mp (of_decide_eq_true h1)
      refine ⟨_, rfl, p, _, dx, _, _, rfl, hp, T.cl_Summary, T.no_Summary_total, sf_n _ _ _ _, _, rfl, a, ofN ws, rfl, hw, _, _, rfl, rfl, _, _, rfl, rfl, ?_⟩
      refine q _ ?_
      rw [sum_ofN]
      constructor
      · intro h2
        have h2 := of_decide_eq_true h2
        exact ⟨h1, by omega⟩
      · intro h2
        exact decide_eq_true (by have := h2.2; omega)
    · exact q false ⟨fun z => absurd z Bool.false_ne_true, fun z => absurd (decide_eq_true (hm.mpr z.1)) h1⟩
theorem ok_canm {ad : Adr} (T : Txt K mg ad) : FnOk P w K mg base CX0 1 ad.f_Summary_can_merge ad.fd_Summary_can_merge ["self", "other"] (spCanM ad.C_Summary) := by
  refine T.F_Summary_can_merge.ok sc_Summary_can_merge (fun vs H Q E h => ?_) (fun cdv A outer s H vs Q E hr h => ?_)
  · obtain ⟨p, t, k, n, e, p2, t2, k2, n2, e2, d, d2, rfl, _⟩ := h
    rfl
  · obtain ⟨p, t, k, n, e, p2, t2, k2, n2, e2, d, d2, rfl, ⟨⟨dx, hp⟩, ht⟩, ⟨⟨dx2, hp2⟩, ht2⟩, q⟩ := h
    obtain ⟨zt, tt, et, gT⟩ := T.c_TOTAL_END
    refine ⟨_, pss_one (ps_ret (pe_and (pe_cmpR op_eq (pe_fld (pv 0) rfl) (pe_fld (pv 1) rfl) (nomark _)) (pe_one (pe_cmpR op_lt (pe_op op_add (pe_fld (pv 0) rfl) (pe_fld (pv 1) rfl)) (pe_glob (v := .int zt) (by rfl) gT ⟨tt, rfl⟩) (nomark _))))), ?_⟩
    refine ⟨_, rfl, p, _, dx, _, _, rfl, hp, T.cl_Summary, T.no_Summary_k, sf_k _ _ _ _, _, rfl, p2, _, dx2, _, _, rfl, hp2, T.cl_Summary, T.no_Summary_k, sf_k _ _ _ _, rfl, _, rfl, ite2 (fun h1 => ?_) (fun h1 => ?_)⟩
    · have h1 : k = k2 := by
        have := V.int.inj (of_decide_eq_true h1)
        omega
      refine ⟨_, rfl, p, _, dx, _, _, rfl, hp, T.cl_Summary, T.no_Summary_total, sf_n _ _ _ _, _, rfl, p2, _, dx2, _, _, rfl, hp2, T.cl_Summary, T.no_Summary_total, sf_n _ _ _ _, _, _, rfl, rfl, _, _, rfl, rfl, ?_⟩
      have e2 : decide ((n : Int) + (n2 : Int) < zt) = decide (k = k2 ∧ n + n2 < 2 ^ 63) := decide_eq_decide.mpr (by omega)
      show Q (V.bl (decide ((n : Int) + (n2 : Int) < zt))) H
      rw [e2]
      exact q
    · have h1 : ¬ k = k2 := fun z => h1 (decide_eq_true (by rw [z]))
      have e2 : (false : Bool) = decide (k = k2 ∧ n + n2 < 2 ^ 63) := (decide_eq_false (fun z => h1 z.1)).symm
      show Q (V.bl false) H
      rw [e2]
      exact q
theorem ok_merge {ad : Adr} (T : Txt K mg ad) : FnOk P w K mg base CX0 2 ad.f_Summary_merge ad.fd_Summary_merge ["self", "other"] (spMerge ad.C_Summary) := by
  refine T.F_Summary_merge.ok sc_Summary_merge (fun vs H Q E h => ?_) (fun cdv A outer s H vs Q E hr h => ?_)
  · obtain ⟨p, t, p2, t2, k, n, e, k2, n2, e2, d, d2, rfl, _⟩ := h
    rfl
  · obtain ⟨p, t, p2, t2, k, n, e, k2, n2, e2, d, d2, rfl, S, S2, hpp, htt, nd, nd2, hz, q⟩ := h
    have hu := hu_of hr
    have nds := sc_Summary_merge.nd
    have hpt := S.ne
    have hpt2 := S2.ne
    obtain ⟨⟨dx, hp⟩, ht⟩ := id S
    obtain ⟨⟨dx2, hp2⟩, ht2⟩ := id S2
    refine ⟨_, pss_cons (ps_set (i := 2) nds rfl (Or.inl rfl) (pe_callTy call_dictD (by rfl) T.n_dict (by rfl) (pa_cons (pe_fld (pv 0) rfl) pa_nil)))
      (pss_cons (ps_lock (ps_for PassesOwn.never rfl (pi_items (pe_fld (pv 1) rfl)) (pg_tup rfl (pgs_cons (pg_name (i := 3) nds rfl (Or.inl rfl)) (pgs_cons (pg_name (i := 4) nds rfl (Or.inl rfl)) pgs_nil)))
        (pss_one (ps_dput hu (pv 2) (pv 3) (pe_op op_add (pe_meth (pv 0) T.cl_Summary T.m_Summary_low (ok_low T) hr T.b_Summary_low .nil pass0 (pa_cons (pv 3) pa_nil)) (pv 4)) rfl))))
      (pss_cons (ps_fld (pv 0) (pv 2) rfl) (pss_cons (ps_fldaug (pv 0) (pe_fld (pv 1) rfl) in_add) (pss_cons (ps_fldaug (pv 0) (pe_fld (pv 1) rfl) in_add)
        (pss_one (ps_expr (pe_meth0 (pv 0) T.cl_Summary T.m_Summary_keep (ok_keep T) hr T.b_Summary_keep .nil pass0))))))), ?_⟩
    refine ⟨_, rfl, p, _, dx, _, _, rfl, hp, T.cl_Summary, T.no_Summary_table, sf_t _ _ _ _, t, _, rfl, ht, fun u hu0 => ?_⟩
    have s1 : Same H (upd H u (.dK (kvI d))) := same_new hu0
    have nu : ∀ {b o}, H b = some o → b ≠ u := fun hb => ne_of_none hb hu0
    refine ⟨t2, _, s1 _ _ ht2, trivial, fun od => ?_⟩
    have hut2 : u ≠ t2 := Ne.symm (nu ht2)
    have hpt2' : p ≠ t2 := ne_of hp ht2 (by intro z; cases z)
    refine ⟨_, rfl, p2, _, dx2, _, _, rfl, (by rw [upd_ne hpt2]; exact s1 _ _ hp2), T.cl_Summary, T.no_Summary_table, sf_t _ _ _ _, t2, od, _, rfl, upd_same,
      for_items (fun i σ H' => ∃ v3 v4, σ = [some (.ref p), some (.ref p2), some (.ref u), v3, v4] ∧ H' u = some (.dK (kvI (putAll (d2.take i) d))) ∧ H' t2 = some (.frz od (.dK (kvI d2))) ∧ (∀ b o, H b = some o → b ≠ t2 → H' b = some o))
      ⟨none, none, rfl, by rw [upd_ne hut2]; exact upd_same, upd_same, fun b o hb hbt => by rw [upd_ne hbt]; exact s1 b o hb⟩ (fun i σ H' _ ⟨_, _, _, _, z, _⟩ => z) ?_ ?_⟩
    · rintro i k0 v0 σ H' TT hi ⟨v3, v4, rfl, h1, h2, h3⟩ hT
      obtain ⟨y, hy, rfl, rfl⟩ := kvI_at hi
      have huT : u ≠ TT := ne_of_none h1 hT
      have htT : t2 ≠ TT := ne_of_none h2 hT
      have hil : i < d2.length := (List.getElem?_eq_some_iff.mp hy).1
      refine ⟨TT, _, rfl, SqT.of upd_same, rfl, _, _, rfl, _, _, rfl, rfl, ?_⟩
      have hpH : (upd H' TT (.tup [kV (Sum.inl (y.1 : Int)), .int (y.2 : Int)])) p = some (.ins ad.C_Summary dx (sf k n e t)) := by rw [upd_ne (ne_of_none (h3 _ _ hp hpt2') hT)]; exact h3 _ _ hp hpt2'
      have htH : (upd H' TT (.tup [kV (Sum.inl (y.1 : Int)), .int (y.2 : Int)])) t = some (.dK (kvI d)) := by rw [upd_ne (ne_of_none (h3 _ _ ht htt) hT)]; exact h3 _ _ ht htt
      refine ⟨_, rfl, p, dx, _, rfl, hpH, sf_low _ _ _ _, _, rfl, p, t, k, n, e, y.1, d, rfl, ⟨⟨dx, hpH⟩, htH⟩, _, rfl, _, _, rfl, rfl, _, rfl, _, rfl, u, _, rfl, DPut.k (k := Sum.inl (y.1 : Int)) (by rw [upd_ne huT]; exact h1) (by
        rw [kvI_len]
        have := putAll_len (d2.take i) d
        rw [List.length_take] at this
        omega), ?_⟩
      refine ⟨_, _, rfl, ?_, ?_, fun b o hb hbt => ?_⟩
      · rw [upd_same]
        show some (HO.dK (putK (kvI (putAll (d2.take i) d)) (Sum.inl (y.1 : Int)) (V.int ((Hv.countIn d y.1 : Nat) + (y.2 : Int))))) = _
        have es : ((Hv.countIn d y.1 : Nat) + (y.2 : Int)) = ((Hv.countIn d y.1 + y.2 : Nat) : Int) := by omega
        rw [es, putK_kvI, take_snoc hy, putAll_snoc, countIn_putAll _ _ _ nd (not_in_take nd2 hy)]
      · rw [upd_ne (Ne.symm hut2), upd_ne htT]; exact h2
      · rw [upd_ne (nu hb), upd_ne (ne_of_none (h3 b o hb hbt) hT)]; exact h3 b o hb hbt
    · rintro σ H' ⟨v3, v4, rfl, h1, h2, h3⟩
      rw [kvI_len, List.take_length] at h1
      refine ⟨h2, ?_⟩
      have hup : p ≠ u := nu hp
      have hp' : (upd H' t2 (.dK (kvI d2))) p = some (.ins ad.C_Summary dx (sf k n e t)) := by rw [upd_ne hpt2']; exact h3 _ _ hp hpt2'
      have hq' : (upd H' t2 (.dK (kvI d2))) p2 = some (.ins ad.C_Summary dx2 (sf k2 n2 e2 t2)) := by rw [upd_ne hpt2]; exact h3 _ _ hp2 hpt2
      -- self.table = together
      refine ⟨_, rfl, _, rfl, p, _, dx, _, rfl, hp', T.cl_Summary, T.no_Summary_table, (by show 4 < 1000; decide), ?_⟩
      -- self.total += other.total
      refine ⟨_, rfl, p, _, dx, _, _, rfl, upd_same, T.cl_Summary, T.no_Summary_total, sf_n k n e u, _, rfl, p2, _, dx2, _, _, rfl, (by rw [upd_ne (Ne.symm hpp)]; exact hq'), T.cl_Summary, T.no_Summary_total, sf_n _ _ _ _, _, _, rfl, rfl, _, _, upd_same, (by show 4 < 1000; decide), ?_⟩
      -- self.error += other.error
      refine ⟨_, rfl, p, _, dx, _, _, rfl, upd_same, T.cl_Summary, T.no_Summary_error, sf_e k ((n : Int) + (n2 : Int)) e u, _, rfl, p2, _, dx2, _, _, rfl, (by rw [upd_ne (Ne.symm hpp), upd_ne (Ne.symm hpp)]; exact hq'), T.cl_Summary, T.no_Summary_error, sf_e _ _ _ _, _, _, rfl, rfl, _, _, upd_same, (by show 4 < 1000; decide), ?_⟩
      refine ⟨_, rfl, p, dx, _, rfl, upd_same, sf_keep k ((n : Int) + (n2 : Int)) ((e : Int) + (e2 : Int)) u, ?_⟩
      have hut' : u ≠ p := Ne.symm hup
      refine ⟨p, u, k, n + n2, e + e2, putAll d2 d, rfl, ⟨⟨dx, by rw [upd_same]; rfl⟩, by rw [upd_ne hut', upd_ne hut', upd_ne hut', upd_ne hut2]; exact h1⟩, putAll_nd _ _ nd, (by have := putAll_len d2 d; omega), fun H2 t' e' d' kd ht' SS fr gr => ?_⟩
      have old : ∀ b o, H b = some o → b ≠ p → (upd (upd (upd (upd H' t2 (.dK (kvI d2))) p (.ins ad.C_Summary dx (putF "table" (.ref u) (sf k n e t)))) p (.ins ad.C_Summary dx (putF "total" (.int ((n : Int) + (n2 : Int))) (putF "table" (.ref u) (sf k n e t))))) p
          (.ins ad.C_Summary dx (putF "error" (.int ((e : Int) + (e2 : Int))) (putF "total" (.int ((n : Int) + (n2 : Int))) (putF "table" (.ref u) (sf k n e t)))))) b = some o := fun b o hb hbp => by
        rw [upd_ne hbp, upd_ne hbp, upd_ne hbp]
        by_cases hbt : b = t2
        · subst hbt
          rw [upd_same, ← ht2]; exact hb
        · rw [upd_ne hbt]; exact h3 b o hb hbt
      have gr' : ∀ b, H2 b = none → H b = none := fun b hb => by
        have z := gr b hb
        cases y : H b with
        | none => rfl
        | some o =>
          by_cases hbp : b = p
          · subst hbp
            rw [upd_same] at z
            cases z
          · rw [old b o y hbp] at z
            cases z
      refine q H2 t' e' d' kd ?_ SS (fun b o hb hbp => fr b o (old b o hb hbp) hbp) gr'
      rcases ht' with z | z
      · rw [z]; exact hu0
      · cases y : H t' with
        | none => rfl
        | some o =>
          by_cases hbp : t' = p
          · rw [hbp, upd_same] at z
            cases z
          · rw [old t' o y hbp] at z
            cases z
theorem ok_within {ad : Adr} (T : Txt K mg ad) : FnOk P w K mg base CX0 2 ad.f_Summary_is_within_limits ad.fd_Summary_is_within_limits ["self"] (spWithin ad.C_Summary) := by
  refine T.F_Summary_is_within_limits.ok sc_Summary_is_within_limits (fun vs H Q E h => ?_) (fun cdv A outer s H vs Q E hr h => ?_)
  · obtain ⟨p, t, k, n, e, d, rfl, _⟩ := h
    rfl
  · obtain ⟨p, t, k, n, e, d, rfl, ⟨⟨dx, hp⟩, ht⟩, q⟩ := h
    obtain ⟨zt, tt, et, gT⟩ := T.c_TOTAL_END
    have nds := sc_Summary_is_within_limits.nd
    refine ⟨_, pss_cons (ps_set (i := 1) nds rfl (Or.inl rfl) (pe_callTy (call_listVals rfl) (by rfl) T.n_list (by rfl) (pa_cons (pe_values (pe_fld (pv 0) rfl)) pa_nil)))
      (pss_one (ps_ret (pe_and (pe_call (ok_isk T) hr (by rfl) T.g_is_k T.F_is_k.kp T.b_is_k .nil pass0 (pa_cons (pe_fld (pv 0) rfl) pa_nil)) (pe_and (pe_cmpR op_lt (pe_fld (pv 0) rfl) (pe_glob (v := .int zt) (by rfl) gT ⟨tt, rfl⟩) (nomark _))
        (pe_and (pe_cmpR op_le (pe_callB call_len_seq (by rfl) T.n_len PySem.boot_len (pa_cons (pv 1) pa_nil)) (pe_fld (pv 0) rfl) (nomark _)) (pe_one (pe_cmpR op_notIn_seq pe_int (pv 1) (by rfl)))))))), ?_⟩
    refine ⟨_, rfl, p, _, dx, _, _, rfl, hp, T.cl_Summary, T.no_Summary_table, sf_t _ _ _ _, t, _, rfl, ht, fun v hv => ?_⟩
    have s1 : Same H (upd H v (ViewO "dict_values" v t)) := same_new hv
    refine ⟨v, t, _, rfl, upd_same, s1 _ _ ht, fun l hl => ?_⟩
    have s2 : Same H (upd (upd H v (ViewO "dict_values" v t)) l (.lst ((kvI d).map (·.2)))) := s1.trans (same_new hl)
    have hp2 := s2 _ _ hp
    have hl2 : (upd (upd H v (ViewO "dict_values" v t)) l (.lst ((kvI d).map (·.2)))) l = some (.lst ((d.map fun y => (y.2 : Int)).map V.int)) := by rw [upd_same, vals_kvI]
    refine ⟨_, rfl, p, _, dx, _, _, rfl, hp2, T.cl_Summary, T.no_Summary_k, sf_k _ _ _ _, k, rfl, _, rfl, ite2 (fun h1 => ?_) (fun h1 => ?_)⟩
    · have h1 := of_decide_eq_true h1
      refine ⟨_, rfl, p, _, dx, _, _, rfl, hp2, T.cl_Summary, T.no_Summary_total, sf_n _ _ _ _, _, _, rfl, rfl, _, rfl, ite2 (fun h2 => ?_) (fun h2 => ?_)⟩
      · have h2 := of_decide_eq_true h2
        refine ⟨_, rfl, l, _, rfl, .inl (SqL.of hl2), _, rfl, p, _, dx, _, _, rfl, hp2, T.cl_Summary, T.no_Summary_k, sf_k _ _ _ _, _, _, rfl, rfl, _, rfl, ?_⟩
        rw [List.length_map, List.length_map]
        refine ite2 (fun h3 => ?_) (fun h3 => ?_)
        · have h3 := of_decide_eq_true h3
          refine ⟨_, rfl, l, _, rfl, .inl (SqL.of hl2), rfl, flat_ints _, ?_⟩
          refine q _ _ ?_ s2
          rw [in_zero]
          constructor
          · intro h4
            have h4 : (!decide ((0 : Int) ∈ d.map fun y => (y.2 : Int))) = true := h4
            rw [Bool.not_eq_true', decide_eq_false_iff_not] at h4
            exact ⟨h1, by omega, by omega, fun y hy z => h4 (List.mem_map.mpr ⟨y, hy, by rw [z]; rfl⟩)⟩
          · intro h4
            show (!decide ((0 : Int) ∈ d.map fun y => (y.2 : Int))) = true
            rw [Bool.not_eq_true', decide_eq_false_iff_not]
            intro hm
            obtain ⟨y, hy, z⟩ := List.mem_map.mp hm
            have z : (y.2 : Int) = 0 := z
            exact h4.2.2.2 y hy (by omega)
        · exact q _ false ⟨fun z => absurd z Bool.false_ne_true, fun z => absurd (decide_eq_true (by have := z.2.2.1; omega)) h3⟩ s2
      · exact q _ false ⟨fun z => absurd z Bool.false_ne_true, fun z => absurd (decide_eq_true (by have := z.2.1; omega)) h2⟩ s2
    · exact q _ false ⟨fun z => absurd z Bool.false_ne_true, fun z => absurd (decide_eq_true z.1) h1⟩ s2
theorem ok_proper {ad : Adr} (T : Txt K mg ad) : FnOk P w K mg base CX0 1 ad.f_Summary_is_proper ad.fd_Summary_is_proper ["self"] (spProper ad.C_Summary) := by
  refine T.F_Summary_is_proper.ok sc_Summary_is_proper (fun vs H Q E h => ?_) (fun cdv A outer s H vs Q E hr h => ?_)
  · obtain ⟨p, t, k, n, e, d, rfl, _⟩ := h
    rfl
  · obtain ⟨p, t, k, n, e, d, rfl, ⟨⟨dx, hp⟩, ht⟩, hk, q⟩ := h
    have nds := sc_Summary_is_proper.nd
    refine ⟨_, pss_cons (ps_set (i := 1) nds rfl (Or.inl rfl) (pe_callB (cr_sumVals rfl) (by rfl) T.n_sum (by rfl) (pa_cons (pe_values (pe_fld (pv 0) rfl)) pa_nil)))
      (pss_cons (ps_if (pt_cmpR op_eq (pe_fld (pv 0) rfl) pe_int (nomark _)) (pss_one (ps_ret (pe_cmpR op_eq (pv 1) (pe_fld (pv 0) rfl) (nomark _)))) pss_nil)
      (pss_one (ps_ret (pe_cmpR op_le (pe_op op_add (pe_op op_mul (pe_op op_add (pe_fld (pv 0) rfl) pe_int) (pe_fld (pv 0) rfl)) (pv 1)) (pe_fld (pv 0) rfl) (nomark _))))), ?_⟩
    refine ⟨_, rfl, p, _, dx, _, _, rfl, hp, T.cl_Summary, T.no_Summary_table, sf_t _ _ _ _, t, _, rfl, ht, fun v hv => ?_⟩
    have s1 : Same H (upd H v (ViewO "dict_values" v t)) := same_new hv
    have hp2 := s1 _ _ hp
    refine ⟨v, t, _, _, rfl, upd_same, s1 _ _ ht, vals_kvI d, ?_⟩
    refine ⟨_, rfl, p, _, dx, _, _, rfl, hp2, T.cl_Summary, T.no_Summary_error, sf_e _ _ _ _, rfl, _, rfl, ite2 (fun h1 => ?_) (fun h1 => ?_)⟩
    · have h1 : e = 0 := by
        have := V.int.inj (of_decide_eq_true h1)
        omega
      refine ⟨_, rfl, _, rfl, p, _, dx, _, _, rfl, hp2, T.cl_Summary, T.no_Summary_total, sf_n _ _ _ _, rfl, ?_⟩
      refine q _ _ ?_ s1
      rw [vals_sum]
      constructor
      · intro h2
        have := V.int.inj (of_decide_eq_true h2)
        exact ⟨fun _ => by omega, fun z => absurd h1 z⟩
      · intro h2
        have := h2.1 h1
        exact decide_eq_true (by rw [this])
    · have h1 : ¬ e = 0 := fun z => h1 (decide_eq_true (by rw [z]; rfl))
      refine ⟨_, rfl, p, _, dx, _, _, rfl, hp2, T.cl_Summary, T.no_Summary_k, sf_k _ _ _ _, _, _, rfl, rfl, _, rfl, p, _, dx, _, _, rfl, hp2, T.cl_Summary, T.no_Summary_error, sf_e _ _ _ _, _, _, rfl, rfl, .inl ⟨by omega, by omega⟩, _, rfl, _, _, rfl, rfl, _, rfl, p, _, dx, _, _, rfl, hp2, T.cl_Summary, T.no_Summary_total, sf_n _ _ _ _, _, _, rfl, rfl, ?_⟩
      refine q _ _ ?_ s1
      rw [vals_sum]
      have em : ((k : Int) + 1) * (e : Int) = (((k + 1) * e : Nat) : Int) := by
        rw [Int.natCast_mul]
        rfl
      constructor
      · intro h2
        have h2 : ((k : Int) + 1) * (e : Int) + ((csum d : Nat) : Int) ≤ (n : Int) := of_decide_eq_true h2
        rw [em] at h2
        exact ⟨fun z => absurd z h1, fun _ => by omega⟩
      · intro h2
        have h3 := h2.2 h1
        refine decide_eq_true ?_
        show ((k : Int) + 1) * (e : Int) + ((csum d : Nat) : Int) ≤ (n : Int)
        rw [em]
        omega
end
end HvM

end
section
set_option Elab.async false
set_option linter.all false
set_option maxRecDepth 100000
set_option maxHeartbeats 4000000
namespace HvM
open PySem PySem.Spec PyProof.Rows L2
open PySem.W (Codec)
/-! ### slices, equality of rows, a range of steps -/
theorem cut_nat (xs : List V) (i j : Nat) : cutV xs (some (i : Int)) (some (j : Int)) = (xs.drop i).take (j - i) := by
  unfold cutV
  rw [HT.sIx_nat, HT.sIx_nat]
  rcases Nat.lt_or_ge xs.length i with h | h
  · rw [List.drop_eq_nil_of_le (by omega), List.drop_eq_nil_of_le (by omega), List.take_nil, List.take_nil]
  · rw [Nat.min_eq_left h]
    rcases Nat.lt_or_ge xs.length j with g | g
    · rw [Nat.min_eq_right (by omega), List.take_of_length_le (by rw [List.length_drop]; omega), List.take_of_length_le (by rw [List.length_drop]; omega)]
    · rw [Nat.min_eq_left g]
theorem cut_from (xs : List V) (i : Nat) : cutV xs (some (i : Int)) none = xs.drop i := by
  unfold cutV
  rw [HT.sIx_nat, HT.sIx_none]
  rcases Nat.lt_or_ge xs.length i with h | h
  · rw [List.drop_eq_nil_of_le (by omega), List.take_nil, List.drop_eq_nil_of_le (by omega)]
  · rw [Nat.min_eq_left h, List.take_of_length_le (by rw [List.length_drop]; omega)]
def bN (b : Hv.Bytes) : List Nat := b.map fun c => c.toNat
theorem bN_len (b : Hv.Bytes) : (bN b).length = b.length := by unfold bN; rw [List.length_map]
theorem cut_sub (b : Hv.Bytes) {i j n : Nat} (h : j = i + n) : cutV ((ofN (bN b)).map V.int) (some (i : Int)) (some (j : Int)) = (ofN (bN (sub b i n))).map V.int := by
  rw [cut_nat, show j - i = n by omega]
  unfold ofN bN sub
  simp only [List.map_take, List.map_drop]
theorem num_bN (b : Hv.Bytes) : val (bN b) = Hv.num b := (num_val b).symm
theorem dp_ints {K : PySem.W.Frag} {H : Hp} : ∀ ns : List Int, DpAll K H (ns.map V.int) (ns.map PyData.int)
  | [] => .nil
  | n :: ns => .cons (.int n) (dp_ints ns)
theorem eqv_ints : ∀ ns ms : List Int, PyData.eqvAll (ns.map PyData.int) (ms.map PyData.int) = decide (ns = ms)
  | [], [] => rfl
  | [], _ :: _ => rfl
  | _ :: _, [] => rfl
  | n :: ns, m :: ms => by
    rw [List.map_cons, List.map_cons]
    show ((n == m) && PyData.eqvAll (ns.map PyData.int) (ms.map PyData.int)) = _
    rw [eqv_ints ns ms]
    by_cases h1 : n = m
    · subst h1
      by_cases h2 : ns = ms
      · subst h2; simp
      · simp [h2]
    · simp [h1]
theorem lay_all : ∀ ns : List Int, PyData.canLayAll0 (ns.map PyData.int) = true ∧ PyData.depthAll (ns.map PyData.int) = 0
  | [] => ⟨rfl, rfl⟩
  | n :: ns => by
    obtain ⟨h1, h2⟩ := lay_all ns
    refine ⟨?_, ?_⟩
    · rw [List.map_cons]
      show (true && PyData.canLayAll0 (ns.map PyData.int)) = true
      rw [h1]
      rfl
    · rw [List.map_cons]
      show max 0 (PyData.depthAll (ns.map PyData.int)) = 0
      rw [h2]
      rfl
theorem lay_ints (ns : List Int) : SeqAt.shaped (.list (ns.map PyData.int)) = true := by
  obtain ⟨h1, h2⟩ := lay_all ns
  show (PyData.canLayAll0 (ns.map PyData.int) && decide (PyData.depthAll (ns.map PyData.int) + 1 ≤ 64)) = true
  rw [h1, h2]
  rfl
theorem Paired.get' {α β : Type} {R : α → β → Prop} : ∀ {l : List α} {m : List β} {i : Nat} {a : α}, Paired R l m → l[i]? = some a → ∃ b, m[i]? = some b ∧ R a b
  | _, _, _, _, .nil, h => by simp at h
  | _, _, 0, _, .cons r _, h => by simp at h; subst h; exact ⟨_, rfl, r⟩
  | _, _, i + 1, a, .cons _ t, h => by
    obtain ⟨b, h1, h2⟩ := Paired.get' (i := i) (a := a) t (by simpa using h)
    exact ⟨b, by simpa using h1, h2⟩
theorem fits_long {z : Int} (h1 : 0 ≤ z) (h2 : z ≤ 1000) : Builtin.Range.rangeFitsLong z = true := by
  unfold Builtin.Range.rangeFitsLong
  rw [Bool.and_eq_true]
  exact ⟨decide_eq_true (by omega), decide_eq_true (by omega)⟩
theorem rg16 {n : Nat} (h : n ≤ 400) : RgC 24 (n : Int) 16 (turnsB n) := by
  have e : Builtin.Range.rangeSize 24 (n : Int) 16 = ((turnsB n : Nat) : Int) := by
    unfold Builtin.Range.rangeSize turnsB
    rw [if_pos (by decide)]
    split <;> omega
  have ht : turnsB n ≤ 400 := by unfold turnsB; omega
  refine ⟨by decide, by decide, ?_, e⟩
  unfold Builtin.Range.small
  rw [e, if_pos (by decide), fits_long (by decide) (by decide), fits_long (z := (n : Int)) (by omega) (by omega), fits_long (z := 16) (by decide) (by decide), fits_long (z := ((turnsB n : Nat) : Int)) (by omega) (by omega), fits_long (z := (n : Int) + (16 - 1)) (by omega) (by omega), Bool.or_true]
  rfl
/-! ### promises -/
def spBytes : Sp := fun vs H Q _ => ∃ x n : Nat, vs = [.int x, .int n] ∧ n ≤ 8 ∧ ∀ (H' : Hp) (l : Addr), H' l = some (.lst ((ofN (dig n x)).map V.int)) → H l = none → Same H H' → Q (.ref l) H'
def spNum (K : PySem.W.Frag) : Sp := fun vs H Q _ => ∃ (a : Addr) (b : List Nat), vs = [.ref a] ∧ SqL K H a ((ofN b).map V.int) ∧ Q (.int (val b : Nat)) H
def spPack (C : Addr) : Sp := fun vs H Q _ => ∃ (p t : Addr) (k n e : Nat) (d : List P2), vs = [.ref p] ∧ SA C H p t k n e d ∧ d.length ≤ 2000 ∧
  ∀ (H' : Hp) (l : Addr), H' l = some (.lst ((ofN (packN k n e d)).map V.int)) → H l = none → Same H H' → Q (.ref l) H'
def spParse (C : Addr) (K : PySem.W.Frag) : Sp := fun vs H Q _ => ∃ (a : Addr) (b : Hv.Bytes), vs = [.ref a] ∧ SqL K H a ((ofN (bN b)).map V.int) ∧ b.length ≤ 400 ∧
  ∀ (H' : Hp) (p t : Addr), SA C H' p t (kB b) (nB b) (eB b) (dB b) → Same H H' → H p = none → H t = none → Q (.ref p) H'
def spUnpack (C : Addr) (K : PySem.W.Frag) : Sp := fun vs H Q _ => ∃ (a : Addr) (b : Hv.Bytes), vs = [.ref a] ∧ SqL K H a ((ofN (bN b)).map V.int) ∧ b.length ≤ 400 ∧
  (∀ (H' : Hp) (p t : Addr) (s : Hv.Sum) (d : List P2), Hv.unpack b = some s → SA C H' p t s.k s.n s.err d → d.Perm s.tab → Same H H' → H p = none → H t = none → Q (.ref p) H') ∧ ∀ H' : Hp, Hv.unpack b = none → Same H H' → Q .non H'
theorem val_drop {b : List Nat} {i : Nat} (h : i < b.length) {x : Nat} (hx : b[b.length - 1 - i]? = some x) : val (b.drop (b.length - (i + 1))) = val (b.drop (b.length - i)) * 256 + x := by
  have e : b.drop (b.length - (i + 1)) = x :: b.drop (b.length - i) := by
    obtain ⟨hl, he⟩ := List.getElem?_eq_some_iff.mp hx
    have z : b.length - (i + 1) = b.length - 1 - i := by omega
    rw [z, ← List.getElem_cons_drop hl, he, show b.length - 1 - i + 1 = b.length - i by omega]
  rw [e]
  show x + 256 * val (b.drop (b.length - i)) = _
  omega
section
variable {P : Program} {w : World} {K : PySem.W.Frag} {mg : Str → Option Value} {base : Heap}
theorem ok_bytes {ad : Adr} (T : Txt K mg ad) : FnOk P w K mg base CX0 1 ad.f_bytes_of ad.fd_bytes_of ["number", "width"] spBytes := by
  refine T.F_bytes_of.ok sc_bytes_of (fun vs H Q E h => ?_) (fun cdv A outer s H vs Q E hr h => ?_)
  · obtain ⟨x, n, rfl, _⟩ := h
    rfl
  · obtain ⟨x, n, rfl, hn, q⟩ := h
    have nd := sc_bytes_of.nd
    refine ⟨_, pss_cons (ps_set (i := 2) nd rfl (Or.inl rfl) (pe_lst pa_nil)) (pss_cons (ps_for PassesOwn.never rfl (pi_range1 (by rfl) T.n_range (pa_cons (pv 1) pa_nil)) (pg_name (i := 3) nd rfl (Or.inl rfl))
      (pss_cons (ps_expr (pe_bm PySem.F.plainAttrs_list PySem.F.slot_list_append PySem.F.type_list_append mt_append (pv 2) (pa_cons (pe_op op_mod (pv 0) pe_int) pa_nil))) (pss_one (ps_set (i := 0) nd rfl (Or.inl rfl) (pe_op op_fdiv (pv 0) pe_int)))))
      (pss_one (ps_ret (pv 2)))), ?_⟩
    refine ⟨Nat.zero_le _, fun l hl => ?_⟩
    refine ⟨_, rfl, (n : Int), rfl, by omega, by omega, ?_⟩
    rw [Int.toNat_natCast]
    refine for_range (n := n) (fun i σ H' => ∃ v3, σ = [some (.int (x / 256 ^ i : Nat)), some (.int n), some (.ref l), v3] ∧ H' l = some (.lst ((ofN (dig i x)).map V.int)) ∧ Same H H')
      ⟨none, by rw [Nat.pow_zero, Nat.div_one]; rfl, upd_same, same_new hl⟩ ?_ ?_
    · rintro i σ H' hi ⟨v3, rfl, h1, h2⟩
      have e1 : ((x / 256 ^ i : Nat) : Int) % 256 = ((x / 256 ^ i % 256 : Nat) : Int) := by omega
      have e2 : ((x / 256 ^ i : Nat) : Int) / 256 = ((x / 256 ^ (i + 1) : Nat) : Int) := by
        rw [Nat.pow_succ, ← Nat.div_div_eq_div_mul]
        omega
      refine ⟨_, rfl, .inl ⟨rfl, _, SqL.of h1⟩, _, rfl, _, _, rfl, rfl, (by show (0 : Int) < 256; decide), l, _, _, rfl, rfl, h1, (by rw [List.length_map, ofN_len, dig_len, sizeLine_eq]; omega), ?_⟩
      refine ⟨_, rfl, _, _, rfl, rfl, ⟨by decide, by decide⟩, ?_⟩
      refine ⟨some (V.int (0 + (i : Int))), ?_, ?_, fun b o hb => ?_⟩
      · show [some (V.int (((x / 256 ^ i : Nat) : Int) / 256)), some (V.int (n : Int)), some (V.ref l), some (V.int (0 + (i : Int)))] = _
        rw [e2]
      · rw [upd_same]
        show some (HO.lst ((ofN (dig i x)).map V.int ++ [V.int (((x / 256 ^ i : Nat) : Int) % 256)])) = _
        rw [e1, dig_snoc, ofN_append, List.map_append]
        rfl
      · rw [upd_ne (ne_of_none hb hl)]; exact h2 b o hb
    · rintro σ H' ⟨v3, rfl, h1, h2⟩
      exact ⟨_, rfl, q H' l h1 hl h2⟩
theorem ok_num {ad : Adr} (T : Txt K mg ad) : FnOk P w K mg base CX0 1 ad.f_number_of ad.fd_number_of ["row"] (spNum K) := by
  refine T.F_number_of.ok sc_number_of (fun vs H Q E h => ?_) (fun cdv A outer s H vs Q E hr h => ?_)
  · obtain ⟨a, b, rfl, _⟩ := h
    rfl
  · obtain ⟨a, b, rfl, hS, q⟩ := h
    have nd := sc_number_of.nd
    refine ⟨_, pss_cons (ps_set (i := 1) nd rfl (Or.inl rfl) pe_int) (pss_cons (ps_for PassesOwn.never rfl (pi_reversed (by rfl) T.n_reversed (pa_cons (pv 0) pa_nil)) (pg_name (i := 2) nd rfl (Or.inl rfl))
      (pss_one (ps_set (i := 1) nd rfl (Or.inl rfl) (pe_op op_add (pe_op op_mul (pv 1) pe_int) (pv 2))))) (pss_one (ps_ret (pv 1)))), ?_⟩
    have hlen : ((ofN b).map V.int).length = b.length := by rw [List.length_map, ofN_len]
    refine ⟨_, rfl, a, _, rfl, hS, for_rev (fun i σ H' => H' = H ∧ ∃ v2, σ = [some (.ref a), some (.int (val (b.drop (b.length - i)) : Nat)), v2]) ⟨rfl, none, ?_⟩ (fun i σ H' _ ⟨e, _⟩ => by rw [e]; exact hS) ?_ ?_⟩
    · rw [Nat.sub_zero, List.drop_length]
      rfl
    · rintro i v σ H' hi hv ⟨rfl, v2, rfl⟩
      rw [hlen] at hi hv
      unfold ofN at hv
      rw [List.getElem?_map, List.getElem?_map] at hv
      cases hb : b[b.length - 1 - i]? with
      | none => rw [hb] at hv; cases hv
      | some x =>
        rw [hb] at hv
        have ev : V.int (x : Int) = v := Option.some.inj hv
        subst ev
        refine ⟨_, rfl, _, _, rfl, rfl, .inr ⟨by decide, by decide⟩, _, rfl, _, _, rfl, rfl, rfl, some (V.int (x : Int)), ?_⟩
        show [some (V.ref a), some (V.int (((val (b.drop (b.length - i)) : Nat) : Int) * 256 + (x : Int))), some (V.int (x : Int))] = _
        have e3 : (((val (b.drop (b.length - i)) : Nat) : Int) * 256 + (x : Int)) = ((val (b.drop (b.length - (i + 1))) : Nat) : Int) := by
          rw [val_drop hi hb]
          omega
        rw [e3]
    · rintro σ H' ⟨rfl, v2, rfl⟩
      rw [hlen, Nat.sub_self, List.drop_zero]
      exact ⟨_, rfl, q⟩
theorem ok_pack {ad : Adr} (T : Txt K mg ad) : FnOk P w K mg base CX0 5 ad.f_pack ad.fd_pack ["summary"] (spPack ad.C_Summary) := by
  refine T.F_pack.ok sc_pack (fun vs H Q E h => ?_) (fun cdv A outer s H vs Q E hr h => ?_)
  · obtain ⟨p, t, k, n, e, d, rfl, _⟩ := h
    rfl
  · obtain ⟨p, t, k, n, e, d, rfl, S, hdl, q⟩ := h
    have nd := sc_pack.nd
    have hr1 : Room 1 _ := hr.mono (by decide)
    obtain ⟨⟨dx, hp⟩, ht⟩ := id S
    refine ⟨_, pss_cons (ps_set (i := 1) nd rfl (Or.inl rfl) (pe_op op_cat (pe_call (ok_bytes T) hr1 (by rfl) T.g_bytes_of T.F_bytes_of.kp T.b_bytes_of .nil pass0 (pa_cons (pe_fld (pv 0) rfl) (pa_cons pe_int pa_nil)))
        (pe_call (ok_bytes T) hr1 (by rfl) T.g_bytes_of T.F_bytes_of.kp T.b_bytes_of .nil pass0 (pa_cons (pe_callB call_lenD (by rfl) T.n_len PySem.boot_len (pa_cons (pe_fld (pv 0) rfl) pa_nil)) (pa_cons pe_int pa_nil)))))
      (pss_cons (ps_expr (pe_bm PySem.F.plainAttrs_list PySem.F.slot_list_extend PySem.F.type_list_extend mt_extend (pv 1) (pa_cons (pe_op op_cat (pe_call (ok_bytes T) hr1 (by rfl) T.g_bytes_of T.F_bytes_of.kp T.b_bytes_of .nil pass0 (pa_cons (pe_fld (pv 0) rfl) (pa_cons pe_int pa_nil)))
        (pe_call (ok_bytes T) hr1 (by rfl) T.g_bytes_of T.F_bytes_of.kp T.b_bytes_of .nil pass0 (pa_cons (pe_fld (pv 0) rfl) (pa_cons pe_int pa_nil)))) pa_nil)))
      (pss_cons (ps_for PassesOwn.never rfl (pi_list (pe_meth0 (pv 0) T.cl_Summary T.m_Summary_ordered (ok_ord T) hr T.b_Summary_ordered .nil pass0)) (pg_tup rfl (pgs_cons (pg_name (i := 2) nd rfl (Or.inl rfl)) (pgs_cons (pg_name (i := 3) nd rfl (Or.inl rfl)) pgs_nil)))
        (pss_one (ps_expr (pe_bm PySem.F.plainAttrs_list PySem.F.slot_list_extend PySem.F.type_list_extend mt_extend (pv 1) (pa_cons (pe_op op_cat (pe_call (ok_bytes T) hr1 (by rfl) T.g_bytes_of T.F_bytes_of.kp T.b_bytes_of .nil pass0 (pa_cons (pv 2) (pa_cons pe_int pa_nil)))
          (pe_call (ok_bytes T) hr1 (by rfl) T.g_bytes_of T.F_bytes_of.kp T.b_bytes_of .nil pass0 (pa_cons (pv 3) (pa_cons pe_int pa_nil)))) pa_nil)))))
      (pss_one (ps_ret (pv 1))))), ?_⟩
    -- row = bytes_of(summary.k, 4) + bytes_of(len(summary.table), 4)
    refine ⟨_, rfl, p, _, dx, _, _, rfl, hp, T.cl_Summary, T.no_Summary_k, sf_k _ _ _ _, k, 4, rfl, by decide, fun H1 l1 h1 n1 s1 => ?_⟩
    refine ⟨_, rfl, p, _, dx, _, _, rfl, s1 _ _ hp, T.cl_Summary, T.no_Summary_table, sf_t _ _ _ _, t, _, rfl, s1 _ _ ht, d.length, 4, (by rw [kvI_len]; rfl), by decide, fun H2 l2 h2 n2 s2 => ?_⟩
    refine ⟨l1, l2, _, _, rfl, rfl, s2 _ _ h1, h2, (by rw [List.length_map, List.length_map, ofN_len, ofN_len, dig_len, dig_len, sizeLine_eq]; omega), fun r hrn => ?_⟩
    have s3 : Same H (upd H2 r (.lst ((ofN (dig 4 k)).map V.int ++ (ofN (dig 4 d.length)).map V.int))) := (s1.trans s2).trans (same_new hrn)
    -- row.extend(..)
    refine ⟨_, rfl, .inl ⟨rfl, _, SqL.of upd_same⟩, _, rfl, p, _, dx, _, _, rfl, s3 _ _ hp, T.cl_Summary, T.no_Summary_total, sf_n _ _ _ _, n, 8, rfl, by decide, fun H4 l4 h4 n4 s4 => ?_⟩
    refine ⟨_, rfl, p, _, dx, _, _, rfl, s4 _ _ (s3 _ _ hp), T.cl_Summary, T.no_Summary_error, sf_e _ _ _ _, e, 8, rfl, by decide, fun H5 l5 h5 n5 s5 => ?_⟩
    refine ⟨l4, l5, _, _, rfl, rfl, s5 _ _ h4, h5, (by rw [List.length_map, List.length_map, ofN_len, ofN_len, dig_len, dig_len, sizeLine_eq]; omega), fun l6 n6 => ?_⟩
    have hr5 : H5 r = some (.lst ((ofN (dig 4 k)).map V.int ++ (ofN (dig 4 d.length)).map V.int)) := s5 _ _ (s4 _ _ upd_same)
    have hr6 : r ≠ l6 := ne_of_none hr5 n6
    refine ⟨r, l6, _, _, rfl, rfl, (by rw [upd_ne hr6]; exact hr5), upd_same, (by rw [List.length_append, List.length_append, List.length_map, List.length_map, List.length_map, List.length_map, ofN_len, ofN_len, ofN_len, ofN_len, dig_len, dig_len, dig_len, dig_len, sizeLine_eq]; omega), ?_⟩
    have rn : H r = none := (s1.trans s2).free hrn
    generalize hh7 : upd (upd H5 l6 (.lst ((ofN (dig 8 n)).map V.int ++ (ofN (dig 8 e)).map V.int))) r (.lst (((ofN (dig 4 k)).map V.int ++ (ofN (dig 4 d.length)).map V.int) ++ ((ofN (dig 8 n)).map V.int ++ (ofN (dig 8 e)).map V.int))) = H7
    have s7 : Same H H7 := fun b o hb => by
      rw [← hh7, upd_ne (ne_of_none hb rn)]
      exact same_new n6 _ _ (s5 _ _ (s4 _ _ (s3 _ _ hb)))
    have hr7 : H7 r = some (.lst ((ofN (dig 4 k ++ (dig 4 d.length ++ (dig 8 n ++ dig 8 e)))).map V.int)) := by
      rw [← hh7, upd_same]
      simp only [ofN_append, List.map_append, List.append_assoc]
    -- the loop
    refine ⟨_, rfl, p, dx, _, rfl, s7 _ _ hp, rfl, p, t, k, n, e, d, rfl, S.same s7, fun H8 l as hl has s8 ln => ?_⟩
    have hr8 := s8 _ _ hr7
    have hlr : l ≠ r := fun z => by subst z; rw [hr7] at ln; cases ln
    have hal : as.length = (Hv.sorted d).length := Paired.length has
    refine ⟨l, rfl, ⟨_, SqL.of hl⟩, for_list (K := K) (a := l) (xs := as.map V.ref)
      (fun i σ H' => ∃ v2 v3, σ = [some (.ref p), some (.ref r), v2, v3] ∧ H' r = some (.lst ((ofN (dig 4 k ++ (dig 4 d.length ++ (dig 8 n ++ (dig 8 e ++ ((Hv.sorted d).take i).flatMap fun y => dig 8 y.1 ++ dig 8 y.2))))).map V.int)) ∧ ∀ b o, H8 b = some o → b ≠ r → H' b = some o)
      ⟨none, none, rfl, by rw [List.take_zero, List.flatMap_nil, List.append_nil]; exact hr8, fun b o hb _ => hb⟩ (fun i σ H' _ ⟨_, _, _, _, z⟩ => SqL.of (z _ _ hl hlr)) ?_ ?_⟩
    · rintro i v σ H' hi ⟨v2, v3, rfl, h1', h2'⟩
      rw [List.getElem?_map] at hi
      cases hai : as[i]? with
      | none => rw [hai] at hi; cases hi
      | some a =>
        rw [hai] at hi
        have ev : V.ref a = v := Option.some.inj hi
        subst ev
        obtain ⟨y, hy, hay⟩ := Paired.get' has hai
        have har : a ≠ r := ne_of hay hr8 (by intro z; cases z)
        have hil : i < (Hv.sorted d).length := (List.getElem?_eq_some_iff.mp hy).1
        refine ⟨a, _, rfl, SqT.of (h2' _ _ hay har), rfl, _, _, rfl, _, _, rfl, rfl, ?_⟩
        refine ⟨_, rfl, .inl ⟨rfl, _, SqL.of h1'⟩, _, rfl, y.1, 8, rfl, by decide, fun Ha la ha na sa => ?_⟩
        refine ⟨_, rfl, y.2, 8, rfl, by decide, fun Hb lb hb nb sb => ?_⟩
        refine ⟨la, lb, _, _, rfl, rfl, sb _ _ ha, hb, (by rw [List.length_map, List.length_map, ofN_len, ofN_len, dig_len, dig_len, sizeLine_eq]; omega), fun lc nc => ?_⟩
        have hrb : Hb r = _ := sb _ _ (sa _ _ h1')
        have hrc : r ≠ lc := ne_of_none hrb nc
        have hfl : (((Hv.sorted d).take i).flatMap fun y => dig 8 y.1 ++ dig 8 y.2).length ≤ 16 * 2000 := by
          have key : ∀ l : List P2, (l.flatMap fun y => dig 8 y.1 ++ dig 8 y.2).length = 16 * l.length := by
            intro l
            induction l with
            | nil => rfl
            | cons y l ih => rw [List.flatMap_cons, List.length_append, ih, List.length_append, dig_len, dig_len, List.length_cons]; omega
          rw [key, List.length_take]
          rw [sorted_len] at hil ⊢
          omega
        refine ⟨r, lc, _, _, rfl, rfl, (by rw [upd_ne hrc]; exact hrb), upd_same, (by simp only [List.length_append, List.length_map, ofN_len, dig_len, sizeLine_eq] at hfl ⊢; omega), ?_⟩
        refine ⟨_, _, rfl, ?_, fun b o hb' hbr => ?_⟩
        · rw [upd_same, take_snoc hy, List.flatMap_append]
          simp only [ofN_append, List.map_append, List.append_assoc, List.flatMap_cons, List.flatMap_nil, List.append_nil]
        · rw [upd_ne hbr]
          exact same_new nc _ _ (sb _ _ (sa _ _ (h2' b o hb' hbr)))
    · rintro σ H' ⟨v2, v3, rfl, h1', h2'⟩
      rw [List.length_map, hal, List.take_length] at h1'
      refine ⟨_, rfl, q H' r h1' rn fun b o hb => h2' b o (s8 _ _ (s7 _ _ hb)) (ne_of_none hb rn)⟩
theorem ok_parse {ad : Adr} (T : Txt K mg ad) : FnOk P w K mg base CX0 3 ad.f_parse ad.fd_parse ["row"] (spParse ad.C_Summary K) := by
  refine T.F_parse.ok sc_parse (fun vs H Q E h => ?_) (fun cdv A outer s H vs Q E hr h => ?_)
  · obtain ⟨a, b, rfl, _⟩ := h
    rfl
  · obtain ⟨a, b, rfl, hS, hbl, q⟩ := h
    have nd := sc_parse.nd
    have hr1 : Room 1 _ := hr.mono (by decide)
    have hu := hu_of hr
    obtain ⟨zh, th, eh, gH⟩ := T.c_HEAD_WIDTH
    obtain ⟨ze, te, ee, gE⟩ := T.c_ENTRY_WIDTH
    refine ⟨_, pss_cons (ps_set (i := 1) nd rfl (Or.inl rfl) (pe_make T.mk_Summary (ok_init T) hr (by rfl) T.g_Summary T.b_Summary_init .nil pass0 (pa_cons (pe_call (ok_num T) hr1 (by rfl) T.g_number_of T.F_number_of.kp T.b_number_of .nil pass0 (pa_cons (pe_slice sl_list (pv 0) (po_some pe_int) (po_some pe_int)) pa_nil)) pa_nil)))
      (pss_cons (ps_fld (pv 1) (pe_call (ok_num T) hr1 (by rfl) T.g_number_of T.F_number_of.kp T.b_number_of .nil pass0 (pa_cons (pe_slice sl_list (pv 0) (po_some pe_int) (po_some pe_int)) pa_nil)) rfl)
      (pss_cons (ps_fld (pv 1) (pe_call (ok_num T) hr1 (by rfl) T.g_number_of T.F_number_of.kp T.b_number_of .nil pass0 (pa_cons (pe_slice sl_list (pv 0) (po_some pe_int) (po_some pe_int)) pa_nil)) rfl)
      (pss_cons (ps_for PassesOwn.never rfl (pi_range3 (by rfl) T.n_range (pa_cons (pe_glob (v := .int zh) (by rfl) gH ⟨th, rfl⟩) (pa_cons (pe_callB call_len_seq (by rfl) T.n_len PySem.boot_len (pa_cons (pv 0) pa_nil)) (pa_cons (pe_glob (v := .int ze) (by rfl) gE ⟨te, rfl⟩) pa_nil)))) (pg_name (i := 2) nd rfl (Or.inl rfl))
        (pss_cons (ps_set (i := 3) nd rfl (Or.inl rfl) (pe_call (ok_num T) hr1 (by rfl) T.g_number_of T.F_number_of.kp T.b_number_of .nil pass0 (pa_cons (pe_slice sl_list (pv 0) (po_some (pv 2)) (po_some (pe_op op_add (pv 2) pe_int))) pa_nil)))
          (pss_one (ps_dput hu (pe_fld (pv 1) rfl) (pv 3) (pe_call (ok_num T) hr1 (by rfl) T.g_number_of T.F_number_of.kp T.b_number_of .nil pass0 (pa_cons (pe_slice sl_list (pv 0) (po_some (pe_op op_add (pv 2) pe_int)) (po_some (pe_op op_add (pv 2) pe_int))) pa_nil)) rfl))))
      (pss_one (ps_ret (pv 1)))))), ?_⟩
    -- summary = Summary(number_of(row[0:4]))
    refine ⟨_, rfl, _, rfl, _, rfl, a, _, rfl, hS, fun l1 n1 => ?_⟩
    have s1 : Same H (upd H l1 (.lst (cutV ((ofN (bN b)).map V.int) (some 0) (some 4)))) := same_new n1
    refine ⟨l1, bN (sub b 0 4), rfl, SqL.of (by rw [upd_same]; exact congrArg (fun z => some (HO.lst z)) (cut_sub b (i := 0) (j := 4) (n := 4) rfl)), ?_⟩
    rw [num_bN]
    intro p dx np ndx nex
    refine ⟨p, dx, kB b, rfl, upd_same, fun H2 t ht S2 kp => ⟨rfl, ?_⟩⟩
    have s2 : Same _ H2 := Same.made np ndx kp
    have s02 : Same H H2 := s1.trans s2
    have pn : H p = none := s1.free np
    have tn : H t = none := by
      cases z : H t with
      | none => rfl
      | some o =>
        have z1 := s1 _ _ z
        have hpt : t ≠ p := ne_of_none z1 np
        have hdt : t ≠ dx := ne_of_none z1 ndx
        rw [upd_ne hpt] at ht
        first
          | (rw [z1] at ht; cases ht)
          | (rw [upd_ne hdt, z1] at ht; cases ht)
    have hpt : p ≠ t := S2.ne
    obtain ⟨⟨dx2, hp2⟩, ht2⟩ := id S2
    -- summary.total = number_of(row[8:16])
    refine ⟨_, rfl, _, rfl, _, rfl, a, _, rfl, s02.seq hS, fun l3 n3 => ?_⟩
    have hp3 : (upd H2 l3 (.lst (cutV ((ofN (bN b)).map V.int) (some 8) (some 16)))) p = some (.ins ad.C_Summary dx2 (sf (kB b) 0 0 t)) := same_new n3 _ _ hp2
    have ht3 : (upd H2 l3 (.lst (cutV ((ofN (bN b)).map V.int) (some 8) (some 16)))) t = some (.dK (kvI [])) := same_new n3 _ _ ht2
    have s03 : Same H (upd H2 l3 (.lst (cutV ((ofN (bN b)).map V.int) (some 8) (some 16)))) := s02.trans (same_new n3)
    refine ⟨l3, bN (sub b 8 8), rfl, SqL.of (by rw [upd_same]; exact congrArg (fun z => some (HO.lst z)) (cut_sub b (i := 8) (j := 16) (n := 8) rfl)), ?_⟩
    rw [num_bN]
    refine ⟨_, rfl, p, _, dx2, _, rfl, hp3, T.cl_Summary, T.no_Summary_total, (by show 4 < 1000; decide), ?_⟩
    generalize hH3 : upd H2 l3 (.lst (cutV ((ofN (bN b)).map V.int) (some 8) (some 16))) = H3 at hp3 ht3 s03
    have s04 : Same H (upd H3 p (.ins ad.C_Summary dx2 (putF "total" (.int (Hv.num (sub b 8 8) : Nat)) (sf (kB b) 0 0 t)))) := fun c o hc => by rw [upd_ne (ne_of_none hc pn)]; exact s03 _ _ hc
    have hp4 : (upd H3 p (.ins ad.C_Summary dx2 (putF "total" (.int (Hv.num (sub b 8 8) : Nat)) (sf (kB b) 0 0 t)))) p = some (.ins ad.C_Summary dx2 (sf (kB b) (nB b) 0 t)) := by rw [upd_same]; rfl
    have ht4 : (upd H3 p (.ins ad.C_Summary dx2 (putF "total" (.int (Hv.num (sub b 8 8) : Nat)) (sf (kB b) 0 0 t)))) t = some (.dK (kvI [])) := by rw [upd_ne (Ne.symm hpt)]; exact ht3
    generalize hH4 : upd H3 p (.ins ad.C_Summary dx2 (putF "total" (.int (Hv.num (sub b 8 8) : Nat)) (sf (kB b) 0 0 t))) = H4 at s04 hp4 ht4 ⊢
    -- summary.error = number_of(row[16:24])
    refine ⟨_, rfl, _, rfl, _, rfl, a, _, rfl, s04.seq hS, fun l5 n5 => ?_⟩
    refine ⟨l5, bN (sub b 16 8), rfl, SqL.of (by rw [upd_same]; exact congrArg (fun z => some (HO.lst z)) (cut_sub b (i := 16) (j := 24) (n := 8) rfl)), ?_⟩
    rw [num_bN]
    have hp5 := same_new (o := .lst (cutV ((ofN (bN b)).map V.int) (some 16) (some 24))) n5 _ _ hp4
    have ht5 := same_new (o := .lst (cutV ((ofN (bN b)).map V.int) (some 16) (some 24))) n5 _ _ ht4
    have s05 := s04.trans (same_new (o := .lst (cutV ((ofN (bN b)).map V.int) (some 16) (some 24))) n5)
    refine ⟨_, rfl, p, _, dx2, _, rfl, hp5, T.cl_Summary, T.no_Summary_error, (by show 4 < 1000; decide), ?_⟩
    generalize hH5 : upd H4 l5 (.lst (cutV ((ofN (bN b)).map V.int) (some 16) (some 24))) = H5 at hp5 ht5 s05
    have s06 : Same H (upd H5 p (.ins ad.C_Summary dx2 (putF "error" (.int (Hv.num (sub b 16 8) : Nat)) (sf (kB b) (nB b) 0 t)))) := fun c o hc => by rw [upd_ne (ne_of_none hc pn)]; exact s05 _ _ hc
    have hp6 : (upd H5 p (.ins ad.C_Summary dx2 (putF "error" (.int (Hv.num (sub b 16 8) : Nat)) (sf (kB b) (nB b) 0 t)))) p = some (.ins ad.C_Summary dx2 (sf (kB b) (nB b) (eB b) t)) := by rw [upd_same]; rfl
    have ht6 : (upd H5 p (.ins ad.C_Summary dx2 (putF "error" (.int (Hv.num (sub b 16 8) : Nat)) (sf (kB b) (nB b) 0 t)))) t = some (.dK (kvI [])) := by rw [upd_ne (Ne.symm hpt)]; exact ht5
    generalize hH6 : upd H5 p (.ins ad.C_Summary dx2 (putF "error" (.int (Hv.num (sub b 16 8) : Nat)) (sf (kB b) (nB b) 0 t))) = H6 at s06 hp6 ht6 ⊢
    -- the loop
    have hpl : (pairsB b).length = turnsB b.length := by unfold pairsB; rw [List.length_map, List.length_range]
    have htb : turnsB b.length ≤ 400 := by unfold turnsB; omega
    refine ⟨_, rfl, a, _, rfl, .inl (s06.seq hS), zh, _, ze, turnsB b.length, rfl, (by rw [eh, ee, List.length_map, ofN_len, bN_len]; exact rg16 hbl),
      for_rangeC (fun i σ H' => ∃ v2 v3, σ = [some (.ref a), some (.ref p), v2, v3] ∧ H' p = some (.ins ad.C_Summary dx2 (sf (kB b) (nB b) (eB b) t)) ∧ H' t = some (.dK (kvI (dictOf ((pairsB b).take i)))) ∧ Same H H')
      ⟨none, none, rfl, hp6, ht6, s06⟩ ?_ ?_⟩
    · rintro i σ H' hi ⟨v2, v3, rfl, h1, h2, h3⟩
      have e0 : zh + (i : Nat) * ze = ((24 + 16 * i : Nat) : Int) := by rw [eh, ee]; omega
      rw [e0]
      have hy : (pairsB b)[i]? = some (pairAt b (24 + 16 * i)) := by
        unfold pairsB
        rw [List.getElem?_map, List.getElem?_range hi]
        rfl
      -- key = number_of(row[place:place + 8])
      refine ⟨_, rfl, _, rfl, _, rfl, _, rfl, _, _, rfl, rfl, _, rfl, a, _, rfl, h3.seq hS, fun l7 n7 => ?_⟩
      have e7 : cutV ((ofN (bN b)).map V.int) (some ((24 + 16 * i : Nat) : Int)) (some (((24 + 16 * i : Nat) : Int) + 8)) = (ofN (bN (sub b (24 + 16 * i) 8))).map V.int := by
        rw [show ((24 + 16 * i : Nat) : Int) + 8 = ((24 + 16 * i + 8 : Nat) : Int) by omega]
        exact cut_sub b rfl
      refine ⟨l7, bN (sub b (24 + 16 * i) 8), rfl, SqL.of (by rw [upd_same]; exact congrArg (fun z => some (HO.lst z)) e7), ?_⟩
      rw [num_bN]
      have k7 := same_new (o := .lst (cutV ((ofN (bN b)).map V.int) (some ((24 + 16 * i : Nat) : Int)) (some (((24 + 16 * i : Nat) : Int) + 8)))) n7
      -- summary.table[key] = number_of(row[place + 8:place + 16])
      refine ⟨_, rfl, _, rfl, _, _, rfl, rfl, _, rfl, _, rfl, _, _, rfl, rfl, _, rfl, a, _, rfl, (h3.trans k7).seq hS, fun l8 n8 => ?_⟩
      have e8 : cutV ((ofN (bN b)).map V.int) (some (((24 + 16 * i : Nat) : Int) + 8)) (some (((24 + 16 * i : Nat) : Int) + 16)) = (ofN (bN (sub b (24 + 16 * i + 8) 8))).map V.int := by
        rw [show ((24 + 16 * i : Nat) : Int) + 8 = ((24 + 16 * i + 8 : Nat) : Int) by omega, show ((24 + 16 * i : Nat) : Int) + 16 = ((24 + 16 * i + 16 : Nat) : Int) by omega]
        exact cut_sub b (by omega)
      refine ⟨l8, bN (sub b (24 + 16 * i + 8) 8), rfl, SqL.of (by rw [upd_same]; exact congrArg (fun z => some (HO.lst z)) e8), ?_⟩
      rw [num_bN]
      have k8 := same_new (o := .lst (cutV ((ofN (bN b)).map V.int) (some (((24 + 16 * i : Nat) : Int) + 8)) (some (((24 + 16 * i : Nat) : Int) + 16)))) n8
      have hp8 := k8 _ _ (k7 _ _ h1)
      have ht8 := k8 _ _ (k7 _ _ h2)
      have hdl : (dictOf ((pairsB b).take i)).length ≤ 400 := by
        have := dictOf_len ((pairsB b).take i)
        rw [List.length_take] at this
        omega
      refine ⟨_, rfl, p, _, dx2, _, _, rfl, hp8, T.cl_Summary, T.no_Summary_table, sf_t _ _ _ _, _, rfl, t, _, rfl, DPut.k (k := Sum.inl ((Hv.num (sub b (24 + 16 * i) 8) : Nat) : Int)) ht8 (by rw [kvI_len, sizeLine_eq]; omega), ?_⟩
      refine ⟨_, _, rfl, ?_, ?_, fun c o hc => ?_⟩
      · rw [upd_ne hpt]; exact hp8
      · rw [upd_same]
        show some (HO.dK (putK (kvI (dictOf ((pairsB b).take i))) (Sum.inl ((Hv.num (sub b (24 + 16 * i) 8) : Nat) : Int)) (V.int ((Hv.num (sub b (24 + 16 * i + 8) 8) : Nat) : Int)))) = _
        rw [putK_kvI, take_snoc hy, dictOf_snoc]
        rfl
      · rw [upd_ne (ne_of_none hc tn)]
        exact k8 _ _ (k7 _ _ (h3 _ _ hc))
    · rintro σ H' ⟨v2, v3, rfl, h1, h2, h3⟩
      rw [← hpl, List.take_length] at h2
      exact ⟨_, rfl, q H' p t ⟨⟨dx2, h1⟩, h2⟩ h3 pn tn⟩
theorem ok_unpack {ad : Adr} (T : Txt K mg ad) : FnOk P w K mg base CX0 6 ad.f_unpack ad.fd_unpack ["row"] (spUnpack ad.C_Summary K) := by
  refine T.F_unpack.ok sc_unpack (fun vs H Q E h => ?_) (fun cdv A outer s H vs Q E hr h => ?_)
  · obtain ⟨a, b, rfl, _⟩ := h
    rfl
  · obtain ⟨a, b, rfl, hS, hbl, q1, q2⟩ := h
    have nd := sc_unpack.nd
    have hr1 : Room 1 _ := hr.mono (by decide)
    have hr2 : Room 2 _ := hr.mono (by decide)
    have hr3 : Room 3 _ := hr.mono (by decide)
    refine ⟨_, pss_cons (ps_set (i := 1) nd rfl (Or.inl rfl) (pe_call (ok_parse T) hr3 (by rfl) T.g_parse T.F_parse.kp T.b_parse .nil pass0 (pa_cons (pv 0) pa_nil)))
      (pss_cons (ps_if (pw_and (pt_val (pe_meth0 (pv 1) T.cl_Summary T.m_Summary_is_within_limits (ok_within T) hr2 T.b_Summary_is_within_limits .nil pass0)) (pw_and (pt_val (pe_meth0 (pv 1) T.cl_Summary T.m_Summary_is_proper (ok_proper T) hr1 T.b_Summary_is_proper .nil pass0))
        (pw_and1 (pt_cmpR (op_eqD hr.units) (pe_call (ok_pack T) hr (by rfl) T.g_pack T.F_pack.kp T.b_pack .nil pass0 (pa_cons (pv 1) pa_nil)) (pv 0) (nomark _))))).pt (pss_one (ps_ret (pv 1))) pss_nil)
      (pss_one (ps_ret pe_non))), ?_⟩
    refine ⟨_, rfl, a, b, rfl, hS, hbl, fun H1 p t S1 s1 pn tn => ?_⟩
    obtain ⟨⟨dx, hp⟩, ht⟩ := id S1
    refine ⟨_, rfl, p, dx, _, rfl, hp, rfl, p, t, _, _, _, _, rfl, S1, fun H2 c1 hc1 s2 => ⟨c1, rfl, ?_⟩⟩
    cases c1 with
    | false =>
      refine iteF (iteF (q2 H2 ?_ (s1.trans s2)))
      cases z : Hv.unpack b with
      | none => rfl
      | some s' => exact absurd (hc1.mpr (unpack_no z).2.1) Bool.false_ne_true
    | true =>
      have l1 := hc1.mp rfl
      refine iteT ⟨_, rfl, p, dx, _, rfl, s2 _ _ hp, rfl, p, t, _, _, _, _, rfl, S1.same s2, sub_num4_lt b 0, fun H3 c2 hc2 s3 => ⟨c2, rfl, ?_⟩⟩
      cases c2 with
      | false =>
        refine iteF (iteF (q2 H3 ?_ ((s1.trans s2).trans s3)))
        cases z : Hv.unpack b with
        | none => rfl
        | some s' => exact absurd (hc2.mpr (unpack_no z).2.2.1) Bool.false_ne_true
      | true =>
        have l2 := hc2.mp rfl
        have S3 := (S1.same s2).same s3
        refine iteT ⟨_, rfl, p, t, _, _, _, _, rfl, S3, (by have := l1.2.2.1; have := l1.1.2; omega), fun H4 l h4 n4 s4 => ?_⟩
        have s14 := ((s1.trans s2).trans s3).trans s4
        refine ⟨_, rfl, _, _, .lst (SqL.of h4) (dp_ints _), .lst (s14.seq hS) (dp_ints _), lay_ints _, lay_ints _, _, rfl, ?_⟩
        show if PyData.eqvAll ((ofN (packN (kB b) (nB b) (eB b) (dB b))).map PyData.int) ((ofN (bN b)).map PyData.int) = true then _ else _
        rw [eqv_ints]
        have eb : ofN (bN b) = ofB b := (ofB_map b).symm
        refine ite2 (fun h => ?_) (fun h => ?_)
        · have h := of_decide_eq_true h
          rw [eb] at h
          exact ⟨_, rfl, q1 H4 p t _ (dB b) (unpack_yes l1 l2 h) (S3.same s4) (sorted_perm _).symm s14 pn tn⟩
        · refine q2 H4 ?_ s14
          cases z : Hv.unpack b with
          | none => rfl
          | some s' => exact absurd (decide_eq_true (by rw [eb]; exact (unpack_no z).2.2.2)) h
end
end HvM

end
section
set_option Elab.async false
set_option linter.all false
set_option maxRecDepth 100000
set_option maxHeartbeats 4000000
namespace HvM
open PySem PySem.Spec PyProof.Rows L2
open HvCalls (Call)
/-! ### the line on the heap -/
def lf (v : V) : List (Str × V) := [("summary", v)]
theorem lf_s (v : V) : (lf v).lookup ("summary" : Str) = some v := by rfl
theorem lf_p (v u : V) : putF "summary" u (lf v) = lf u := by rfl
/-- lists and what is locked -/
def IsL : HO → Prop
  | .lst _ => True
  | .frz _ _ => True
  | _ => False
def Lists (H H' : Hp) : Prop := ∀ b o, H b = some o → IsL o → H' b = some o
theorem Lists.refl (H : Hp) : Lists H H := fun _ _ h _ => h
theorem Lists.trans {H H1 H2 : Hp} (a : Lists H H1) (b : Lists H1 H2) : Lists H H2 := fun c o h l => b c o (a c o h l) l
theorem Lists.of_same {H H1 : Hp} (a : Same H H1) : Lists H H1 := fun c o h _ => a c o h
theorem Lists.seq {K : PySem.W.Frag} {H H' : Hp} {a : Addr} {xs : List V} (e : Lists H H') (h : SqL K H a xs) : SqL K H' a xs := by
  rcases h with (h | ⟨o, h⟩) | h
  · exact .inl (.inl (e _ _ h trivial))
  · exact .inl (.inr ⟨o, e _ _ h trivial⟩)
  · exact .inr h
/-- a summary stands at p -/
def SumAt (C : Addr) (H : Hp) (p : Addr) (s : Hv.Sum) : Prop := ∃ (t : Addr) (d : List P2), SA C H p t s.k s.n s.err d ∧ d.Perm s.tab ∧ Ok s
inductive LineAt (C CL : Addr) (H : Hp) (ln : Addr) : HvCalls.State → Prop
  | no {dx : Addr} (h : H ln = some (.ins CL dx (lf .non))) : LineAt C CL H ln none
  | yes {dx p : Addr} {s : Hv.Sum} (h : H ln = some (.ins CL dx (lf (.ref p)))) (hs : SumAt C H p s) : LineAt C CL H ln (some s)
/-- behind an add -/
theorem SumAt.added {C : Addr} {H : Hp} {p t' : Addr} {s : Hv.Sum} {d d' : List P2} {e' x v : Nat} (pm : d.Perm s.tab) (ok : Ok s) (kd : Kd s.k s.err (come d x v) e' d') (hx : x < 2 ^ 64) (hn : s.n + v < 2 ^ 63)
    (S : SA C H p t' s.k (s.n + v) e' d') : SumAt C H p (Hv.added s x v) := by
  have e : Hv.added s x v = ⟨s.k, s.n + v, e', Hv.sorted d'⟩ := (added_kept ok.tab pm x v).trans kd.kept
  have ok' := added_ok ok hx hn
  rw [e] at ok' ⊢
  exact ⟨t', d', S, (sorted_perm d').symm, ok'⟩
theorem sizeL : (2000000 : Nat) ≤ sizeLine := by rw [sizeLine_eq]; decide
def spAInit (C CL : Addr) : Sp := fun vs H Q _ => ∃ (ln : Addr) (k : Nat) (st : HvCalls.State), vs = [.ref ln, .int k] ∧ LineAt C CL H ln st ∧
  ∀ (H' : Hp) (r : Addr), LineAt C CL H' ln (HvCalls.step st (.init k)).1 → H' r = some (.lst ((SumNeutral.told (HvCalls.step st (.init k)).2).map V.int)) → H r = none → Lists H H' → Q (.ref r) H'
theorem SumAt.same {C : Addr} {H H' : Hp} {p : Addr} {s : Hv.Sum} (h : SumAt C H p s) (k : Same H H') : SumAt C H' p s := by
  obtain ⟨t, d, ⟨⟨dx, hp⟩, ht⟩, pm, ok⟩ := h
  exact ⟨t, d, ⟨⟨dx, k _ _ hp⟩, k _ _ ht⟩, pm, ok⟩
theorem LineAt.same {C CL : Addr} {H H' : Hp} {ln : Addr} {st : HvCalls.State} (h : LineAt C CL H ln st) (k : Same H H') : LineAt C CL H' ln st := by
  cases h with
  | no h => exact .no (k _ _ h)
  | yes h hs => exact .yes (k _ _ h) (hs.same k)
theorem LineAt.obj {C CL : Addr} {H : Hp} {ln : Addr} {st : HvCalls.State} (h : LineAt C CL H ln st) : ∃ dx u, H ln = some (.ins CL dx (lf u)) := by
  cases h with
  | no h => exact ⟨_, _, h⟩
  | yes h _ => exact ⟨_, _, h⟩

theorem SumAt.merged {C : Addr} {H : Hp} {p t' : Addr} {s u : Hv.Sum} {ds du d' : List P2} {e' : Nat} (pm : ds.Perm s.tab) (pu : du.Perm u.tab) (ok : Ok s) (oku : Ok u) (hk : u.k = s.k) (hn : s.n + u.n < 2 ^ 63) (kd : Kd s.k (s.err + u.err) (putAll du ds) e' d')
    (S : SA C H p t' s.k (s.n + u.n) e' d') : SumAt C H p (Hv.merged s u) := by
  have e : Hv.merged s u = ⟨s.k, s.n + u.n, e', Hv.sorted d'⟩ := (merged_kept ok.tab oku.tab pm pu).trans kd.kept
  have ok' := merged_ok ok oku hk hn
  rw [e] at ok' ⊢
  exact ⟨t', d', S, (sorted_perm d').symm, ok'⟩
theorem addAll_n : ∀ (l : List P2) (s : Hv.Sum), (HvCalls.addAll s l).n = s.n + csum l
  | [], s => by
    rw [csum_nil]
    rfl
  | y :: l, s => by
    have ih := addAll_n l (Hv.added s y.1 y.2)
    rw [(added_kn s y.1 y.2).2] at ih
    rw [csum_cons]
    show (HvCalls.addAll (Hv.added s y.1 y.2) l).n = _
    rw [ih]
    omega
theorem addAll_snoc (l : List P2) (y : P2) (s : Hv.Sum) : HvCalls.addAll s (l ++ [y]) = Hv.added (HvCalls.addAll s l) y.1 y.2 := by
  unfold HvCalls.addAll
  rw [List.foldl_append]
  rfl
theorem csum_take_le (l : List P2) (i : Nat) : csum (l.take i) ≤ csum l := by
  have h := csum_append (l.take i) (l.drop i)
  rw [List.take_append_drop] at h
  omega
/-! ### every second of a row -/
def evV : List V → List V
  | [] => []
  | [a] => [a]
  | a :: _ :: r => a :: evV r
def odV : List V → List V
  | [] => []
  | [_] => []
  | _ :: b :: r => b :: odV r
theorem ev_pick : ∀ xs : List V, (List.range ((xs.length + 1) / 2)).filterMap (fun i => xs[2 * i]?) = evV xs ∧ (List.range (xs.length / 2)).filterMap (fun i => xs[2 * i + 1]?) = odV xs
  | [] => ⟨rfl, rfl⟩
  | [a] => ⟨by simp [evV, List.range_succ], by simp [odV]⟩
  | a :: b :: r => by
    obtain ⟨h1, h2⟩ := ev_pick r
    have e1 : (a :: b :: r).length + 1 = (r.length + 1) + 2 := by simp
    have e2 : (a :: b :: r).length = r.length + 2 := by simp
    refine ⟨?_, ?_⟩
    · rw [e1, show ((r.length + 1) + 2) / 2 = (r.length + 1) / 2 + 1 by omega, List.range_succ_eq_map, List.filterMap_cons_some (b := a) (by simp), List.filterMap_map, evV, ← h1]
      congr 1
    · rw [e2, show (r.length + 2) / 2 = r.length / 2 + 1 by omega, List.range_succ_eq_map, List.filterMap_cons_some (b := b) (by simp), List.filterMap_map, odV, ← h2]
      congr 1
theorem ev_map : ∀ l : List Nat, evV ((ofN l).map V.int) = (ofN (evens l)).map V.int ∧ odV ((ofN l).map V.int) = (ofN (odds l)).map V.int
  | [] => ⟨rfl, rfl⟩
  | [a] => ⟨rfl, rfl⟩
  | a :: b :: r => by
    obtain ⟨h1, h2⟩ := ev_map r
    refine ⟨?_, ?_⟩
    · show V.int (a : Int) :: evV ((ofN r).map V.int) = V.int (a : Int) :: (ofN (evens r)).map V.int
      rw [h1]
    · show V.int (b : Int) :: odV ((ofN r).map V.int) = V.int (b : Int) :: (ofN (odds r)).map V.int
      rw [h2]
theorem step_range (n i : Nat) (hi : i ≤ n) : sliceRange (i : Int) (n : Int) 2 = (List.range ((n - i + 1) / 2)).map fun k => 2 * k + i := by
  unfold sliceRange
  simp only [show (2 : Int) > 0 by decide, if_true]
  have e : (if (i : Int) < (n : Int) then ((n : Int) - (i : Int) + 2 - 1) / 2 else 0).toNat = (n - i + 1) / 2 := by split <;> omega
  rw [e]
  refine List.map_congr_left fun k _ => ?_
  omega
theorem step_bounds (n i : Nat) : sliceBounds (some (i : Int)) none (some 2) n = (((min i n : Nat) : Int), (n : Int), 2) := by
  have e : max (0 : Int) (min (if (i : Int) < 0 then (i : Int) + (n : Int) else (i : Int)) (n : Int)) = ((min i n : Nat) : Int) := by
    rw [if_neg (by omega)]
    omega
  show (max (0 : Int) (min (if (i : Int) < 0 then (i : Int) + (n : Int) else (i : Int)) (n : Int)), (n : Int), (2 : Int)) = _
  rw [e]
theorem step_at (xs : List V) (i : Nat) : stepV xs (some (i : Int)) none (some 2) = (List.range ((xs.length - min i xs.length + 1) / 2)).filterMap (fun k => xs[2 * k + min i xs.length]?) := by
  unfold stepV
  rw [step_bounds]
  show (sliceRange ((min i xs.length : Nat) : Int) (xs.length : Int) 2).filterMap (xs[·]?) = _
  rw [step_range _ _ (Nat.min_le_right _ _), List.filterMap_map]
  rfl
theorem step_ev (l : List Nat) : stepV ((ofN l).map V.int) (some 0) none (some 2) = (ofN (evens l)).map V.int := by
  rw [← (ev_map l).1, ← (ev_pick _).1]
  have e := step_at ((ofN l).map V.int) 0
  rw [Nat.zero_min] at e
  exact e
theorem step_od (l : List Nat) : stepV ((ofN l).map V.int) (some 1) none (some 2) = (ofN (odds l)).map V.int := by
  rw [← (ev_map l).2, ← (ev_pick _).2]
  have e := step_at ((ofN l).map V.int) 1
  generalize (ofN l).map V.int = xs at e ⊢
  rcases Nat.eq_zero_or_pos xs.length with h | h
  · rw [h] at e ⊢
    exact e
  · rw [Nat.min_eq_left h, show xs.length - 1 + 1 = xs.length by omega] at e
    exact e
/-- the parts of a call, its row's length left out -/
def encP : Call → List Int
  | .merge p => 9 :: ofN (bN p)
  | .unpack p => 11 :: ofN (bN p)
  | .stream l => 12 :: ofN l
  | c => enc c
section
variable {P : Program} {w : World} {K : PySem.W.Frag} {mg : Str → Option Value} {base : Heap}
theorem ok_ainit {ad : Adr} (T : Txt K mg ad) : FnOk P w K mg base CX0 3 ad.f_answer_init ad.fd_answer_init ["line", "k"] (spAInit ad.C_Summary ad.C_Line) := by
  refine T.F_answer_init.ok sc_answer_init (fun vs H Q E h => ?_) (fun cdv A outer s H vs Q E hr h => ?_)
  · obtain ⟨ln, k, st, rfl, _⟩ := h
    rfl
  · obtain ⟨ln, k, st, rfl, L, q⟩ := h
    obtain ⟨zr, tr, er, gR⟩ := T.c_REFUSED
    obtain ⟨zd, td, ed, gD⟩ := T.c_DONE
    have hr1 : Room 1 _ := hr.mono (by decide)
    refine ⟨_, pss_cons (ps_if (pt_not (pt_val (pe_call (ok_isk T) hr1 (by rfl) T.g_is_k T.F_is_k.kp T.b_is_k .nil pass0 (pa_cons (pv 1) pa_nil)))) (pss_one (ps_ret (pe_lst (pa_cons (pe_glob (v := .int zr) (by rfl) gR ⟨tr, rfl⟩) pa_nil)))) pss_nil)
      (pss_cons (ps_fld (pv 0) (pe_make T.mk_Summary (ok_init T) hr (by rfl) T.g_Summary T.b_Summary_init .nil pass0 (pa_cons (pv 1) pa_nil)) rfl) (pss_one (ps_ret (pe_lst (pa_cons (pe_glob (v := .int zd) (by rfl) gD ⟨td, rfl⟩) pa_nil))))), ?_⟩
    refine ⟨_, rfl, k, rfl, _, rfl, ?_⟩
    by_cases hk : 1 ≤ k ∧ k ≤ 1024
    · rw [decide_eq_true hk]
      refine iteF ?_
      have hstep : HvCalls.step st (.init k) = (some (Hv.empty k), .done) := step_init hk
      -- line.summary = Summary(k)
      refine ⟨_, rfl, fun x dx nx ndx nex => ⟨x, dx, k, rfl, upd_same, fun H1 t ht S kp => ⟨rfl, ?_⟩⟩⟩
      have sm : Same H H1 := Same.made nx ndx kp
      obtain ⟨dl, u, hl⟩ : ∃ dl u, H ln = some (.ins ad.C_Line dl (lf u)) := by
        cases L with
        | no h => exact ⟨_, _, h⟩
        | yes h _ => exact ⟨_, _, h⟩
      refine ⟨_, rfl, ln, _, dl, _, rfl, sm _ _ hl, T.cl_Line, T.no_Line_summary, (by show 1 < 1000; decide), ?_⟩
      refine ⟨(by show 1 ≤ sizeLine; decide), fun r hrn => ?_⟩
      obtain ⟨⟨dx', hx⟩, htab⟩ := S
      have nlx : x ≠ ln := Ne.symm (ne_of_none hl nx)
      have ntl : t ≠ ln := Ne.symm (ne_of (sm _ _ hl) htab (by intro z; cases z))
      have hx2 : (upd H1 ln (.ins ad.C_Line dl (putF "summary" (.ref x) (lf u)))) x = some (.ins ad.C_Summary dx' (sf k 0 0 t)) := by rw [upd_ne nlx]; exact hx
      have ht2 : (upd H1 ln (.ins ad.C_Line dl (putF "summary" (.ref x) (lf u)))) t = some (.dK (kvI [])) := by rw [upd_ne ntl]; exact htab
      have hl2 : (upd H1 ln (.ins ad.C_Line dl (putF "summary" (.ref x) (lf u)))) ln = some (.ins ad.C_Line dl (lf (.ref x))) := by rw [upd_same, lf_p]
      have rn : H r = none := by
        cases z : H r with
        | none => rfl
        | some o =>
          by_cases zl : r = ln
          · subst zl; rw [upd_same] at hrn; cases hrn
          · rw [upd_ne zl, sm _ _ z] at hrn; cases hrn
      refine q _ r ?_ ?_ rn ?_
      · rw [hstep]
        refine .yes (dx := dl) (p := x) (s := Hv.empty k) (by rw [upd_ne (ne_of_none hl2 hrn)]; exact hl2) ⟨t, [], ⟨⟨dx', ?_⟩, ?_⟩, .refl _, empty_ok hk.1 hk.2⟩
        · rw [upd_ne (ne_of_none hx2 hrn)]; exact hx2
        · rw [upd_ne (ne_of_none ht2 hrn)]; exact ht2
      · rw [upd_same, hstep, ed]; rfl
      · intro b o hb hL
        have bl : b ≠ ln := fun z => by subst z; rw [hl] at hb; cases hb; exact hL
        have hb2 : (upd H1 ln (.ins ad.C_Line dl (putF "summary" (.ref x) (lf u)))) b = some o := by rw [upd_ne bl]; exact sm _ _ hb
        rw [upd_ne (ne_of_none hb2 hrn)]; exact hb2
    · rw [decide_eq_false hk]
      refine iteT ?_
      have hstep : HvCalls.step st (.init k) = (st, .refused (-1)) := step_init_no hk
      refine ⟨(by show 1 ≤ sizeLine; decide), fun r hrn => ?_⟩
      have kp : Same H (upd H r (.lst [.int zr])) := fun b o hb => by rw [upd_ne (ne_of_none hb hrn)]; exact hb
      refine q _ r ?_ ?_ hrn (.of_same kp)
      · rw [hstep]
        cases L with
        | no h => exact .no (kp _ _ h)
        | yes h hs =>
          obtain ⟨t, d, ⟨⟨dx', hx⟩, ht⟩, pm, ok⟩ := hs
          exact .yes (kp _ _ h) ⟨t, d, ⟨⟨dx', kp _ _ hx⟩, kp _ _ ht⟩, pm, ok⟩
      · rw [upd_same, hstep, er]; rfl
/-- what the calls on a summary answer: the summary behind it, the answer, nothing else changed -/
def AnsW (C : Addr) (H : Hp) (p : Addr) (x : Hv.Sum × HvCalls.Answer) (Q : VK) : Prop :=
  ∀ (H' : Hp) (r : Addr), SumAt C H' p x.1 → H' r = some (.lst ((SumNeutral.told x.2).map V.int)) → H r = none → Lists H H' → (∀ b C' dx fs, H b = some (.ins C' dx fs) → b ≠ p → H' b = some (.ins C' dx fs)) → Q (.ref r) H'
theorem AnsW.same {C : Addr} {H H' : Hp} {p r : Addr} {s : Hv.Sum} {x : Hv.Sum × HvCalls.Answer} {Q : VK} (q : AnsW C H p x Q) (hs : SumAt C H p s) (e : x.1 = s) (k : Same H H') (h : H' r = some (.lst ((SumNeutral.told x.2).map V.int))) (hr : H r = none) : Q (.ref r) H' :=
  q H' r (by rw [e]; exact hs.same k) h hr (.of_same k) fun b C' dx fs hb _ => k _ _ hb
def spAStream (C : Addr) (K : PySem.W.Frag) : Sp := fun vs H Q _ => ∃ (p a : Addr) (s : Hv.Sum) (l : List Nat), vs = [.ref p, .ref a] ∧ SumAt C H p s ∧ SqL K H a ((ofN l).map V.int) ∧ l.length ≤ 400 ∧ (∀ n ∈ l, N64 n) ∧ AnsW C H p (HvCalls.act s (.stream l)) Q
def spABounds (C : Addr) : Sp := fun vs H Q _ => ∃ (p : Addr) (x : Nat) (s : Hv.Sum), vs = [.ref p, .int x] ∧ SumAt C H p s ∧ AnsW C H p (HvCalls.act s (.bounds x)) Q
def spAEntry (C : Addr) : Sp := fun vs H Q _ => ∃ (p : Addr) (i : Nat) (s : Hv.Sum), vs = [.ref p, .int i] ∧ SumAt C H p s ∧ AnsW C H p (HvCalls.act s (.entry i)) Q
def spAHeavy (C : Addr) : Sp := fun vs H Q _ => ∃ (p : Addr) (a b : Nat) (s : Hv.Sum), vs = [.ref p, .int a, .int b] ∧ SumAt C H p s ∧ N64 a ∧ N64 b ∧ AnsW C H p (HvCalls.act s (.heavy a b)) Q
def spAMerge (C : Addr) (K : PySem.W.Frag) : Sp := fun vs H Q _ => ∃ (p a : Addr) (s : Hv.Sum) (b : Hv.Bytes), vs = [.ref p, .ref a] ∧ SumAt C H p s ∧ SqL K H a ((ofN (bN b)).map V.int) ∧ b.length ≤ 400 ∧ AnsW C H p (HvCalls.act s (.merge b)) Q
def spAUnpack (C CL : Addr) (K : PySem.W.Frag) : Sp := fun vs H Q _ => ∃ (ln a : Addr) (st : HvCalls.State) (b : Hv.Bytes), vs = [.ref ln, .ref a] ∧ LineAt C CL H ln st ∧ SqL K H a ((ofN (bN b)).map V.int) ∧ b.length ≤ 400 ∧
  ∀ (H' : Hp) (r : Addr), LineAt C CL H' ln (HvCalls.step st (.unpack b)).1 → H' r = some (.lst ((SumNeutral.told (HvCalls.step st (.unpack b)).2).map V.int)) → H r = none → Lists H H' → Q (.ref r) H'
def spWith : Sp := fun vs H Q _ => ∃ (a : Addr) (l : List Int), vs = [.ref a] ∧ H a = some (.lst (l.map V.int)) ∧ l.length ≤ 100000 ∧ ∀ (H' : Hp) (r : Addr), H' r = some (.lst (((l.length : Int) :: l).map V.int)) → H r = none → Same H H' → Q (.ref r) H'
theorem told_no (z : Int) : SumNeutral.told (.refused z) = [z] := rfl
theorem ok_with {ad : Adr} (T : Txt K mg ad) : FnOk P w K mg base CX0 1 ad.f_with_length ad.fd_with_length ["row"] spWith := by
  refine T.F_with_length.ok sc_with_length (fun vs H Q E h => ?_) (fun cdv A outer s H vs Q E hr h => ?_)
  · obtain ⟨a, l, rfl, _⟩ := h
    rfl
  · obtain ⟨a, l, rfl, ha, hl, q⟩ := h
    refine ⟨_, pss_one (ps_ret (pe_op op_cat (pe_lst (pa_cons (pe_callB call_len_seq (by rfl) T.n_len PySem.boot_len (pa_cons (pv 0) pa_nil)) pa_nil)) (pv 0))), ?_⟩
    refine ⟨_, rfl, a, _, rfl, .inl (SqL.of ha), (by show 1 ≤ sizeLine; decide), fun b nb => ?_⟩
    have k1 := same_new (o := .lst [.int ((l.map V.int).length : Nat)]) nb
    refine ⟨_, rfl, b, a, _, _, rfl, rfl, upd_same, k1 _ _ ha, (by rw [List.length_map, sizeLine_eq]; show 1 + l.length ≤ _; omega), fun r hrn => ?_⟩
    refine q _ r ?_ (k1.free hrn) (k1.trans (same_new hrn))
    rw [upd_same, List.length_map]
    rfl
theorem ok_abounds {ad : Adr} (T : Txt K mg ad) : FnOk P w K mg base CX0 3 ad.f_answer_bounds ad.fd_answer_bounds ["summary", "key"] (spABounds ad.C_Summary) := by
  refine T.F_answer_bounds.ok sc_answer_bounds (fun vs H Q E h => ?_) (fun cdv A outer s H vs Q E hr h => ?_)
  · obtain ⟨p, x, s', rfl, _⟩ := h
    rfl
  · obtain ⟨p, x, s', rfl, hS, q⟩ := h
    obtain ⟨t, d, S, pm, ok⟩ := id hS
    obtain ⟨zd, td, ed, gD⟩ := T.c_DONE
    have hr1 : Room 1 _ := hr.mono (by decide)
    obtain ⟨⟨dx, hp⟩, ht⟩ := id S
    refine ⟨_, pss_cons (ps_set (i := 2) sc_answer_bounds.nd rfl (Or.inl rfl) (pe_ifExp (pt_cmp (pc_din (hu_of hr) (pv 1) (pe_fld (pv 0) rfl))) pe_int pe_int))
      (pss_one (ps_ret (pe_lst (pa_cons (pe_glob (v := .int zd) (by rfl) gD ⟨td, rfl⟩) (pa_cons (pv 2) (pa_cons (pe_meth (pv 0) T.cl_Summary T.m_Summary_low (ok_low T) hr1 T.b_Summary_low .nil pass0 (pa_cons (pv 1) pa_nil))
        (pa_cons (pe_meth (pv 0) T.cl_Summary T.m_Summary_high (ok_high T) hr T.b_Summary_high .nil pass0 (pa_cons (pv 1) pa_nil)) pa_nil))))))), ?_⟩
    have fin : ∀ z : Int, z = (if (s'.tab.any fun y => y.1 == x) = true then 1 else 0) → ∀ r : Addr, H r = none → Q (.ref r) (upd H r (.lst [.int zd, .int z, .int (Hv.countIn d x : Nat), .int (Hv.countIn d x + s'.err : Nat)])) := fun z hz r hrn => by
      refine q.same hS rfl (same_new hrn) ?_ hrn
      rw [upd_same, ed, hz]
      have e1 : Hv.countIn d x = Hv.low s' x := countIn_perm ((pm.map _).nodup_iff.mpr ok.tab.nd) pm
      rw [e1]
      by_cases b : (s'.tab.any fun y => y.1 == x) = true
      · simp [HvCalls.act, SumNeutral.told, SumNeutral.ints, b]
      · simp [HvCalls.act, SumNeutral.told, SumNeutral.ints, b]
    refine ⟨_, rfl, _, rfl, p, _, dx, _, _, rfl, hp, T.cl_Summary, T.no_Summary_table, sf_t _ _ _ _, t, _, rfl, DGet.k (k := Sum.inl (x : Int)) ht, _, rfl, ?_⟩
    rw [isSome_kvI, has_perm pm]
    refine ite2 (fun hb => ?_) (fun hb => ?_)
    · refine ⟨_, rfl, _, rfl, p, dx, _, rfl, hp, rfl, _, rfl, p, t, _, _, _, x, d, rfl, S, _, rfl, p, dx, _, rfl, hp, rfl, _, rfl, p, t, _, _, _, x, d, rfl, S, (by show 4 ≤ sizeLine; decide), fun r hrn => ?_⟩
      exact fin 1 (by rw [if_pos hb]) r hrn
    · refine ⟨_, rfl, _, rfl, p, dx, _, rfl, hp, rfl, _, rfl, p, t, _, _, _, x, d, rfl, S, _, rfl, p, dx, _, rfl, hp, rfl, _, rfl, p, t, _, _, _, x, d, rfl, S, (by show 4 ≤ sizeLine; decide), fun r hrn => ?_⟩
      exact fin 0 (by rw [if_neg hb]) r hrn
/-- the dict's order is the table's -/
theorem tab_of {s : Hv.Sum} {d : List P2} (pm : d.Perm s.tab) (ok : Ok s) : Hv.sorted d = s.tab := by rw [sorted_congr pm, sorted_id ok.srt]
theorem ok_aentry {ad : Adr} (T : Txt K mg ad) : FnOk P w K mg base CX0 5 ad.f_answer_entry ad.fd_answer_entry ["summary", "i"] (spAEntry ad.C_Summary) := by
  refine T.F_answer_entry.ok sc_answer_entry (fun vs H Q E h => ?_) (fun cdv A outer s H vs Q E hr h => ?_)
  · obtain ⟨p, i, s', rfl, _⟩ := h
    rfl
  · obtain ⟨p, i, s', rfl, hS, q⟩ := h
    obtain ⟨t, d, S, pm, ok⟩ := id hS
    obtain ⟨zd, td, ed, gD⟩ := T.c_DONE
    obtain ⟨zn, tn, en, gN⟩ := T.c_NO_ENTRY
    obtain ⟨⟨dx, hp⟩, ht⟩ := id S
    have nd := sc_answer_entry.nd
    refine ⟨_, pss_cons (ps_set (i := 2) nd rfl (Or.inl rfl) (pe_meth0 (pv 0) T.cl_Summary T.m_Summary_ordered (ok_ord T) hr T.b_Summary_ordered .nil pass0))
      (pss_cons (ps_if (pt_cmpR op_ge (pv 1) (pe_callB call_len_seq (by rfl) T.n_len PySem.boot_len (pa_cons (pv 2) pa_nil)) (nomark _)) (pss_one (ps_ret (pe_lst (pa_cons (pe_glob (v := .int zn) (by rfl) gN ⟨tn, rfl⟩) pa_nil)))) pss_nil)
      (pss_one (ps_ret (pe_op op_cat (pe_lst (pa_cons (pe_glob (v := .int zd) (by rfl) gD ⟨td, rfl⟩) pa_nil)) (pe_callTy call_list_of (by rfl) T.n_list (by rfl) (pa_cons (pe_ix ix_list (pv 2) (pv 1) (fun _ _ => rfl)) pa_nil)))))), ?_⟩
    refine ⟨_, rfl, p, dx, _, rfl, hp, rfl, p, t, _, _, _, d, rfl, S, fun H1 l as hl has s1 ln => ?_⟩
    have hal : as.length = s'.tab.length := by rw [← tab_of pm ok]; exact Paired.length has
    refine ⟨_, rfl, _, rfl, l, _, rfl, .inl (SqL.of hl), _, _, rfl, rfl, _, rfl, ?_⟩
    rw [List.length_map, hal]
    refine ite2 (fun h => ?_) (fun h => ?_)
    · have h := of_decide_eq_true h
      have hn : s'.tab[i]? = none := List.getElem?_eq_none (by omega)
      refine ⟨(by show 1 ≤ sizeLine; decide), fun r hrn => ?_⟩
      refine q.same hS (by rw [act_entry_no hn]) (s1.trans (same_new hrn)) ?_ (s1.free hrn)
      rw [upd_same, act_entry_no hn, en]
      rfl
    · have hlt : i < s'.tab.length := by
        rcases Nat.lt_or_ge i s'.tab.length with z | z
        · exact z
        · exact absurd (decide_eq_true (by omega)) h
      obtain ⟨a, ha⟩ : ∃ a, as[i]? = some a := ⟨_, List.getElem?_eq_getElem (by omega)⟩
      obtain ⟨y, hy, hay⟩ := Paired.get' has ha
      rw [tab_of pm ok] at hy
      refine ⟨(by show 1 ≤ sizeLine; decide), fun b nb => ?_⟩
      have k1 := same_new (o := .lst [.int zd]) nb
      refine ⟨_, rfl, _, rfl, l, _, _, V.ref a, rfl, rfl, SqL.of (k1 _ _ hl), at_of (j := i) rfl (by rw [List.getElem?_map, ha]; rfl), a, _, rfl, .inr (SqT.of (k1 _ _ hay)), fun c nc => ?_⟩
      have k2 := same_new (o := .lst [.int (y.1 : Int), .int (y.2 : Int)]) nc
      refine ⟨b, c, _, _, rfl, rfl, k2 _ _ upd_same, upd_same, (by show 1 + 2 ≤ sizeLine; decide), fun r hrn => ?_⟩
      have k3 := ((s1.trans k1).trans k2)
      refine q.same hS (by rw [act_entry hy]) (k3.trans (same_new hrn)) ?_ (k3.free hrn)
      rw [upd_same, act_entry hy, ed]
      rfl
theorem ok_amerge {ad : Adr} (T : Txt K mg ad) : FnOk P w K mg base CX0 7 ad.f_answer_merge ad.fd_answer_merge ["summary", "row"] (spAMerge ad.C_Summary K) := by
  refine T.F_answer_merge.ok sc_answer_merge (fun vs H Q E h => ?_) (fun cdv A outer s H vs Q E hr h => ?_)
  · obtain ⟨p, a, s', b, rfl, _⟩ := h
    rfl
  · obtain ⟨p, a, s', b, rfl, hS, ha, hbl, q⟩ := h
    obtain ⟨t, d, S, pm, ok⟩ := id hS
    obtain ⟨zd, td, ed, gD⟩ := T.c_DONE
    obtain ⟨zr, tr, er, gR⟩ := T.c_REFUSED
    obtain ⟨⟨dx, hp⟩, ht⟩ := id S
    have nd := sc_answer_merge.nd
    have hr1 : Room 1 _ := hr.mono (by decide)
    have hr2 : Room 2 _ := hr.mono (by decide)
    refine ⟨_, pss_cons (ps_set (i := 2) nd rfl (Or.inl rfl) (pe_call (ok_unpack T) hr (by rfl) T.g_unpack T.F_unpack.kp T.b_unpack .nil pass0 (pa_cons (pv 1) pa_nil)))
      (pss_cons (ps_if (pw_or (pt_cmp (pc_isN (pv 2))) (pw_or1 (pt_not (pt_val (pe_meth (pv 0) T.cl_Summary T.m_Summary_can_merge (ok_canm T) hr1 T.b_Summary_can_merge .nil pass0 (pa_cons (pv 2) pa_nil)))))).pt (pss_one (ps_ret (pe_lst (pa_cons (pe_glob (v := .int zr) (by rfl) gR ⟨tr, rfl⟩) pa_nil)))) pss_nil)
      (pss_cons (ps_expr (pe_meth (pv 0) T.cl_Summary T.m_Summary_merge (ok_merge T) hr2 T.b_Summary_merge .nil pass0 (pa_cons (pv 2) pa_nil))) (pss_one (ps_ret (pe_lst (pa_cons (pe_glob (v := .int zd) (by rfl) gD ⟨td, rfl⟩) pa_nil)))))), ?_⟩
    refine ⟨_, rfl, a, b, rfl, ha, hbl, fun H1 p2 t2 u d2 hu S2 pu s1 pn tn => ?_, fun H1 hu s1 => ?_⟩
    · have oku := (unpack_ok hu).ok
      obtain ⟨⟨dx2, hp2⟩, ht2⟩ := id S2
      have S1 := S.same s1
      refine ⟨_, rfl, _, rfl, iteF ?_⟩
      refine ⟨_, rfl, p, dx, _, rfl, s1 _ _ hp, rfl, _, rfl, p, t, _, _, _, p2, t2, _, _, _, d, d2, rfl, S1, S2, _, rfl, ?_⟩
      by_cases hc : s'.k = u.k ∧ s'.n + u.n < 2 ^ 63
      · rw [decide_eq_true hc]
        have hact : HvCalls.act s' (.merge b) = (Hv.merged s' u, .done) := act_merge hu (by have := hc.1; have := hc.2; omega)
        have hdl : d.length ≤ 1024 := by rw [pm.length_eq]; have := ok.len; have := ok.k2; omega
        have hdl2 : d2.length ≤ 1024 := by rw [pu.length_eq]; have := oku.len; have := oku.k2; omega
        have hpp : p ≠ p2 := ne_of_none hp pn
        have htt : t ≠ t2 := ne_of_none ht tn
        refine iteF ⟨_, rfl, p, dx, _, rfl, s1 _ _ hp, rfl, _, rfl, p, t, p2, t2, _, _, _, _, _, _, d, d2, rfl, S1, S2, hpp, htt, (ok.tab.perm pm.symm).nd, (oku.tab.perm pu.symm).nd, (by rw [sizeLine_eq]; omega), fun H2 t' e' d' kd tn' S' fr gr => ?_⟩
        refine ⟨(by show 1 ≤ sizeLine; decide), fun r hrn => ?_⟩
        have k3 := same_new (o := .lst [.int zd]) hrn
        have old : ∀ c o, H c = some o → c ≠ p → (upd H2 r (.lst [.int zd])) c = some o := fun c o hc' hcp => k3 _ _ (fr c o (s1 _ _ hc') hcp)
        refine q _ r ?_ ?_ (s1.free (gr r hrn)) (fun c o hc' hL => ?_) fun c C' dx' fs hc' hcp => old c _ hc' hcp
        · rw [hact]
          exact SumAt.merged pm pu ok oku hc.1.symm hc.2 kd (S'.same k3)
        · rw [upd_same, hact, ed]
          rfl
        · exact old c o hc' fun z => by subst z; rw [hp] at hc'; cases hc'; exact hL
      · rw [decide_eq_false hc]
        have hact : HvCalls.act s' (.merge b) = (s', .refused (-1)) := act_merge_no hu (by omega)
        refine iteT ⟨(by show 1 ≤ sizeLine; decide), fun r hrn => ?_⟩
        refine q.same hS (by rw [hact]) (s1.trans (same_new hrn)) ?_ (s1.free hrn)
        rw [upd_same, hact, er]
        rfl
    · have hact : HvCalls.act s' (.merge b) = (s', .refused (-1)) := act_merge_none hu
      refine ⟨_, rfl, _, rfl, iteT (iteT ⟨(by show 1 ≤ sizeLine; decide), fun r hrn => ?_⟩)⟩
      refine q.same hS (by rw [hact]) (s1.trans (same_new hrn)) ?_ (s1.free hrn)
      rw [upd_same, hact, er]
      rfl
theorem ok_aunpack {ad : Adr} (T : Txt K mg ad) : FnOk P w K mg base CX0 7 ad.f_answer_unpack ad.fd_answer_unpack ["line", "row"] (spAUnpack ad.C_Summary ad.C_Line K) := by
  refine T.F_answer_unpack.ok sc_answer_unpack (fun vs H Q E h => ?_) (fun cdv A outer s H vs Q E hr h => ?_)
  · obtain ⟨ln, a, st, b, rfl, _⟩ := h
    rfl
  · obtain ⟨ln, a, st, b, rfl, L, ha, hbl, q⟩ := h
    obtain ⟨zd, td, ed, gD⟩ := T.c_DONE
    obtain ⟨zr, tr, er, gR⟩ := T.c_REFUSED
    have nd := sc_answer_unpack.nd
    obtain ⟨dl, u0, hl⟩ := L.obj
    refine ⟨_, pss_cons (ps_set (i := 2) nd rfl (Or.inl rfl) (pe_call (ok_unpack T) hr (by rfl) T.g_unpack T.F_unpack.kp T.b_unpack .nil pass0 (pa_cons (pv 1) pa_nil)))
      (pss_cons (ps_if (pt_cmp (pc_isN (pv 2))) (pss_one (ps_ret (pe_lst (pa_cons (pe_glob (v := .int zr) (by rfl) gR ⟨tr, rfl⟩) pa_nil)))) pss_nil)
      (pss_cons (ps_fld (pv 0) (pv 2) rfl) (pss_one (ps_ret (pe_lst (pa_cons (pe_glob (v := .int zd) (by rfl) gD ⟨td, rfl⟩) pa_nil)))))), ?_⟩
    refine ⟨_, rfl, a, b, rfl, ha, hbl, fun H1 p2 t2 u d2 hu S2 pu s1 pn tn => ?_, fun H1 hu s1 => ?_⟩
    · have oku := (unpack_ok hu).ok
      obtain ⟨⟨dx2, hp2⟩, ht2⟩ := id S2
      have hstep : HvCalls.step st (.unpack b) = (some u, .done) := step_unpack hu
      refine ⟨_, rfl, _, rfl, iteF ?_⟩
      refine ⟨_, rfl, _, rfl, ln, _, dl, _, rfl, s1 _ _ hl, T.cl_Line, T.no_Line_summary, (by show 1 < 1000; decide), ?_⟩
      refine ⟨(by show 1 ≤ sizeLine; decide), fun r hrn => ?_⟩
      have k3 := same_new (o := .lst [.int zd]) hrn
      have nlp : p2 ≠ ln := Ne.symm (ne_of_none hl pn)
      have nlt : t2 ≠ ln := Ne.symm (ne_of_none hl tn)
      have rn : H r = none := by
        cases z : H r with
        | none => rfl
        | some o =>
          by_cases zl : r = ln
          · subst zl; rw [upd_same] at hrn; cases hrn
          · rw [upd_ne zl, s1 _ _ z] at hrn; cases hrn
      refine q _ r ?_ ?_ rn fun c o hc hL => k3 _ _ ?_
      · rw [hstep]
        refine .yes (dx := dl) (p := p2) (s := u) (k3 _ _ (by rw [upd_same, lf_p])) ⟨t2, d2, ⟨⟨dx2, k3 _ _ (by rw [upd_ne nlp]; exact hp2)⟩, k3 _ _ (by rw [upd_ne nlt]; exact ht2)⟩, pu, oku⟩
      · rw [upd_same, hstep, ed]; rfl
      · have bl : c ≠ ln := fun z => by subst z; rw [hl] at hc; cases hc; exact hL
        rw [upd_ne bl]; exact s1 _ _ hc
    · have hstep : HvCalls.step st (.unpack b) = (st, .refused (-1)) := step_unpack_no hu
      refine ⟨_, rfl, _, rfl, iteT ⟨(by show 1 ≤ sizeLine; decide), fun r hrn => ?_⟩⟩
      have k := s1.trans (same_new (o := .lst [.int zr]) hrn)
      refine q _ r ?_ ?_ (s1.free hrn) (.of_same k)
      · rw [hstep]; exact L.same k
      · rw [upd_same, hstep, er]; rfl
theorem ok_astream {ad : Adr} (T : Txt K mg ad) : FnOk P w K mg base CX0 3 ad.f_answer_stream ad.fd_answer_stream ["summary", "row"] (spAStream ad.C_Summary K) := by
  refine T.F_answer_stream.ok sc_answer_stream (fun vs H Q E h => ?_) (fun cdv A outer s H vs Q E hr h => ?_)
  · obtain ⟨p, a, s', l, rfl, _⟩ := h
    rfl
  · obtain ⟨p, a, s', l, rfl, hS, ha, hll, hl64, q⟩ := h
    obtain ⟨zd, td, ed, gD⟩ := T.c_DONE
    obtain ⟨zr, tr, er, gR⟩ := T.c_REFUSED
    have nd := sc_answer_stream.nd
    have hr1 : Room 1 _ := hr.mono (by decide)
    refine ⟨_, pss_cons (ps_set (i := 2) nd rfl (Or.inl rfl) (pe_slice3 (pv 1) (po_some pe_int) po_none (po_some pe_int)))
      (pss_cons (ps_set (i := 3) nd rfl (Or.inl rfl) (pe_slice3 (pv 1) (po_some pe_int) po_none (po_some pe_int)))
      (pss_cons (ps_if (pw_or (pt_cmpR op_ne (pe_callB call_len_seq (by rfl) T.n_len PySem.boot_len (pa_cons (pv 2) pa_nil)) (pe_callB call_len_seq (by rfl) T.n_len PySem.boot_len (pa_cons (pv 3) pa_nil)) (nomark _))
        (pw_or1 (pt_not (pt_val (pe_meth (pv 0) T.cl_Summary T.m_Summary_can_take (ok_can T) hr1 T.b_Summary_can_take .nil pass0 (pa_cons (pv 3) pa_nil)))))).pt (pss_one (ps_ret (pe_lst (pa_cons (pe_glob (v := .int zr) (by rfl) gR ⟨tr, rfl⟩) pa_nil)))) pss_nil)
      (pss_cons (ps_for PassesOwn.never rfl (pi_zip (by rfl) T.n_zip (pa_cons (pv 2) (pa_cons (pv 3) pa_nil))) (pg_tup rfl (pgs_cons (pg_name (i := 4) nd rfl (Or.inl rfl)) (pgs_cons (pg_name (i := 5) nd rfl (Or.inl rfl)) pgs_nil)))
        (pss_one (ps_expr (pe_meth (pv 0) T.cl_Summary T.m_Summary_add (ok_add T) hr T.b_Summary_add .nil pass0 (pa_cons (pv 4) (pa_cons (pv 5) pa_nil))))))
      (pss_one (ps_ret (pe_lst (pa_cons (pe_glob (v := .int zd) (by rfl) gD ⟨td, rfl⟩) pa_nil))))))), ?_⟩
    refine ⟨_, rfl, _, rfl, _, rfl, a, _, rfl, ha, by decide, fun kl nk => ?_⟩
    have k1 := same_new (o := .lst (stepV ((ofN l).map V.int) (some 0) none (some 2))) nk
    have hk1 : (upd H kl (.lst (stepV ((ofN l).map V.int) (some 0) none (some 2)))) kl = some (.lst ((ofN (evens l)).map V.int)) := by rw [upd_same, step_ev]
    generalize hH1 : upd H kl (.lst (stepV ((ofN l).map V.int) (some 0) none (some 2))) = H1 at k1 hk1 ⊢
    refine ⟨_, rfl, _, rfl, _, rfl, a, _, rfl, k1.seq ha, by decide, fun wl nw => ?_⟩
    have k2 := same_new (o := .lst (stepV ((ofN l).map V.int) (some 1) none (some 2))) nw
    have hw2 : (upd H1 wl (.lst (stepV ((ofN l).map V.int) (some 1) none (some 2)))) wl = some (.lst ((ofN (odds l)).map V.int)) := by rw [upd_same, step_od]
    have hk2 := k2 _ _ hk1
    generalize hH2 : upd H1 wl (.lst (stepV ((ofN l).map V.int) (some 1) none (some 2))) = H2 at k2 hw2 hk2 ⊢
    have k12 : Same H H2 := k1.trans k2
    have hS2 := hS.same k12
    obtain ⟨t, d, S, pm, ok⟩ := id hS2
    obtain ⟨⟨dx, hp⟩, ht⟩ := id S
    have bad : HvCalls.act s' (.stream l) = (s', .refused (-1)) → ∀ r : Addr, H2 r = none → Q (.ref r) (upd H2 r (.lst [.int zr])) := fun hact r hrn => by
      refine q.same hS (by rw [hact]) (k12.trans (same_new hrn)) ?_ (k12.free hrn)
      rw [upd_same, hact, er]
      rfl
    refine ⟨_, rfl, kl, _, rfl, .inl (SqL.of hk2), _, rfl, wl, _, rfl, .inl (SqL.of hw2), rfl, _, rfl, ?_⟩
    rw [List.length_map, List.length_map, ofN_len, ofN_len]
    by_cases hlen : (evens l).length = (odds l).length
    · rw [decide_eq_true (by rw [hlen])]
      refine iteF ⟨_, rfl, p, dx, _, rfl, hp, rfl, _, rfl, p, t, wl, _, _, _, d, odds l, rfl, S, SqL.of hw2, fun c hc => ⟨c, rfl, ?_⟩⟩
      cases c with
      | false =>
        refine iteT ⟨(by show 1 ≤ sizeLine; decide), fun r hrn => bad ?_ r hrn⟩
        have hn : ¬ ((∀ w ∈ odds l, w < 2 ^ 32) ∧ s'.n + (odds l).sum < 2 ^ 63) := fun z => absurd (hc.mpr z) Bool.false_ne_true
        by_cases h1 : ∀ w ∈ odds l, w < 2 ^ 32
        · exact act_stream_no (pairsOf_yes hlen h1) (by rw [csum_zip hlen]; have : ¬ s'.n + (odds l).sum < 2 ^ 63 := fun z => hn ⟨h1, z⟩; omega)
        · refine act_stream_bad (pairsOf_no (.inr ?_))
          exact Classical.byContradiction fun z => h1 fun w hw => by
            rcases Nat.lt_or_ge w (2 ^ 32) with y | y
            · exact y
            · exact absurd ⟨w, hw, y⟩ z
      | true =>
        obtain ⟨h1, h2⟩ := hc.mp rfl
        have hp1 := pairsOf_yes hlen h1
        have hcs := csum_zip hlen
        have hact : HvCalls.act s' (.stream l) = (HvCalls.addAll s' ((evens l).zip (odds l)), .done) := act_stream hp1 (by rw [hcs]; omega)
        have hzl : ((evens l).zip (odds l)).length = (evens l).length := by rw [List.length_zip, hlen, Nat.min_self]
        have hxl : ((ofN (evens l)).map V.int).length = (evens l).length := by rw [List.length_map, ofN_len]
        refine iteF ⟨_, rfl, _, rfl, kl, wl, _, _, rfl, SqL.of hk2, SqL.of hw2, for_zip (by rw [List.length_map, List.length_map, ofN_len, ofN_len, hlen])
          (fun i σ H' => ∃ v4 v5, σ = [some (.ref p), some (.ref a), some (.ref kl), some (.ref wl), v4, v5] ∧ SumAt ad.C_Summary H' p (HvCalls.addAll s' (((evens l).zip (odds l)).take i)) ∧ Lists H2 H' ∧ (∀ b C' dx fs, H2 b = some (.ins C' dx fs) → b ≠ p → H' b = some (.ins C' dx fs)) ∧ ∀ b, H' b = none → H2 b = none)
          ⟨none, none, rfl, by rw [List.take_zero]; exact hS2, .refl _, fun b C' dx fs hb _ => hb, fun b hb => hb⟩ (fun i σ H' _ ⟨_, _, _, _, z, _⟩ => ⟨z.seq (SqL.of hk2), z.seq (SqL.of hw2)⟩) ?_ ?_⟩
        · rintro i x y σ H' TT hx hy ⟨v4, v5, rfl, hS', L', I', G'⟩ hT
          unfold ofN at hx hy
          rw [List.getElem?_map, List.getElem?_map] at hx hy
          cases hxe : (evens l)[i]? with
          | none => rw [hxe] at hx; cases hx
          | some xk =>
            cases hye : (odds l)[i]? with
            | none => rw [hye] at hy; cases hy
            | some yw =>
              rw [hxe] at hx
              rw [hye] at hy
              have ex : V.int (xk : Int) = x := Option.some.inj hx
              have ey : V.int (yw : Int) = y := Option.some.inj hy
              subst ex ey
              have hze : ((evens l).zip (odds l))[i]? = some (xk, yw) := by
                rw [List.getElem?_zip_eq_some]
                exact ⟨hxe, hye⟩
              have kT := same_new (o := .tup [.int (xk : Int), .int (yw : Int)]) hT
              obtain ⟨t', d', S', pm', ok'⟩ := hS'.same kT
              obtain ⟨⟨dx', hp'⟩, ht'⟩ := id S'
              have hdl : d'.length ≤ 1024 := by rw [pm'.length_eq]; have := ok'.len; have := ok'.k2; omega
              have hx64 : xk < 2 ^ 64 := hl64 _ (evens_mem _ (List.mem_of_getElem? hxe))
              have hsum : (HvCalls.addAll s' (((evens l).zip (odds l)).take i)).n + yw < 2 ^ 63 := by
                have e1 := csum_take_le ((evens l).zip (odds l)) (i + 1)
                rw [take_snoc hze, csum_append, csum_cons, csum_nil, hcs] at e1
                rw [addAll_n]
                have e1 : csum (((evens l).zip (odds l)).take i) + (yw + 0) ≤ (odds l).sum := e1
                omega
              refine ⟨TT, _, rfl, SqT.of upd_same, rfl, _, _, rfl, _, _, rfl, rfl, ?_⟩
              refine ⟨_, rfl, p, dx', _, rfl, hp', rfl, _, rfl, _, rfl, p, t', _, _, _, xk, yw, d', rfl, S', ok'.tab.perm pm'.symm, (by rw [sizeLine_eq]; omega), fun H3 t3 e3 d3 kd ht3 S3 fr gr => ?_⟩
              refine ⟨_, _, rfl, ?_, fun c o hc hL => ?_, fun c C' dxc fs hc hcp => ?_, fun c hc => ?_⟩
              · rw [take_snoc hze, addAll_snoc]
                exact SumAt.added pm' ok' kd hx64 hsum S3
              · have hc' := kT _ _ (L' c o hc hL)
                have c1 : c ≠ p := fun z => by subst z; rw [hp] at hc; cases hc; exact hL
                have c2 : c ≠ t' := fun z => by subst z; rw [ht'] at hc'; cases hc'; exact hL
                exact fr c o hc' c1 c2
              · have hc' := kT _ _ (I' c C' dxc fs hc hcp)
                have c2 : c ≠ t' := fun z => by subst z; rw [ht'] at hc'; cases hc'
                exact fr c _ hc' hcp c2
              · exact G' c (kT.free (gr c hc))
        · rintro σ H' ⟨v4, v5, rfl, hS', L', I', G'⟩
          rw [hxl, ← hzl, List.take_length] at hS'
          refine ⟨(by show 1 ≤ sizeLine; decide), fun r hrn => ?_⟩
          have k3 := same_new (o := .lst [.int zd]) hrn
          refine q _ r ?_ ?_ (k12.free (G' r hrn)) (fun c o hc hL => k3 _ _ (L' c o (k12 _ _ hc) hL)) fun c C' dxc fs hc hcp => k3 _ _ (I' c C' dxc fs (k12 _ _ hc) hcp)
          · rw [hact]; exact hS'.same k3
          · rw [upd_same, hact, ed]; rfl
    · rw [decide_eq_false (by intro z; exact hlen (by have := V.int.inj z; omega))]
      refine iteT (iteT ⟨(by show 1 ≤ sizeLine; decide), fun r hrn => bad (act_stream_bad (pairsOf_no (.inl hlen))) r hrn⟩)
end
end HvM

end
section
set_option Elab.async false
set_option linter.all false
set_option maxRecDepth 100000
set_option maxHeartbeats 4000000
namespace HvM
open PySem PySem.Spec PyProof.Rows L2
open HvCalls (Call)
/-- the keys of a table that are above -/
def hvy (s : Hv.Sum) (a b : Nat) (l : List P2) : List Nat := (l.filter fun y => Hv.above s a b (y.2 + s.err)).map fun y => y.1
theorem hvy_snoc (s : Hv.Sum) (a b : Nat) (l : List P2) (y : P2) : hvy s a b (l ++ [y]) = if Hv.above s a b (y.2 + s.err) = true then hvy s a b l ++ [y.1] else hvy s a b l := by
  unfold hvy
  rw [List.filter_append, List.map_append]
  by_cases h : Hv.above s a b (y.2 + s.err) = true
  · rw [if_pos h, List.filter_cons_of_pos (p := fun (y : P2) => Hv.above s a b (y.2 + s.err)) h]
    rfl
  · rw [if_neg h, List.filter_cons_of_neg (p := fun (y : P2) => Hv.above s a b (y.2 + s.err)) h]
    simp
theorem hvy_len (s : Hv.Sum) (a b : Nat) (l : List P2) : (hvy s a b l).length ≤ l.length := by
  unfold hvy
  rw [List.length_map]
  exact List.length_filter_le _ _
section
variable {P : Program} {w : World} {K : PySem.W.Frag} {mg : Str → Option Value} {base : Heap}
theorem ok_aheavy {ad : Adr} (T : Txt K mg ad) : FnOk P w K mg base CX0 5 ad.f_answer_heavy ad.fd_answer_heavy ["summary", "a", "b"] (spAHeavy ad.C_Summary) := by
  refine T.F_answer_heavy.ok sc_answer_heavy (fun vs H Q E h => ?_) (fun cdv A outer s H vs Q E hr h => ?_)
  · obtain ⟨p, a, b, s', rfl, _⟩ := h
    rfl
  · obtain ⟨p, a, b, s', rfl, hS, ha, hb, q⟩ := h
    obtain ⟨t, d, S, pm, ok⟩ := id hS
    obtain ⟨zd, td, ed, gD⟩ := T.c_DONE
    obtain ⟨zr, tr, er, gR⟩ := T.c_REFUSED
    obtain ⟨ze, te, ee, gE⟩ := T.c_ERROR_ABOVE
    obtain ⟨⟨dx, hp⟩, ht⟩ := id S
    have nd := sc_answer_heavy.nd
    have hr1 : Room 1 _ := hr.mono (by decide)
    refine ⟨_, pss_cons (ps_if (pw_or (pt_cmpR op_eq (pv 2) pe_int (nomark _)) (pw_or1 (pt_cmpR op_gt (pv 1) (pv 2) (nomark _)))).pt (pss_one (ps_ret (pe_lst (pa_cons (pe_glob (v := .int zr) (by rfl) gR ⟨tr, rfl⟩) pa_nil)))) pss_nil)
      (pss_cons (ps_if (pt_val (pe_meth (pv 0) T.cl_Summary T.m_Summary_is_above (ok_above T) hr1 T.b_Summary_is_above .nil pass0 (pa_cons (pe_fld (pv 0) rfl) (pa_cons (pv 1) (pa_cons (pv 2) pa_nil))))) (pss_one (ps_ret (pe_lst (pa_cons (pe_glob (v := .int ze) (by rfl) gE ⟨te, rfl⟩) pa_nil)))) pss_nil)
      (pss_cons (ps_setLc (i := 3) (g := gTup K 2 (gCons (gName 4) (gCons (gName 5) gNil))) (tt := tB (tMeth ad.C_Summary "is_above" (spAbove ad.C_Summary) [] E0 (tVar 0) (tCons (tOp (rI0 fun i j => V.int (i + j)) (tVar 5) (tFld K (tVar 0) "error")) (tCons (tVar 1) (tCons (tVar 2) tNil))))) (te := tVar 4) rfl nd rfl rfl (by rfl) (pi_list (pe_meth0 (pv 0) T.cl_Summary T.m_Summary_ordered (ok_ord T) hr T.b_Summary_ordered .nil pass0)) (blkOk_by (own := [("key", 4), ("count", 5)]) (by rfl))
        (by intro s H C cl fp; exact pg_tup rfl (pgs_cons (pg_name (i := 4) nd rfl (Or.inl rfl)) (pgs_cons (pg_name (i := 5) nd rfl (Or.inl rfl)) pgs_nil)))
        (by intro s H C cl fp; exact pts_one (pt_val (pe_meth (pv 0) T.cl_Summary T.m_Summary_is_above (ok_above T) hr1 T.b_Summary_is_above .nil pass0 (pa_cons (pe_op op_add (pv 5) (pe_fld (pv 0) rfl)) (pa_cons (pv 1) (pa_cons (pv 2) pa_nil))))))
        (by intro s H C cl fp; exact pv 4))
      (pss_one (ps_ret (pe_op op_cat (pe_lst (pa_cons (pe_glob (v := .int zd) (by rfl) gD ⟨td, rfl⟩) pa_nil)) (pe_call (ok_with T) hr1 (by rfl) T.g_with_length T.F_with_length.kp T.b_with_length .nil pass0 (pa_cons (pv 3) pa_nil))))))), ?_⟩
    have bad : (b = 0 ∨ b < a) → ∀ r : Addr, H r = none → Q (.ref r) (upd H r (.lst [.int zr])) := fun h r hrn => by
      refine q.same hS (by rw [act_heavy_no h]) (same_new hrn) ?_ hrn
      rw [upd_same, act_heavy_no h, er]
      rfl
    refine ⟨_, rfl, rfl, _, rfl, ite2 (fun h1 => ?_) (fun h1 => ?_)⟩
    · have h1 : b = 0 := by
        have := V.int.inj (of_decide_eq_true h1)
        omega
      exact iteT ⟨(by show 1 ≤ sizeLine; decide), fun r hrn => bad (.inl h1) r hrn⟩
    · have h1 : ¬ b = 0 := fun z => h1 (decide_eq_true (by rw [z]; rfl))
      refine ⟨_, rfl, _, rfl, _, _, rfl, rfl, _, rfl, ?_⟩
      refine ite2 (fun h2 => ?_) (fun h2 => ?_)
      · have h2 : b < a := by have := of_decide_eq_true h2; omega
        exact ⟨(by show 1 ≤ sizeLine; decide), fun r hrn => bad (.inr h2) r hrn⟩
      · have h2 : ¬ b < a := fun z => h2 (decide_eq_true (by omega))
        have h3 : ¬ (b = 0 ∨ b < a) := fun z => z.elim h1 h2
        -- the error
        refine ⟨_, rfl, p, dx, _, rfl, hp, rfl, _, rfl, p, _, dx, _, _, rfl, hp, T.cl_Summary, T.no_Summary_error, sf_e _ _ _ _, _, rfl, _, rfl, p, t, _, _, _, s'.err, a, b, d, rfl, S, ha, hb, _, rfl, ite2 (fun h4 => ?_) (fun h4 => ?_)⟩
        · have h4 := of_decide_eq_true h4
          refine ⟨(by show 1 ≤ sizeLine; decide), fun r hrn => ?_⟩
          refine q.same hS (by rw [act_heavy_err h3 h4]) (same_new hrn) ?_ hrn
          rw [upd_same, act_heavy_err h3 h4, ee]
          rfl
        · have h4 : ¬ s'.n * a < s'.err * b := fun z => h4 (decide_eq_true z)
          have hact := act_heavy h3 h4
          refine ⟨_, rfl, p, dx, _, rfl, hp, rfl, p, t, _, _, _, d, rfl, S, fun H1 l as hl has s1 ln => ?_⟩
          rw [tab_of pm ok] at has
          have hal : as.length = s'.tab.length := Paired.length has
          have htl : s'.tab.length ≤ 1024 := by have := ok.len; have := ok.k2; omega
          refine ⟨l, rfl, ⟨_, SqL.of hl⟩, fun D hD => lc_list (K := K) (a := l) (xs := as.map V.ref)
            (fun i H' => H' D = some (.lst ((ofN (hvy s' a b (s'.tab.take i))).map V.int)) ∧ Same H1 H') ⟨upd_same, same_new hD⟩ (fun i H' _ z => SqL.of (z.2 _ _ hl)) ?_ ?_⟩
          · rintro i v H' hi ⟨h5, h6⟩
            rw [List.getElem?_map] at hi
            cases hai : as[i]? with
            | none => rw [hai] at hi; cases hi
            | some a0 =>
              rw [hai] at hi
              have ev : V.ref a0 = v := Option.some.inj hi
              subst ev
              obtain ⟨y, hy, hay⟩ := Paired.get' has hai
              have hil : i < s'.tab.length := (List.getElem?_eq_some_iff.mp hy).1
              have hpi := h6 _ _ (s1 _ _ hp)
              refine ⟨a0, _, rfl, SqT.of (h6 _ _ hay), rfl, _, _, rfl, _, _, rfl, rfl, rfl, ?_⟩
              refine ⟨_, rfl, p, dx, _, rfl, hpi, rfl, _, rfl, _, rfl, p, _, dx, _, _, rfl, hpi, T.cl_Summary, T.no_Summary_error, sf_e _ _ _ _, _, _, rfl, rfl, _, rfl, _, rfl, p, t, _, _, _, y.2 + s'.err, a, b, d, rfl, (S.same s1).same h6, ha, hb, _, rfl, ?_⟩
              refine ite2 (fun h7 => ?_) (fun h7 => ?_)
              · have h8 : Hv.above s' a b (y.2 + s'.err) = true := h7
                refine ⟨_, rfl, _, h5, ?_, ?_, fun c o hc => ?_⟩
                · rw [List.length_map, ofN_len, sizeLine_eq]
                  have := hvy_len s' a b (s'.tab.take i)
                  rw [List.length_take] at this
                  omega
                · rw [upd_same, take_snoc hy, hvy_snoc, if_pos h8, ofN_append, List.map_append]
                  rfl
                · rw [upd_ne (ne_of_none hc hD)]; exact h6 c o hc
              · have h8 : ¬ Hv.above s' a b (y.2 + s'.err) = true := h7
                refine ⟨?_, h6⟩
                rw [h5, take_snoc hy, hvy_snoc, if_neg h8]
          · rintro H' ⟨h5, h6⟩
            rw [List.length_map, hal, List.take_length] at h5
            have s2 : Same H H' := s1.trans h6
            have eh : hvy s' a b s'.tab = Hv.heavies s' a b := rfl
            rw [eh] at h5
            refine ⟨(by show 1 ≤ sizeLine; decide), fun b1 n1 => ?_⟩
            have k1 := same_new (o := .lst [.int zd]) n1
            have hkl := Nat.le_trans (heavies_len s' a b) htl
            refine ⟨_, rfl, D, _, rfl, k1 _ _ h5, (by rw [ofN_len]; omega), fun H3 r3 h8 n3 s3 => ?_⟩
            refine ⟨b1, r3, _, _, rfl, rfl, s3 _ _ upd_same, h8, (by simp only [List.length_map, List.length_cons, List.length_nil, ofN_len, sizeLine_eq]; omega), fun r hrn => ?_⟩
            have k4 := (s2.trans k1).trans s3
            refine q.same hS (by rw [hact]) (k4.trans (same_new hrn)) ?_ (k4.free hrn)
            rw [upd_same, hact, ed]
            rfl
end
end HvM

end
section
set_option Elab.async false
set_option linter.all false
set_option maxRecDepth 100000
set_option maxHeartbeats 4000000
namespace HvM
open PySem PySem.Spec PyProof.Rows L2
open HvCalls (Call)
abbrev NB : List (Int × Int) := [(1, 1), (2, 2), (3, 0), (4, 0), (5, 1), (6, 0), (7, 1), (8, 2), (10, 0)]
theorem enc_shape (c : Call) : (∃ z r, enc c = z :: r ∧ encP c = z :: r ∧ NB.lookup z = some (r.length : Int) ∧ ¬ z = 9 ∧ ¬ z = 11 ∧ ¬ z = 12) ∨ ∃ z r, enc c = z :: (r.length : Int) :: r ∧ encP c = z :: r ∧ (z = 9 ∨ z = 11 ∨ z = 12) := by
  cases c with
  | merge p => exact .inr ⟨9, ofN (bN p), by simp only [enc, ofN_len, bN_len, ofB_map]; rfl, rfl, .inl rfl⟩
  | unpack p => exact .inr ⟨11, ofN (bN p), by simp only [enc, ofN_len, bN_len, ofB_map]; rfl, rfl, .inr (.inl rfl)⟩
  | stream l => exact .inr ⟨12, ofN l, by simp only [enc, ofN_len], rfl, .inr (.inr rfl)⟩
  | _ => exact .inl ⟨_, _, rfl, rfl, rfl, by decide, by decide, by decide⟩
theorem enc_ne (c : Call) : ∃ z r, enc c = z :: r := by cases c <;> exact ⟨_, _, rfl⟩
theorem encP_ne (c : Call) : ∃ z r, encP c = z :: r := by cases c <;> exact ⟨_, _, rfl⟩
/-- the flat list around its j-th call -/
theorem flat_at {cs : List Call} {j : Nat} {c : Call} (h : cs[j]? = some c) : cs.flatMap enc = (cs.take j).flatMap enc ++ (enc c ++ (cs.drop (j + 1)).flatMap enc) := by
  have e : cs = cs.take j ++ c :: cs.drop (j + 1) := by
    have h1 := (List.getElem?_eq_some_iff.mp h)
    obtain ⟨hl, he⟩ := h1
    rw [← he, List.getElem_cons_drop, List.take_append_drop]
  conv => lhs; rw [e]
  rw [List.flatMap_append, List.flatMap_cons]
theorem flat_take {cs : List Call} {j : Nat} {c : Call} (h : cs[j]? = some c) : (cs.take (j + 1)).flatMap enc = (cs.take j).flatMap enc ++ enc c := by
  rw [take_snoc h, List.flatMap_append]
  simp
theorem Paired.snoc {α β : Type} {R : α → β → Prop} : ∀ {l : List α} {m : List β} {a : α} {b : β}, Paired R l m → R a b → Paired R (l ++ [a]) (m ++ [b])
  | _, _, _, _, .nil, h => .cons h .nil
  | _, _, _, _, .cons r t, h => .cons r (Paired.snoc t h)
theorem iteT' {c : Bool} {A B : Prop} (hc : c = true) (h : A) : if c = true then A else B := by rw [if_pos hc]; exact h
theorem iteF' {c : Bool} {A B : Prop} (hc : c = false) (h : B) : if c = true then A else B := by rw [hc]; exact iteF h
def spSplit (K : PySem.W.Frag) : Sp := fun vs H Q _ => ∃ (a : Addr) (cs : List Call), vs = [.ref a] ∧ SqL K H a ((cs.flatMap enc).map V.int) ∧ (cs.flatMap enc).length ≤ 16000 ∧
  ∀ (H' : Hp) (p : Addr) (ps : List Addr), H' p = some (.lst (ps.map V.ref)) → Paired (fun q c => H' q = some (.lst ((encP c).map V.int))) ps cs → Same H H' → H p = none → Q (.ref p) H'
theorem in_with (z : Int) (a b c : Int) : inV (.int z) [.int a, .int b, .int c] = decide (z = a ∨ z = b ∨ z = c) := by
  have e := in_zero z [a, b, c]
  have e2 : decide (z ∈ [a, b, c]) = decide (z = a ∨ z = b ∨ z = c) := decide_eq_decide.mpr (by simp)
  rw [← e2, ← e]
  rfl
section
variable {P : Program} {w : World} {K : PySem.W.Frag} {mg : Str → Option Value} {base : Heap}
theorem len_flat (cs : List Call) : cs.length ≤ (cs.flatMap enc).length := by
  induction cs with
  | nil => exact Nat.zero_le _
  | cons c cs ih =>
    obtain ⟨z, r, e⟩ := enc_ne c
    rw [List.flatMap_cons, e, List.length_append, List.length_cons, List.length_cons]
    omega
theorem ok_split {ad : Adr} (T : Txt K mg ad) : FnOk P w K mg base CX0 1 ad.f_split_calls ad.fd_split_calls ["calls"] (spSplit K) := by
  refine T.F_split_calls.ok sc_split_calls (fun vs H Q E h => ?_) (fun cdv A outer s H vs Q E hr h => ?_)
  · obtain ⟨a, cs, rfl, _⟩ := h
    rfl
  · obtain ⟨a, cs, rfl, hS, hlen, q⟩ := h
    have nd := sc_split_calls.nd
    refine ⟨_, pss_cons (ps_set (i := 1) nd rfl (Or.inl rfl) (pe_lst pa_nil)) (pss_cons (ps_set (i := 2) nd rfl (Or.inl rfl) pe_int)
      (pss_cons (ps_while PassesOwn.never (pt_cmpR op_lt (pv 2) (pe_callB call_len_seq (by rfl) T.n_len PySem.boot_len (pa_cons (pv 0) pa_nil)) (nomark _))
        (pss_cons (ps_set (i := 3) nd rfl (Or.inl rfl) (pe_ix ix_list (pv 0) (pv 2) (fun _ _ => rfl)))
        (pss_cons (ps_aug (i := 2) nd rfl (Or.inl rfl) pe_int ip_add)
        (pss_cons (ps_if (pt_cmpR op_in_seq (pv 3) (pe_glob (v := .ref ad.t_WITH_ROW) (by rfl) T.g_WITH_ROW rfl) (by rfl))
            (pss_cons (ps_set (i := 4) nd rfl (Or.inl rfl) (pe_ix ix_list (pv 0) (pv 2) (fun _ _ => rfl))) (pss_one (ps_aug (i := 2) nd rfl (Or.inl rfl) pe_int ip_add)))
            (pss_one (ps_set (i := 4) nd rfl (Or.inl rfl) (pe_dgetC (pe_glob (v := .ref ad.d_NUMBERS_BEHIND) (by rfl) T.g_NUMBERS_BEHIND rfl) (pv 3) (fun _ _ => rfl)))))
        (pss_cons (ps_expr (pe_bm PySem.F.plainAttrs_list PySem.F.slot_list_append PySem.F.type_list_append mt_append (pv 1) (pa_cons (pe_op op_cat (pe_lst (pa_cons (pv 3) pa_nil)) (pe_slice sl_list (pv 0) (po_some (pv 2)) (po_some (pe_op op_add (pv 2) (pv 4))))) pa_nil)))
        (pss_one (ps_aug (i := 2) nd rfl (Or.inl rfl) (pv 4) ip_add)))))))
        (pss_one (ps_ret (pv 1))))), ?_⟩
    refine ⟨Nat.zero_le _, fun l hl => ?_⟩
    have s0 : Same H (upd H l (.lst [])) := same_new hl
    -- the loop
    refine ⟨fun m σ H' => ∃ (j : Nat) (v3 v4 : Option V) (ps : List Addr), j + m = cs.length ∧ σ = [some (.ref a), some (.ref l), some (.int (((cs.take j).flatMap enc).length : Nat)), v3, v4] ∧ H' l = some (.lst (ps.map V.ref)) ∧
      Paired (fun q c => H' q = some (.lst ((encP c).map V.int)) ∧ q ≠ l) ps (cs.take j) ∧ Same H H', ⟨cs.length, 0, none, none, [], by omega, rfl, upd_same, .nil, s0⟩, ?_⟩
    rintro m σ H' ⟨j, v3, v4, ps, hj, rfl, h1, h2, h3⟩
    refine ⟨_, rfl, _, rfl, a, _, rfl, .inl (h3.seq hS), _, _, rfl, rfl, _, rfl, ?_⟩
    rw [List.length_map]
    by_cases hlt : j < cs.length
    · obtain ⟨c, hc⟩ : ∃ c, cs[j]? = some c := ⟨_, List.getElem?_eq_getElem hlt⟩
      have hf := flat_at hc
      obtain ⟨z0, r0, ez0⟩ := enc_ne c
      have hll : ((cs.take j).flatMap enc).length < (cs.flatMap enc).length := by
        rw [hf, List.length_append, List.length_append, ez0, List.length_cons]
        omega
      have hr0 : r0.length ≤ 16000 := by
        have e := congrArg List.length hf
        rw [List.length_append, List.length_append, ez0, List.length_cons] at e
        omega
      rw [decide_eq_true (by omega)]
      refine iteT ⟨fun σ' H'' => ∃ (v3 v4 : Option V) (ps : List Addr), σ' = [some (.ref a), some (.ref l), some (.int (((cs.take (j + 1)).flatMap enc).length : Nat)), v3, v4] ∧ H'' l = some (.lst (ps.map V.ref)) ∧
        Paired (fun q c => H'' q = some (.lst ((encP c).map V.int)) ∧ q ≠ l) ps (cs.take (j + 1)) ∧ Same H H'', ?_, ?_⟩
      · rintro σ' H'' ⟨v3', v4', ps', e1, e2, e3, e4⟩
        exact ⟨m - 1, by omega, j + 1, v3', v4', ps', by omega, e1, e2, e3, e4⟩
      · generalize hA : ((cs.take j).flatMap enc) = Af at h2 hf hll ⊢
        generalize hB : ((cs.drop (j + 1)).flatMap enc) = Bf at hf
        have ei : ((cs.flatMap enc).map V.int) = Af.map V.int ++ ((enc c).map V.int ++ Bf.map V.int) := by
          rw [hf, List.map_append, List.map_append]
        have hS' := h3.seq hS
        rw [ei] at hS'
        have htk : (cs.take (j + 1)).flatMap enc = Af ++ enc c := by rw [flat_take hc, hA]
        rcases enc_shape c with ⟨z, r, ez, eP, enb, z1, z2, z3⟩ | ⟨z, r, ez, eP, hz⟩
        · have hrl : r.length ≤ 16000 := by
            rw [ez] at ez0
            injection ez0 with _ e
            rw [e]; exact hr0
          have e1 : Af.map V.int ++ ((enc c).map V.int ++ Bf.map V.int) = Af.map V.int ++ V.int z :: (r.map V.int ++ Bf.map V.int) := by rw [ez]; rfl
          have e3 : Af.map V.int ++ ((enc c).map V.int ++ Bf.map V.int) = (Af.map V.int ++ [V.int z]) ++ (r.map V.int ++ Bf.map V.int) := by rw [e1, List.append_assoc]; rfl
          refine ⟨_, rfl, _, rfl, a, _, _, V.int z, rfl, rfl, hS', (by rw [e1]; exact at_mid (by rw [List.length_map])), ?_⟩
          refine ⟨_, rfl, _, _, rfl, rfl, ?_⟩
          refine ⟨_, rfl, ad.t_WITH_ROW, _, rfl, .inr (T.t_WITH_ROW _), rfl, rfl, _, rfl, iteF' (show inV (V.int z) [V.int 9, V.int 11, V.int 12] = false by rw [in_with]; exact decide_eq_false fun e => e.elim z1 fun e => e.elim z2 z3) ?_⟩
          refine ⟨_, rfl, ad.d_NUMBERS_BEHIND, _, z, _, rfl, T.d_NUMBERS_BEHIND, rfl, enb, ?_⟩
          -- parts.append([number] + calls[place:place + length])
          refine ⟨_, rfl, .inl ⟨rfl, _, SqL.of h1⟩, _, rfl, (by show 1 ≤ sizeLine; decide), fun b1 n1 => ?_⟩
          have k1 := same_new (o := .lst [V.int z]) n1
          refine ⟨_, rfl, _, rfl, _, rfl, _, rfl, _, rfl, _, _, rfl, rfl, _, rfl, a, _, rfl, k1.seq hS', fun b2 n2 => ?_⟩
          have ec : cutV (Af.map V.int ++ ((enc c).map V.int ++ Bf.map V.int)) (some (((Af.length : Nat) : Int) + 1)) (some (((Af.length : Nat) : Int) + 1 + (r.length : Int))) = r.map V.int := by
            rw [e3]
            exact cut_mid (by simp only [List.length_append, List.length_map, List.length_cons, List.length_nil]; omega) (by simp only [List.length_append, List.length_map, List.length_cons, List.length_nil]; omega)
          rw [ec]
          have k2 := same_new (o := .lst (r.map V.int)) n2
          refine ⟨b1, b2, _, _, rfl, rfl, k2 _ _ upd_same, upd_same, (by rw [List.length_map, sizeLine_eq]; show 1 + r.length ≤ _; omega), fun b3 n3 => ?_⟩
          have k3 := same_new (o := .lst ([V.int z] ++ r.map V.int)) n3
          have k123 := (k1.trans k2).trans k3
          have hl3 := k123 _ _ h1
          have hb3l : b3 ≠ l := fun e => by
            have := (k1.trans k2).free n3
            rw [e, h1] at this
            cases this
          refine ⟨l, _, _, rfl, rfl, hl3, ?_, ?_⟩
          · rw [List.length_map]
            have := Paired.length h2
            rw [this, List.length_take]
            have := len_flat cs
            rw [sizeLine_eq]
            omega
          -- place += length
          refine ⟨_, rfl, _, rfl, _, _, rfl, rfl, ?_⟩
          refine ⟨some (V.int z), some (V.int (r.length : Int)), ps ++ [b3], ?_, ?_, ?_, ?_⟩
          · rw [htk, List.length_append, ez, List.length_cons]
            show [some (V.ref a), some (V.ref l), some (V.int (((Af.length : Nat) : Int) + 1 + (r.length : Int))), some (V.int z), some (V.int (r.length : Int))] = _
            have e9 : (((Af.length : Nat) : Int) + 1 + (r.length : Int)) = ((Af.length + (r.length + 1) : Nat) : Int) := by omega
            rw [e9]
          · rw [upd_same, List.map_append]; rfl
          · rw [take_snoc hc]
            refine Paired.snoc (Paired.mapP h2 fun b c' hb => ⟨?_, hb.2⟩) ⟨?_, hb3l⟩
            · rw [upd_ne hb.2]; exact k123 _ _ hb.1
            · rw [upd_ne hb3l, eP]
              exact upd_same
          · intro b o hb
            rw [upd_ne (ne_of_none hb hl)]; exact k123 _ _ (h3 b o hb)
        · have hrl : r.length ≤ 16000 := by
            rw [ez] at ez0
            injection ez0 with _ e
            have := congrArg List.length e
            rw [List.length_cons] at this
            omega
          have e1 : Af.map V.int ++ ((enc c).map V.int ++ Bf.map V.int) = Af.map V.int ++ V.int z :: (V.int (r.length : Int) :: (r.map V.int ++ Bf.map V.int)) := by rw [ez]; rfl
          have e2 : Af.map V.int ++ ((enc c).map V.int ++ Bf.map V.int) = (Af.map V.int ++ [V.int z]) ++ V.int (r.length : Int) :: (r.map V.int ++ Bf.map V.int) := by rw [e1, List.append_assoc]; rfl
          have e3 : Af.map V.int ++ ((enc c).map V.int ++ Bf.map V.int) = (Af.map V.int ++ [V.int z, V.int (r.length : Int)]) ++ (r.map V.int ++ Bf.map V.int) := by rw [e1, List.append_assoc]; rfl
          refine ⟨_, rfl, _, rfl, a, _, _, V.int z, rfl, rfl, hS', (by rw [e1]; exact at_mid (by rw [List.length_map])), ?_⟩
          refine ⟨_, rfl, _, _, rfl, rfl, ?_⟩
          refine ⟨_, rfl, ad.t_WITH_ROW, _, rfl, .inr (T.t_WITH_ROW _), rfl, rfl, _, rfl, iteT' (show inV (V.int z) [V.int 9, V.int 11, V.int 12] = true by rw [in_with]; exact decide_eq_true hz) ?_⟩
          refine ⟨_, rfl, _, rfl, a, _, _, V.int (r.length : Int), rfl, rfl, hS', (by rw [e2]; exact at_mid (by rw [List.length_append, List.length_map]; rfl)), ?_⟩
          refine ⟨_, rfl, _, _, rfl, rfl, ?_⟩
          -- parts.append([number] + calls[place:place + length])
          refine ⟨_, rfl, .inl ⟨rfl, _, SqL.of h1⟩, _, rfl, (by show 1 ≤ sizeLine; decide), fun b1 n1 => ?_⟩
          have k1 := same_new (o := .lst [V.int z]) n1
          refine ⟨_, rfl, _, rfl, _, rfl, _, rfl, _, rfl, _, _, rfl, rfl, _, rfl, a, _, rfl, k1.seq hS', fun b2 n2 => ?_⟩
          have ec : cutV (Af.map V.int ++ ((enc c).map V.int ++ Bf.map V.int)) (some (((Af.length : Nat) : Int) + 1 + 1)) (some (((Af.length : Nat) : Int) + 1 + 1 + (r.length : Int))) = r.map V.int := by
            rw [e3]
            exact cut_mid (by simp only [List.length_append, List.length_map, List.length_cons, List.length_nil]; omega) (by simp only [List.length_append, List.length_map, List.length_cons, List.length_nil]; omega)
          rw [ec]
          have k2 := same_new (o := .lst (r.map V.int)) n2
          refine ⟨b1, b2, _, _, rfl, rfl, k2 _ _ upd_same, upd_same, (by rw [List.length_map, sizeLine_eq]; show 1 + r.length ≤ _; omega), fun b3 n3 => ?_⟩
          have k3 := same_new (o := .lst ([V.int z] ++ r.map V.int)) n3
          have k123 := (k1.trans k2).trans k3
          have hl3 := k123 _ _ h1
          have hb3l : b3 ≠ l := fun e => by
            have := (k1.trans k2).free n3
            rw [e, h1] at this
            cases this
          refine ⟨l, _, _, rfl, rfl, hl3, ?_, ?_⟩
          · rw [List.length_map]
            have := Paired.length h2
            rw [this, List.length_take]
            have := len_flat cs
            rw [sizeLine_eq]
            omega
          -- place += length
          refine ⟨_, rfl, _, rfl, _, _, rfl, rfl, ?_⟩
          refine ⟨some (V.int z), some (V.int (r.length : Int)), ps ++ [b3], ?_, ?_, ?_, ?_⟩
          · rw [htk, List.length_append, ez, List.length_cons, List.length_cons]
            show [some (V.ref a), some (V.ref l), some (V.int (((Af.length : Nat) : Int) + 1 + 1 + (r.length : Int))), some (V.int z), some (V.int (r.length : Int))] = _
            have e9 : (((Af.length : Nat) : Int) + 1 + 1 + (r.length : Int)) = ((Af.length + (r.length + 1 + 1) : Nat) : Int) := by omega
            rw [e9]
          · rw [upd_same, List.map_append]; rfl
          · rw [take_snoc hc]
            refine Paired.snoc (Paired.mapP h2 fun b c' hb => ⟨?_, hb.2⟩) ⟨?_, hb3l⟩
            · rw [upd_ne hb.2]; exact k123 _ _ hb.1
            · rw [upd_ne hb3l, eP]
              exact upd_same
          · intro b o hb
            rw [upd_ne (ne_of_none hb hl)]; exact k123 _ _ (h3 b o hb)
    · have ej : j = cs.length := by omega
      subst ej
      rw [List.take_length] at h2 ⊢
      rw [decide_eq_false (by omega)]
      refine iteF ?_
      refine ⟨_, rfl, ?_⟩
      exact q H' l ps h1 (Paired.mapP h2 fun b c hb => hb.1) h3 hl
end
end HvM

end
section
set_option Elab.async false
set_option linter.all false
set_option maxRecDepth 100000
set_option maxHeartbeats 4000000
namespace HvM
open PySem PySem.Spec PyProof.Rows L2
open HvCalls (Call)
theorem AnsW.mono {C : Addr} {H H1 : Hp} {p : Addr} {x : Hv.Sum × HvCalls.Answer} {Q : VK} (q : AnsW C H p x Q) (k : Same H H1) : AnsW C H1 p x Q := fun H' r a b c d e =>
  q H' r a b (k.free c) (Lists.trans (.of_same k) d) fun b C' dx fs hb hne => e b C' dx fs (k _ _ hb) hne
def spAOf (C : Addr) (K : PySem.W.Frag) : Sp := fun vs H Q _ => ∃ (p c : Addr) (s : Hv.Sum) (cl : Call), vs = [.ref p, .ref c] ∧ SumAt C H p s ∧ SqL K H c ((encP cl).map V.int) ∧ needs cl = true ∧ Fit cl ∧ AnsW C H p (HvCalls.act s cl) Q
def spACall (C CL : Addr) (K : PySem.W.Frag) : Sp := fun vs H Q _ => ∃ (ln c : Addr) (st : HvCalls.State) (cl : Call), vs = [.ref ln, .ref c] ∧ C ≠ CL ∧ LineAt C CL H ln st ∧ SqL K H c ((encP cl).map V.int) ∧ Fit cl ∧
  ∀ (H' : Hp) (r : Addr), LineAt C CL H' ln (HvCalls.step st cl).1 → H' r = some (.lst ((SumNeutral.told (HvCalls.step st cl).2).map V.int)) → H r = none → Lists H H' → Q (.ref r) H'
theorem told1 (z : Int) (n : Nat) (hz : z = 0) : [V.int z, V.int (n : Int)] = (SumNeutral.told (.nums [n])).map V.int := by
  rw [hz]; rfl
section
variable {P : Program} {w : World} {K : PySem.W.Frag} {mg : Str → Option Value} {base : Heap}
theorem ok_aof {ad : Adr} (T : Txt K mg ad) : FnOk P w K mg base CX0 8 ad.f_answer_of_summary ad.fd_answer_of_summary ["summary", "call"] (spAOf ad.C_Summary K) := by
  refine T.F_answer_of_summary.ok sc_answer_of_summary (fun vs H Q E h => ?_) (fun cdv A outer s H vs Q E hr h => ?_)
  · obtain ⟨p, c, s', cl, rfl, _⟩ := h
    rfl
  · obtain ⟨p, c, s', cl, rfl, hS, hc, nds, fit, q⟩ := h
    obtain ⟨zd, td, ed, gD⟩ := T.c_DONE
    obtain ⟨z2, t2, e2, g2⟩ := T.c_ADD
    obtain ⟨z12, t12, e12, g12⟩ := T.c_STREAM
    obtain ⟨z3, t3, e3, g3⟩ := T.c_TOTAL
    obtain ⟨z4, t4, e4, g4⟩ := T.c_ERROR
    obtain ⟨z5, t5, e5, g5⟩ := T.c_BOUNDS
    obtain ⟨z6, t6, e6, g6⟩ := T.c_COUNT
    obtain ⟨z7, t7, e7, g7⟩ := T.c_ENTRY
    obtain ⟨z8, t8, e8, g8⟩ := T.c_HEAVY
    obtain ⟨z9, t9, e9, g9⟩ := T.c_MERGE
    obtain ⟨t, d, S, pm, ok⟩ := id hS
    obtain ⟨⟨dx, hp⟩, ht⟩ := id S
    have hr1 : Room 1 _ := hr.mono (by decide)
    have hr3 : Room 3 _ := hr.mono (by decide)
    have hr5 : Room 5 _ := hr.mono (by decide)
    refine ⟨_, (pss_cons (ps_set (i := 2) sc_answer_of_summary.nd rfl (Or.inl rfl) (pe_ix ix_list (pv 1) pe_int (fun _ _ => rfl)))
      (pss_cons (ps_if (pw_or (pt_cmpR op_eq (pv 2) (pe_glob (v := .int z2) (by rfl) g2 ⟨t2, rfl⟩) (nomark _)) (pw_or1 (pt_cmpR op_eq (pv 2) (pe_glob (v := .int z12) (by rfl) g12 ⟨t12, rfl⟩) (nomark _)))).pt (pss_one (ps_ret (pe_call (ok_astream T) hr3 (by rfl) T.g_answer_stream T.F_answer_stream.kp T.b_answer_stream .nil pass0 (pa_cons (pv 0) (pa_cons (pe_slice sl_list (pv 1) (po_some pe_int) po_none) pa_nil))))) pss_nil)
      (pss_cons (ps_if (pt_cmpR op_eq (pv 2) (pe_glob (v := .int z3) (by rfl) g3 ⟨t3, rfl⟩) (nomark _)) (pss_one (ps_ret (pe_lst (pa_cons (pe_glob (v := .int zd) (by rfl) gD ⟨td, rfl⟩) (pa_cons (pe_fld (pv 0) rfl) pa_nil))))) pss_nil)
      (pss_cons (ps_if (pt_cmpR op_eq (pv 2) (pe_glob (v := .int z4) (by rfl) g4 ⟨t4, rfl⟩) (nomark _)) (pss_one (ps_ret (pe_lst (pa_cons (pe_glob (v := .int zd) (by rfl) gD ⟨td, rfl⟩) (pa_cons (pe_fld (pv 0) rfl) pa_nil))))) pss_nil)
      (pss_cons (ps_if (pt_cmpR op_eq (pv 2) (pe_glob (v := .int z5) (by rfl) g5 ⟨t5, rfl⟩) (nomark _)) (pss_one (ps_ret (pe_call (ok_abounds T) hr3 (by rfl) T.g_answer_bounds T.F_answer_bounds.kp T.b_answer_bounds .nil pass0 (pa_cons (pv 0) (pa_cons (pe_ix ix_list (pv 1) pe_int (fun _ _ => rfl)) pa_nil))))) pss_nil)
      (pss_cons (ps_if (pt_cmpR op_eq (pv 2) (pe_glob (v := .int z6) (by rfl) g6 ⟨t6, rfl⟩) (nomark _)) (pss_one (ps_ret (pe_lst (pa_cons (pe_glob (v := .int zd) (by rfl) gD ⟨td, rfl⟩) (pa_cons (pe_callB call_lenD (by rfl) T.n_len PySem.boot_len (pa_cons (pe_fld (pv 0) rfl) pa_nil)) pa_nil))))) pss_nil)
      (pss_cons (ps_if (pt_cmpR op_eq (pv 2) (pe_glob (v := .int z7) (by rfl) g7 ⟨t7, rfl⟩) (nomark _)) (pss_one (ps_ret (pe_call (ok_aentry T) hr5 (by rfl) T.g_answer_entry T.F_answer_entry.kp T.b_answer_entry .nil pass0 (pa_cons (pv 0) (pa_cons (pe_ix ix_list (pv 1) pe_int (fun _ _ => rfl)) pa_nil))))) pss_nil)
      (pss_cons (ps_if (pt_cmpR op_eq (pv 2) (pe_glob (v := .int z8) (by rfl) g8 ⟨t8, rfl⟩) (nomark _)) (pss_one (ps_ret (pe_call (ok_aheavy T) hr5 (by rfl) T.g_answer_heavy T.F_answer_heavy.kp T.b_answer_heavy .nil pass0 (pa_cons (pv 0) (pa_cons (pe_ix ix_list (pv 1) pe_int (fun _ _ => rfl)) (pa_cons (pe_ix ix_list (pv 1) pe_int (fun _ _ => rfl)) pa_nil)))))) pss_nil)
      (pss_cons (ps_if (pt_cmpR op_eq (pv 2) (pe_glob (v := .int z9) (by rfl) g9 ⟨t9, rfl⟩) (nomark _)) (pss_one (ps_ret (pe_call (ok_amerge T) hr (by rfl) T.g_answer_merge T.F_answer_merge.kp T.b_answer_merge .nil pass0 (pa_cons (pv 0) (pa_cons (pe_slice sl_list (pv 1) (po_some pe_int) po_none) pa_nil))))) pss_nil)
      (pss_one (ps_ret (pe_op op_cat (pe_lst (pa_cons (pe_glob (v := .int zd) (by rfl) gD ⟨td, rfl⟩) pa_nil)) (pe_call (ok_with T) hr1 (by rfl) T.g_with_length T.F_with_length.kp T.b_with_length .nil pass0 (pa_cons (pe_call (ok_pack T) hr5 (by rfl) T.g_pack T.F_pack.kp T.b_pack .nil pass0 (pa_cons (pv 0) pa_nil)) pa_nil)))))))))))))), ?_⟩
    obtain ⟨z, r, ez⟩ := encP_ne cl
    refine ⟨_, rfl, c, _, _, V.int z, rfl, rfl, hc, at_of (j := 0) rfl (by rw [ez]; rfl), ?_⟩
    cases cl with
    | add x v =>
      simp only [encP, enc, List.cons.injEq] at ez
      obtain ⟨rfl, rfl⟩ := ez
      refine ⟨_, rfl, rfl, _, rfl, ?_⟩
      rw [decide_eq_true (by rw [e2])]
      refine iteT (iteT ?_)
      refine ⟨_, rfl, _, rfl, _, rfl, c, _, rfl, hc, fun l nl => ?_⟩
      have k := same_new (o := .lst (cutV ((encP (.add x v)).map V.int) (some 1) none)) nl
      refine ⟨p, l, s', [x, v], rfl, hS.same k, SqL.of (by rw [upd_same]; exact congrArg (fun y => some (HO.lst y)) (cut_from _ 1)), by show 2 ≤ 400; decide, fun n hn => ?_, ?_⟩
      · rcases List.mem_cons.mp hn with e | e
        · rw [e]; exact fit.1
        · rw [List.mem_singleton.mp e]; exact fit.2
      · rw [← act_add_stream]
        exact q.mono k
    | stream row =>
      simp only [encP, enc, List.cons.injEq] at ez
      obtain ⟨rfl, rfl⟩ := ez
      refine ⟨_, rfl, rfl, _, rfl, ?_⟩
      rw [decide_eq_false (fun e => by have := V.int.inj e; omega)]
      refine iteF ⟨_, rfl, rfl, _, rfl, ?_⟩
      rw [decide_eq_true (by rw [e12])]
      refine iteT ?_
      refine ⟨_, rfl, _, rfl, _, rfl, c, _, rfl, hc, fun l nl => ?_⟩
      have k := same_new (o := .lst (cutV ((encP (.stream row)).map V.int) (some 1) none)) nl
      exact ⟨p, l, s', row, rfl, hS.same k, SqL.of (by rw [upd_same]; exact congrArg (fun y => some (HO.lst y)) (cut_from _ 1)), fit.1, fit.2, q.mono k⟩
    | total =>
      simp only [encP, enc, List.cons.injEq] at ez
      obtain ⟨rfl, rfl⟩ := ez
      refine ⟨_, rfl, rfl, _, rfl, ?_⟩
      rw [decide_eq_false (fun e => by have := V.int.inj e; omega)]
      refine iteF ⟨_, rfl, rfl, _, rfl, ?_⟩
      rw [decide_eq_false (fun e => by have := V.int.inj e; omega)]
      refine iteF ?_
      refine ⟨_, rfl, rfl, _, rfl, ?_⟩
      rw [decide_eq_true (by rw [e3])]
      refine iteT ?_
      refine ⟨_, rfl, p, _, dx, _, _, rfl, hp, T.cl_Summary, T.no_Summary_total, sf_n _ _ _ _, (by show 2 ≤ sizeLine; decide), fun r hrn => ?_⟩
      exact q.same hS rfl (same_new hrn) (by rw [upd_same, told1 zd _ ed]; rfl) hrn
    | error =>
      simp only [encP, enc, List.cons.injEq] at ez
      obtain ⟨rfl, rfl⟩ := ez
      refine ⟨_, rfl, rfl, _, rfl, ?_⟩
      rw [decide_eq_false (fun e => by have := V.int.inj e; omega)]
      refine iteF ⟨_, rfl, rfl, _, rfl, ?_⟩
      rw [decide_eq_false (fun e => by have := V.int.inj e; omega)]
      refine iteF ?_
      refine ⟨_, rfl, rfl, _, rfl, ?_⟩
      rw [decide_eq_false (fun e => by have := V.int.inj e; omega)]
      refine iteF ?_
      refine ⟨_, rfl, rfl, _, rfl, ?_⟩
      rw [decide_eq_true (by rw [e4])]
      refine iteT ?_
      refine ⟨_, rfl, p, _, dx, _, _, rfl, hp, T.cl_Summary, T.no_Summary_error, sf_e _ _ _ _, (by show 2 ≤ sizeLine; decide), fun r hrn => ?_⟩
      exact q.same hS rfl (same_new hrn) (by rw [upd_same, told1 zd _ ed]; rfl) hrn
    | bounds x =>
      simp only [encP, enc, List.cons.injEq] at ez
      obtain ⟨rfl, rfl⟩ := ez
      refine ⟨_, rfl, rfl, _, rfl, ?_⟩
      rw [decide_eq_false (fun e => by have := V.int.inj e; omega)]
      refine iteF ⟨_, rfl, rfl, _, rfl, ?_⟩
      rw [decide_eq_false (fun e => by have := V.int.inj e; omega)]
      refine iteF ?_
      refine ⟨_, rfl, rfl, _, rfl, ?_⟩
      rw [decide_eq_false (fun e => by have := V.int.inj e; omega)]
      refine iteF ?_
      refine ⟨_, rfl, rfl, _, rfl, ?_⟩
      rw [decide_eq_false (fun e => by have := V.int.inj e; omega)]
      refine iteF ?_
      refine ⟨_, rfl, rfl, _, rfl, ?_⟩
      rw [decide_eq_true (by rw [e5])]
      refine iteT ?_
      refine ⟨_, rfl, _, rfl, c, _, _, V.int x, rfl, rfl, hc, at_of (j := 1) rfl rfl, ?_⟩
      exact ⟨p, x, s', rfl, hS, q⟩
    | count =>
      simp only [encP, enc, List.cons.injEq] at ez
      obtain ⟨rfl, rfl⟩ := ez
      refine ⟨_, rfl, rfl, _, rfl, ?_⟩
      rw [decide_eq_false (fun e => by have := V.int.inj e; omega)]
      refine iteF ⟨_, rfl, rfl, _, rfl, ?_⟩
      rw [decide_eq_false (fun e => by have := V.int.inj e; omega)]
      refine iteF ?_
      refine ⟨_, rfl, rfl, _, rfl, ?_⟩
      rw [decide_eq_false (fun e => by have := V.int.inj e; omega)]
      refine iteF ?_
      refine ⟨_, rfl, rfl, _, rfl, ?_⟩
      rw [decide_eq_false (fun e => by have := V.int.inj e; omega)]
      refine iteF ?_
      refine ⟨_, rfl, rfl, _, rfl, ?_⟩
      rw [decide_eq_false (fun e => by have := V.int.inj e; omega)]
      refine iteF ?_
      refine ⟨_, rfl, rfl, _, rfl, ?_⟩
      rw [decide_eq_true (by rw [e6])]
      refine iteT ?_
      refine ⟨_, rfl, p, _, dx, _, _, rfl, hp, T.cl_Summary, T.no_Summary_table, sf_t _ _ _ _, t, _, rfl, ht, (by show 2 ≤ sizeLine; decide), fun r hrn => ?_⟩
      refine q.same hS rfl (same_new hrn) ?_ hrn
      rw [upd_same, kvI_len, pm.length_eq, told1 zd _ ed]
      rfl
    | entry i =>
      simp only [encP, enc, List.cons.injEq] at ez
      obtain ⟨rfl, rfl⟩ := ez
      refine ⟨_, rfl, rfl, _, rfl, ?_⟩
      rw [decide_eq_false (fun e => by have := V.int.inj e; omega)]
      refine iteF ⟨_, rfl, rfl, _, rfl, ?_⟩
      rw [decide_eq_false (fun e => by have := V.int.inj e; omega)]
      refine iteF ?_
      refine ⟨_, rfl, rfl, _, rfl, ?_⟩
      rw [decide_eq_false (fun e => by have := V.int.inj e; omega)]
      refine iteF ?_
      refine ⟨_, rfl, rfl, _, rfl, ?_⟩
      rw [decide_eq_false (fun e => by have := V.int.inj e; omega)]
      refine iteF ?_
      refine ⟨_, rfl, rfl, _, rfl, ?_⟩
      rw [decide_eq_false (fun e => by have := V.int.inj e; omega)]
      refine iteF ?_
      refine ⟨_, rfl, rfl, _, rfl, ?_⟩
      rw [decide_eq_false (fun e => by have := V.int.inj e; omega)]
      refine iteF ?_
      refine ⟨_, rfl, rfl, _, rfl, ?_⟩
      rw [decide_eq_true (by rw [e7])]
      refine iteT ?_
      refine ⟨_, rfl, _, rfl, c, _, _, V.int i, rfl, rfl, hc, at_of (j := 1) rfl rfl, ?_⟩
      exact ⟨p, i, s', rfl, hS, q⟩
    | heavy a b =>
      simp only [encP, enc, List.cons.injEq] at ez
      obtain ⟨rfl, rfl⟩ := ez
      refine ⟨_, rfl, rfl, _, rfl, ?_⟩
      rw [decide_eq_false (fun e => by have := V.int.inj e; omega)]
      refine iteF ⟨_, rfl, rfl, _, rfl, ?_⟩
      rw [decide_eq_false (fun e => by have := V.int.inj e; omega)]
      refine iteF ?_
      refine ⟨_, rfl, rfl, _, rfl, ?_⟩
      rw [decide_eq_false (fun e => by have := V.int.inj e; omega)]
      refine iteF ?_
      refine ⟨_, rfl, rfl, _, rfl, ?_⟩
      rw [decide_eq_false (fun e => by have := V.int.inj e; omega)]
      refine iteF ?_
      refine ⟨_, rfl, rfl, _, rfl, ?_⟩
      rw [decide_eq_false (fun e => by have := V.int.inj e; omega)]
      refine iteF ?_
      refine ⟨_, rfl, rfl, _, rfl, ?_⟩
      rw [decide_eq_false (fun e => by have := V.int.inj e; omega)]
      refine iteF ?_
      refine ⟨_, rfl, rfl, _, rfl, ?_⟩
      rw [decide_eq_false (fun e => by have := V.int.inj e; omega)]
      refine iteF ?_
      refine ⟨_, rfl, rfl, _, rfl, ?_⟩
      rw [decide_eq_true (by rw [e8])]
      refine iteT ?_
      refine ⟨_, rfl, _, rfl, c, _, _, V.int a, rfl, rfl, hc, at_of (j := 1) rfl rfl, _, rfl, c, _, _, V.int b, rfl, rfl, hc, at_of (j := 2) rfl rfl, ?_⟩
      exact ⟨p, a, b, s', rfl, hS, fit.1, fit.2, q⟩
    | merge b =>
      simp only [encP, enc, List.cons.injEq] at ez
      obtain ⟨rfl, rfl⟩ := ez
      refine ⟨_, rfl, rfl, _, rfl, ?_⟩
      rw [decide_eq_false (fun e => by have := V.int.inj e; omega)]
      refine iteF ⟨_, rfl, rfl, _, rfl, ?_⟩
      rw [decide_eq_false (fun e => by have := V.int.inj e; omega)]
      refine iteF ?_
      refine ⟨_, rfl, rfl, _, rfl, ?_⟩
      rw [decide_eq_false (fun e => by have := V.int.inj e; omega)]
      refine iteF ?_
      refine ⟨_, rfl, rfl, _, rfl, ?_⟩
      rw [decide_eq_false (fun e => by have := V.int.inj e; omega)]
      refine iteF ?_
      refine ⟨_, rfl, rfl, _, rfl, ?_⟩
      rw [decide_eq_false (fun e => by have := V.int.inj e; omega)]
      refine iteF ?_
      refine ⟨_, rfl, rfl, _, rfl, ?_⟩
      rw [decide_eq_false (fun e => by have := V.int.inj e; omega)]
      refine iteF ?_
      refine ⟨_, rfl, rfl, _, rfl, ?_⟩
      rw [decide_eq_false (fun e => by have := V.int.inj e; omega)]
      refine iteF ?_
      refine ⟨_, rfl, rfl, _, rfl, ?_⟩
      rw [decide_eq_false (fun e => by have := V.int.inj e; omega)]
      refine iteF ?_
      refine ⟨_, rfl, rfl, _, rfl, ?_⟩
      rw [decide_eq_true (by rw [e9])]
      refine iteT ?_
      refine ⟨_, rfl, _, rfl, _, rfl, c, _, rfl, hc, fun l nl => ?_⟩
      have k := same_new (o := .lst (cutV ((encP (.merge b)).map V.int) (some 1) none)) nl
      exact ⟨p, l, s', b, rfl, hS.same k, SqL.of (by rw [upd_same]; exact congrArg (fun y => some (HO.lst y)) (cut_from _ 1)), fit, q.mono k⟩
    | pack =>
      simp only [encP, enc, List.cons.injEq] at ez
      obtain ⟨rfl, rfl⟩ := ez
      refine ⟨_, rfl, rfl, _, rfl, ?_⟩
      rw [decide_eq_false (fun e => by have := V.int.inj e; omega)]
      refine iteF ⟨_, rfl, rfl, _, rfl, ?_⟩
      rw [decide_eq_false (fun e => by have := V.int.inj e; omega)]
      refine iteF ?_
      refine ⟨_, rfl, rfl, _, rfl, ?_⟩
      rw [decide_eq_false (fun e => by have := V.int.inj e; omega)]
      refine iteF ?_
      refine ⟨_, rfl, rfl, _, rfl, ?_⟩
      rw [decide_eq_false (fun e => by have := V.int.inj e; omega)]
      refine iteF ?_
      refine ⟨_, rfl, rfl, _, rfl, ?_⟩
      rw [decide_eq_false (fun e => by have := V.int.inj e; omega)]
      refine iteF ?_
      refine ⟨_, rfl, rfl, _, rfl, ?_⟩
      rw [decide_eq_false (fun e => by have := V.int.inj e; omega)]
      refine iteF ?_
      refine ⟨_, rfl, rfl, _, rfl, ?_⟩
      rw [decide_eq_false (fun e => by have := V.int.inj e; omega)]
      refine iteF ?_
      refine ⟨_, rfl, rfl, _, rfl, ?_⟩
      rw [decide_eq_false (fun e => by have := V.int.inj e; omega)]
      refine iteF ?_
      refine ⟨_, rfl, rfl, _, rfl, ?_⟩
      rw [decide_eq_false (fun e => by have := V.int.inj e; omega)]
      refine iteF ?_
      refine ⟨(by show 1 ≤ sizeLine; decide), fun b1 n1 => ?_⟩
      have k1 := same_new (o := .lst [.int zd]) n1
      have hdl : d.length ≤ 1024 := by rw [pm.length_eq]; have := ok.len; have := ok.k2; omega
      refine ⟨_, rfl, p, t, _, _, _, d, rfl, S.same k1, by omega, fun H2 l2 h2 n2 s2 => ?_⟩
      have hb : ofN (packN s'.k s'.n s'.err d) = ofB (Hv.pack s') := by
        rw [packN_pack, tab_of pm ok]
      rw [hb] at h2
      have hbl : (ofB (Hv.pack s')).length ≤ 17000 := by
        rw [ofB_len, pack_len]
        have := ok.len
        have := ok.k2
        omega
      refine ⟨l2, _, rfl, h2, by omega, fun H3 l3 h3 n3 s3 => ?_⟩
      refine ⟨b1, l3, _, _, rfl, rfl, s3 _ _ (s2 _ _ upd_same), h3, (by simp only [List.length_map, List.length_cons, List.length_nil, sizeLine_eq]; omega), fun r hrn => ?_⟩
      have k := (k1.trans s2).trans s3
      refine q.same hS rfl (k.trans (same_new hrn)) ?_ (k.free hrn)
      rw [upd_same, ed]
      rfl
    | _ => cases nds
theorem ok_acall {ad : Adr} (T : Txt K mg ad) : FnOk P w K mg base CX0 9 ad.f_answer_call ad.fd_answer_call ["line", "call"] (spACall ad.C_Summary ad.C_Line K) := by
  refine T.F_answer_call.ok sc_answer_call (fun vs H Q E h => ?_) (fun cdv A outer s H vs Q E hr h => ?_)
  · obtain ⟨ln, c, st, cl, rfl, _⟩ := h
    rfl
  · obtain ⟨ln, c, st, cl, rfl, hne, L, hc, fit, q⟩ := h
    obtain ⟨z1, t1, e1, g1⟩ := T.c_INIT
    obtain ⟨z2, t2, e2, g2⟩ := T.c_UNPACK
    obtain ⟨z9, t9, e9, g9⟩ := T.c_NO_SUMMARY
    obtain ⟨dl, u, hl⟩ := L.obj
    have hr7 : Room 7 _ := hr.mono (by decide)
    refine ⟨_, pss_cons (ps_if (pt_cmpR op_eq (pe_ix ix_list (pv 1) pe_int (fun _ _ => rfl)) (pe_glob (v := .int z1) (by rfl) g1 ⟨t1, rfl⟩) (nomark _)) (pss_one (ps_ret (pe_call (ok_ainit T) (hr.mono (by decide)) (by rfl) T.g_answer_init T.F_answer_init.kp T.b_answer_init .nil pass0 (pa_cons (pv 0) (pa_cons (pe_ix ix_list (pv 1) pe_int (fun _ _ => rfl)) pa_nil))))) pss_nil)
      (pss_cons (ps_if (pt_cmpR op_eq (pe_ix ix_list (pv 1) pe_int (fun _ _ => rfl)) (pe_glob (v := .int z2) (by rfl) g2 ⟨t2, rfl⟩) (nomark _)) (pss_one (ps_ret (pe_call (ok_aunpack T) hr7 (by rfl) T.g_answer_unpack T.F_answer_unpack.kp T.b_answer_unpack .nil pass0 (pa_cons (pv 0) (pa_cons (pe_slice sl_list (pv 1) (po_some pe_int) po_none) pa_nil))))) pss_nil)
      (pss_cons (ps_if (pt_cmp (pc_isN (pe_fld (pv 0) rfl))) (pss_one (ps_ret (pe_lst (pa_cons (pe_glob (v := .int z9) (by rfl) g9 ⟨t9, rfl⟩) pa_nil)))) pss_nil)
      (pss_one (ps_ret (pe_call (ok_aof T) hr (by rfl) T.g_answer_of_summary T.F_answer_of_summary.kp T.b_answer_of_summary .nil pass0 (pa_cons (pe_fld (pv 0) rfl) (pa_cons (pv 1) pa_nil))))))), ?_⟩
    obtain ⟨z, r, ez⟩ := encP_ne cl
    refine ⟨_, rfl, c, _, _, V.int z, rfl, rfl, hc, at_of (j := 0) rfl (by rw [ez]; rfl), rfl, _, rfl, ?_⟩
    by_cases hi : ∃ k, cl = .init k
    · obtain ⟨k, rfl⟩ := hi
      simp only [encP, enc, List.cons.injEq] at ez
      obtain ⟨rfl, rfl⟩ := ez
      rw [decide_eq_true (by rw [e1])]
      refine iteT ⟨_, rfl, _, rfl, c, _, _, V.int k, rfl, rfl, hc, at_of (j := 1) rfl rfl, ?_⟩
      exact ⟨ln, k, st, rfl, L, fun H' r h1 h2 h3 h4 => q H' r h1 h2 h3 h4⟩
    · have hz : ¬ z = 1 := by
        intro e
        subst e
        cases cl <;> first | exact hi ⟨_, rfl⟩ | (simp only [encP, enc, List.cons.injEq] at ez; omega)
      rw [decide_eq_false (fun e => by have := V.int.inj e; omega)]
      refine iteF ⟨_, rfl, c, _, _, V.int z, rfl, rfl, hc, at_of (j := 0) rfl (by rw [ez]; rfl), rfl, _, rfl, ?_⟩
      by_cases hun : ∃ b, cl = .unpack b
      · obtain ⟨b, rfl⟩ := hun
        simp only [encP, List.cons.injEq] at ez
        obtain ⟨rfl, rfl⟩ := ez
        rw [decide_eq_true (by rw [e2])]
        refine iteT ⟨_, rfl, _, rfl, _, rfl, c, _, rfl, hc, fun l nl => ?_⟩
        have k := same_new (o := .lst (cutV ((encP (.unpack b)).map V.int) (some 1) none)) nl
        exact ⟨ln, l, st, b, rfl, L.same k, SqL.of (by rw [upd_same]; exact congrArg (fun y => some (HO.lst y)) (cut_from _ 1)), fit, fun H' r h1 h2 h3 h4 => q H' r h1 h2 (k.free h3) (Lists.trans (.of_same k) h4)⟩
      · have hz2 : ¬ z = 11 := by
          intro e
          subst e
          cases cl <;> first | exact hun ⟨_, rfl⟩ | (simp only [encP, enc, List.cons.injEq] at ez; omega)
        have nd : needs cl = true := by cases cl <;> first | rfl | exact absurd ⟨_, rfl⟩ hi | exact absurd ⟨_, rfl⟩ hun
        rw [decide_eq_false (fun e => by have := V.int.inj e; omega)]
        refine iteF ⟨_, rfl, ln, _, dl, _, _, rfl, hl, T.cl_Line, T.no_Line_summary, lf_s _, _, rfl, ?_⟩
        cases L with
        | no h =>
          rw [hl] at h
          cases h
          refine iteT ⟨(by show 1 ≤ sizeLine; decide), fun r hrn => ?_⟩
          refine q _ r ?_ ?_ hrn (.of_same (same_new hrn))
          · rw [step_none nd]; exact .no (same_new hrn _ _ hl)
          · rw [upd_same, step_none nd, e9]; rfl
        | @yes dx' p s' h hs =>
          rw [hl] at h
          cases h
          refine iteF ⟨_, rfl, ln, _, dl, _, _, rfl, hl, T.cl_Line, T.no_Line_summary, lf_s _, _, rfl, p, c, s', cl, rfl, hs, hc, nd, fit, fun H' r h1 h2 h3 h4 h5 => ?_⟩
          refine q H' r ?_ (by rw [step_some nd]; exact h2) h3 h4
          rw [step_some nd]
          refine .yes (h5 ln _ _ _ hl ?_) h1
          obtain ⟨t, d, ⟨⟨dx2, hp⟩, _⟩, _⟩ := hs
          intro e
          subst e
          rw [hl] at hp
          injection hp with hp
          injection hp with hp
          exact hne hp.symm
end
def spLInit (CL : Addr) : Sp := fun vs H Q _ => ∃ (p dx : Addr), vs = [.ref p] ∧ H p = some (.ins CL dx []) ∧ ∀ H' : Hp, H' p = some (.ins CL dx (lf .non)) → (∀ b o, H b = some o → b ≠ p → H' b = some o) → Q .non H'
def spAns (K : PySem.W.Frag) : Sp := fun vs H Q _ => ∃ (a : Addr) (ns : List Int), vs = [.ref a] ∧ SqL K H a (ns.map V.int) ∧ ns.length ≤ 16000 ∧ PyYqhvya.answers_asked ns = true ∧
  ∀ (H' : Hp) (p : Addr), H' p = some (.lst ((PyYqhvya.answers ns).map V.int)) → Q (.ref p) H'
theorem LineAt.lset {C CL : Addr} {H : Hp} {ln l : Addr} {st : HvCalls.State} {xs ys : List V} (h : LineAt C CL H ln st) (hl : H l = some (.lst xs)) : LineAt C CL (upd H l (.lst ys)) ln st := by
  cases h with
  | no h => exact .no (by rw [upd_ne (ne_of h hl (by intro z; cases z))]; exact h)
  | yes h hs =>
    obtain ⟨t, d, ⟨⟨dx2, hp2⟩, ht2⟩, pm, ok⟩ := hs
    exact .yes (by rw [upd_ne (ne_of h hl (by intro z; cases z))]; exact h) ⟨t, d, ⟨⟨dx2, by rw [upd_ne (ne_of hp2 hl (by intro z; cases z))]; exact hp2⟩, by rw [upd_ne (ne_of ht2 hl (by intro z; cases z))]; exact ht2⟩, pm, ok⟩
section
variable {P : Program} {w : World} {K : PySem.W.Frag} {mg : Str → Option Value} {base : Heap}
theorem ok_linit {ad : Adr} (T : Txt K mg ad) : FnOk P w K mg base CX0 1 ad.f_Line_init ad.fd_Line_init ["self"] (spLInit ad.C_Line) := by
  refine T.F_Line_init.ok sc_Line_init (fun vs H Q E h => ?_) (fun cdv A outer s H vs Q E hr h => ?_)
  · obtain ⟨p, dx, rfl, _⟩ := h
    rfl
  · obtain ⟨p, dx, rfl, hp, q⟩ := h
    refine ⟨_, pss_one (ps_fld (pv 0) pe_non rfl), ?_⟩
    refine ⟨_, rfl, p, _, dx, [], rfl, hp, T.cl_Line, T.no_Line_summary, (by show 0 < 1000; decide), ?_⟩
    exact q _ upd_same fun b o e hb => by rw [upd_ne hb]; exact e
theorem ok_ans {ad : Adr} (T : Txt K mg ad) : FnOk P w K mg base CX0 12 ad.f_answers ad.fd_answers ["calls"] (spAns K) := by
  refine T.F_answers.ok sc_answers (fun vs H Q E h => ?_) (fun cdv A outer s H vs Q E hr h => ?_)
  · obtain ⟨a, ns, rfl, _⟩ := h
    rfl
  · obtain ⟨a, ns, rfl, hS, hlen, hask, q⟩ := h
    obtain ⟨cs, ens, hfit, h20, eout⟩ := spec_of hask
    rw [eout] at q
    subst ens
    have nd := sc_answers.nd
    refine ⟨_, pss_cons (ps_set (i := 1) nd rfl (Or.inl rfl) (pe_make0 T.mk_Line (ok_linit T) (hr.mono (by decide)) (by rfl) T.g_Line T.b_Line_init .nil pass0)) (pss_cons (ps_set (i := 2) nd rfl (Or.inl rfl) (pe_lst pa_nil))
      (pss_cons (ps_for PassesOwn.never rfl (pi_list (pe_call (ok_split T) (hr.mono (by decide)) (by rfl) T.g_split_calls T.F_split_calls.kp T.b_split_calls .nil pass0 (pa_cons (pv 0) pa_nil))) (pg_name (i := 3) nd rfl (Or.inl rfl))
        (pss_cons (ps_set (i := 4) nd rfl (Or.inl rfl) (pe_call (ok_acall T) (hr.mono (by decide)) (by rfl) T.g_answer_call T.F_answer_call.kp T.b_answer_call .nil pass0 (pa_cons (pv 1) (pa_cons (pv 3) pa_nil))))
          (pss_cons (ps_expr (pe_bm PySem.F.plainAttrs_list PySem.F.slot_list_append PySem.F.type_list_append mt_append (pv 2) (pa_cons (pe_callB call_len_seq (by rfl) T.n_len PySem.boot_len (pa_cons (pv 4) pa_nil)) pa_nil)))
            (pss_one (ps_expr (pe_bm PySem.F.plainAttrs_list PySem.F.slot_list_extend PySem.F.type_list_extend mt_extend (pv 2) (pa_cons (pv 4) pa_nil)))))))
        (pss_one (ps_ret (pv 2))))), ?_⟩
    intro ln dl n1 n2 n3
    refine ⟨ln, dl, rfl, upd_same, fun H1 hl1 kp => ⟨rfl, ?_⟩⟩
    have s1 : Same H H1 := Same.made n1 n2 kp
    refine ⟨Nat.zero_le _, fun l hl => ?_⟩
    have s2 : Same H1 (upd H1 l (.lst [])) := same_new hl
    have hll : l ≠ ln := Ne.symm (ne_of_none hl1 hl)
    refine ⟨_, rfl, a, cs, rfl, (s1.trans s2).seq hS, hlen, fun H2 p ps hp hps s3 hpn => ?_⟩
    have hpl : p ≠ l := fun e => by subst e; rw [upd_same] at hpn; cases hpn
    have hqs : ∀ q c, H2 q = some (.lst ((encP c).map V.int)) → q ≠ l := fun q c hq e => by
      subst e
      rw [s3 _ _ upd_same] at hq
      obtain ⟨z, r, ez⟩ := encP_ne c
      rw [ez] at hq
      injection hq with hq
      injection hq with hq
      cases hq
    have hl2 : H2 l = some (.lst []) := s3 _ _ upd_same
    have hn2 : H2 ln = some (.ins ad.C_Line dl (lf .non)) := s3 _ _ (s2 _ _ hl1)
    have hpsl : ps.length = cs.length := Paired.length hps
    refine ⟨p, rfl, ⟨_, SqL.of hp⟩, for_list (K := K) (a := p) (xs := ps.map V.ref)
      (fun i σ H' => ∃ v3 v4, σ = [some (.ref a), some (.ref ln), some (.ref l), v3, v4] ∧ LineAt ad.C_Summary ad.C_Line H' ln (after none (cs.take i)) ∧ H' l = some (.lst ((out none (cs.take i)).map V.int)) ∧
        H' p = some (.lst (ps.map V.ref)) ∧ Paired (fun q c => H' q = some (.lst ((encP c).map V.int)) ∧ q ≠ l) ps cs)
      ⟨none, none, rfl, .no hn2, hl2, hp, Paired.mapP hps fun b c hb => ⟨hb, hqs b c hb⟩⟩ (fun i σ H' _ ⟨_, _, _, _, _, z, _⟩ => SqL.of z) ?_ ?_⟩
    · rintro i y σ H' hi ⟨v3, v4, rfl, hL, ho, hp', hps'⟩
      rw [List.getElem?_map] at hi
      cases hpi : ps[i]? with
      | none => rw [hpi] at hi; cases hi
      | some c0 =>
        rw [hpi] at hi
        have ey : V.ref c0 = y := Option.some.inj hi
        subst ey
        obtain ⟨cl, hcl, hq, hql⟩ := Paired.get' hps' hpi
        have hm := List.mem_of_getElem? hcl
        refine ⟨_, rfl, _, rfl, ln, c0, _, cl, rfl, T.ne_Summary_Line, hL, SqL.of hq, hfit cl hm, fun H3 r hL3 hr3 hrn L3 => ?_⟩
        have okS : OkS (after none (cs.take i)) := after_ok trivial fun c hc => hfit c (List.mem_of_mem_take hc)
        have hb1 := told_len okS cl
        have hb2 := out_len (cs := cs.take i) (s := none) trivial fun c hc => hfit c (List.mem_of_mem_take hc)
        have hti : (cs.take i).length ≤ 20 := by rw [List.length_take]; omega
        have ho3 := L3 _ _ ho trivial
        have hrl : r ≠ l := fun e => by subst e; rw [ho] at hrn; cases hrn
        have hrp : r ≠ p := fun e => by subst e; rw [hp'] at hrn; cases hrn
        -- told.append(len(answer)); told.extend(answer)
        refine ⟨_, rfl, .inl ⟨rfl, _, SqL.of ho3⟩, _, rfl, r, _, rfl, .inl (SqL.of hr3), l, _, _, rfl, rfl, ho3, (by rw [List.length_map, sizeLine_eq]; omega), ?_⟩
        refine ⟨_, rfl, .inl ⟨rfl, _, SqL.of upd_same⟩, _, rfl, l, r, _, _, rfl, rfl, upd_same, (by rw [upd_ne hrl]; exact hr3), (by rw [List.length_append, List.length_map, List.length_map, List.length_singleton, sizeLine_eq]; omega), ?_⟩
        refine ⟨_, _, rfl, ?_, ?_, ?_, ?_⟩
        · rw [take_snoc hcl, after_snoc]
          exact (hL3.lset ho3).lset upd_same
        · rw [upd_same, take_snoc hcl, out_snoc, List.map_append, List.map_cons, List.append_assoc, List.length_map]
          rfl
        · rw [upd_ne hpl, upd_ne hpl]; exact L3 _ _ hp' trivial
        · exact Paired.mapP hps' fun b c hb => ⟨by rw [upd_ne hb.2, upd_ne hb.2]; exact L3 _ _ hb.1 trivial, hb.2⟩
    · rintro σ H' ⟨v3, v4, rfl, hL, ho, hp', hps'⟩
      rw [List.length_map, hpsl, List.take_length] at ho
      exact ⟨_, rfl, q H' l ho⟩
end
end HvM

end
set_option Elab.async false
set_option linter.all false
set_option maxRecDepth 100000
set_option maxHeartbeats 4000000
namespace HvM
open PySem PySem.Spec PyProof.Rows L2
open PySem.W (Codec)
theorem all_mk {P : Program} {w : World} {K : PySem.W.Frag} {h : Heap} {mg : Str → Option Value} {fa : Addr} {t : Adr} (X : K.In h) (G : h.Ns mainGlobals mg) (hfa : mg "answers" = some (.ref fa)) (T : Txt K mg t) :
    ∃ fd : FuncData, (∀ (s : Shared) (us : List Value), us.length = (["calls"] : List Str).length → BindsTo s fd ⟨us, []⟩ ((["calls"] : List Str).zip us)) ∧ ∀ base : Heap, K.In base → base.Ns mainGlobals mg → FnOk P w K mg base CX0 12 fa fd ["calls"] (spAns K) := by
  have e := hfa.symm.trans T.g_answers
  cases e
  refine ⟨t.fd_answers, fun s us hu => ?_, fun base _ _ => ok_ans T⟩
  obtain ⟨oc, od, kV, doc, pm, an, cdv, ct, osl, e, lk, hcd⟩ := T.F_answers.ex
  rw [e]
  match us, hu with
  | [_], _ => exact .of_eq rfl
end HvM
open PySem PySem.W PyProof.Rows
set_option maxRecDepth 100000 in
set_option maxHeartbeats 0 in
theorem PySem.Challenge.cw_heavykeys_s01_answers_holds : PySem.Challenge.rw_heavykeys_s01_answers.Holds := by
  w_on; k_headS; (case hw => exact ⟨[.list [.int 3]], by decide +kernel, by decide +kernel⟩)
  k_fillS
  refine L2.walk_specK (r := PySem.Challenge.rw_heavykeys_s01_answers) (k := 12) (CX := L2.CX0) (ps := ["calls"]) (sp := HvM.spAns) (by decide +kernel) rfl rfl ⟨rfl, by decide, by decide⟩ (fun w h Y => PySem.W.kIn_of Y) ?F ?S (fun _ _ _ _ z => z)
  case F =>
    intro w mg fa h Y KX G hmg
    refine' HvM.all_mk KX G hmg (HvM.txt_mk KX G ?a_Summary ?a_Line ?a_is_k ?l_is_k ?c_is_k ?k_is_k ?a_rank ?l_rank ?c_rank ?k_rank ?a_Summary_init ?i_Summary_init ?l_Summary_init ?c_Summary_init ?k_Summary_init ?a_Summary_ordered ?i_Summary_ordered ?l_Summary_ordered ?c_Summary_ordered ?k_Summary_ordered ?a_Summary_low ?i_Summary_low ?l_Summary_low ?c_Summary_low ?k_Summary_low ?a_Summary_high ?i_Summary_high ?l_Summary_high ?c_Summary_high ?k_Summary_high ?a_Summary_is_above ?i_Summary_is_above ?l_Summary_is_above ?c_Summary_is_above ?k_Summary_is_above ?a_Summary_can_take ?i_Summary_can_take ?l_Summary_can_take ?c_Summary_can_take ?k_Summary_can_take ?a_Summary_add ?i_Summary_add ?l_Summary_add ?c_Summary_add ?k_Summary_add ?a_Summary_can_merge ?i_Summary_can_merge ?l_Summary_can_merge ?c_Summary_can_merge ?k_Summary_can_merge ?a_Summary_merge ?i_Summary_merge ?l_Summary_merge ?c_Summary_merge ?k_Summary_merge ?a_Summary_keep ?i_Summary_keep ?l_Summary_keep ?c_Summary_keep ?k_Summary_keep ?a_Summary_is_within_limits ?i_Summary_is_within_limits ?l_Summary_is_within_limits ?c_Summary_is_within_limits ?k_Summary_is_within_limits ?a_Summary_is_proper ?i_Summary_is_proper ?l_Summary_is_proper ?c_Summary_is_proper ?k_Summary_is_proper ?a_bytes_of ?l_bytes_of ?c_bytes_of ?k_bytes_of ?a_number_of ?l_number_of ?c_number_of ?k_number_of ?a_pack ?l_pack ?c_pack ?k_pack ?a_parse ?l_parse ?c_parse ?k_parse ?a_unpack ?l_unpack ?c_unpack ?k_unpack ?a_Line_init ?i_Line_init ?l_Line_init ?c_Line_init ?k_Line_init ?a_split_calls ?l_split_calls ?c_split_calls ?k_split_calls ?a_with_length ?l_with_length ?c_with_length ?k_with_length ?a_answer_init ?l_answer_init ?c_answer_init ?k_answer_init ?a_answer_unpack ?l_answer_unpack ?c_answer_unpack ?k_answer_unpack ?a_answer_stream ?l_answer_stream ?c_answer_stream ?k_answer_stream ?a_answer_bounds ?l_answer_bounds ?c_answer_bounds ?k_answer_bounds ?a_answer_entry ?l_answer_entry ?c_answer_entry ?k_answer_entry ?a_answer_heavy ?l_answer_heavy ?c_answer_heavy ?k_answer_heavy ?a_answer_merge ?l_answer_merge ?c_answer_merge ?k_answer_merge ?a_answer_of_summary ?l_answer_of_summary ?c_answer_of_summary ?k_answer_of_summary ?a_answer_call ?l_answer_call ?c_answer_call ?k_answer_call ?a_answers ?l_answers ?c_answers ?k_answers ?pg_Summary ?hd_Summary ?po_Summary ?sa_Summary ?mk_Summary ?kc_Summary ?no_Summary_k ?no_Summary_total ?no_Summary_error ?no_Summary_table ?pg_Line ?hd_Line ?po_Line ?sa_Line ?mk_Line ?kc_Line ?no_Line_summary ?ne_Summary_Line ?a_GREATEST_K ?e_GREATEST_K ?a_WEIGHT_END ?e_WEIGHT_END ?a_TOTAL_END ?e_TOTAL_END ?a_HEAD_WIDTH ?e_HEAD_WIDTH ?a_ENTRY_WIDTH ?e_ENTRY_WIDTH ?a_INIT ?e_INIT ?a_ADD ?e_ADD ?a_TOTAL ?e_TOTAL ?a_ERROR ?e_ERROR ?a_BOUNDS ?e_BOUNDS ?a_COUNT ?e_COUNT ?a_ENTRY ?e_ENTRY ?a_HEAVY ?e_HEAVY ?a_MERGE ?e_MERGE ?a_UNPACK ?e_UNPACK ?a_STREAM ?e_STREAM ?a_DONE ?e_DONE ?a_REFUSED ?e_REFUSED ?a_NO_ENTRY ?e_NO_ENTRY ?a_ERROR_ABOVE ?e_ERROR_ABOVE ?a_NO_SUMMARY ?e_NO_SUMMARY ?a_NUMBERS_BEHIND ?l_NUMBERS_BEHIND ?b_NUMBERS_BEHIND ?s_NUMBERS_BEHIND ?a_WITH_ROW ?l_WITH_ROW ?z_WITH_ROW ?v_WITH_ROW ?n_dict ?n_len ?n_list ?n_max ?n_range ?n_reversed ?n_sorted ?n_sum ?n_zip)
    (case a_Summary => k_is)
    (case a_Line => k_is)
    (case a_is_k => k_is)
    (case l_is_k => k_is)
    (case c_is_k => k_is)
    (case k_is_k => k_is)
    (case a_rank => k_is)
    (case l_rank => k_is)
    (case c_rank => k_is)
    (case k_rank => k_is)
    (case a_Summary_init => k_is)
    (case i_Summary_init => k_is)
    (case l_Summary_init => k_is)
    (case c_Summary_init => k_is)
    (case k_Summary_init => k_is)
    (case a_Summary_ordered => k_is)
    (case i_Summary_ordered => k_is)
    (case l_Summary_ordered => k_is)
    (case c_Summary_ordered => k_is)
    (case k_Summary_ordered => k_is)
    (case a_Summary_low => k_is)
    (case i_Summary_low => k_is)
    (case l_Summary_low => k_is)
    (case c_Summary_low => k_is)
    (case k_Summary_low => k_is)
    (case a_Summary_high => k_is)
    (case i_Summary_high => k_is)
    (case l_Summary_high => k_is)
    (case c_Summary_high => k_is)
    (case k_Summary_high => k_is)
    (case a_Summary_is_above => k_is)
    (case i_Summary_is_above => k_is)
    (case l_Summary_is_above => k_is)
    (case c_Summary_is_above => k_is)
    (case k_Summary_is_above => k_is)
    (case a_Summary_can_take => k_is)
    (case i_Summary_can_take => k_is)
    (case l_Summary_can_take => k_is)
    (case c_Summary_can_take => k_is)
    (case k_Summary_can_take => k_is)
    (case a_Summary_add => k_is)
    (case i_Summary_add => k_is)
    (case l_Summary_add => k_is)
    (case c_Summary_add => k_is)
    (case k_Summary_add => k_is)
    (case a_Summary_can_merge => k_is)
    (case i_Summary_can_merge => k_is)
    (case l_Summary_can_merge => k_is)
    (case c_Summary_can_merge => k_is)
    (case k_Summary_can_merge => k_is)
    (case a_Summary_merge => k_is)
    (case i_Summary_merge => k_is)
    (case l_Summary_merge => k_is)
    (case c_Summary_merge => k_is)
    (case k_Summary_merge => k_is)
    (case a_Summary_keep => k_is)
    (case i_Summary_keep => k_is)
    (case l_Summary_keep => k_is)
    (case c_Summary_keep => k_is)
    (case k_Summary_keep => k_is)
    (case a_Summary_is_within_limits => k_is)
    (case i_Summary_is_within_limits => k_is)
    (case l_Summary_is_within_limits => k_is)
    (case c_Summary_is_within_limits => k_is)
    (case k_Summary_is_within_limits => k_is)
    (case a_Summary_is_proper => k_is)
    (case i_Summary_is_proper => k_is)
    (case l_Summary_is_proper => k_is)
    (case c_Summary_is_proper => k_is)
    (case k_Summary_is_proper => k_is)
    (case a_bytes_of => k_is)
    (case l_bytes_of => k_is)
    (case c_bytes_of => k_is)
    (case k_bytes_of => k_is)
    (case a_number_of => k_is)
    (case l_number_of => k_is)
    (case c_number_of => k_is)
    (case k_number_of => k_is)
    (case a_pack => k_is)
    (case l_pack => k_is)
    (case c_pack => k_is)
    (case k_pack => k_is)
    (case a_parse => k_is)
    (case l_parse => k_is)
    (case c_parse => k_is)
    (case k_parse => k_is)
    (case a_unpack => k_is)
    (case l_unpack => k_is)
    (case c_unpack => k_is)
    (case k_unpack => k_is)
    (case a_Line_init => k_is)
    (case i_Line_init => k_is)
    (case l_Line_init => k_is)
    (case c_Line_init => k_is)
    (case k_Line_init => k_is)
    (case a_split_calls => k_is)
    (case l_split_calls => k_is)
    (case c_split_calls => k_is)
    (case k_split_calls => k_is)
    (case a_with_length => k_is)
    (case l_with_length => k_is)
    (case c_with_length => k_is)
    (case k_with_length => k_is)
    (case a_answer_init => k_is)
    (case l_answer_init => k_is)
    (case c_answer_init => k_is)
    (case k_answer_init => k_is)
    (case a_answer_unpack => k_is)
    (case l_answer_unpack => k_is)
    (case c_answer_unpack => k_is)
    (case k_answer_unpack => k_is)
    (case a_answer_stream => k_is)
    (case l_answer_stream => k_is)
    (case c_answer_stream => k_is)
    (case k_answer_stream => k_is)
    (case a_answer_bounds => k_is)
    (case l_answer_bounds => k_is)
    (case c_answer_bounds => k_is)
    (case k_answer_bounds => k_is)
    (case a_answer_entry => k_is)
    (case l_answer_entry => k_is)
    (case c_answer_entry => k_is)
    (case k_answer_entry => k_is)
    (case a_answer_heavy => k_is)
    (case l_answer_heavy => k_is)
    (case c_answer_heavy => k_is)
    (case k_answer_heavy => k_is)
    (case a_answer_merge => k_is)
    (case l_answer_merge => k_is)
    (case c_answer_merge => k_is)
    (case k_answer_merge => k_is)
    (case a_answer_of_summary => k_is)
    (case l_answer_of_summary => k_is)
    (case c_answer_of_summary => k_is)
    (case k_answer_of_summary => k_is)
    (case a_answer_call => k_is)
    (case l_answer_call => k_is)
    (case c_answer_call => k_is)
    (case k_answer_call => k_is)
    (case a_answers => k_is)
    (case l_answers => k_is)
    (case c_answers => k_is)
    (case k_answers => k_is)
    (case pg_Summary => k_is)
    (case hd_Summary => k_is)
    (case po_Summary => k_is)
    (case sa_Summary => k_is)
    (case mk_Summary => k_is)
    (case kc_Summary => k_is)
    (case no_Summary_k => k_is)
    (case no_Summary_total => k_is)
    (case no_Summary_error => k_is)
    (case no_Summary_table => k_is)
    (case pg_Line => k_is)
    (case hd_Line => k_is)
    (case po_Line => k_is)
    (case sa_Line => k_is)
    (case mk_Line => k_is)
    (case kc_Line => k_is)
    (case no_Line_summary => k_is)
    (case ne_Summary_Line => exact (by decide))
    (case a_GREATEST_K => k_is)
    (case e_GREATEST_K => rfl)
    (case a_WEIGHT_END => k_is)
    (case e_WEIGHT_END => rfl)
    (case a_TOTAL_END => k_is)
    (case e_TOTAL_END => rfl)
    (case a_HEAD_WIDTH => k_is)
    (case e_HEAD_WIDTH => rfl)
    (case a_ENTRY_WIDTH => k_is)
    (case e_ENTRY_WIDTH => rfl)
    (case a_INIT => k_is)
    (case e_INIT => rfl)
    (case a_ADD => k_is)
    (case e_ADD => rfl)
    (case a_TOTAL => k_is)
    (case e_TOTAL => rfl)
    (case a_ERROR => k_is)
    (case e_ERROR => rfl)
    (case a_BOUNDS => k_is)
    (case e_BOUNDS => rfl)
    (case a_COUNT => k_is)
    (case e_COUNT => rfl)
    (case a_ENTRY => k_is)
    (case e_ENTRY => rfl)
    (case a_HEAVY => k_is)
    (case e_HEAVY => rfl)
    (case a_MERGE => k_is)
    (case e_MERGE => rfl)
    (case a_UNPACK => k_is)
    (case e_UNPACK => rfl)
    (case a_STREAM => k_is)
    (case e_STREAM => rfl)
    (case a_DONE => k_is)
    (case e_DONE => rfl)
    (case a_REFUSED => k_is)
    (case e_REFUSED => rfl)
    (case a_NO_ENTRY => k_is)
    (case e_NO_ENTRY => rfl)
    (case a_ERROR_ABOVE => k_is)
    (case e_ERROR_ABOVE => rfl)
    (case a_NO_SUMMARY => k_is)
    (case e_NO_SUMMARY => rfl)
    (case a_NUMBERS_BEHIND => k_is)
    (case l_NUMBERS_BEHIND => k_is)
    (case b_NUMBERS_BEHIND => rfl)
    (case s_NUMBERS_BEHIND => rfl)
    (case a_WITH_ROW => k_is)
    (case l_WITH_ROW => k_is)
    (case z_WITH_ROW => exact (by decide))
    (case v_WITH_ROW => exact (.cons ⟨_, rfl⟩ (.cons ⟨_, rfl⟩ (.cons ⟨_, rfl⟩ .nil))))
    (case n_dict => k_is)
    (case n_len => k_is)
    (case n_list => k_is)
    (case n_max => k_is)
    (case n_range => k_is)
    (case n_reversed => k_is)
    (case n_sorted => k_is)
    (case n_sum => k_is)
    (case n_zip => k_is)
  case S =>
    intro K H xs a hO hwi hask hx
    cases hx with
    | cons h1 h2 =>
      cases h2
      cases h1 with
      | lst hs ha =>
        have e := L2.ints_dw a.1 _ ha
        subst e
        have q : ((Codec.inLen 0 16000 a.1 && a.1.all (Codec.inInt 0 18446744073709551615)) && true) = true := hwi
        rw [Bool.and_eq_true, Bool.and_eq_true] at q
        exact ⟨_, a.1, rfl, hs, (Codec.inNat_iff.mp q.1.1).2, hask, fun H' p hp => .lst (L2.SqL.of hp) (L2.dw_ints _)⟩


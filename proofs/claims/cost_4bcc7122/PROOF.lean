import PyProof.Rows.All
import Wide.All
import OpenK.AllK
import Wide.FinOn
import PyProof.EqAt
import PyProof.EqKinds
import PyProof.TupleCall
import KE.BitLaws
import Open.SpecLaws
import KE.OsHead
import KE.OsGo
import KE.KMinKey
import KE.KDictLaws
import PySem.Challenge.RW_wooldyes_s04_cost
set_option Elab.async false
set_option linter.all false
set_option maxRecDepth 100000
/-! THE HAND LAYER, for ints, bools, texts, own classes, lists, tuples, dicts, comprehensions, walks over dicts, enumerate, zip, reversed, texts, calls, loops. Paste it whole ahead of your own text; what your proof does not reach may be deleted. -/
namespace L2
open PySem PySem.Spec PyProof.Rows

/-- a key: an int or a str -/
abbrev Key := Sum Int Str
def keyIs : Key → Value → Bool
  | .inl k, v => Value.isInt k v
  | .inr x, v => Value.isStrOf x v
def keyH (w : World) : Key → Int
  | .inl k => hashInt k
  | .inr x => hashStr w x
theorem keyIs_shape : ∀ {k : Key} {v : Value}, keyIs k v = true → (∃ i t, k = Sum.inl i ∧ v = Value.int i t) ∨ (∃ x t, k = Sum.inr x ∧ v = Value.str x t)
  | .inl i, v, h => by
    obtain ⟨t, e⟩ := Value.isInt_shape (k := i) (v := v) h
    exact .inl ⟨i, t, rfl, e⟩
  | .inr x, v, h => by
    obtain ⟨t, e⟩ := Value.isStrOf_shape (x := x) (v := v) h
    exact .inr ⟨x, t, rfl, e⟩
theorem keyIs_int (i : Int) (t : Tok) : keyIs (.inl i) (.int i t) = true := by simp [keyIs, Value.isInt]
theorem keyIs_str (x : Str) (t : Tok) : keyIs (.inr x) (.str x t) = true := by simp [keyIs, Value.isStrOf]
theorem key_ll (a b : Int) : decide ((Sum.inl a : Key) = Sum.inl b) = (a == b) := by
  by_cases e : a = b
  · subst e; simp
  · have h : ¬ (Sum.inl a : Key) = Sum.inl b := fun q => e (Sum.inl.inj q)
    rw [decide_eq_false h]
    exact (beq_eq_false_iff_ne.mpr e).symm
theorem key_rr (a b : Str) : decide ((Sum.inr a : Key) = Sum.inr b) = decide (a = b) := by
  by_cases e : a = b
  · subst e; simp
  · have h : ¬ (Sum.inr a : Key) = Sum.inr b := fun q => e (Sum.inr.inj q)
    rw [decide_eq_false h, decide_eq_false e]
theorem key_lr (a : Int) (b : Str) : decide ((Sum.inl a : Key) = Sum.inr b) = false := decide_eq_false (fun q => nomatch q)
theorem key_rl (a : Str) (b : Int) : decide ((Sum.inr a : Key) = Sum.inl b) = false := decide_eq_false (fun q => nomatch q)

def mixKind (prog : Program) (w : World) : PySem.KeyKind prog w Key where
  is := keyIs
  hash := keyH w
  inj := fun v a b ha hb => by
    rcases keyIs_shape ha with ⟨i, t, rfl, rfl⟩ | ⟨x, t, rfl, rfl⟩
    · rcases keyIs_shape hb with ⟨j, u, rfl, e⟩ | ⟨y, u, rfl, e⟩
      · injection e with e1 _; rw [e1]
      · exact nomatch e
    · rcases keyIs_shape hb with ⟨j, u, rfl, e⟩ | ⟨y, u, rfl, e⟩
      · exact nomatch e
      · injection e with e1 _; rw [e1]
  byValue := fun k v h => by
    rcases keyIs_shape h with ⟨i, t, rfl, rfl⟩ | ⟨x, t, rfl, rfl⟩ <;> rfl
  pyHash := fun hv h => by
    rcases keyIs_shape hv with ⟨i, t, rfl, rfl⟩ | ⟨x, t, rfl, rfl⟩
    · exact wpAny_pyHash_int h
    · exact wpAny_pyHash_str h
  eqBool := fun hu hv h => by
    rcases keyIs_shape hu with ⟨i, t, rfl, rfl⟩ | ⟨x, t, rfl, rfl⟩
    · rcases keyIs_shape hv with ⟨j, u, rfl, rfl⟩ | ⟨y, u, rfl, rfl⟩
      · rw [key_ll] at h; exact wpAny_eqBool_int h
      · rw [key_lr] at h; exact SeqAt.EqAt.int_str i t y u _ _ _ _ h
    · rcases keyIs_shape hv with ⟨j, u, rfl, rfl⟩ | ⟨y, u, rfl, rfl⟩
      · rw [key_rl] at h; exact SeqAt.EqAt.str_int x t j u _ _ _ _ h
      · rw [key_rr] at h; exact wpAny_eqBool_str h
  «strs» := fun k x t v h => by
    rcases keyIs_shape h with ⟨i, u, rfl, e⟩ | ⟨y, u, rfl, e⟩
    · exact nomatch e
    · injection e with e1 _
      subst e1
      cases v <;> rfl

theorem mixKind_int (prog : Program) (w : World) (i : Int) (t : Tok) : (mixKind prog w).is (.inl i) (.int i t) = true := keyIs_int i t
theorem mixKind_str (prog : Program) (w : World) (x : Str) (t : Tok) : (mixKind prog w).is (.inr x) (.str x t) = true := keyIs_str x t
end L2

namespace L2
open PySem PySem.Spec PyProof.Rows

/-- a value, without the heap -/
inductive V where
  | non | bl (b : Bool) | int (i : Int) | str (x : Str) | byt (b : Array UInt8) | flt (b : UInt64) | ref (a : Addr) | ty (n : String)
  deriving DecidableEq

def RelV : V → Value → Prop
  | .non, u => u = Value.none
  | .bl b, u => u = Value.bool b
  | .int i, u => ∃ t, u = Value.int i t
  | .str x, u => ∃ t, u = Value.str x t
  | .byt b, u => ∃ t, u = Value.bytes b t
  | .flt b, u => ∃ t, u = Value.float b t
  | .ref a, u => u = Value.ref a
  | .ty n, u => u = Value.type n

abbrev Vals : List V → List Value → Prop := Paired RelV
theorem Vals.length {xs : List V} {us : List Value} (r : Vals xs us) : xs.length = us.length := Paired.length r
theorem Vals.get : ∀ {xs : List V} {us : List Value} {i : Nat} {x : V}, Vals xs us → xs[i]? = some x → ∃ u, us[i]? = some u ∧ RelV x u
  | _, _, _, _, .nil, e => by simp at e
  | _, _, 0, _, .cons r _, e => by simp at e; subst e; exact ⟨_, rfl, r⟩
  | _, _, i + 1, x, .cons _ t, e => by
    obtain ⟨u, h1, h2⟩ := Vals.get (i := i) (x := x) t (by simpa using e)
    exact ⟨u, by simpa using h1, h2⟩
theorem Vals.append : ∀ {xs ys : List V} {us ws : List Value}, Vals xs us → Vals ys ws → Vals (xs ++ ys) (us ++ ws)
  | _, _, _, _, .nil, s => s
  | _, _, _, _, .cons r t, s => .cons r (Vals.append t s)
theorem Vals.take : ∀ {xs : List V} {us : List Value} (n : Nat), Vals xs us → Vals (xs.take n) (us.take n)
  | _, _, 0, _ => .nil
  | _, _, _ + 1, .nil => .nil
  | _, _, n + 1, .cons r t => .cons r (Vals.take n t)
theorem Vals.drop : ∀ {xs : List V} {us : List Value} (n : Nat), Vals xs us → Vals (xs.drop n) (us.drop n)
  | _, _, 0, r => r
  | _, _, _ + 1, .nil => .nil
  | _, _, n + 1, .cons _ t => Vals.drop n t

def RelO : Option V → Option Value → Prop
  | some v, some u => RelV v u
  | none, none => True
  | _, _ => False
def KV {κ : Type} : List (κ × V) → List (κ × Value) → Prop := Paired fun (p : κ × V) (q : κ × Value) => p.1 = q.1 ∧ RelV p.2 q.2

/-- a key of a dict (00_mix): an int or a text -/
def kV : Key → V
  | .inl i => .int i
  | .inr x => .str x

/-- what stands at a tracked address -/
inductive HO where
  /-- a list -/
  | lst (xs : List V)
  /-- a tuple (never changes) -/
  | tup (xs : List V)
  /-- a dict whose keys are ints and texts; one whose keys are tuples of ints and texts (the empty one is both) -/
  | dK (kvs : List (Key × V)) | dT (kvs : List (List Key × V))
  /-- a set of ints: its members, its size -/
  | set (S : Int → Bool) (n : Nat)
  /-- an instance of the class at C, its dict at dx, its attributes -/
  | ins (C dx : Addr) (fs : List (Str × V))
  /-- the dict of the instance at x -/
  | own (x : Addr)
  /-- the dict of an exception -/
  | xd (fs : List (Str × V))
  /-- a bound method, f of x -/
  | met (f x : Addr)
  /-- a range object lo, lo + 1, .. below hi -/
  | rng (lo hi : Int)
  /-- a thing that is known to the object (the script; a dict while a loop walks it): read, never written while it is so -/
  | frz (o : Obj) (u : HO)
  /-- a code object's table -/
  | tbl (ps : Array Value)
  /-- any other thing, by what is true of its one object (a def of one's own: SetO a S n := HO.ext fun h => ..) -/
  | ext (φ : Heap → Prop)

abbrev Hp := Addr → Option HO
def upd (H : Hp) (a : Addr) (o : HO) : Hp := fun b => if b = a then some o else H b
theorem upd_same {H : Hp} {a : Addr} {o : HO} : upd H a o a = some o := by unfold upd; rw [if_pos rfl]
theorem upd_ne {H : Hp} {a b : Addr} {o : HO} (h : b ≠ a) : upd H a o b = H b := by unfold upd; rw [if_neg h]
/-- two objects of different content stand apart -/
theorem ne_of {H : Hp} {a b : Addr} {o u : HO} (h : H a = some o) (h' : H b = some u) (d : o ≠ u) : a ≠ b := by
  intro e; subst e; rw [h] at h'; exact d (Option.some.inj h')
theorem ne_of_none {H : Hp} {a b : Addr} {o : HO} (h : H a = some o) (h' : H b = none) : a ≠ b := by
  intro e; subst e; rw [h] at h'; cases h'

section
variable (P : Program) (w : World)
def ObjOk (H : Hp) (h : Heap) (a : Addr) : HO → Prop
  | .lst xs => xs.length ≤ sizeLine ∧ ∃ (its : List Value) (n : Nat), Vals xs its ∧ h.get? a = some { cls := .type "list", data := .seq its.toArray n }
  | .tup xs => xs.length ≤ sizeLine ∧ ∃ its : List Value, Vals xs its ∧ IsTup h a its.toArray
  | .dK kvs => kvs.length ≤ sizeLine ∧ (a == sysModules) = false ∧ ∃ vs, KV kvs vs ∧ h.DictOf (mixKind P w) a vs
  | .dT kvs => kvs.length ≤ sizeLine ∧ (a == sysModules) = false ∧ ∃ xs : List (List Key × Addr × Value),
      Paired (fun (p : List Key × V) (q : List Key × Addr × Value) => p.1 = q.1 ∧ H q.2.1 = some (.tup (p.1.map kV)) ∧ RelV p.2 q.2.2) kvs xs ∧
      ∃ o es ep, h.get? a = some o ∧ o.ExactDict ∧ o.data = .dict es ep ∧ es.toList = xs.map (entryOfKey (tupleKind (mixKind P w))) ∧ (xs.map (·.1)).Nodup
  | .set S n => h.SetOf (intKind P w) a S n
  | .ins C dx fs => H dx = some (.own a) ∧ fs.length ≤ 1000 ∧ dx ≠ a ∧ h.get? a = some (PySem.W.instObj C dx) ∧
      ∃ mA, h.Ns1 dx mA ∧ (∀ f, RelO (fs.lookup f) (mA f)) ∧ PySem.Within mA (fs.map (·.1))
  | .own _ => ∃ o, h.get? a = some o
  | .xd fs => ∃ mA, h.Ns1 a mA ∧ ∀ f, RelO (fs.lookup f) (mA f)
  | .rng lo hi => ∃ t u v, h.get? a = some { cls := .type "range", data := .fields #[.int lo t, .int hi u, .int 1 v] }
  | .frz o u => h.get? a = some o ∧ ObjOk H h a u
  | .tbl ps => h.get? a = some { cls := .none, data := .fields ps }
  | .met f x => h.get? a = some (PySem.W.methodObj (.ref f) (.ref x))
  | .ext φ => φ h ∧ (∃ o, h.get? a = some o) ∧ ∀ h1 h2 : Heap, φ h1 → (∀ o, h1.get? a = some o → h2.get? a = some o) → φ h2
/-- the abstract heap is held -/
def HOk (H : Hp) (h : Heap) : Prop := ∀ a o, H a = some o → ObjOk P w H h a o
end

section
variable {P : Program} {w : World} {H H' : Hp} {h h' : Heap} {a : Addr} {o : HO}
theorem ObjOk.lt (x : ObjOk P w H h a o) : a < h.objs.size := by
  cases o with
  | lst xs => obtain ⟨_, _, _, _, e⟩ := x; exact Heap.lt_size e
  | tup xs => obtain ⟨_, _, _, p⟩ := x; exact p.lt
  | dK kvs => obtain ⟨_, _, _, _, o, _, _, e, _⟩ := x; exact Heap.lt_size e
  | dT kvs => obtain ⟨_, _, _, _, o, _, _, e, _⟩ := x; exact Heap.lt_size e
  | set S n => obtain ⟨o, _, _, _, e, _⟩ := x; exact Heap.lt_size e
  | ins C dx fs => obtain ⟨_, _, _, e, _⟩ := x; exact Heap.lt_size e
  | own y => obtain ⟨_, e⟩ := x; exact Heap.lt_size e
  | xd fs => obtain ⟨_, ⟨_, _, _, e, _⟩, _⟩ := x; exact Heap.lt_size e
  | rng lo hi => obtain ⟨_, _, _, e⟩ := x; exact Heap.lt_size e
  | frz ob u => obtain ⟨e, _⟩ := x; exact Heap.lt_size e
  | tbl ps => exact Heap.lt_size (show h.get? a = some _ from x)
  | met f y => exact Heap.lt_size (show h.get? a = some _ from x)
  | ext φ => obtain ⟨_, ⟨_, e⟩, _⟩ := x; exact Heap.lt_size e
theorem Paired.mapP {α β : Type} {F G : α → β → Prop} : ∀ {l₁ : List α} {l₂ : List β}, Paired F l₁ l₂ → (∀ a b, F a b → G a b) → Paired G l₁ l₂
  | _, _, .nil, _ => .nil
  | _, _, .cons r t, f => .cons (f _ _ r) (Paired.mapP t f)
/-- what an object's description leans on: its own object, its own dict, the tuples -/
theorem ObjOk.stay (x : ObjOk P w H h a o) (k : ∀ b u, (b = a ∨ H b = some (.own a)) → h.get? b = some u → h'.get? b = some u)
    (ho : ∀ b, H b = some (.own a) → H' b = some (.own a)) (ht : ∀ b xs, H b = some (.tup xs) → H' b = some (.tup xs)) : ObjOk P w H' h' a o := by
  induction o with
  | lst xs => obtain ⟨z, its, n, r, e⟩ := x; exact ⟨z, its, n, r, k _ _ (.inl rfl) e⟩
  | tup xs => obtain ⟨z, its, r, ob, e, c⟩ := x; exact ⟨z, its, r, ob, k _ _ (.inl rfl) e, c⟩
  | dK kvs => obtain ⟨z, y, vs, r, ob, es, ep, e, c⟩ := x; exact ⟨z, y, vs, r, ob, es, ep, k _ _ (.inl rfl) e, c⟩
  | dT kvs =>
    obtain ⟨z, y, xs, r, ob, es, ep, e, c⟩ := x
    exact ⟨z, y, xs, Paired.mapP r fun p q z => ⟨z.1, ht _ _ z.2.1, z.2.2⟩, ob, es, ep, k _ _ (.inl rfl) e, c⟩
  | set S n => obtain ⟨ob, es, ep, t, e, c⟩ := x; exact ⟨ob, es, ep, t, k _ _ (.inl rfl) e, c⟩
  | ins C dx fs =>
    obtain ⟨d, z, ne, e, mA, ⟨od, es, ep, e2, c⟩, r⟩ := x
    exact ⟨ho _ d, z, ne, k _ _ (.inl rfl) e, mA, ⟨od, es, ep, k _ _ (.inr d) e2, c⟩, r⟩
  | own y => obtain ⟨ob, e⟩ := x; exact ⟨ob, k _ _ (.inl rfl) e⟩
  | xd fs => obtain ⟨mA, ⟨od, es, ep, e, c⟩, r⟩ := x; exact ⟨mA, ⟨od, es, ep, k _ _ (.inl rfl) e, c⟩, r⟩
  | rng lo hi => obtain ⟨t, u, v, e⟩ := x; exact ⟨t, u, v, k _ _ (.inl rfl) e⟩
  | frz ob u ih => obtain ⟨e, q⟩ := x; exact ⟨k _ _ (.inl rfl) e, ih q⟩
  | tbl ps =>
    have e : h.get? a = some { cls := .none, data := .fields ps } := x
    show h'.get? a = some { cls := .none, data := .fields ps }
    exact k a _ (.inl rfl) e
  | met f y =>
    have e : h.get? a = some (PySem.W.methodObj (.ref f) (.ref y)) := x
    show h'.get? a = some (PySem.W.methodObj (.ref f) (.ref y))
    exact k a _ (.inl rfl) e
  | ext φ => obtain ⟨p, ⟨o, e⟩, st⟩ := x; exact ⟨st _ _ p fun o q => k _ _ (.inl rfl) q, ⟨o, k _ _ (.inl rfl) e⟩, st⟩
theorem HOk.lt (x : HOk P w H h) (e : H a = some o) : a < h.objs.size := (x a o e).lt
theorem HOk.fresh (x : HOk P w H h) (e : h.objs.size ≤ a) : H a = none := by
  cases q : H a with
  | none => rfl
  | some u => exact absurd (Nat.lt_of_lt_of_le (x.lt q) e) (Nat.lt_irrefl _)
/-- every object of the heap is kept -/
theorem HOk.kept (x : HOk P w H h) (k : ∀ b u, h.get? b = some u → h'.get? b = some u) : HOk P w H h' := fun a o e =>
  (x a o e).stay (fun b u _ q => k b u q) (fun _ q => q) fun _ _ q => q
/-- a new object is laid and tracked -/
theorem HOk.laid (x : HOk P w H h) (k : ∀ b u, h.get? b = some u → h'.get? b = some u) (hp : h.objs.size ≤ a) (new : ObjOk P w (upd H a o) h' a o) : HOk P w (upd H a o) h' := fun b u e => by
  have hn := x.fresh hp
  by_cases hb : b = a
  · subst hb; rw [upd_same] at e; cases e; exact new
  · rw [upd_ne hb] at e
    exact (x b u e).stay (fun c v _ q => k c v q) (fun c q => by rw [upd_ne (ne_of_none q hn)]; exact q) fun c xs q => by rw [upd_ne (ne_of_none q hn)]; exact q
end

/-- what may be read as u: it is u, or a known u -/
def Rd (H : Hp) (a : Addr) (u : HO) : Prop := H a = some u ∨ ∃ o, H a = some (.frz o u)
theorem Rd.ok {P : Program} {w : World} {H : Hp} {h : Heap} {a : Addr} {u : HO} (r : Rd H a u) (x : HOk P w H h) : ObjOk P w H h a u := by
  rcases r with r | ⟨o, r⟩
  · exact x a u r
  · obtain ⟨_, q⟩ := x a _ r
    exact q
/-- what may be written -/
def Mut : Option HO → Prop
  | some (.lst _) => True
  | some (.dK _) => True
  | some (.dT _) => True
  | some (.set _ _) => True
  | some (.ins _ _ _) => True
  | some (.ext _) => True
  | _ => False
section
variable {P : Program} {w : World} {H : Hp} {h h' : Heap} {x e : Addr} {o' : HO}
/-- the object at e is changed: x itself, or the dict of the instance x -/
theorem HOk.write (ok : HOk P w H h) (mu : Mut (H x)) (he : e = x ∨ H e = some (.own x)) (k : ∀ b u, b ≠ e → h.get? b = some u → h'.get? b = some u) (heo : ∃ u, h'.get? e = some u)
    (new : ObjOk P w (upd H x o') h' x o') : HOk P w (upd H x o') h' := fun b u q => by
  have nown : ∀ c y, H c = some (.own y) → c ≠ x := fun c y r z => by subst z; rw [r] at mu; exact mu
  have ntup : ∀ c xs, H c = some (.tup xs) → c ≠ x := fun c xs r z => by subst z; rw [r] at mu; exact mu
  by_cases hb : b = x
  · subst hb; rw [upd_same] at q; cases q; exact new
  · rw [upd_ne hb] at q
    by_cases hbe : b = e
    · have q' : H b = some (.own x) := by
        rcases he with z | z
        · exact absurd (hbe.trans z) hb
        · rw [hbe]; exact z
      rw [q] at q'; cases q'
      obtain ⟨v, hv⟩ := heo
      exact ⟨v, by rw [hbe]; exact hv⟩
    · refine (ok b u q).stay (fun c v hc r => k c v ?_ r) (fun c r => by rw [upd_ne (nown c b r)]; exact r) fun c xs r => by rw [upd_ne (ntup c xs r)]; exact r
      rcases hc with rfl | hc
      · exact hbe
      · rintro rfl
        rcases he with z | z
        · exact nown c b hc z
        · rw [hc] at z; cases z; exact hb rfl
end

/-! ### kept unless tracked; of the frames at fs (the callers') the slots may change (an exception that passes writes there); of the records at ex (iterators) nothing is said -/
structure Un (fs ex : List Addr) (H H' : Hp) (h h' : Heap) : Prop where
  keep : ∀ b o, h.get? b = some o → H b = none → b ∉ fs → b ∉ ex → h'.get? b = some o
  slot : ∀ b o, h.get? b = some o → H b = none → b ∈ fs → b ∉ ex → ∃ sl, h'.get? b = some { o with slots := sl }
  free : ∀ b o, h.get? b = some o → H b = none → b ∉ ex → H' b = none
  there : ∀ b o, h.get? b = some o → b ∉ ex → ∃ o', h'.get? b = some o'
  tups : ∀ b xs, H b = some (.tup xs) → H' b = some (.tup xs)
  frzs : ∀ b o u, H b = some (.frz o u) → H' b = some (.frz o u)
  tbls : ∀ b ps, H b = some (.tbl ps) → ∃ more, H' b = some (.tbl (ps ++ more))
section
variable {fs fs' ex ex' : List Addr} {H H1 H2 : Hp} {h h1 h2 h' : Heap} {a x e : Addr} {o : HO}
theorem Un.any (u : Un fs ex H H1 h h1) {b : Addr} {ob : Obj} (q : h.get? b = some ob) (n : H b = none) (hx : b ∉ ex) : ∃ sl, h1.get? b = some { ob with slots := sl } := by
  by_cases hb : b ∈ fs
  · exact u.slot b ob q n hb hx
  · exact ⟨ob.slots, u.keep b ob q n hb hx⟩
theorem Un.kept (k : ∀ b u, h.get? b = some u → h'.get? b = some u) : Un fs ex H H h h' :=
  ⟨fun b ob q _ _ _ => k b ob q, fun b ob q _ _ _ => ⟨ob.slots, k b ob q⟩, fun _ _ _ n _ => n, fun b ob q _ => ⟨ob, k b ob q⟩, fun _ _ q => q, fun _ _ _ q => q, fun _ ps q => ⟨#[], by rw [q]; simp⟩⟩
theorem Un.refl : Un fs ex H H h h := Un.kept fun _ _ q => q
theorem Un.laid (k : ∀ b u, h.get? b = some u → h'.get? b = some u) (hp : h.objs.size ≤ a) (hn : H a = none) : Un fs ex H (upd H a o) h h' where
  keep := fun b u q _ _ _ => k b u q
  slot := fun b u q _ _ _ => ⟨u.slots, k b u q⟩
  free := fun b u q n _ => by rw [upd_ne (Nat.ne_of_lt (Nat.lt_of_lt_of_le (Heap.lt_size q) hp))]; exact n
  there := fun b u q _ => ⟨u, k b u q⟩
  tups := fun b xs q => by rw [upd_ne (ne_of_none q hn)]; exact q
  frzs := fun b u xs q => by rw [upd_ne (ne_of_none q hn)]; exact q
  tbls := fun b ps q => ⟨#[], by rw [upd_ne (ne_of_none q hn), q]; simp⟩
theorem Un.write (mu : Mut (H x)) (he : e = x ∨ H e = some (.own x)) (k : ∀ b u, b ≠ e → h.get? b = some u → h'.get? b = some u) (heo : ∃ u, h'.get? e = some u) : Un fs ex H (upd H x o) h h' := by
  have hx : ∀ b, H b = none → b ≠ x := fun b n z => by subst z; rw [n] at mu; exact mu
  have hb : ∀ b, H b = none → b ≠ e := fun b n z => by
    subst z
    rcases he with r | r
    · exact hx b n r
    · rw [n] at r; cases r
  have hm : ∀ b u, H b = some u → ¬ Mut (some u) → b ≠ x := fun b u q nm z => by subst z; rw [q] at mu; exact nm mu
  refine ⟨fun b u q n _ _ => k b u (hb b n) q, fun b u q n _ _ => ⟨u.slots, k b u (hb b n) q⟩, fun b u q n _ => by rw [upd_ne (hx b n)]; exact n, fun b u q _ => ?_,
    fun b xs q => by rw [upd_ne (hm b _ q fun z => z)]; exact q, fun b u xs q => by rw [upd_ne (hm b _ q fun z => z)]; exact q, fun b ps q => ⟨#[], by rw [upd_ne (hm b _ q fun z => z), q]; simp⟩⟩
  by_cases hbe : b = e
  · subst hbe; exact heo
  · exact ⟨u, k b u hbe q⟩
end

/-! ### the heap without what is tracked -/
def trk (h : Heap) (H : Hp) : List Addr := (List.range h.objs.size).filter fun a => (H a).isSome
def hidT (h : Heap) (H : Hp) : Heap := PySem.W.hideAll h (trk h H)
theorem hidT_size (h : Heap) (H : Hp) : (hidT h H).objs.size = h.objs.size := PySem.W.hideAll_size _ _
theorem hidT_get {h : Heap} {H : Hp} {b : Addr} {o : Obj} (e : h.get? b = some o) (n : H b = none) : (hidT h H).get? b = some o :=
  PySem.W.hideAll_get _ e fun hm => by
    have q : (H b).isSome = true := (List.mem_filter.mp hm).2
    rw [n] at q; simp at q
theorem of_hidT {h : Heap} {H : Hp} {b : Addr} {o : Obj} (e : (hidT h H).get? b = some o) : h.get? b = some o ∧ H b = none := by
  have e' : h.get? b = some o := PySem.W.of_hideAll (trk h H) e
  refine ⟨e', ?_⟩
  cases q : H b with
  | none => rfl
  | some x =>
    have hm : b ∈ trk h H := List.mem_filter.mpr ⟨List.mem_range.mpr (Heap.lt_size e'), by simp [q]⟩
    have z : (hidT h H).get? b = none := PySem.W.hideAll_none (trk h H) hm
    rw [z] at e; cases e

/-! ### OpenK's ledger, filled with every new object but one -/
end L2

namespace L2
open PySem PySem.Spec PyProof.Rows

/-- the module's facts, over the base: the heap at the law's entry without what is tracked there -/
structure Mod (K : PySem.W.Frag) (mg : Str → Option Value) (base : Heap) : Prop where
  kin : K.In base
  glob : base.Ns mainGlobals mg
  blt : ∃ mb, base.Ns builtinsNs mb ∧ ∀ x : Str, x ≠ "__name__" → mb x = bootBuiltins x
  nolimit : base.NoLimit

/-- the context: a def's body (or a comprehension's block) running. base: fixed through the whole law; s₀, H₀: the entry; outer: the frames whose slots others may change (a def's callers); stack: all frames that run;
   ex: iterators that were made ahead of the entry and are walked here (a comprehension's); fn: the names whose cells were made at the entry (a def: all; a comprehension's block: its own); calm: not within an except suite; pn: pins that every state bears; xe: what is wanted of an exception that leaves the code -/
structure Cx where
  prog : Program
  w : World
  K : PySem.W.Frag
  mg : Str → Option Value
  base : Heap
  A : Around
  N : List Str
  s_0 : Shared
  H_0 : Hp
  env : Env
  outer : List Env
  stack : List Env
  ex : List Addr
  fn : Str → Bool
  calm : Bool
  pn : List (Addr × Obj)
  xe : Value → Shared → Prop
/-- the callers' frames -/
def frs (l : List Env) : List Addr := l.filterMap (·.frame)
abbrev Cx.fs (X : Cx) : List Addr := frs X.outer

def Vis (sc : Scope) (x : Str) : Prop := sc.names.lookup x = some .local ∨ sc.names.lookup x = some .cell ∨ sc.names.lookup x = some .free
def Loc (sc : Scope) (x : Str) : Prop := sc.names.lookup x = some .local ∨ sc.names.lookup x = some .cell
def Look (env : Env) (h : Heap) (m : Str → Option Value) (x : Str) (u : Value) : Prop :=
  (env.kindOf x = some .local ∧ m x = some u) ∨ ((env.kindOf x = some .cell ∨ env.kindOf x = some .free) ∧ ∃ c, env.cells.lookup x = some c ∧ h.IsCell c (some u))

structure Cx.Ok (X : Cx) : Prop where
  mod : Mod X.K X.mg X.base
  kind : X.env.scope.kind = .function
  glob : X.env.globals = mainGlobals
  blt : X.env.builtins = builtinsNs
  above : X.s_0.heap.objs.size ≤ X.env.locals
  inj : ∀ x y c, X.env.cells.lookup x = some c → X.env.cells.lookup y = some c → x = y
  has : ∀ x, (X.env.kindOf x = some .cell ∨ X.env.kindOf x = some .free) → ∃ c, X.env.cells.lookup x = some c
  cab : ∀ x c, X.fn x = true → X.env.cells.lookup x = some c → X.s_0.heap.objs.size ≤ c
  hd : X.calm = true → X.A.handled = none
  frames : X.A.frames = some X.stack
  stk : X.stack = X.outer ∨ (X.stack = X.env :: X.outer ∧ X.env.frame = some X.env.locals)
  exf : ∀ b ∈ X.ex, b ≠ X.env.locals ∧ ∀ x c, X.env.cells.lookup x = some c → c ≠ b
  bs : ∀ b o, X.base.get? b = some o → X.s_0.heap.get? b = some o ∧ X.H_0 b = none
  bsz : X.base.objs.size ≤ X.s_0.heap.objs.size
  noex : ∀ b o, X.base.get? b = some o → b ∉ X.ex
  exfs : ∀ b ∈ X.ex, b ∉ X.fs
  funs : X.s_0.heap.FunFrames X.base X.outer
  frf : ∀ b ∈ X.fs, X.H_0 b = none

structure Inv (X : Cx) (pins : List (Addr × Obj)) (σ : List (Option V)) (H : Hp) (s : Shared) : Prop where
  ok : X.Ok
  os : s.os = X.s_0.os
  bare : AllBare s.gens
  base : Un X.fs X.ex X.H_0 H X.s_0.heap s.heap
  loc : ∃ m, s.heap.Ns X.env.locals m ∧ ∀ (i : Nat) (x : Str) (v : V), X.N[i]? = some x → σ[i]? = some (some v) → Vis X.env.scope x → ∃ u, RelV v u ∧ Look X.env s.heap m x u
  cell : ∀ x c, X.env.cells.lookup x = some c → ∃ v, s.heap.IsCell c v
  free : H X.env.locals = none
  freeC : ∀ x c, X.env.cells.lookup x = some c → H c = none
  pin : ∀ p ∈ X.pn ++ pins, s.heap.get? p.1 = some p.2 ∧ H p.1 = none ∧ p.1 ≠ X.env.locals ∧ p.1 ∉ X.fs ∧ ∀ v, p.2.data ≠ .cell v
  hok : HOk X.prog X.w H s.heap
  len : σ.length = X.N.length

section
variable {X : Cx} {pins : List (Addr × Obj)} {σ : List (Option V)} {H H' : Hp} {s : Shared} {h' : Heap}

theorem Cx.Ok.nofr (ok : X.Ok) {b : Addr} {o : Obj} (e : X.base.get? b = some o) : b ∉ X.fs := fun hb => by
  have := (ok.funs.mem hb).1
  rw [e] at this; cases this
theorem Inv.bs (I : Inv X pins σ H s) : ∀ b o, X.base.get? b = some o → s.heap.get? b = some o ∧ H b = none := fun b o e =>
  ⟨I.base.keep b o (I.ok.bs b o e).1 (I.ok.bs b o e).2 (I.ok.nofr e) (I.ok.noex b o e), I.base.free b o (I.ok.bs b o e).1 (I.ok.bs b o e).2 (I.ok.noex b o e)⟩
theorem Inv.bk (I : Inv X pins σ H s) : ∀ b o, X.base.get? b = some o → s.heap.get? b = some o := fun b o e => (I.bs b o e).1
theorem Inv.mod (I : Inv X pins σ H s) : Mod X.K X.mg X.base := I.ok.mod
theorem Inv.kIn (I : Inv X pins σ H s) : X.K.In s.heap := I.ok.mod.kin.keeps I.bk
/-- the frame over the base: for OpenK's rules (K.In X.base is I.mod.kin) -/
theorem Inv.fr (I : Inv X pins σ H s) : ∃ m, Fr X.base X.env.locals s.heap m :=
  let ⟨m, hn, _⟩ := I.loc
  ⟨m, hn, I.bk, Nat.le_trans I.ok.bsz I.ok.above⟩
theorem Inv.lt (I : Inv X pins σ H s) : X.env.locals < s.heap.objs.size := let ⟨_, hn, _⟩ := I.loc; hn.lt
theorem Inv.sz (I : Inv X pins σ H s) : X.s_0.heap.objs.size ≤ s.heap.objs.size := Nat.le_trans I.ok.above (Nat.le_of_lt I.lt)
theorem Inv.nofs (I : Inv X pins σ H s) {a : Addr} (h : s.heap.objs.size ≤ a) : a ∉ X.fs := fun hb => by
  obtain ⟨_, o, ho, _⟩ := I.ok.funs.mem hb
  exact absurd (Nat.lt_of_lt_of_le (Heap.lt_size ho) (Nat.le_trans I.sz h)) (Nat.lt_irrefl _)
theorem Inv.cne (I : Inv X pins σ H s) : ∀ x c, X.env.cells.lookup x = some c → c ≠ X.env.locals := fun x c e z => by
  obtain ⟨v, o, ho, hd⟩ := I.cell x c e
  obtain ⟨m, ⟨o', es, ep, ho', hd', _⟩, _⟩ := I.loc
  rw [z, ho'] at ho; cases ho; rw [hd'] at hd; cases hd
theorem Inv.funs (I : Inv X pins σ H s) : s.heap.FunFrames X.base X.outer := by
  have all : ∀ (l : List Env), (∀ b ∈ frs l, b ∈ X.fs) → X.s_0.heap.FunFrames X.base l → s.heap.FunFrames X.base l := by
    intro l
    induction l with
    | nil => intro _ _; trivial
    | cons env r ih =>
      intro hs hl
      obtain ⟨hk, ⟨L, o, hf, hn, ho, hd⟩, hr⟩ := hl
      have hL : L ∈ X.fs := hs L (by unfold frs; rw [List.filterMap_cons, hf]; exact List.mem_cons_self)
      obtain ⟨sl, e⟩ := I.base.slot L o ho (I.ok.frf L hL) hL fun z => I.ok.exfs L z hL
      exact ⟨hk, ⟨L, _, hf, hn, e, hd⟩, ih (fun b hb => hs b (by unfold frs; rw [List.filterMap_cons, hf]; exact List.mem_cons_of_mem _ hb)) hr⟩
  exact all X.outer (fun _ hb => hb) I.ok.funs

/-- the frames that run, for a call -/
theorem Inv.stack (I : Inv X pins σ H s) : s.heap.FunFrames X.base X.stack := by
  rcases I.ok.stk with e | ⟨e, hf⟩
  · rw [e]; exact I.funs
  · rw [e]
    obtain ⟨m, hn, _⟩ := I.loc
    refine .cons (by rw [I.ok.kind]; decide) hf hn ?_ I.funs
    exact Heap.get?_none_of_le (Nat.le_trans I.ok.bsz I.ok.above)
theorem Inv.stkSub (I : Inv X pins σ H s) : ∀ b ∈ frs X.stack, b ∈ X.env.locals :: X.fs := fun b hb => by
  rcases I.ok.stk with e | ⟨e, hf⟩
  · rw [e] at hb; exact List.mem_cons_of_mem _ hb
  · rw [e] at hb
    unfold frs at hb
    rw [List.filterMap_cons, hf] at hb
    exact hb
theorem Inv.stkFree (I : Inv X pins σ H s) : ∀ b ∈ frs X.stack, H b = none := fun b hb => by
  rcases List.mem_cons.mp (I.stkSub b hb) with e | hb
  · rw [e]; exact I.free
  · obtain ⟨_, o, ho, _⟩ := I.ok.funs.mem hb
    exact I.base.free b o ho (I.ok.frf b hb) fun z => I.ok.exfs b z hb

/-- THE STEP: the untracked objects but the frame and the records at ch are kept (the callers' frames up to slots), the frame's map is kept, the new abstract heap is held -/
theorem Inv.step {g' : Array GenState} {t' : Nat} {d' : Drawn} {ch : List Addr} (I : Inv X pins σ H s)
    (hch : ∀ b ∈ ch, (b ∈ X.ex ∨ X.s_0.heap.objs.size ≤ b) ∧ b ≠ X.env.locals ∧ (∀ x c, X.env.cells.lookup x = some c → c ≠ b) ∧ ∀ p ∈ X.pn ++ pins, p.1 ≠ b)
    (keep : ∀ b o, b ≠ X.env.locals → b ∉ X.fs → b ∉ ch → s.heap.get? b = some o → H b = none → h'.get? b = some o)
    (slot : ∀ b o, b ≠ X.env.locals → b ∈ X.fs → b ∉ ch → s.heap.get? b = some o → H b = none → ∃ sl, h'.get? b = some { o with slots := sl }) (free : ∀ b o, b ∉ ch → s.heap.get? b = some o → H b = none → H' b = none)
    (there : ∀ b o, b ∉ ch → s.heap.get? b = some o → ∃ o', h'.get? b = some o')
    (tups : ∀ b xs, H b = some (.tup xs) → H' b = some (.tup xs)) (frzs : ∀ b o u, H b = some (.frz o u) → H' b = some (.frz o u)) (tbls : ∀ b ps, H b = some (.tbl ps) → ∃ more, H' b = some (.tbl (ps ++ more)))
    (ns : ∀ m, s.heap.Ns X.env.locals m → h'.Ns X.env.locals m) (hok : HOk X.prog X.w H' h') (hg : AllBare g') :
    Inv X pins σ H' { s with heap := h', gens := g', drawn := d', toks := t' } := by
  have neL : ∀ b o, X.s_0.heap.get? b = some o → b ≠ X.env.locals := fun b o e => Nat.ne_of_lt (Nat.lt_of_lt_of_le (Heap.lt_size e) I.ok.above)
  have neC : ∀ b o, X.s_0.heap.get? b = some o → b ∉ X.ex → b ∉ ch := fun b o e hx hb => by
    rcases (hch b hb).1 with z | z
    · exact hx z
    · exact absurd (Nat.lt_of_lt_of_le (Heap.lt_size e) z) (Nat.lt_irrefl _)
  have cellK : ∀ x c, X.env.cells.lookup x = some c → ∀ v, s.heap.IsCell c v → h'.IsCell c v := fun x c e v ⟨o, ho, hd⟩ => by
    have nch : c ∉ ch := fun z => (hch c z).2.2.1 x c e rfl
    by_cases hc : c ∈ X.fs
    · obtain ⟨sl, q⟩ := slot c o (I.cne x c e) hc nch ho (I.freeC x c e)
      exact ⟨_, q, hd⟩
    · exact ⟨o, keep c o (I.cne x c e) hc nch ho (I.freeC x c e), hd⟩
  refine ⟨I.ok, I.os, hg, ⟨fun b o e n hb hx => ?_, fun b o e n hb hx => ?_, fun b o e n hx => ?_, fun b o e hx => ?_, fun b xs e => tups b xs (I.base.tups b xs e), fun b o xs e => frzs b o xs (I.base.frzs b o xs e), fun b ps e => ?_⟩, ?_, fun x c e => ?_, ?_, fun x c e => ?_, fun p hp => ?_, hok, I.len⟩
  · exact keep b o (neL b o e) hb (neC b o e hx) (I.base.keep b o e n hb hx) (I.base.free b o e n hx)
  · obtain ⟨sl, e1⟩ := I.base.slot b o e n hb hx
    obtain ⟨sl', e2⟩ := slot b _ (neL b o e) hb (neC b o e hx) e1 (I.base.free b o e n hx)
    exact ⟨sl', e2⟩
  · obtain ⟨o', e1⟩ := I.base.there b o e hx
    exact free b o' (neC b o e hx) e1 (I.base.free b o e n hx)
  · obtain ⟨o', e1⟩ := I.base.there b o e hx
    exact there b o' (neC b o e hx) e1
  · obtain ⟨m1, e1⟩ := I.base.tbls b ps e
    obtain ⟨m2, e2⟩ := tbls b _ e1
    exact ⟨m1 ++ m2, by rw [e2, Array.append_assoc]⟩
  · obtain ⟨m, hn, hl⟩ := I.loc
    refine ⟨m, ns m hn, fun i x v e1 e2 e3 => ?_⟩
    obtain ⟨u, r, l⟩ := hl i x v e1 e2 e3
    refine ⟨u, r, ?_⟩
    rcases l with l | ⟨k, c, e, z⟩
    · exact .inl l
    · exact .inr ⟨k, c, e, cellK x c e _ z⟩
  · obtain ⟨v, z⟩ := I.cell x c e
    exact ⟨v, cellK x c e v z⟩
  · obtain ⟨m, ⟨o, _, _, ho, _⟩, _⟩ := I.loc
    exact free _ o (fun z => (hch _ z).2.1 rfl) ho I.free
  · obtain ⟨v, o, ho, hd⟩ := I.cell x c e
    exact free c o (fun z => (hch c z).2.2.1 x c e rfl) ho (I.freeC x c e)
  · obtain ⟨e, n, ne, nf, d⟩ := I.pin p hp
    have nch : p.1 ∉ ch := fun z => (hch p.1 z).2.2.2 p hp rfl
    exact ⟨keep p.1 p.2 ne nf nch e n, free p.1 p.2 nch e n, ne, nf, d⟩
/-- .. where the frame's own object is kept too -/
theorem Inv.un {t' : Nat} (I : Inv X pins σ H s) (u : Un X.fs [] H H' s.heap h') (hok : HOk X.prog X.w H' h') : Inv X pins σ H' { s with heap := h', toks := t' } := by
  obtain ⟨m, ⟨o, es, ep, ho, r⟩, _⟩ := id I.loc
  obtain ⟨sl, hL⟩ := u.any ho I.free (by simp)
  exact I.step (g' := s.gens) (d' := s.drawn) (ch := []) (fun _ z => nomatch z) (fun b o _ hb _ e n => u.keep b o e n hb (by simp)) (fun b o _ hb _ e n => u.slot b o e n hb (by simp)) (fun b o _ e n => u.free b o e n (by simp)) (fun b o _ e => u.there b o e (by simp)) u.tups u.frzs u.tbls (fun m' hm => by
    obtain ⟨o', es', ep', ho', r'⟩ := hm
    rw [ho] at ho'; cases ho'
    exact ⟨_, es', ep', hL, r'⟩) hok I.bare
/-- behind a call (or a comprehension's block): the slots of this frame may have changed too, the records at ch may have turned -/
theorem Inv.call {g' : Array GenState} {t' : Nat} {d' : Drawn} {ch : List Addr} (I : Inv X pins σ H s) (u : Un (frs X.stack) ch H H' s.heap h') (hok : HOk X.prog X.w H' h') (hg : AllBare g')
    (hch : ∀ b ∈ ch, (b ∈ X.ex ∨ X.s_0.heap.objs.size ≤ b) ∧ b ≠ X.env.locals ∧ (∀ x c, X.env.cells.lookup x = some c → c ≠ b) ∧ ∀ p ∈ X.pn ++ pins, p.1 ≠ b) :
    Inv X pins σ H' { s with heap := h', gens := g', drawn := d', toks := t' } := by
  obtain ⟨m, ⟨o, es, ep, ho, r⟩, _⟩ := id I.loc
  obtain ⟨sl, hL⟩ := u.any ho I.free fun z => (hch _ z).2.1 rfl
  exact I.step (ch := ch) hch (fun b o hL hb hc e n => u.keep b o e n (fun z => (List.mem_cons.mp (I.stkSub b z)).elim hL hb) hc) (fun b o _ _ hc e n => u.any e n hc) (fun b o hc e n => u.free b o e n hc) (fun b o hc e => u.there b o e hc) u.tups u.frzs u.tbls (fun m' hm => by
    obtain ⟨o', es', ep', ho', r'⟩ := hm
    rw [ho] at ho'; cases ho'
    exact ⟨_, es', ep', hL, r'⟩) hok hg
/-- an untracked record of ours (an iterator) has turned -/
theorem Inv.turned {t' : Nat} {it : Addr} (I : Inv X pins σ H s) (k : ∀ b o, b ≠ it → s.heap.get? b = some o → h'.get? b = some o) (hn : H it = none) (hL : it ≠ X.env.locals)
    (h1 : it ∈ X.ex ∨ X.s_0.heap.objs.size ≤ it) (h2 : ∀ x c, X.env.cells.lookup x = some c → c ≠ it) (h3 : ∀ p ∈ X.pn ++ pins, p.1 ≠ it) : Inv X pins σ H { s with heap := h', toks := t' } := by
  have nit : ∀ b u, H b = some u → b ≠ it := fun b u e z => by rw [z, hn] at e; cases e
  refine I.step (g' := s.gens) (d' := s.drawn) (ch := [it]) (fun b hb => ?_) (fun b o _ _ hc e _ => k b o (fun z => hc (by simp [z])) e) (fun b o _ _ hc e _ => ⟨o.slots, k b o (fun z => hc (by simp [z])) e⟩) (fun _ _ _ _ n => n)
    (fun b o hc e => ⟨o, k b o (fun z => hc (by simp [z])) e⟩) (fun _ _ e => e) (fun _ _ _ e => e) (fun b ps e => ⟨#[], by rw [e]; simp⟩) (fun m hm => ?_) (fun b u e => ?_) I.bare
  · have e : b = it := by simpa using hb
    subst e
    exact ⟨h1, hL, h2, h3⟩
  · obtain ⟨o, es, ep, ho, r⟩ := hm
    exact ⟨o, es, ep, k _ o (Ne.symm hL) ho, r⟩
  · refine (I.hok b u e).stay (fun c v hc q => k c v ?_ q) (fun _ q => q) fun _ _ q => q
    rcases hc with z | z
    · rw [z]; exact nit b u e
    · exact nit c _ z
theorem Inv.tok (I : Inv X pins σ H s) (t : Nat) : Inv X pins σ H { s with toks := t } := I.un (h' := s.heap) (t' := t) Un.refl I.hok
/-- all objects kept -/
theorem Inv.kept {t' : Nat} (I : Inv X pins σ H s) (k : ∀ b u, s.heap.get? b = some u → h'.get? b = some u) : Inv X pins σ H { s with heap := h', toks := t' } := I.un (Un.kept k) (I.hok.kept k)
/-- a new object laid and tracked -/
theorem Inv.laid {a : Addr} {o : HO} {t' : Nat} (I : Inv X pins σ H s) (k : ∀ b u, s.heap.get? b = some u → h'.get? b = some u) (hp : s.heap.objs.size ≤ a) (new : ObjOk X.prog X.w (upd H a o) h' a o) :
    Inv X pins σ (upd H a o) { s with heap := h', toks := t' } := I.un (Un.laid k hp (I.hok.fresh hp)) (I.hok.laid k hp new)
/-- an object written -/
theorem Inv.write {x e : Addr} {o : HO} {t' : Nat} (I : Inv X pins σ H s) (mu : Mut (H x)) (he : e = x ∨ H e = some (.own x)) (k : ∀ b u, b ≠ e → s.heap.get? b = some u → h'.get? b = some u) (heo : ∃ u, h'.get? e = some u)
    (new : ObjOk X.prog X.w (upd H x o) h' x o) : Inv X pins σ (upd H x o) { s with heap := h', toks := t' } := I.un (Un.write mu he k heo) (I.hok.write mu he k heo new)
/-- forgetting slots, pins -/
theorem Inv.weak {σ' : List (Option V)} (I : Inv X pins σ H s) (hl : σ'.length = σ.length) (w : ∀ (i : Nat) v, σ'[i]? = some (some v) → σ[i]? = some (some v)) : Inv X pins σ' H s :=
  ⟨I.ok, I.os, I.bare, I.base, let ⟨m, hn, hl'⟩ := I.loc; ⟨m, hn, fun i x v e1 e2 e3 => hl' i x v e1 (w i v e2) e3⟩, I.cell, I.free, I.freeC, I.pin, I.hok, hl.trans I.len⟩
theorem Inv.pins_of {pins' : List (Addr × Obj)} (I : Inv X pins σ H s) (h : ∀ p ∈ pins', s.heap.get? p.1 = some p.2 ∧ H p.1 = none ∧ p.1 ≠ X.env.locals ∧ p.1 ∉ X.fs ∧ ∀ v, p.2.data ≠ .cell v) : Inv X pins' σ H s :=
  ⟨I.ok, I.os, I.bare, I.base, I.loc, I.cell, I.free, I.freeC, fun p hp => (List.mem_append.mp hp).elim (fun z => I.pin p (List.mem_append_left _ z)) (h p), I.hok, I.len⟩

theorem nodup_ix {N : List Str} (hN : N.Nodup) {i j : Nat} {x : Str} (a : N[i]? = some x) (b : N[j]? = some x) : i = j := by
  obtain ⟨h1, e1⟩ := List.getElem?_eq_some_iff.mp a
  obtain ⟨h2, e2⟩ := List.getElem?_eq_some_iff.mp b
  exact (List.getElem_inj hN).mp (e1.trans e2.symm)

/-- a name is stored; what changed -/
theorem store_ok2 {M : Model} {A : Around} {E : Value → Shared → Prop} {i : Nat} {x : Str} {v : V} {u : Value} {Q : Unit → Shared → Prop} (I : Inv X pins σ H s) (hN : X.N.Nodup) (hi : X.N[i]? = some x) (hx : Loc X.env.scope x) (r : RelV v u)
    (h : ∀ s', Inv X pins (σ.set i (some v)) H s' → (∃ a, Heap.SameBut a s.heap s'.heap ∧ (a = X.env.locals ∨ X.env.cells.lookup x = some a)) → Q () s') (hf : X.fn x = true ∨ X.env.scope.names.lookup x = some .local := by first | exact .inl rfl | exact .inr rfl | assumption) : wpAny M A (storeName X.env x u) Q E s := by
  obtain ⟨m, hn, hl⟩ := id I.loc
  have hcls : (X.env.scope.kind == .class || (X.env.scope.kind == .module && X.env.locals != X.env.globals)) = false := by rw [I.ok.kind]; rfl
  have hiσ : i < σ.length := by rw [I.len]; exact (List.getElem?_eq_some_iff.mp hi).1
  have cne := I.cne
  have tracked : ∀ {a : Addr} {h' : Heap}, (∃ o, s.heap.get? a = some o ∧ H a = none) → Heap.SameBut a s.heap h' → HOk X.prog X.w H h' := fun {a h'} ha hs b ob e => by
    obtain ⟨_, _, hfree⟩ := ha
    refine (I.hok b ob e).stay (fun c w' hc q => (hs.2 c ?_).trans q) (fun _ q => q) fun _ _ q => q
    rintro rfl
    rcases hc with rfl | hc
    · rw [hfree] at e; cases e
    · rw [hfree] at hc; cases hc
  rcases hx with hk | hk
  · refine wpAny_storeName_local hk hn (fun h' hn' hs => ?_) hcls
    obtain ⟨oL, _, _, hoL, _⟩ := id hn
    refine h _ ⟨I.ok, I.os, I.bare, ⟨fun b o e n hb hx => ?_, fun b o e n hb hx => ?_, I.base.free, fun b o e hx => ?_, I.base.tups, I.base.frzs, I.base.tbls⟩, ⟨_, hn', fun j y v' e1 e2 e3 => ?_⟩, fun y c e => ?_, I.free, I.freeC, fun p hp => ?_, tracked ⟨oL, hoL, I.free⟩ hs, by simpa using I.len⟩ ⟨_, hs, .inl rfl⟩
    · exact (hs.2 b (Nat.ne_of_lt (Nat.lt_of_lt_of_le (Heap.lt_size e) I.ok.above))).trans (I.base.keep b o e n hb hx)
    · obtain ⟨sl, e1⟩ := I.base.slot b o e n hb hx
      exact ⟨sl, (hs.2 b (Nat.ne_of_lt (Nat.lt_of_lt_of_le (Heap.lt_size e) I.ok.above))).trans e1⟩
    · obtain ⟨o', e1⟩ := I.base.there b o e hx
      exact ⟨o', (hs.2 b (Nat.ne_of_lt (Nat.lt_of_lt_of_le (Heap.lt_size e) I.ok.above))).trans e1⟩
    · by_cases hj : j = i
      · subst hj
        rw [hi] at e1; cases e1
        rw [List.getElem?_set_self hiσ] at e2
        cases e2
        exact ⟨u, r, .inl ⟨hk, by simp⟩⟩
      · rw [List.getElem?_set_ne (Ne.symm hj)] at e2
        obtain ⟨u', r', q⟩ := hl j y v' e1 e2 e3
        refine ⟨u', r', ?_⟩
        rcases q with ⟨k, e⟩ | ⟨k, c, e, z⟩
        · refine .inl ⟨k, ?_⟩
          have : y ≠ x := fun e => hj (nodup_ix hN e1 (e ▸ hi))
          simp [this, e]
        · exact .inr ⟨k, c, e, z.sameBut hs (cne y c e)⟩
    · obtain ⟨w', z⟩ := I.cell y c e
      exact ⟨w', z.sameBut hs (cne y c e)⟩
    · obtain ⟨e, n, ne, nf, d⟩ := I.pin p hp
      exact ⟨(hs.2 p.1 ne).trans e, n, ne, nf, d⟩
  · have hfn : X.fn x = true := by
      rcases hf with z | z
      · exact z
      · rw [z] at hk; cases hk
    obtain ⟨c, hc⟩ := I.ok.has x (.inl hk)
    obtain ⟨w', z⟩ := I.cell x c hc
    refine wpAny_storeName_cell I.ok.kind hk hc z (fun h' hc' hs => ?_)
    obtain ⟨oc, hoc, hocd⟩ := id z
    refine h { s with heap := h' } ⟨I.ok, I.os, I.bare, ⟨fun b o e n hb hx => ?_, fun b o e n hb hx => ?_, I.base.free, fun b o e hx => ?_, I.base.tups, I.base.frzs, I.base.tbls⟩, ⟨m, hn.sameBut hs (Ne.symm (cne x c hc)), fun j y v' e1 e2 e3 => ?_⟩, fun y c' e => ?_, I.free, I.freeC, fun p hp => ?_, tracked ⟨oc, hoc, I.freeC x c hc⟩ hs, by simpa using I.len⟩ ⟨c, hs, .inr hc⟩
    · exact (hs.2 b (Nat.ne_of_lt (Nat.lt_of_lt_of_le (Heap.lt_size e) (I.ok.cab x c hfn hc)))).trans (I.base.keep b o e n hb hx)
    · obtain ⟨sl, e1⟩ := I.base.slot b o e n hb hx
      exact ⟨sl, (hs.2 b (Nat.ne_of_lt (Nat.lt_of_lt_of_le (Heap.lt_size e) (I.ok.cab x c hfn hc)))).trans e1⟩
    · obtain ⟨o', e1⟩ := I.base.there b o e hx
      exact ⟨o', (hs.2 b (Nat.ne_of_lt (Nat.lt_of_lt_of_le (Heap.lt_size e) (I.ok.cab x c hfn hc)))).trans e1⟩
    · by_cases hj : j = i
      · subst hj
        rw [hi] at e1; cases e1
        rw [List.getElem?_set_self hiσ] at e2
        cases e2
        exact ⟨u, r, .inr ⟨.inl hk, c, hc, hc'⟩⟩
      · rw [List.getElem?_set_ne (Ne.symm hj)] at e2
        obtain ⟨u', r', q⟩ := hl j y v' e1 e2 e3
        refine ⟨u', r', ?_⟩
        rcases q with q | ⟨k, c', e, z'⟩
        · exact .inl q
        · refine .inr ⟨k, c', e, z'.sameBut hs ?_⟩
          rintro rfl
          exact hj (nodup_ix hN e1 (I.ok.inj _ _ _ e hc ▸ hi))
    · by_cases hcc : c' = c
      · subst hcc; exact ⟨_, hc'⟩
      · obtain ⟨w2, z2⟩ := I.cell y c' e
        exact ⟨w2, z2.sameBut hs hcc⟩
    · obtain ⟨e, n, ne, nf, d⟩ := I.pin p hp
      refine ⟨(hs.2 p.1 ?_).trans e, n, ne, nf, d⟩
      intro q
      rw [q, hoc] at e
      have q' : oc = p.2 := Option.some.inj e
      exact d w' (by rw [← q']; exact hocd)
theorem store_ok {M : Model} {A : Around} {E : Value → Shared → Prop} {i : Nat} {x : Str} {v : V} {u : Value} {Q : Unit → Shared → Prop} (I : Inv X pins σ H s) (hN : X.N.Nodup) (hi : X.N[i]? = some x) (hx : Loc X.env.scope x) (r : RelV v u)
    (h : ∀ s', Inv X pins (σ.set i (some v)) H s' → Q () s') (hf : X.fn x = true ∨ X.env.scope.names.lookup x = some .local := by first | exact .inl rfl | exact .inr rfl | assumption) : wpAny M A (storeName X.env x u) Q E s :=
  store_ok2 I hN hi hx r (fun s' I' _ => h s' I') hf
/-- behind a call or a block, the state as it is -/
theorem Inv.call' {s' : Shared} {ch : List Addr} (I : Inv X pins σ H s) (ho : s'.os = s.os) (u : Un (frs X.stack) ch H H' s.heap s'.heap) (hok : HOk X.prog X.w H' s'.heap) (hg : AllBare s'.gens)
    (hch : ∀ b ∈ ch, (b ∈ X.ex ∨ X.s_0.heap.objs.size ≤ b) ∧ b ≠ X.env.locals ∧ (∀ x c, X.env.cells.lookup x = some c → c ≠ b) ∧ ∀ p ∈ X.pn ++ pins, p.1 ≠ b) : Inv X pins σ H' s' := by
  obtain ⟨h', g', d', t', o'⟩ := s'
  have e : o' = s.os := ho
  subst e
  exact I.call (g' := g') (t' := t') (d' := d') u hok hg hch
end

/-! ### the judgements -/
/-- an exception: its class, its own dict's address (where it has one), the abstract heap behind it -/
abbrev XK := Value → Option Addr → Hp → Prop
abbrev St := List (Option V)
abbrev VK := V → Hp → Prop
/-- an expression's reading; a test's; an argument list's -/
abbrev TE := St → Hp → VK → Prop
abbrev TT := St → Hp → (Bool → Hp → Prop) → Prop
abbrev TA := St → Hp → (List V → Hp → Prop) → Prop
/-- what is wanted behind a statement -/
structure Ends where
  nx : St → Hp → Prop
  rt : VK
  bk : St → Hp → Prop := fun _ _ => False
  ct : St → Hp → Prop := fun _ _ => False
abbrev TS := Ends → St → Hp → Prop

def EP (X : Cx) (pins : List (Addr × Obj)) (σ : St) (Q : VK) (u : Value) (s' : Shared) : Prop := ∃ v H', Inv X pins σ H' s' ∧ RelV v u ∧ Q v H'
def TP (X : Cx) (pins : List (Addr × Obj)) (σ : St) (Q : Bool → Hp → Prop) (b : Bool) (s' : Shared) : Prop := ∃ H', Inv X pins σ H' s' ∧ Q b H'
def AP (X : Cx) (pins : List (Addr × Obj)) (σ : St) (Q : List V → Hp → Prop) (us : List Value) (s' : Shared) : Prop := ∃ vs H', Inv X pins σ H' s' ∧ Vals vs us ∧ Q vs H'
def SP (X : Cx) (pins : List (Addr × Obj)) (D : Ends) (f : Flow) (s' : Shared) : Prop :=
  match f with
  | .next => ∃ σ' H', Inv X pins σ' H' s' ∧ D.nx σ' H'
  | .brk => ∃ σ' H', Inv X pins σ' H' s' ∧ D.bk σ' H'
  | .cont => ∃ σ' H', Inv X pins σ' H' s' ∧ D.ct σ' H'
  | .ret u => ∃ v σ' H', Inv X pins σ' H' s' ∧ RelV v u ∧ D.rt v H'

def PE (X : Cx) (e : Expr) (t : TE) : Prop :=
  ∀ (pins : List (Addr × Obj)) (s : Shared) (σ : St) (H : Hp) (Q : VK), Inv X pins σ H s → t σ H Q → wpAny (model X.prog X.w) X.A (eval e X.env) (EP X pins σ Q) X.xe s
def PT (X : Cx) (e : Expr) (t : TT) : Prop :=
  ∀ (pins : List (Addr × Obj)) (s : Shared) (σ : St) (H : Hp) (Q : Bool → Hp → Prop), Inv X pins σ H s → t σ H Q → wpAny (model X.prog X.w) X.A (isTrue e X.env (eval e X.env)) (TP X pins σ Q) X.xe s
/-- a test whatever its 'whole' is (and, or) -/
def PW (X : Cx) (e : Expr) (t : TT) : Prop :=
  ∀ (whole : Sem Value) (pins : List (Addr × Obj)) (s : Shared) (σ : St) (H : Hp) (Q : Bool → Hp → Prop), Inv X pins σ H s → t σ H Q → wpAny (model X.prog X.w) X.A (isTrue e X.env whole) (TP X pins σ Q) X.xe s
theorem PW.pt {X : Cx} {e : Expr} {t : TT} (h : PW X e t) : PT X e t := h _
/-- an argument list (no star), from the left -/
def PA (X : Cx) (es : List Expr) (t : TA) : Prop :=
  ∀ (pos : Pos) (pins : List (Addr × Obj)) (s : Shared) (σ : St) (H : Hp) (Q : List V → Hp → Prop), Inv X pins σ H s → t σ H Q → wpAny (model X.prog X.w) X.A (spliced (backTo pos (starEach es X.env))) (AP X pins σ Q) X.xe s
def PS (X : Cx) (st : Stmt) (t : TS) : Prop :=
  ∀ (pins : List (Addr × Obj)) (s : Shared) (σ : St) (H : Hp) (D : Ends), Inv X pins σ H s → t D σ H → wpAny (model X.prog X.w) X.A (exec st X.env) (SP X pins D) X.xe s
def PSs (X : Cx) (st : List Stmt) (t : TS) : Prop :=
  ∀ (pins : List (Addr × Obj)) (s : Shared) (σ : St) (H : Hp) (D : Ends), Inv X pins σ H s → t D σ H → wpAny (model X.prog X.w) X.A (execs st X.env) (SP X pins D) X.xe s
/-- weaken the end -/
theorem thn {α : Type} {t : Sem α} {Q Q' : α → Shared → Prop} {M : Model} {A : Around} {E : Value → Shared → Prop} {s : Shared} (h : wpAny M A t Q E s) (hQ : ∀ a s, Q a s → Q' a s) : wpAny M A t Q' E s := wpAny_mono h hQ fun _ _ x => x
end L2

namespace L2
open PySem PySem.Spec PyProof.Rows
section
variable {X : Cx}

/-- two expressions in a row -/
theorem bin {a b : Expr} {ta tb : TE} (ha : PE X a ta) (hb : PE X b tb) {pins : List (Addr × Obj)} {s : Shared} {σ : St} {H : Hp} {R : V → V → Hp → Prop} (I : Inv X pins σ H s) (h : ta σ H fun x H1 => tb σ H1 fun y H2 => R x y H2)
    {α : Type} {Q : α → Shared → Prop} {f : Value → Value → Sem α}
    (hf : ∀ v u s2 x y H2, Inv X pins σ H2 s2 → RelV x v → RelV y u → R x y H2 → wpAny (model X.prog X.w) X.A (f v u) Q X.xe s2) :
    wpAny (model X.prog X.w) X.A (eval a X.env) (fun v s₁ => wpAny (model X.prog X.w) X.A (eval b X.env) (fun u s₂ => wpAny (model X.prog X.w) X.A (f v u) Q X.xe s₂) X.xe s₁) X.xe s := by
  refine thn (ha pins s σ H _ I h) fun v s1 ⟨x, H1, I1, r1, q1⟩ => ?_
  refine thn (hb pins s1 σ H1 _ I1 q1) fun u s2 ⟨y, H2, I2, r2, q2⟩ => ?_
  exact hf v u s2 x y H2 I2 r1 r2 q2

/-! ### names and constants -/
def tVar (i : Nat) : TE := fun σ H Q => ∃ v, σ[i]? = some (some v) ∧ Q v H
def tC (v : V) : TE := fun _ H Q => Q v H
theorem pe_var {i : Nat} {x : Str} {pos : Pos} (hN : X.N[i]? = some x) (hv : Vis X.env.scope x) (hd : (x == ("__debug__" : Str)) = false := by decide) (hcd : (x == ("__classdict__" : Str)) = false := by decide) : PE X (.Name x pos) (tVar i) := by
  intro pins s σ H Q I h
  obtain ⟨v, e, h⟩ := h
  obtain ⟨m, hn, hl⟩ := I.loc
  obtain ⟨u, r, l⟩ := hl i x v hN e hv
  have fin : EP X pins σ Q u s := ⟨v, H, I, r, h⟩
  rcases l with ⟨hk, hm⟩ | ⟨hk, c, hc, hcell⟩
  · exact wpAny_Name (wpAny_loadName_local I.ok.kind hk hn hm fin) hd
  · rcases hk with hk | hk
    · exact wpAny_Name (wpAny_loadName_cell I.ok.kind hk hc hcell fin) hd
    · exact wpAny_Name (wpAny_loadName_free I.ok.kind hk hc hcell fin hcd) hd
theorem pe_int {i j pos} : PE X (.Constant (.int i) j pos) (tC (.int i)) := fun _ _ _ H _ I h => wpAny_Constant_int ⟨.int i, H, I.tok _, ⟨_, rfl⟩, h⟩
theorem pe_bl {b j pos} : PE X (.Constant (.bool b) j pos) (tC (.bl b)) := fun _ _ _ H _ I h => Constant_bool ⟨.bl b, H, I, rfl, h⟩
theorem pe_non {j pos} : PE X (.Constant .none j pos) (tC .non) := fun _ _ _ H _ I h => Constant_none ⟨.non, H, I, rfl, h⟩

/-- a global name of the def -/
def Gl (X : Cx) (x : Str) : Prop := X.env.kindOf x = some .globalImplicit
theorem ld_glob {E : Value → Shared → Prop} {pins : List (Addr × Obj)} {s : Shared} {σ : St} {H : Hp} {x : Str} {u : Value} {pos : Pos} {Q : Value → Shared → Prop} (I : Inv X pins σ H s) (hg : Gl X x) (hm : X.mg x = some u) (h : Q u s)
    (hd : (x == ("__debug__" : Str)) = false := by decide) : wpAny (model X.prog X.w) X.A (eval (.Name x pos) X.env) Q E s :=
  Calls.Name_function_global I.ok.kind hg (Calls.loadGlobal_global (by rw [I.ok.glob]; exact I.mod.glob.keeps I.bk) hm h) hd
theorem ld_blt {E : Value → Shared → Prop} {pins : List (Addr × Obj)} {s : Shared} {σ : St} {H : Hp} {x : Str} {u : Value} {pos : Pos} {Q : Value → Shared → Prop} (I : Inv X pins σ H s) (hg : Gl X x) (hm : X.mg x = none) (hv : bootBuiltins x = some u) (h : Q u s)
    (hn : x ≠ "__name__" := by decide) (hd : (x == ("__debug__" : Str)) = false := by decide) : wpAny (model X.prog X.w) X.A (eval (.Name x pos) X.env) Q E s := by
  obtain ⟨mb, h1, h2⟩ := I.mod.blt
  exact Calls.Name_function_global I.ok.kind hg (Calls.loadGlobal_builtin (by rw [I.ok.glob]; exact I.mod.glob.keeps I.bk) hm (by rw [I.ok.blt]; exact h1.keeps I.bk) ((h2 x hn).trans hv) h) hd
/-- a module's constant, a class, a function, as a value -/
theorem pe_glob {x : Str} {v : V} {u : Value} {pos : Pos} (hg : Gl X x) (hm : X.mg x = some u) (r : RelV v u) (hd : (x == ("__debug__" : Str)) = false := by decide) : PE X (.Name x pos) (tC v) :=
  fun _ _ _ H _ I h => ld_glob I hg hm ⟨v, H, I, r, h⟩ hd

/-! ### arithmetic -/
variable {a b : Expr} {ta tb : TE} {pos : Pos}

/-! ### comparisons -/
def PC (X : Cx) (op : CmpOp) (a b : Expr) (t : TE) : Prop :=
  ∀ (pins : List (Addr × Obj)) (s : Shared) (σ : St) (H : Hp) (Q : VK), Inv X pins σ H s → t σ H Q →
    wpAny (model X.prog X.w) X.A (eval a X.env) (fun v s₁ => wpAny (model X.prog X.w) X.A (eval b X.env) (fun u s₂ => wpAny (model X.prog X.w) X.A (compareOp op v u) (EP X pins σ Q) X.xe s₂) X.xe s₁) X.xe s
/-- a comparison as a value, as a test -/
def tB (t : TE) : TT := fun σ H Q => t σ H fun x H1 => ∃ c, x = .bl c ∧ Q c H1
theorem pt_cmp {op : CmpOp} {t : TE} (h : PC X op a b t) (h1 : behindInMarks op b = false := by first | exact nobehind _ (by decide) (by decide) | rfl) : PT X (.Compare a [op] [b] pos) (tB t) := by
  intro pins s σ H Q I hw
  refine wpAny_isTrue_Compare1 (thn (h pins s σ H _ I hw) fun v s1 h1 => thn h1 fun u s2 h2 => thn h2 fun c s3 ⟨x, H1, I1, r1, q1⟩ => ?_) h1
  obtain ⟨d, rfl, q⟩ := q1
  cases r1
  exact wpAny_truthy_bool ⟨H1, I1, q⟩
/-- an expression whose value is a bool, as a test -/
theorem pt_val {e : Expr} {t : TE} (h : PE X e t) (he : ∀ whole, isTrue e X.env whole = (do let v ← whole; standAt e.pos; holding [v] (truthy v)) := by intro _; rfl) : PT X e (tB t) := by
  intro pins s σ H Q I hw
  refine isTrue_plain (thn (h pins s σ H _ I hw) fun v s1 ⟨x, H1, I1, r1, q1⟩ => ?_) (he _)
  obtain ⟨d, rfl, q⟩ := q1
  cases r1
  exact wpAny_truthy_bool ⟨H1, I1, q⟩

/-! ### and, or, not -/
variable {tA tB' : TT} {rest : List Expr}
def tAnd (t u : TT) : TT := fun σ H Q => t σ H fun c H1 => if c = true then u σ H1 Q else Q false H1
def tOr (t u : TT) : TT := fun σ H Q => t σ H fun c H1 => if c = true then Q true H1 else u σ H1 Q
def tNot (t : TT) : TT := fun σ H Q => t σ H fun c H1 => Q (!c) H1
theorem pw_and1 (ha : PT X a tA) : PW X (.BoolOp .And [a] pos) tA := by
  intro wh pins s σ H Q I h
  refine isTrue_and (thn (ha pins s σ H Q I h) fun c s1 e => ?_)
  cases c with
  | true => exact isTrue_and_nil e
  | false => exact e
theorem pw_or1 (ha : PT X a tA) : PW X (.BoolOp .Or [a] pos) tA := by
  intro wh pins s σ H Q I h
  refine isTrue_or (thn (ha pins s σ H Q I h) fun c s1 e => ?_)
  cases c with
  | false => exact isTrue_or_nil e
  | true => exact e
theorem pw_and (ha : PT X a tA) (hb : PW X (.BoolOp .And (b :: rest) pos) tB') : PW X (.BoolOp .And (a :: b :: rest) pos) (tAnd tA tB') := by
  intro wh pins s σ H Q I h
  refine isTrue_and (thn (ha pins s σ H _ I h) fun c s1 ⟨H1, I1, q1⟩ => ?_)
  cases c with
  | true => exact hb wh pins s1 σ H1 Q I1 q1
  | false => exact ⟨H1, I1, q1⟩
theorem pw_or (ha : PT X a tA) (hb : PW X (.BoolOp .Or (b :: rest) pos) tB') : PW X (.BoolOp .Or (a :: b :: rest) pos) (tOr tA tB') := by
  intro wh pins s σ H Q I h
  refine isTrue_or (thn (ha pins s σ H _ I h) fun c s1 ⟨H1, I1, q1⟩ => ?_)
  cases c with
  | true => exact ⟨H1, I1, q1⟩
  | false => exact hb wh pins s1 σ H1 Q I1 q1
theorem pt_not (ha : PT X a tA) : PT X (.UnaryOp .Not a pos) (tNot tA) := by
  intro pins s σ H Q I h
  exact isTrue_not (ha pins s σ H (fun c H1 => Q (!c) H1) I h)
/-- .. as values (bools) -/
def tAndV (ta tb : TE) : TE := fun σ H Q => ta σ H fun x H1 => ∃ c, x = .bl c ∧ if c = true then tb σ H1 Q else Q (.bl false) H1
theorem pe_one {op} {t : TE} (h : PE X a t) : PE X (.BoolOp op [a] pos) t := fun pins s σ H Q I hw => BoolOp_one (h pins s σ H Q I hw)
theorem pe_and (ha : PE X a ta) (hb : PE X (.BoolOp .And (b :: rest) pos) tb) : PE X (.BoolOp .And (a :: b :: rest) pos) (tAndV ta tb) := by
  intro pins s σ H Q I h
  refine BoolOp_and (thn (ha pins s σ H _ I h) fun v s1 ⟨x, H1, I1, r1, q1⟩ => ?_)
  obtain ⟨c, rfl, q1⟩ := q1
  cases r1
  refine wpAny_truthy_bool ?_
  cases c with
  | true => exact hb pins s1 σ H1 Q I1 q1
  | false => exact ⟨.bl false, H1, I1, rfl, q1⟩
end
end L2

namespace L2
open PySem PySem.Spec PyProof.Rows

/-! ### a list, a tuple that is read: tracked, frozen, or an object of the module -/
def SqL (K : PySem.W.Frag) (H : Hp) (a : Addr) (xs : List V) : Prop :=
  Rd H a (.lst xs) ∨
    ∃ (o : Obj) (its : Array Value) (n : Nat), K.lookup a = some o ∧ o.cls = .type "list" ∧ o.dict = none ∧ o.data = .seq its n ∧ its.size ≤ sizeLine ∧ Vals xs its.toList
def SqT (K : PySem.W.Frag) (H : Hp) (a : Addr) (xs : List V) : Prop :=
  Rd H a (.tup xs) ∨
    ∃ (o : Obj) (its : Array Value) (n : Nat), K.lookup a = some o ∧ o.cls = .type "tuple" ∧ o.data = .seq its n ∧ its.size ≤ sizeLine ∧ Vals xs its.toList
def absV : Value → Option V
  | .none => some .non
  | .bool b => some (.bl b)
  | .int i _ => some (.int i)
  | .str x _ => some (.str x)
  | .bytes b _ => some (.byt b)
  | .float b _ => some (.flt b)
  | .ref a => some (.ref a)
  | .type n => some (.ty n)
  | _ => none
theorem RelV.abs {x : V} {u : Value} (r : RelV x u) : absV u = some x := by
  cases x with
  | non => cases r; rfl
  | bl _ => cases r; rfl
  | int _ => obtain ⟨t, rfl⟩ := r; rfl
  | str _ => obtain ⟨t, rfl⟩ := r; rfl
  | byt _ => obtain ⟨t, rfl⟩ := r; rfl
  | flt _ => obtain ⟨t, rfl⟩ := r; rfl
  | ref _ => cases r; rfl
  | ty _ => cases r; rfl
theorem RelV.inj {x y : V} {u : Value} (r : RelV x u) (q : RelV y u) : x = y := Option.some.inj (r.abs.symm.trans q.abs)
theorem Vals.inj : ∀ {xs ys : List V} {us : List Value}, Vals xs us → Vals ys us → xs = ys
  | _, _, _, .nil, .nil => rfl
  | _, _, _, .cons r t, .cons r' t' => by rw [r.inj r', Vals.inj t t']
section
variable {X : Cx} {pins : List (Addr × Obj)} {σ : St} {H : Hp} {s : Shared} {a : Addr} {xs ys : List V}
theorem SqL.of {K : PySem.W.Frag} (h : H a = some (.lst xs)) : SqL K H a xs := .inl (.inl h)
theorem SqT.of {K : PySem.W.Frag} (h : H a = some (.tup xs)) : SqT K H a xs := .inl (.inl h)
theorem Inv.list (I : Inv X pins σ H s) (h : SqL X.K H a xs) : ∃ its : List Value, Vals xs its ∧ PlainL s.heap a its.toArray ∧ xs.length ≤ sizeLine := by
  rcases h with h | ⟨o, its, n, hk, hc, hd, hs, hz, r⟩
  · obtain ⟨z, its, n, r, e⟩ := h.ok I.hok
    exact ⟨its, r, ⟨_, n, e, rfl, rfl, rfl⟩, z⟩
  · refine ⟨its.toList, r, ⟨o, n, I.kIn a o hk, hc, hd, by simpa using hs⟩, ?_⟩
    have e := r.length
    simp only [Array.length_toList] at e
    omega
theorem Inv.tuple (I : Inv X pins σ H s) (h : SqT X.K H a xs) : ∃ its : List Value, Vals xs its ∧ IsTup s.heap a its.toArray ∧ xs.length ≤ sizeLine := by
  rcases h with h | ⟨o, its, n, hk, hc, hs, hz, r⟩
  · obtain ⟨z, its, r, p⟩ := h.ok I.hok
    exact ⟨its, r, p, z⟩
  · refine ⟨its.toList, r, ⟨o, I.kIn a o hk, hc, n, by simpa using hs⟩, ?_⟩
    have e := r.length
    simp only [Array.length_toList] at e
    omega
theorem Inv.list_inj (I : Inv X pins σ H s) (h : SqL X.K H a xs) (h' : SqL X.K H a ys) : xs = ys := by
  obtain ⟨its, r, ⟨o, n, e, _, _, d⟩, _⟩ := I.list h
  obtain ⟨its', r', ⟨o', n', e', _, _, d'⟩, _⟩ := I.list h'
  rw [e] at e'; cases e'
  rw [d] at d'
  injection d' with d1 _
  have : its = its' := by simpa using congrArg Array.toList d1
  subst this
  exact r.inj r'
end

/-! ### another wish about exceptions -/
abbrev Cx.wish (X : Cx) (E : Value → Shared → Prop) : Cx := { X with xe := E }
/-- no exception leaves -/
abbrev Cx.nox (X : Cx) : Cx := X.wish fun _ _ => False
theorem Cx.Ok.wish {X : Cx} (ok : X.Ok) (E : Value → Shared → Prop) : (X.wish E).Ok :=
  ⟨ok.mod, ok.kind, ok.glob, ok.blt, ok.above, ok.inj, ok.has, ok.cab, ok.hd, ok.frames, ok.stk, ok.exf, ok.bs, ok.bsz, ok.noex, ok.exfs, ok.funs, ok.frf⟩
theorem Cx.Ok.unwish {X : Cx} {E : Value → Shared → Prop} (ok : (X.wish E).Ok) : X.Ok :=
  ⟨ok.mod, ok.kind, ok.glob, ok.blt, ok.above, ok.inj, ok.has, ok.cab, ok.hd, ok.frames, ok.stk, ok.exf, ok.bs, ok.bsz, ok.noex, ok.exfs, ok.funs, ok.frf⟩
section
variable {X : Cx} {pins : List (Addr × Obj)} {σ : St} {H : Hp} {s : Shared} {E : Value → Shared → Prop}
theorem Inv.wish (I : Inv X pins σ H s) (E : Value → Shared → Prop) : Inv (X.wish E) pins σ H s := ⟨I.ok.wish E, I.os, I.bare, I.base, I.loc, I.cell, I.free, I.freeC, I.pin, I.hok, I.len⟩
theorem Inv.unwish (I : Inv (X.wish E) pins σ H s) : Inv X pins σ H s := ⟨I.ok.unwish, I.os, I.bare, I.base, I.loc, I.cell, I.free, I.freeC, I.pin, I.hok, I.len⟩
theorem SP.unwish {D : Ends} {f : Flow} {s' : Shared} (h : SP (X.wish E) pins D f s') : SP X pins D f s' := by
  cases f with
  | next => obtain ⟨σ', H', I, q⟩ := h; exact ⟨σ', H', I.unwish, q⟩
  | brk => obtain ⟨σ', H', I, q⟩ := h; exact ⟨σ', H', I.unwish, q⟩
  | cont => obtain ⟨σ', H', I, q⟩ := h; exact ⟨σ', H', I.unwish, q⟩
  | ret u => obtain ⟨v, σ', H', I, r, q⟩ := h; exact ⟨v, σ', H', I.unwish, r, q⟩
theorem PSs.nox {st : List Stmt} {t : TS} (h : PSs X.nox st t) : PSs X st t := fun pins s σ H D I hw =>
  wpAny_mono (h pins s σ H D (I.wish _) hw) (fun _ _ q => q.unwish) fun _ _ z => False.elim z
end

/-! ### blocks and small statements -/
section
variable {X : Cx} {st : Stmt} {rest : List Stmt} {t u : TS} {e : Expr} {te : TE} {pos : Pos}
def tNext : TS := fun D σ H => D.nx σ H
def tSeq (t u : TS) : TS := fun D σ H => t { D with nx := u D } σ H
theorem pss_nil : PSs X [] tNext := fun _ _ σ H _ I h => wpAny_execs_nil ⟨σ, H, I, h⟩
theorem pss_cons (h1 : PS X st t) (h2 : PSs X rest u) : PSs X (st :: rest) (tSeq t u) := by
  intro pins s σ H D I h
  refine wpAny_execs_cons (thn (h1 pins s σ H { D with nx := u D } I h) fun f s1 q => ?_)
  cases f with
  | next =>
    obtain ⟨σ', H', I', q⟩ := q
    exact h2 pins s1 σ' H' D I' q
  | ret v => exact q
  | brk => exact q
  | cont => exact q
theorem pss_one (h1 : PS X st t) : PSs X [st] t := by
  intro pins s σ H D I h
  refine wpAny_execs_cons (thn (h1 pins s σ H D I h) fun f s1 q => ?_)
  cases f with
  | next => exact wpAny_execs_nil q
  | ret v => exact q
  | brk => exact q
  | cont => exact q
/-- in a def's body nothing is shown -/
theorem Inv.quiet {pins : List (Addr × Obj)} {σ : St} {H : Hp} {s : Shared} (I : Inv X pins σ H s) : interactive X.env = false := by simp [interactive, I.ok.kind]
/-- an expression whose value is dropped -/
def tDrop (te : TE) : TS := fun D σ H => te σ H fun _ H1 => D.nx σ H1
theorem ps_expr (he : PE X e te) (hs : swapsWith e none pos.line X.env = pure false := by rfl) : PS X (.Expr e pos) (tDrop te) := by
  intro pins s σ H D I h
  exact wpAny_Expr_any (thn (he pins s σ H _ I h) fun v s1 ⟨x, H1, I1, r1, q1⟩ => ⟨σ, H1, I1, q1⟩) I.quiet hs
def tRet (te : TE) : TS := fun D σ H => te σ H D.rt
theorem ps_ret (he : PE X e te) : PS X (.Return (some e) pos) (tRet te) := by
  intro pins s σ H D I h
  exact wpAny_Return_some (thn (he pins s σ H _ I h) fun v s1 ⟨x, H1, I1, r1, q1⟩ => ⟨x, σ, H1, I1, r1, q1⟩)
def tIfS (c : TT) (t u : TS) : TS := fun D σ H => c σ H fun b H1 => if b = true then t D σ H1 else u D σ H1
theorem ps_if {c : Expr} {a b : List Stmt} {tc : TT} (hc : PT X c tc) (ha : PSs X a t) (hb : PSs X b u) : PS X (.If c a b pos) (tIfS tc t u) := by
  intro pins s σ H D I h
  refine wpAny_If (thn (hc pins s σ H _ I h) fun d s1 ⟨H1, I1, q1⟩ => ?_)
  cases d with
  | true => exact ha pins s1 σ H1 D I1 q1
  | false => exact hb pins s1 σ H1 D I1 q1
end

/-! ### targets -/
abbrev TG := V → St → Hp → (St → Hp → Prop) → Prop
abbrev TGs := List V → St → Hp → (St → Hp → Prop) → Prop
def PG (X : Cx) (target : Expr) (t : TG) : Prop :=
  ∀ (pins : List (Addr × Obj)) (s : Shared) (σ : St) (H : Hp) (v : V) (u : Value) (Q : St → Hp → Prop), Inv X pins σ H s → RelV v u → t v σ H Q →
    wpAny (model X.prog X.w) X.A (assign target X.env u) (fun _ s' => ∃ σ' H', Inv X pins σ' H' s' ∧ Q σ' H') X.xe s
/-- several targets, one after another -/
def PGs (X : Cx) (ts : List Expr) (t : TGs) : Prop :=
  ∀ (pins : List (Addr × Obj)) (s : Shared) (σ : St) (H : Hp) (vs : List V) (us : List Value) (Q : St → Hp → Prop), Inv X pins σ H s → Vals vs us → t vs σ H Q →
    wpAny (model X.prog X.w) X.A (assignInOrder ((assignEach ts X.env).map (·.2)) us) (fun _ s' => ∃ σ' H', Inv X pins σ' H' s' ∧ Q σ' H') X.xe s
/-- a op= b, by values -/
abbrev TIp := V → V → Hp → VK → Prop
def PIp (X : Cx) (op : Operator) (t : TIp) : Prop :=
  ∀ (pins : List (Addr × Obj)) (s : Shared) (σ : St) (H : Hp) (x y : V) (v u : Value) (Q : VK), Inv X pins σ H s → RelV x v → RelV y u → t x y H Q →
    wpAny (model X.prog X.w) X.A (inplaceOp op v u) (EP X pins σ Q) X.xe s
section
variable {X : Cx} {pos : Pos}
def gName (i : Nat) : TG := fun v σ H Q => Q (σ.set i (some v)) H
theorem pg_name {i : Nat} {x : Str} (hN : X.N.Nodup) (hi : X.N[i]? = some x) (hx : Loc X.env.scope x) (hf : X.fn x = true ∨ X.env.scope.names.lookup x = some .local := by first | exact .inl rfl | exact .inr rfl | assumption) : PG X (.Name x pos) (gName i) := by
  intro pins s σ H v u Q I r h
  exact wpAny_assign_Name (store_ok I hN hi hx r (fun s' I' => ⟨_, H, I', h⟩) hf)
def gNil : TGs := fun vs σ H Q => vs = [] ∧ Q σ H
def gCons (t : TG) (u : TGs) : TGs := fun vs σ H Q => ∃ v r, vs = v :: r ∧ t v σ H fun σ' H' => u r σ' H' Q
theorem pgs_nil : PGs X [] gNil := by
  intro pins s σ H vs us Q I r h
  obtain ⟨e, h⟩ := h
  subst e
  cases r
  exact assignInOrder_nil ⟨σ, H, I, h⟩
theorem pgs_cons {e : Expr} {es : List Expr} {t : TG} {u : TGs} (h1 : PG X e t) (h2 : PGs X es u)
    (hs : (assignEach (e :: es) X.env).map (·.2) = assign e X.env :: (assignEach es X.env).map (·.2) := by rfl) : PGs X (e :: es) (gCons t u) := by
  intro pins s σ H vs us Q I r h
  obtain ⟨v, vr, e1, h⟩ := h
  subst e1
  cases r with
  | cons r rr =>
    rw [hs]
    refine assignInOrder_cons (thn (h1 pins s σ H _ _ _ I r h) fun _ s1 ⟨σ1, H1, I1, q1⟩ => ?_)
    exact h2 pins s1 σ1 H1 _ _ Q I1 rr q1
/-- (a, b, ..) = a tuple of that length -/
def gTup (K : PySem.W.Frag) (n : Nat) (t : TGs) : TG := fun v σ H Q => ∃ a xs, v = .ref a ∧ SqT K H a xs ∧ xs.length = n ∧ t xs σ H Q
theorem pg_tup {es : List Expr} {k : Nat} {t : TGs} {n : Nat} (hc : X.calm = true) (h : PGs X es t)
    (hn : (assignEach es X.env).length = n := by rfl) (hst : (assignEach es X.env).findIdx? (·.1) = none := by rfl) : PG X (.Tuple es k pos) (gTup X.K n t) := by
  intro pins s σ H v u Q I r hw
  obtain ⟨a, xs, e1, hq, hl, hw⟩ := hw
  subst e1
  cases r
  obtain ⟨its, rv, ht, hz⟩ := I.tuple hq
  refine assign_Tuple_tuple (I.ok.hd hc) ht (by simp [hn, ← hl, rv.length]) hst fun h' hx => ?_
  have I1 : Inv X pins σ H { s with heap := h' } := I.kept (t' := s.toks) fun b o e => hx b o (Nat.ne_of_lt (Heap.lt_size e)) e
  exact h pins _ σ H xs _ Q I1 (by simpa using rv) hw
/-- target = value -/
def tAsg (te : TE) (g : TG) : TS := fun D σ H => te σ H fun x H1 => g x σ H1 D.nx
/-- name = value -/
theorem ps_set {i : Nat} {x : Str} {e : Expr} {te : TE} {pos' : Pos} (hN : X.N.Nodup) (hi : X.N[i]? = some x) (hx : Loc X.env.scope x) (he : PE X e te) (hs : swapsWith e (some (.Name x pos')) pos.line X.env = pure false := by rfl) (hf : X.fn x = true ∨ X.env.scope.names.lookup x = some .local := by first | exact .inl rfl | exact .inr rfl | assumption) :
    PS X (.Assign [.Name x pos'] e pos) (tAsg te (gName i)) := by
  intro pins s σ H D I h
  refine wpAny_Assign_Name (thn (he pins s σ H _ I h) fun v s1 ⟨y, H1, I1, r1, q1⟩ => ?_) hs
  exact store_ok I1 hN hi hx r1 (fun s2 I2 => ⟨_, H1, I2, q1⟩) hf
/-- name op= e -/
def tAug (i : Nat) (te : TE) (ti : TIp) : TS := fun D σ H => ∃ x, σ[i]? = some (some x) ∧ te σ H fun y H1 => ti x y H1 fun z H2 => D.nx (σ.set i (some z)) H2
theorem ps_aug {i : Nat} {x : Str} {e : Expr} {te : TE} {op : Operator} {ti : TIp} {pos' : Pos} (hN : X.N.Nodup) (hi : X.N[i]? = some x) (hx : Loc X.env.scope x) (he : PE X e te) (ho : PIp X op ti) (hf : X.fn x = true ∨ X.env.scope.names.lookup x = some .local := by first | exact .inl rfl | exact .inr rfl | assumption) :
    PS X (.AugAssign (.Name x pos') op e pos) (tAug i te ti) := by
  intro pins s σ H D I h
  obtain ⟨v, e1, h⟩ := h
  obtain ⟨m, hn, hl⟩ := I.loc
  have vis : Vis X.env.scope x := by rcases hx with k | k; exact .inl k; exact .inr (.inl k)
  obtain ⟨u, r, l⟩ := hl i x v hi e1 vis
  refine wpAny_AugAssign_Name ?_
  have go : wpAny (model X.prog X.w) X.A (eval e X.env) (fun w s₂ => wpAny (model X.prog X.w) X.A (inplaceOp op u w) (fun r s₃ => wpAny (model X.prog X.w) X.A (storeName X.env x r) (fun _ => SP X pins D .next) X.xe s₃) X.xe s₂) X.xe s := by
    refine thn (he pins s σ H _ I h) fun w s1 ⟨y, H1, I1, r1, q1⟩ => ?_
    refine thn (ho pins s1 σ H1 v y u w _ I1 r r1 q1) fun z s2 ⟨zv, H2, I2, r2, q2⟩ => ?_
    exact store_ok I2 hN hi hx r2 (fun s3 I3 => ⟨_, H2, I3, q2⟩) hf
  rcases l with ⟨hk, hm⟩ | ⟨hk, c, hc, hcell⟩
  · exact wpAny_loadName_local I.ok.kind hk hn hm go
  · rcases hk with hk | hk
    · exact wpAny_loadName_cell I.ok.kind hk hc hcell go
    · rcases hx with k | k
      · have : X.env.scope.names.lookup x = some .free := hk
        rw [k] at this; cases this
      · have : X.env.scope.names.lookup x = some .free := hk
        rw [k] at this; cases this
/-- o[i], by values -/
def PGet (X : Cx) (t : V → V → Hp → VK → Prop) : Prop :=
  ∀ (pins : List (Addr × Obj)) (s : Shared) (σ : St) (H : Hp) (o i : V) (ov iv : Value) (Q : VK), Inv X pins σ H s → RelV o ov → RelV i iv → t o i H Q →
    wpAny (model X.prog X.w) X.A (getItem ov iv) (EP X pins σ Q) X.xe s
/-- ints -/
def ipI (f : Int → Int → Int) : TIp := fun x y H Q => ∃ i j, x = .int i ∧ y = .int j ∧ Q (.int (f i j)) H
theorem ip_add : PIp X .Add (ipI fun i j => i + j) := by
  intro pins s σ H x y v u Q I r1 r2 h
  obtain ⟨i, j, e1, e2, q⟩ := h
  subst e1; subst e2
  obtain ⟨t, rfl⟩ := r1
  obtain ⟨t', rfl⟩ := r2
  exact iadd_int ⟨.int _, H, I.tok _, ⟨_, rfl⟩, q⟩
theorem ip_sub : PIp X .Sub (ipI fun i j => i - j) := by
  intro pins s σ H x y v u Q I r1 r2 h
  obtain ⟨i, j, e1, e2, q⟩ := h
  subst e1; subst e2
  obtain ⟨t, rfl⟩ := r1
  obtain ⟨t', rfl⟩ := r2
  exact isub_int ⟨.int _, H, I.tok _, ⟨_, rfl⟩, q⟩
end

/-! ### while -/
section
variable {X : Cx} {pos : Pos}
/-- the invariant W with its measure -/
def tWhile (c : TT) (tb : TS) : TS := fun D σ H => ∃ W : Nat → St → Hp → Prop, (∃ m, W m σ H) ∧ ∀ m σ H, W m σ H →
  c σ H fun b H1 => if b = true then ∃ N : St → Hp → Prop, (∀ σ' H', N σ' H' → ∃ m', m' < m ∧ W m' σ' H') ∧ tb { D with nx := N, ct := N, bk := D.nx } σ H1 else D.nx σ H1
theorem ps_while {c : Expr} {body : List Stmt} {tc : TT} {tb : TS} (hp : PassesOwn (model X.prog X.w) X.A X.env X.xe) (hc : PT X c tc) (hb : PSs X body tb) : PS X (.While c body [] pos) (tWhile tc tb) := by
  intro pins s σ H D I h
  obtain ⟨W, ⟨m0, w0⟩, turn⟩ := h
  refine wpAny_While (codeAny_whileLoop (fun n s' => ∃ σ' H', Inv X pins σ' H' s' ∧ W n σ' H') ?_ m0 ⟨σ, H, I, w0⟩)
  rintro n s1 ⟨σ1, H1, I1, w1⟩
  refine wpAny_passesOwn hp (thn (hc pins s1 σ1 H1 _ I1 (turn n σ1 H1 w1)) fun b s2 ⟨H2, I2, q2⟩ => ?_)
  cases b with
  | true =>
    obtain ⟨N, hN, q2⟩ := q2
    rw [if_pos rfl]
    refine wpAny_passesOwn hp (thn (hb pins s2 σ1 H2 _ I2 q2) fun f s3 q3 => ?_)
    cases f with
    | next =>
      obtain ⟨σ3, H3, I3, n3⟩ := q3
      obtain ⟨m', hm, w3⟩ := hN σ3 H3 n3
      exact ⟨m', hm, σ3, H3, I3, w3⟩
    | cont =>
      obtain ⟨σ3, H3, I3, n3⟩ := q3
      obtain ⟨m', hm, w3⟩ := hN σ3 H3 n3
      exact ⟨m', hm, σ3, H3, I3, w3⟩
    | brk => exact q3
    | ret v => exact q3
  | false =>
    rw [if_neg Bool.false_ne_true]
    exact wpAny_execs_nil ⟨σ1, H2, I2, q2⟩
end

/-! ### what a loop or a comprehension walks -/
/-- at turn i: it yields x (the heap may grow), or it stops -/
structure It where
  go : Nat → Hp → Prop
  yld : Nat → Hp → V → Hp → Prop
  stop : Nat → Hp → Prop
/-- the iterator's own objects may turn: they are not the frame's, not pinned, younger than the entry (or a comprehension's own) -/
def FpOk (X : Cx) (pins : List (Addr × Obj)) (H : Hp) (b : Addr) : Prop :=
  H b = none ∧ b ≠ X.env.locals ∧ b ∉ X.fs ∧ (b ∈ X.ex ∨ X.s_0.heap.objs.size ≤ b) ∧ (∀ x c, X.env.cells.lookup x = some c → c ≠ b) ∧ ∀ p ∈ X.pn ++ pins, p.1 ≠ b
theorem Inv.fpOk {X : Cx} {pins : List (Addr × Obj)} {σ : St} {H H' : Hp} {s : Shared} {b : Addr} (I : Inv X pins σ H s) (hb : s.heap.objs.size ≤ b) (hn : H' b = none) : FpOk X pins H' b := by
  refine ⟨hn, Nat.ne_of_gt (Nat.lt_of_lt_of_le I.lt hb), I.nofs hb, .inr (Nat.le_trans I.sz hb), fun x c e z => ?_, fun p hp z => ?_⟩
  · obtain ⟨v, q⟩ := I.cell x c e
    exact absurd (Nat.lt_of_lt_of_le q.lt (by rw [z]; exact hb)) (Nat.lt_irrefl _)
  · exact absurd (Nat.lt_of_lt_of_le (Heap.lt_size (I.pin p hp).1) (by rw [z]; exact hb)) (Nat.lt_irrefl _)
structure Turn (P : Program) (w : World) (K : PySem.W.Frag) (tg : Expr) (J : It) (fp : List Addr) (it : Addr) (tn : Nat → Heap → Prop) : Prop where
  mem : it ∈ fp
  obj : ∀ i h, tn i h → ∀ b ∈ fp, ∃ o, h.get? b = some o ∧ ∀ v, o.data ≠ .cell v
  keep : ∀ i h h', tn i h → (∀ b ∈ fp, ∀ o, h.get? b = some o → h'.get? b = some o) → tn i h'
  item : ∀ (X : Cx), X.prog = P → X.w = w → X.K = K → X.calm = true → ∀ (i : Nat) (pins : List (Addr × Obj)) (s : Shared) (σ : St) (H : Hp) (E : Value → Shared → Prop), Inv X pins σ H s → (∀ b ∈ fp, FpOk X pins H b) → tn i s.heap → J.go i H →
    wpAny (model P w) X.A (pyNext (.ref it)) (fun r s1 => ∃ u, r = some u ∧
      wpAny (model P w) X.A (letOwnedTupleGo tg (.ref it) u) (fun _ s2 => ∃ x H', Inv X pins σ H' s2 ∧ RelV x u ∧ J.yld i H x H' ∧ tn (i + 1) s2.heap ∧ ∀ b ∈ fp, H' b = none) E s1) E s
  done : ∀ (X : Cx), X.prog = P → X.w = w → X.K = K → X.calm = true → ∀ (i : Nat) (pins : List (Addr × Obj)) (s : Shared) (σ : St) (H : Hp) (E : Value → Shared → Prop), Inv X pins σ H s → (∀ b ∈ fp, FpOk X pins H b) → tn i s.heap → J.stop i H →
    wpAny (model P w) X.A (pyNext (.ref it)) (fun r s1 => r = none ∧ Inv X pins σ H s1) E s
  self : ∀ (A : Around) (i : Nat) (s : Shared) (Q : Value → Shared → Prop) (E : Value → Shared → Prop), tn i s.heap → Q (.ref it) s → wpAny (model P w) A (pyIter (.ref it)) Q E s
abbrev TI := St → Hp → (It → Hp → Prop) → Prop
/-- an iterator has come -/
def PIE (X : Cx) (pins : List (Addr × Obj)) (σ : St) (tg : Expr) (R : It → Hp → Prop) (itv : Value) (s2 : Shared) : Prop :=
  ∃ (it : Addr) (fp : List Addr) (tn : Nat → Heap → Prop) (J : It) (H' : Hp), itv = .ref it ∧ Inv X pins σ H' s2 ∧ Turn X.prog X.w X.K tg J fp it tn ∧ tn 0 s2.heap ∧ (∀ b ∈ fp, FpOk X pins H' b) ∧ R J H'
def PI (X : Cx) (tg iter : Expr) (wi : TI) : Prop :=
  ∀ (pins : List (Addr × Obj)) (s : Shared) (σ : St) (H : Hp) (R : It → Hp → Prop), Inv X pins σ H s → wi σ H R →
    wpAny (model X.prog X.w) X.A (eval iter X.env) (fun v s1 => wpAny (model X.prog X.w) X.A (pyIter v) (PIE X pins σ tg R) X.xe s1) X.xe s

/-- the step ahead of the store is nothing for an iterator that keeps no tuple -/
theorem go_of {M : Model} {A : Around} {E : Value → Shared → Prop} {s : Shared} {tg : Expr} {it : Addr} {u : Value} {o : Obj} {n : String} {vs : Array Value} {Q : Unit → Shared → Prop} (ho : s.heap.get? it = some o) (hc : o.cls = .type n) (hd : o.data = .fields vs)
    (hn : ["enumerate", "zip", "dict_itemiterator", "dict_reverseitemiterator", "odict_iterator", "itertools.zip_longest", "itertools.pairwise"].contains n = false) (hQ : Q () s) : wpAny M A (letOwnedTupleGo tg (.ref it) u) Q E s := by
  unfold letOwnedTupleGo
  cases tg <;> first
    | exact wpAny_pure hQ
    | (cases u <;> first
        | exact wpAny_pure hQ
        | (refine wpAny_bind (wpAny_load ho ?_)
           rw [hc, hd]
           show wpAny M A (if (["enumerate", "zip", "dict_itemiterator", "dict_reverseitemiterator", "odict_iterator", "itertools.zip_longest", "itertools.pairwise"].contains n && vs[0]? == some (rawInt _)) = true then _ else _) Q E s
           rw [if_neg (by intro h; rw [hn, Bool.false_and] at h; cases h)]
           exact wpAny_pure hQ))

/-- the list at a, as it stands at each turn (a loop may append to it) -/
def Itl (K : PySem.W.Frag) (a : Addr) : It :=
  ⟨fun i H => ∃ xs x, SqL K H a xs ∧ xs[i]? = some x, fun i H x H' => H' = H ∧ ∀ xs, SqL K H a xs → xs[i]? = some x, fun i H => ∃ xs, SqL K H a xs ∧ xs.length ≤ i⟩
theorem turn_list {P : Program} {w : World} {K : PySem.W.Frag} {tg : Expr} (a it : Addr) : Turn P w K tg (Itl K a) [it] it (fun i h => h.IsListIter it a i) where
  mem := by simp
  obj := fun i h st b hb => by
    have e : b = it := by simpa using hb
    subst e
    obtain ⟨o, e, c, d⟩ := st
    exact ⟨o, e, fun v z => by rw [d] at z; cases z⟩
  keep := fun i h h' st k => st.at fun o e => k it (by simp) o e
  item := by
    intro X hP hw hK hc i pins s σ H E I hf st hg
    subst hP hw hK
    obtain ⟨xs, x, hq, hx⟩ := hg
    obtain ⟨its, rv, p, hz⟩ := I.list hq
    obtain ⟨u, hu, ru⟩ := rv.get hx
    obtain ⟨f0, f1, f2, f3, f4, f5⟩ := hf it (by simp)
    refine wpAny_pyNext_list_item st p.isList (x := u) (by simpa using hu) fun h' st' sb => ?_
    have I1 : Inv X pins σ H { s with heap := h' } := I.turned (t' := s.toks) (fun b o hb e => (sb.2 b hb).trans e) f0 f1 f3 f4 f5
    obtain ⟨o, e, c, d⟩ := id st'
    exact ⟨u, rfl, go_of (s := { s with heap := h' }) e c d (by decide) ⟨x, H, I1, ru, ⟨rfl, fun ys hy => by rw [I.list_inj hy hq]; exact hx⟩, st', fun b hb => (hf b hb).1⟩⟩
  done := by
    intro X hP hw hK hc i pins s σ H E I hf st hg
    subst hP hw hK
    obtain ⟨xs, hq, hx⟩ := hg
    obtain ⟨its, rv, p, hz⟩ := I.list hq
    obtain ⟨f0, f1, f2, f3, f4, f5⟩ := hf it (by simp)
    have hl := rv.length
    exact wpAny_pyNext_list_end (I.ok.hd hc) st p.isList (by simp; omega) fun h' eb => ⟨rfl, I.turned (t' := s.toks) (fun b o hb e => eb b o hb e) f0 f1 f3 f4 f5⟩
  self := fun _ _ _ _ _ st h => wpAny_pyIter_listiter st h
end L2

namespace L2
open PySem PySem.Spec PyProof.Rows
section
variable {X : Cx} {tg : Expr}
def iList (K : PySem.W.Frag) (tl : TE) : TI := fun σ H R => tl σ H fun x H1 => ∃ a, x = .ref a ∧ (∃ xs, SqL K H1 a xs) ∧ R (Itl K a) H1
theorem pi_list {l : Expr} {tl : TE} (hl : PE X l tl) : PI X tg l (iList X.K tl) := by
  intro pins s σ H R I h
  refine thn (hl pins s σ H _ I h) fun v s1 ⟨x, H1, I1, r1, q1⟩ => ?_
  obtain ⟨a, e, ⟨xs, hq⟩, q⟩ := q1
  subst e
  cases r1
  obtain ⟨its, rv, p, hz⟩ := I1.list hq
  refine wpAny_pyIter_list p.isList ?_
  refine ⟨s1.heap.objs.size, [s1.heap.objs.size], _, _, H1, rfl, I1.kept (t' := s1.toks) fun b o e => Heap.get?_push_of_some _ e, turn_list a _, ⟨_, Heap.get?_push_size _ rfl, rfl, rfl⟩, fun b hb => ?_, q⟩
  have e : b = s1.heap.objs.size := by simpa using hb
  subst e
  exact I1.fpOk (Nat.le_refl _) (I1.hok.fresh (Nat.le_refl _))

/-! ### for -/
/-- W: the invariant by the turn and a measure; N: what the body is to reach -/
def tFor (wi : TI) (g : TG) (tb : TS) : TS := fun D σ H => wi σ H fun J H1 => ∃ W : Nat → Nat → St → Hp → Prop, (∃ m, W 0 m σ H1) ∧ ∀ i m σ H, W i m σ H →
  (J.stop i H ∧ D.nx σ H) ∨ (J.go i H ∧ ∃ N : St → Hp → Prop, (∀ σ' H', N σ' H' → ∃ m', m' < m ∧ W (i + 1) m' σ' H') ∧ ∀ x H', J.yld i H x H' → g x σ H' fun σ2 H2 => tb { D with nx := N, ct := N, bk := D.nx } σ2 H2)
/-- the records at fp as they stand -/
def pinsAt (fp : List Addr) (h : Heap) : List (Addr × Obj) := fp.filterMap fun b => (h.get? b).map fun o => (b, o)
theorem mem_pinsAt {fp : List Addr} {h : Heap} {b : Addr} {o : Obj} (hb : b ∈ fp) (e : h.get? b = some o) : (b, o) ∈ pinsAt fp h := List.mem_filterMap.mpr ⟨b, hb, by rw [e]; rfl⟩
theorem of_pinsAt {fp : List Addr} {h : Heap} {p : Addr × Obj} (hp : p ∈ pinsAt fp h) : p.1 ∈ fp ∧ h.get? p.1 = some p.2 := by
  obtain ⟨b, hb, e⟩ := List.mem_filterMap.mp hp
  cases q : h.get? b with
  | none => rw [q] at e; cases e
  | some o =>
    rw [q] at e
    have e' : (b, o) = p := Option.some.inj e
    subst e'
    exact ⟨hb, q⟩
theorem Inv.pinned {pins : List (Addr × Obj)} {σ : St} {H : Hp} {s : Shared} {fp : List Addr} (I : Inv X pins σ H s) (hf : ∀ b ∈ fp, FpOk X pins H b) (ho : ∀ b ∈ fp, ∃ o, s.heap.get? b = some o ∧ ∀ v, o.data ≠ .cell v) : Inv X (pins ++ pinsAt fp s.heap) σ H s :=
  I.pins_of fun p hp => (List.mem_append.mp hp).elim (fun z => I.pin p (List.mem_append_right _ z)) fun z => by
    obtain ⟨hb, e⟩ := of_pinsAt z
    obtain ⟨f0, f1, f2, _⟩ := hf p.1 hb
    obtain ⟨o, e', d⟩ := ho p.1 hb
    rw [e] at e'; cases e'
    exact ⟨e, f0, f1, f2, d⟩
theorem Inv.unpinned {pins pl : List (Addr × Obj)} {σ : St} {H : Hp} {s : Shared} (I : Inv X (pins ++ pl) σ H s) : Inv X pins σ H s := I.pins_of fun p hp => I.pin p (List.mem_append_right _ (List.mem_append_left _ hp))
theorem ps_for {iter : Expr} {body : List Stmt} {wi : TI} {g : TG} {tb : TS} {pos : Pos} (hp : PassesOwn (model X.prog X.w) X.A X.env X.xe) (hc : X.calm = true) (hi : PI X tg iter wi) (hg : PG X tg g) (hb : PSs X body tb)
    (hs : ∀ x, foldedSetIterable iter X.env x = pure x := by intro _; rfl) : PS X (.For tg iter body [] pos) (tFor wi g tb) := by
  intro pins s σ H D I h
  refine wpAny_For (thn (hi pins s σ H _ I h) fun v s1 h1 => thn h1 fun itv s2 h2 => ?_) hs
  obtain ⟨it, fp, tn, J, H2, e, I2, T, st2, f2, W, ⟨m0, w0⟩, turn⟩ := h2
  subst e
  -- what stays true of the iterator's objects through the loop
  have stat : ∀ {H' : Hp}, (∀ b ∈ fp, H' b = none) → ∀ b ∈ fp, FpOk X pins H' b := fun hn b hb => ⟨hn b hb, (f2 b hb).2⟩
  refine codeAny_forLoop_any (fun n s' => ∃ i σ' H', Inv X pins σ' H' s' ∧ tn i s'.heap ∧ (∀ b ∈ fp, H' b = none) ∧ W i n σ' H') ?_ m0 ⟨0, σ, H2, I2, st2, fun b hb => (f2 b hb).1, w0⟩
  rintro n s3 ⟨i, σ3, H3, I3, st3, fr3, w3⟩
  rcases turn i n σ3 H3 w3 with ⟨stop, qn⟩ | ⟨go, N, hN, step⟩
  · refine wpAny_passesOwn hp (thn (T.done X rfl rfl rfl hc i pins s3 σ3 H3 X.xe I3 (stat fr3) st3 stop) fun r s4 ⟨hr, I4⟩ => ?_)
    subst hr
    exact wpAny_execs_nil ⟨σ3, H3, I4, qn⟩
  · refine wpAny_passesOwn hp (thn (T.item X rfl rfl rfl hc i pins s3 σ3 H3 X.xe I3 (stat fr3) st3 go) fun r s4 ⟨u, hr, h4⟩ => ?_)
    subst hr
    refine wpAny_passesOwn hp (thn h4 fun _ s5 ⟨x, H5, I5, r5, y5, st5, fr5⟩ => ?_)
    have I5' := I5.pinned (stat fr5) (T.obj _ _ st5)
    refine wpAny_passesOwn hp (thn (hg _ s5 σ3 H5 x u _ I5' r5 (step x H5 y5)) fun _ s6 ⟨σ6, H6, I6, q6⟩ => ?_)
    refine wpAny_passesOwn hp (thn (hb _ s6 σ6 H6 _ I6 q6) fun f s7 q7 => ?_)
    have again : ∀ {σ7 : St} {H7 : Hp}, Inv X (pins ++ pinsAt fp s5.heap) σ7 H7 s7 → N σ7 H7 → ∃ m, m < n ∧ ∃ i σ' H', Inv X pins σ' H' s7 ∧ tn i s7.heap ∧ (∀ b ∈ fp, H' b = none) ∧ W i m σ' H' := fun {σ7 H7} I7 n7 => by
      obtain ⟨m', hm, w7⟩ := hN σ7 H7 n7
      refine ⟨m', hm, i + 1, σ7, H7, I7.unpinned, T.keep _ _ _ st5 fun b hb o e => (I7.pin (b, o) (List.mem_append_right _ (List.mem_append_right _ (mem_pinsAt hb e)))).1, fun b hb => ?_, w7⟩
      obtain ⟨o, e, d⟩ := T.obj _ _ st5 b hb
      exact (I7.pin (b, o) (List.mem_append_right _ (List.mem_append_right _ (mem_pinsAt hb e)))).2.1
    cases f with
    | next => obtain ⟨σ7, H7, I7, n7⟩ := q7; exact again I7 n7
    | cont => obtain ⟨σ7, H7, I7, n7⟩ := q7; exact again I7 n7
    | brk => obtain ⟨σ7, H7, I7, q7⟩ := q7; exact ⟨σ7, H7, I7.unpinned, q7⟩
    | ret v => obtain ⟨x7, σ7, H7, I7, r7, q7⟩ := q7; exact ⟨x7, σ7, H7, I7.unpinned, r7, q7⟩
end

/-! ### the forms one uses -/
/-- over a list that the body leaves as it is -/
theorem for_list {K : PySem.W.Frag} {a : Addr} {xs : List V} {g : TG} {tb : TS} {D : Ends} {σ : St} {H : Hp} (Pv : Nat → St → Hp → Prop) (h0 : Pv 0 σ H) (hl : ∀ i σ H, i ≤ xs.length → Pv i σ H → SqL K H a xs)
    (hs : ∀ i x σ H, xs[i]? = some x → Pv i σ H → g x σ H fun σ2 H2 => tb { D with nx := Pv (i + 1), ct := Pv (i + 1), bk := D.nx } σ2 H2) (hd : ∀ σ H, Pv xs.length σ H → D.nx σ H) :
    ∃ W : Nat → Nat → St → Hp → Prop, (∃ m, W 0 m σ H) ∧ ∀ i m σ H, W i m σ H →
      ((Itl K a).stop i H ∧ D.nx σ H) ∨ ((Itl K a).go i H ∧ ∃ N : St → Hp → Prop, (∀ σ' H', N σ' H' → ∃ m', m' < m ∧ W (i + 1) m' σ' H') ∧ ∀ x H', (Itl K a).yld i H x H' → g x σ H' fun σ2 H2 => tb { D with nx := N, ct := N, bk := D.nx } σ2 H2) := by
  refine ⟨fun i m σ H => m = xs.length - i ∧ i ≤ xs.length ∧ Pv i σ H, ⟨xs.length, by simp, Nat.zero_le _, h0⟩, ?_⟩
  rintro i m σ H ⟨rfl, hi, p⟩
  have q := hl i σ H hi p
  by_cases hlt : i < xs.length
  · refine .inr ⟨⟨xs, xs[i], q, by simp [hlt]⟩, Pv (i + 1), fun σ' H' p' => ⟨xs.length - (i + 1), by omega, rfl, hlt, p'⟩, fun x H' y => ?_⟩
    obtain ⟨e, y⟩ := y
    subst e
    exact hs i x σ _ (y xs q) p
  · have e : i = xs.length := by omega
    subst e
    exact .inl ⟨⟨xs, q, Nat.le_refl _⟩, hd σ H p⟩
end L2

namespace L2
open PySem PySem.Spec PyProof.Rows

abbrev R2 := V → V → Hp → VK → Prop
/-- a two-place operation on values: f is binaryOp op, inplaceOp op or compareOp op -/
def OpR (X : Cx) (f : Value → Value → Sem Value) (r : R2) : Prop :=
  ∀ (pins : List (Addr × Obj)) (s : Shared) (σ : St) (H : Hp) (x y : V) (v u : Value) (Q : VK), Inv X pins σ H s → RelV x v → RelV y u → r x y H Q →
    wpAny (model X.prog X.w) X.A (f v u) (EP X pins σ Q) X.xe s
/-- a one-place operation -/
def UnR (X : Cx) (f : Value → Sem Value) (r : V → Hp → VK → Prop) : Prop :=
  ∀ (pins : List (Addr × Obj)) (s : Shared) (σ : St) (H : Hp) (x : V) (v : Value) (Q : VK), Inv X pins σ H s → RelV x v → r x H Q →
    wpAny (model X.prog X.w) X.A (f v) (EP X pins σ Q) X.xe s
/-- a call of a value that is known (a builtin, a type) with values -/
def CallR (X : Cx) (f : Value) (r : List V → Hp → VK → Prop) : Prop :=
  ∀ (pins : List (Addr × Obj)) (s : Shared) (σ : St) (H : Hp) (xs : List V) (us : List Value) (Q : VK), Inv X pins σ H s → Vals xs us → r xs H Q →
    wpAny (model X.prog X.w) X.A (call f us) (EP X pins σ Q) X.xe s

def tOp (r : R2) (ta tb : TE) : TE := fun σ H Q => ta σ H fun x H1 => tb σ H1 fun y H2 => r x y H2 Q
def tUn (r : V → Hp → VK → Prop) (ta : TE) : TE := fun σ H Q => ta σ H fun x H1 => r x H1 Q
/-- ints in, under C, and a value out -/
def rI (C : Int → Int → Prop) (g : Int → Int → V) : R2 := fun x y H Q => ∃ i j, x = .int i ∧ y = .int j ∧ C i j ∧ Q (g i j) H
def rI0 (g : Int → Int → V) : R2 := fun x y H Q => ∃ i j, x = .int i ∧ y = .int j ∧ Q (g i j) H
def rU (g : Int → V) : V → Hp → VK → Prop := fun x H Q => ∃ i, x = .int i ∧ Q (g i) H

section
variable {X : Cx} {a b c : Expr} {ta tb tc : TE} {pos : Pos}

theorem binT (ha : PE X a ta) (hb : PE X b tb) {pins : List (Addr × Obj)} {s : Shared} {σ : St} {H : Hp} {R : V → V → Hp → Prop} (I : Inv X pins σ H s)
    (h : ta σ H fun x H1 => tb σ H1 fun y H2 => R x y H2) {Q : Value → Shared → Prop} {f : Value → Value → Sem Value}
    (hf : ∀ v u s2 x y H2, Inv X pins σ H2 s2 → RelV x v → RelV y u → R x y H2 → wpAny (model X.prog X.w) X.A (f v u) Q X.xe s2) :
    wpAny (model X.prog X.w) X.A (eval a X.env) (fun v s₁ => wpAny (model X.prog X.w) X.A (eval b X.env) (fun u s₂ => wpAny (model X.prog X.w) X.A (f v u) Q X.xe s₂) X.xe s₁) X.xe s := by
  refine thn (ha pins s σ H _ I h) fun v s1 ⟨x, H1, I1, r1, q1⟩ => ?_
  refine thn (hb pins s1 σ H1 _ I1 q1) fun u s2 ⟨y, H2, I2, r2, q2⟩ => ?_
  exact hf v u s2 x y H2 I2 r1 r2 q2

theorem pe_op {op : Operator} {r : R2} (ho : OpR X (binaryOp op) r) (ha : PE X a ta) (hb : PE X b tb) : PE X (.BinOp a op b pos) (tOp r ta tb) := by
  intro pins s σ H Q I h
  exact wpAny_BinOp (binT ha hb I h fun v u s2 x y H2 I2 rx ry q => ho pins s2 σ H2 x y v u Q I2 rx ry q)
theorem pe_un {op : UnaryOp} {r : V → Hp → VK → Prop} (ho : UnR X (unaryOp op) r) (ha : PE X a ta) : PE X (.UnaryOp op a pos) (tUn r ta) := by
  intro pins s σ H Q I h
  exact UnaryOp_ (thn (ha pins s σ H _ I h) fun v s1 ⟨x, H1, I1, r1, q1⟩ => ho pins s1 σ H1 x v Q I1 r1 q1)

/-! ### ints -/
theorem opI {f : Value → Value → Sem Value} {C : Int → Int → Prop} {g : Int → Int → Int}
    (rule : ∀ (i j : Int) (t u : Tok) (s : Shared) (Q : Value → Shared → Prop) (E : Value → Shared → Prop), C i j → Q (.int (g i j) s.toks) { s with toks := s.toks + 1 } → wpAny (model X.prog X.w) X.A (f (.int i t) (.int j u)) Q E s) :
    OpR X f (rI C fun i j => .int (g i j)) := by
  intro pins s σ H x y v u Q I rx ry h
  obtain ⟨i, j, rfl, rfl, hc, q⟩ := h
  obtain ⟨t, rfl⟩ := rx
  obtain ⟨t', rfl⟩ := ry
  exact rule i j t t' s _ _ hc ⟨.int (g i j), H, I.tok _, ⟨_, rfl⟩, q⟩
theorem opI0 {f : Value → Value → Sem Value} {g : Int → Int → Int}
    (rule : ∀ (i j : Int) (t u : Tok) (s : Shared) (Q : Value → Shared → Prop) (E : Value → Shared → Prop), Q (.int (g i j) s.toks) { s with toks := s.toks + 1 } → wpAny (model X.prog X.w) X.A (f (.int i t) (.int j u)) Q E s) :
    OpR X f (rI0 fun i j => .int (g i j)) := by
  intro pins s σ H x y v u Q I rx ry h
  obtain ⟨i, j, rfl, rfl, q⟩ := h
  obtain ⟨t, rfl⟩ := rx
  obtain ⟨t', rfl⟩ := ry
  exact rule i j t t' s _ _ ⟨.int (g i j), H, I.tok _, ⟨_, rfl⟩, q⟩
theorem opB0 {f : Value → Value → Sem Value} {g : Int → Int → Bool}
    (rule : ∀ (i j : Int) (t u : Tok) (s : Shared) (Q : Value → Shared → Prop) (E : Value → Shared → Prop), Q (.bool (g i j)) s → wpAny (model X.prog X.w) X.A (f (.int i t) (.int j u)) Q E s) :
    OpR X f (rI0 fun i j => .bl (g i j)) := by
  intro pins s σ H x y v u Q I rx ry h
  obtain ⟨i, j, rfl, rfl, q⟩ := h
  obtain ⟨t, rfl⟩ := rx
  obtain ⟨t', rfl⟩ := ry
  exact rule i j t t' s _ _ ⟨.bl (g i j), H, I, rfl, q⟩

def CMul (i j : Int) : Prop := (-(2 ^ 64) < i ∧ i < 2 ^ 64) ∨ (-(2 ^ 64) < j ∧ j < 2 ^ 64)
theorem CMul.ok {i j : Int} (h : CMul i j) : IntMulOk i j := by
  rcases h with ⟨h1, h2⟩ | ⟨h1, h2⟩
  · exact .of_left (intBits_le_64 h1 h2)
  · exact .of_right (intBits_le_64 h1 h2)

theorem op_add : OpR X (binaryOp .Add) (rI0 fun i j => .int (i + j)) := opI0 fun _ _ _ _ _ _ _ q => add_int q
theorem op_sub : OpR X (binaryOp .Sub) (rI0 fun i j => .int (i - j)) := opI0 fun _ _ _ _ _ _ _ q => sub_int q
theorem op_mul : OpR X (binaryOp .Mult) (rI CMul fun i j => .int (i * j)) := opI fun _ _ _ _ _ _ _ hc q => mul_int q hc.ok


theorem unI {f : Value → Sem Value} {g : Int → Int}
    (rule : ∀ (i : Int) (t : Tok) (s : Shared) (Q : Value → Shared → Prop) (E : Value → Shared → Prop), Q (.int (g i) s.toks) { s with toks := s.toks + 1 } → wpAny (model X.prog X.w) X.A (f (.int i t)) Q E s) :
    UnR X f (rU fun i => .int (g i)) := by
  intro pins s σ H x v Q I rx h
  obtain ⟨i, rfl, q⟩ := h
  obtain ⟨t, rfl⟩ := rx
  exact rule i t s _ _ ⟨.int (g i), H, I.tok _, ⟨_, rfl⟩, q⟩
theorem un_neg : UnR X (unaryOp .USub) (rU fun i => .int (-i)) := unI fun _ _ _ _ _ q => neg_int q

/-! ### bools among ints: n += (a < b) -/
end

/-! ### comparisons -/
/-- the scalars that == tells apart as data does -/
def scal : V → V → Bool
  | .non, .non => true | .non, .int _ => true | .int _, .non => true | .non, .bl _ => true | .bl _, .non => true | .non, .str _ => true | .str _, .non => true
  | .int _, .int _ => true | .bl _, .bl _ => true | .str _, .str _ => true | .byt _, .byt _ => true
  | .int _, .str _ => true | .str _, .int _ => true | .bl _, .str _ => true | .str _, .bl _ => true
  | _, _ => false
def rEq : R2 := fun x y H Q => scal x y = true ∧ Q (.bl (decide (x = y))) H
def rNe : R2 := fun x y H Q => scal x y = true ∧ Q (.bl (!decide (x = y))) H

theorem dec_int {i j : Int} : decide (V.int i = V.int j) = (i == j) := by
  rw [Bool.eq_iff_iff]
  simp
theorem dec_bl {i j : Bool} : decide (V.bl i = V.bl j) = (i == j) := by
  rw [Bool.eq_iff_iff]
  simp
theorem dec_str {i j : Str} : decide (V.str i = V.str j) = (i == j) := by
  rw [Bool.eq_iff_iff]
  simp
theorem dec_byt {i j : Array UInt8} : decide (V.byt i = V.byt j) = (i.toList == j.toList) := by
  rw [Bool.eq_iff_iff]
  cases i
  cases j
  simp

section
variable {X : Cx} {a b c : Expr} {ta tb tc : TE} {pos : Pos}
theorem fin_bl {pins : List (Addr × Obj)} {σ : St} {H : Hp} {s : Shared} {Q : VK} {k k' : Bool} (I : Inv X pins σ H s) (q : Q (.bl k) H) (e : k = k') : EP X pins σ Q (.bool k') s := by
  subst e
  exact ⟨.bl k, H, I, rfl, q⟩
theorem op_eq : OpR X (compareOp .Eq) rEq := by
  intro pins s σ H x y v u Q I rx ry h
  obtain ⟨hs, q⟩ := h
  cases x with
  | non =>
    cases rx
    cases y with
    | non => cases ry; exact PySem.EqNone.eq_none_none (fin_bl I q (by simp))
    | bl j => cases ry; exact PySem.EqNone.eq_none_bool (fin_bl I q (by simp))
    | int j => obtain ⟨t', rfl⟩ := ry; exact PySem.EqNone.eq_none_int (fin_bl I q (by simp))
    | str j => obtain ⟨t', rfl⟩ := ry; exact PySem.EqNone.eq_none_str (fin_bl I q (by simp))
    | _ => exact absurd (show false = true from hs) Bool.false_ne_true
  | bl i =>
    cases rx
    cases y with
    | non => cases ry; exact PySem.EqNone.eq_bool_none (fin_bl I q (by simp))
    | bl j => cases ry; exact eq_bool (fin_bl I q dec_bl)
    | str j => obtain ⟨t', rfl⟩ := ry; exact PySem.EqMixed.eq_bool_str (fin_bl I q (by simp))
    | _ => exact absurd (show false = true from hs) Bool.false_ne_true
  | int i =>
    obtain ⟨t, rfl⟩ := rx
    cases y with
    | non => cases ry; exact PySem.EqNone.eq_int_none (fin_bl I q (by simp))
    | int j => obtain ⟨t', rfl⟩ := ry; exact eq_int (fin_bl I q dec_int)
    | str j => obtain ⟨t', rfl⟩ := ry; exact PySem.EqMixed.eq_int_str (fin_bl I q (by simp))
    | _ => exact absurd (show false = true from hs) Bool.false_ne_true
  | str i =>
    obtain ⟨t, rfl⟩ := rx
    cases y with
    | non => cases ry; exact PySem.EqNone.eq_str_none (fin_bl I q (by simp))
    | bl j => cases ry; exact PySem.EqMixed.eq_str_bool (fin_bl I q (by simp))
    | int j => obtain ⟨t', rfl⟩ := ry; exact PySem.EqMixed.eq_str_int (fin_bl I q (by simp))
    | str j => obtain ⟨t', rfl⟩ := ry; exact eq_str (fin_bl I q dec_str)
    | _ => exact absurd (show false = true from hs) Bool.false_ne_true
  | byt i =>
    obtain ⟨t, rfl⟩ := rx
    cases y with
    | byt j => obtain ⟨t', rfl⟩ := ry; exact PySem.W.eq_bytes (fin_bl I q dec_byt)
    | _ => exact absurd (show false = true from hs) Bool.false_ne_true
  | _ => cases y <;> exact absurd (show false = true from hs) Bool.false_ne_true
theorem op_ne : OpR X (compareOp .NotEq) rNe := by
  intro pins s σ H x y v u Q I rx ry h
  obtain ⟨hs, q⟩ := h
  cases x with
  | non =>
    cases rx
    cases y with
    | non => cases ry; exact PySem.EqNone.ne_none_none (fin_bl I q (by simp))
    | bl j => cases ry; exact PySem.EqNone.ne_none_bool (fin_bl I q (by simp))
    | int j => obtain ⟨t', rfl⟩ := ry; exact PySem.EqNone.ne_none_int (fin_bl I q (by simp))
    | str j => obtain ⟨t', rfl⟩ := ry; exact PySem.EqNone.ne_none_str (fin_bl I q (by simp))
    | _ => exact absurd (show false = true from hs) Bool.false_ne_true
  | bl i =>
    cases rx
    cases y with
    | non => cases ry; exact PySem.EqNone.ne_bool_none (fin_bl I q (by simp))
    | bl j => cases ry; exact ne_bool (fin_bl I q (congrArg not dec_bl))
    | str j => obtain ⟨t', rfl⟩ := ry; exact PySem.EqMixed.ne_bool_str (fin_bl I q (by simp))
    | _ => exact absurd (show false = true from hs) Bool.false_ne_true
  | int i =>
    obtain ⟨t, rfl⟩ := rx
    cases y with
    | non => cases ry; exact PySem.EqNone.ne_int_none (fin_bl I q (by simp))
    | int j => obtain ⟨t', rfl⟩ := ry; exact ne_int (fin_bl I q (congrArg not dec_int))
    | str j => obtain ⟨t', rfl⟩ := ry; exact PySem.EqMixed.ne_int_str (fin_bl I q (by simp))
    | _ => exact absurd (show false = true from hs) Bool.false_ne_true
  | str i =>
    obtain ⟨t, rfl⟩ := rx
    cases y with
    | non => cases ry; exact PySem.EqNone.ne_str_none (fin_bl I q (by simp))
    | bl j => cases ry; exact PySem.EqMixed.ne_str_bool (fin_bl I q (by simp))
    | int j => obtain ⟨t', rfl⟩ := ry; exact PySem.EqMixed.ne_str_int (fin_bl I q (by simp))
    | str j => obtain ⟨t', rfl⟩ := ry; exact ne_str (fin_bl I q (congrArg not dec_str))
    | _ => exact absurd (show false = true from hs) Bool.false_ne_true
  | byt i =>
    obtain ⟨t, rfl⟩ := rx
    cases y with
    | byt j => obtain ⟨t', rfl⟩ := ry; exact PySem.W.ne_bytes (fin_bl I q (congrArg not dec_byt))
    | _ => exact absurd (show false = true from hs) Bool.false_ne_true
  | _ => cases y <;> exact absurd (show false = true from hs) Bool.false_ne_true

theorem op_lt : OpR X (compareOp .Lt) (rI0 fun i j => .bl (decide (i < j))) := opB0 fun _ _ _ _ _ _ _ q => lt_int q
theorem op_le : OpR X (compareOp .LtE) (rI0 fun i j => .bl (decide (i ≤ j))) := opB0 fun _ _ _ _ _ _ _ q => le_int q
theorem op_gt : OpR X (compareOp .Gt) (rI0 fun i j => .bl (decide (j < i))) := opB0 fun _ _ _ _ _ _ _ q => gt_int q

/-- is None, is not None: the right side a value none -/
theorem op_isN : OpR X (compareOp .Is) (fun x y H Q => y = .non ∧ Q (.bl (decide (x = .non))) H) := by
  intro pins s σ H x y v u Q I rx ry h
  obtain ⟨rfl, q⟩ := h
  cases ry
  refine is_none_gen (fin_bl I q ?_)
  cases x <;> first
    | (cases rx; rfl)
    | (obtain ⟨t, rfl⟩ := rx; rfl)



theorem nomark (b : Expr) {op : CmpOp} (h : op ≠ .In := by decide) (h2 : op ≠ .NotIn := by decide) : behindInMarks op b = false := by
  have e1 : (op == CmpOp.In) = false := by cases op <;> first | rfl | exact absurd rfl h
  have e2 : (op == CmpOp.NotIn) = false := by cases op <;> first | rfl | exact absurd rfl h2
  cases b <;> simp [behindInMarks, e1, e2]
/-- a comparison as a value; hm: nomark b, or (for in, not in) by with_unfolding_all rfl -/
theorem pe_cmpR {op : CmpOp} {r : R2} (ho : OpR X (compareOp op) r) (ha : PE X a ta) (hb : PE X b tb) (hm : behindInMarks op b = false) : PE X (.Compare a [op] [b] pos) (tOp r ta tb) := by
  intro pins s σ H Q I h
  exact wpAny_Compare1 (binT ha hb I h fun v u s2 x y H2 I2 rx ry q => ho pins s2 σ H2 x y v u Q I2 rx ry q) hm
/-- a reading of a value as a test -/
def tTest (t : TE) : TT := fun σ H Q => t σ H fun x H' => ∃ k, x = .bl k ∧ Q k H'
theorem pt_cmpR {op : CmpOp} {r : R2} (ho : OpR X (compareOp op) r) (ha : PE X a ta) (hb : PE X b tb) (hm : behindInMarks op b = false) : PT X (.Compare a [op] [b] pos) (tTest (tOp r ta tb)) := by
  intro pins s σ H Q I h
  refine wpAny_isTrue_Compare1 (thn (ha pins s σ H _ I h) fun v s1 ⟨x, H1, I1, r1, q1⟩ => thn (hb pins s1 σ H1 _ I1 q1) fun u s2 ⟨y, H2, I2, r2, q2⟩ =>
    thn (ho pins s2 σ H2 x y v u _ I2 r1 r2 q2) fun c s3 ⟨z, H3, I3, r3, k, e, q3⟩ => ?_) hm
  subst e
  cases r3
  exact wpAny_truthy_bool ⟨H3, I3, q3⟩
/-- a op1 b op2 c -/
def tChain (r r' : R2) (ta tb tc : TE) : TE := fun σ H Q => ta σ H fun x H1 => tb σ H1 fun y H2 => r x y H2 fun z H3 => ∃ k, z = .bl k ∧
  (if k = true then tc σ H3 fun w' H4 => r' y w' H4 Q else Q (.bl false) H3)
theorem pt_chain {op op' : CmpOp} {r r' : R2} (ho : OpR X (compareOp op) r) (ho' : OpR X (compareOp op') r') (ha : PE X a ta) (hb : PE X b tb) (hc : PE X c tc)
    (hm : lastMarks [op, op'] [b, c] = false := by with_unfolding_all rfl) : PT X (.Compare a [op, op'] [b, c] pos) (tTest (tChain r r' ta tb tc)) := by
  intro pins s σ H Q I h
  refine isTrue_chain (thn (ha pins s σ H _ I h) fun v s1 ⟨x, H1, I1, r1, q1⟩ => test_link (thn (hb pins s1 σ H1 _ I1 q1) fun u s2 ⟨y, H2, I2, r2, q2⟩ =>
    thn (ho pins s2 σ H2 x y v u _ I2 r1 r2 q2) fun d s3 ⟨z, H3, I3, r3, k, e, q3⟩ => ?_)) hm
  subst e
  cases r3
  refine wpAny_truthy_bool ?_
  cases k with
  | false =>
    obtain ⟨k', e', q'⟩ := q3
    cases e'
    exact ite_ff ⟨H3, I3, q'⟩
  | true =>
    refine ite_tt (test_last (thn (hc pins s3 σ H3 _ I3 q3) fun w' s4 ⟨z', H4, I4, r4, q4⟩ => thn (ho' pins s4 σ H4 y z' u w' _ I4 r2 r4 q4) fun d' s5 ⟨z2, H5, I5, r5, k2, e2, q5⟩ => ?_))
    subst e2
    cases r5
    exact wpAny_truthy_bool ⟨H5, I5, q5⟩

/-! ### truth -/
theorem line63 : (sizeLine : Nat) < 2 ^ 63 := by rw [sizeLine_eq]; decide

/-! ### strs and bytes -/


/-! ### scalar builtins, by CallR -/
theorem vals1 {x : V} {us : List Value} (r : Vals [x] us) : ∃ u, us = [u] ∧ RelV x u := by
  cases r with
  | cons r1 r2 => cases r2; exact ⟨_, rfl, r1⟩
theorem call_abs : CallR X (.builtin "abs") (fun xs H Q => ∃ i, xs = [.int i] ∧ Q (.int (if i < 0 then -i else i)) H) := by
  intro pins s σ H xs us Q I r h
  obtain ⟨i, rfl, q⟩ := h
  obtain ⟨u, rfl, t, rfl⟩ := vals1 r
  exact call_abs_int fun u tk => ⟨.int (if i < 0 then -i else i), H, I.tok _, ⟨_, rfl⟩, q⟩
end
end L2

namespace L2
open PySem PySem.Spec PyProof.Rows

/-! ### an instance, its attributes a map -/
structure ObjM (h : Heap) (x dx C : Addr) (mA : Str → Option Value) : Prop where
  obj : h.get? x = some (PySem.W.instObj C dx)
  ns : h.Ns1 dx mA
  ne : dx ≠ x

theorem lookIn_ns {h : Heap} {dx : Addr} {mA : Str → Option Value} (n : h.Ns1 dx mA) : ∃ od, h.get? dx = some od ∧ ∀ name, PySem.W.lookIn name od = some (mA name) := by
  obtain ⟨o, es, ep, ho, hd, hk, _, hm⟩ := n
  refine ⟨o, ho, fun name => ?_⟩
  have e := hm name
  unfold nsFind findBy at e
  rw [← Array.find?_toList] at e
  unfold PySem.W.lookIn
  rw [hd]
  dsimp only
  split
  · rename_i y q
    rw [q] at e
    exact congrArg some e
  · rename_i q
    rw [q] at e
    have a : es.toList.any (·.refKey) = false := by
      rw [List.any_eq_false]
      intro y hy
      obtain ⟨z, t, hkey⟩ := hk y (Array.mem_toList_iff.mp hy)
      simp [DictEntry.refKey, hkey]
    have a' : ¬ es.toList.any (·.refKey) = true := by rw [a]; exact Bool.false_ne_true
    rw [if_neg a']
    exact congrArg some e

theorem ObjM.look {h : Heap} {x dx C : Addr} {mA : Str → Option Value} (I : ObjM h x dx C mA) : ∃ od, PySem.W.InstAt h x (PySem.W.instObj C dx) C (some od) ∧ ∀ name, PySem.W.lookIn name od = some (mA name) :=
  let ⟨od, ho, hl⟩ := lookIn_ns I.ns
  ⟨od, ⟨I.obj, rfl, rfl, ho⟩, hl⟩

section
variable {prog : Program} {w : World} {A : Around} {E : Value → Shared → Prop} {s : Shared} {K : PySem.W.Frag} {x dx C f : Addr} {mA : Str → Option Value} {name : Str} {v : Value}

theorem get_map {expr : Bool} {Q : Value → Shared → Prop} (X : K.In s.heap) (I : ObjM s.heap x dx C mA) (hg : PySem.W.plainGet K C name = true) (hh : PySem.W.hasDictIn K C = true)
    (ha : PySem.W.findIn K (.ref C) name = some none) (hv : mA name = some v) (hv' : PySem.W.handedIn v = true) (h : Q v { s with toks := s.toks + 1 }) :
    wpAny (model prog w) A (getAttr (.ref x) name expr) Q E s := by
  obtain ⟨od, J, hl⟩ := I.look
  exact PySem.W.get_value X J (PySem.W.plainGet_of hg).1 (PySem.W.findObj_own hh ha rfl (by rw [hl, hv])) hv' h



theorem set_map {ns : List Str} {Q : Unit → Shared → Prop} (X : K.In s.heap) (I : ObjM s.heap x dx C mA)
    (hs : PySem.W.findIn K (.ref C) "__setattr__" = some (some (.builtin "object.__setattr__"))) (hp : PySem.W.plainOver K C = true) (ht : PySem.W.takerIn K C name = some none) (hh : PySem.W.hasDictIn K C = true)
    (hw : PySem.Within mA ns) (hsz : ns.length ≤ sizeLine)
    (h : ∀ h', ObjM h' x dx C (fun y => if y = name then some v else mA y) → Heap.SameBut dx s.heap h' → Q () { s with heap := h', toks := s.toks + 2 }) :
    wpAny (model prog w) A (setAttr (.ref x) name v) Q E s := by
  obtain ⟨od, J, hl⟩ := I.look
  refine PySem.W.set_plain X J hs (PySem.W.osa_open (s := { s with toks := s.toks + 1 }) (r := none) X J hp ht fun b => ?_)
  obtain ⟨cd, hc, hd'⟩ := PySem.W.any_some hh
  have hx : s.heap.get? x = some ⟨.ref C, some dx, .plain, #[]⟩ := I.obj
  refine wpAny_bind (wpAny_pure (wpAny_bind (wpAny_bind (wpAny_loadPart hx (wpAny_bind (PySem.W.Looks.here (s := { s with toks := s.toks + 1 }) (PySem.W.looks_clsIn X hc) ?_))))))
  rw [hd']
  refine wpAny_pure (a := some dx) (wpAny_bind (wpAny_pure (wpAny_bind ?_)))
  refine wpAny_nsSet1 (s := { s with toks := s.toks + 1 }) I.ns fun h' hn2 hs2 => ?_
  obtain ⟨oD, esD, epD, hoD, hdD, hcD⟩ := hn2.count (PySem.Within.cons name v hw)
  refine wpAny_bind (wpAny_lookBehind hoD (by rw [hdD]; exact pastItsLine_dict (Nat.le_trans hcD (by rw [List.length_cons]; omega))) ?_)
  exact wpAny_pure (h _ ⟨(hs2.2 _ (Ne.symm I.ne)).trans I.obj, hn2, I.ne⟩ hs2)

/-- C(..): the dict at the heap's end, the instance behind it; then its __init__ -/
theorem make_map {R : Result → Shared → Prop} {vs : List Value} {kw : List (Str × Value)} (X : K.In s.heap) (hm : PySem.W.makesIn K C = true)
    (hi : PySem.W.findIn K (.ref C) "__init__" = some (some (.ref f))) (hf : PySem.W.typeIn K (.ref f) = some (.type "function"))
    (h : codeAny (model prog w) (A.under (.builtin "type.__call__" ⟨.ref C :: vs, kw⟩)) (.call (.ref f) ⟨.ref (s.heap.objs.size + 1) :: vs, kw⟩) (PySem.W.InitBack (s.heap.objs.size + 1) R)
      { s with heap := (s.heap.push PySem.W.emptyDict).push (PySem.W.instObj C s.heap.objs.size) }) :
    codeAny (model prog w) A (.call (.ref C) ⟨vs, kw⟩) R s := by
  obtain ⟨hh, g, d, t, os⟩ := s
  exact PySem.W.make_core (PySem.W.makes_of X hm) (PySem.W.looks_findIn X hi) (fun self => PySem.W.bind_fn X self hf) (.inl rfl) h
end

/-! ### the attributes as a list of pairs -/
def putF (f : Str) (v : V) : List (Str × V) → List (Str × V)
  | [] => [(f, v)]
  | (g, x) :: r => if g = f then (g, v) :: r else (g, x) :: putF f v r
theorem lookup_putF (f g : Str) (v : V) : ∀ fs : List (Str × V), (putF f v fs).lookup g = if g = f then some v else fs.lookup g
  | [] => by
    show List.lookup g [(f, v)] = _
    by_cases h : g = f
    · have hb : (g == f) = true := beq_iff_eq.mpr h
      simp only [List.lookup, hb, if_pos h]
    · have hb : (g == f) = false := beq_eq_false_iff_ne.mpr h
      simp only [List.lookup, hb, if_neg h]
  | (k, x) :: r => by
    have ih := lookup_putF f g v r
    rw [show putF f v ((k, x) :: r) = (if k = f then (k, v) :: r else (k, x) :: putF f v r) from rfl]
    by_cases hk : k = f
    · rw [if_pos hk]
      by_cases h : g = k
      · have hb : (g == k) = true := beq_iff_eq.mpr h
        simp only [List.lookup, hb, if_pos (h.trans hk)]
      · have hb : (g == k) = false := beq_eq_false_iff_ne.mpr h
        simp only [List.lookup, hb, if_neg (fun e : g = f => h (e.trans hk.symm))]
    · rw [if_neg hk]
      by_cases h : g = k
      · have hb : (g == k) = true := beq_iff_eq.mpr h
        simp only [List.lookup, hb, if_neg (fun e : g = f => hk (h.symm.trans e))]
      · have hb : (g == k) = false := beq_eq_false_iff_ne.mpr h
        simp only [List.lookup, hb]
        exact ih
theorem keys_putF (f : Str) (v : V) : ∀ fs : List (Str × V), f ∈ (putF f v fs).map (·.1) ∧ ∀ g, g ∈ fs.map (·.1) → g ∈ (putF f v fs).map (·.1)
  | [] => ⟨by simp [putF], fun g h => by simp at h⟩
  | (k, x) :: r => by
    obtain ⟨i1, i2⟩ := keys_putF f v r
    rw [show putF f v ((k, x) :: r) = (if k = f then (k, v) :: r else (k, x) :: putF f v r) from rfl]
    by_cases hk : k = f
    · rw [if_pos hk]
      subst hk
      exact ⟨by simp, fun g h => by simpa using h⟩
    · rw [if_neg hk]
      refine ⟨?_, fun g h => ?_⟩
      · rw [List.map_cons]
        exact List.mem_cons_of_mem _ i1
      · rw [List.map_cons] at h ⊢
        rcases List.mem_cons.mp h with e | e
        · exact List.mem_cons.mpr (.inl e)
        · exact List.mem_cons_of_mem _ (i2 g e)
theorem length_putF (f : Str) (v : V) : ∀ fs : List (Str × V), (putF f v fs).length ≤ fs.length + 1
  | [] => by simp [putF]
  | (k, x) :: r => by
    have ih := length_putF f v r
    rw [show putF f v ((k, x) :: r) = (if k = f then (k, v) :: r else (k, x) :: putF f v r) from rfl]
    by_cases hk : k = f
    · rw [if_pos hk, List.length_cons, List.length_cons]; omega
    · rw [if_neg hk, List.length_cons, List.length_cons]; omega

theorem RelO.some_of {v : V} {o : Option Value} (r : RelO (some v) o) : ∃ u, o = some u ∧ RelV v u := by
  cases o with
  | none => exact (show False from r).elim
  | some u => exact ⟨u, rfl, r⟩
theorem handed_of {v : V} {u : Value} (r : RelV v u) : PySem.W.handedIn u = true := by
  cases v with
  | non => cases (show u = Value.none from r); rfl
  | bl b => cases (show u = Value.bool b from r); rfl
  | int i => obtain ⟨t, e⟩ := (show ∃ t, u = Value.int i t from r); cases e; rfl
  | str x => obtain ⟨t, e⟩ := (show ∃ t, u = Value.str x t from r); cases e; rfl
  | byt b => obtain ⟨t, e⟩ := (show ∃ t, u = Value.bytes b t from r); cases e; rfl
  | flt b => obtain ⟨t, e⟩ := (show ∃ t, u = Value.float b t from r); cases e; rfl
  | ref a => cases (show u = Value.ref a from r); rfl
  | ty n => cases (show u = Value.type n from r); rfl

section
variable {P : Program} {w : World} {H H' : Hp} {h h' : Heap} {a C dx : Addr} {fs fs' : List (Str × V)}
theorem ins_get (hok : HOk P w H h) (e : H a = some (.ins C dx fs)) : ∃ mA, ObjM h a dx C mA ∧ (∀ f, RelO (fs.lookup f) (mA f)) ∧ PySem.Within mA (fs.map (·.1)) ∧ fs.length ≤ 1000 ∧ H dx = some (.own a) := by
  obtain ⟨d, z, ne, ob, mA, n, r, q⟩ := (show ObjOk P w H h a (.ins C dx fs) from hok a _ e)
  exact ⟨mA, ⟨ob, n, ne⟩, r, q, z, d⟩
end

/-! ### what of the text a class must have -/
structure Cls (K : PySem.W.Frag) (C : Addr) : Prop where
  pg : PySem.W.plainGet K C Str.empty = true
  hd : PySem.W.hasDictIn K C = true
  po : PySem.W.plainOver K C = true
  sa : PySem.W.findIn K (.ref C) "__setattr__" = some (some (.builtin "object.__setattr__"))
theorem Cls.get {K : PySem.W.Frag} {C : Addr} (c : Cls K C) (f : Str) : PySem.W.plainGet K C f = true := c.pg
/-- no class of it has the name -/
def NoAttr (K : PySem.W.Frag) (C : Addr) (f : Str) : Prop := PySem.W.findIn K (.ref C) f = some none
theorem NoAttr.taker {K : PySem.W.Frag} {C : Addr} {f : Str} (n : NoAttr K C f) : PySem.W.takerIn K C f = some none := by
  unfold PySem.W.takerIn
  rw [show PySem.W.findIn K (.ref C) f = some none from n]
  rfl

section
variable {X : Cx} {pins : List (Addr × Obj)} {σ : St} {H : Hp} {s : Shared} {a C dx : Addr} {fs : List (Str × V)} {f : Str} {v : V} {A : Around} {E : Value → Shared → Prop}

theorem getattr_ok {b : Bool} {Q : Value → Shared → Prop} (I : Inv X pins σ H s) (e : H a = some (.ins C dx fs)) (c : Cls X.K C) (n : NoAttr X.K C f) (l : fs.lookup f = some v)
    (h : ∀ u s', Inv X pins σ H s' → RelV v u → Q u s') : wpAny (model X.prog X.w) A (getAttr (.ref a) f b) Q E s := by
  obtain ⟨mA, O, r, _, _, _⟩ := ins_get I.hok e
  obtain ⟨u, hu, ru⟩ := RelO.some_of (v := v) (o := mA f) (by rw [← l]; exact r f)
  exact get_map I.kIn O (c.get f) c.hd n hu (handed_of ru) (h u _ (I.tok _) ru)



theorem setattr_ok {y : V} {u : Value} {Q : Unit → Shared → Prop} (I : Inv X pins σ H s) (e : H a = some (.ins C dx fs)) (c : Cls X.K C) (n : NoAttr X.K C f) (hl : fs.length < 1000) (ry : RelV y u)
    (h : ∀ s', Inv X pins σ (upd H a (.ins C dx (putF f y fs))) s' → Q () s') : wpAny (model X.prog X.w) A (setAttr (.ref a) f u) Q E s := by
  obtain ⟨mA, O, r, wi, _, ho⟩ := ins_get I.hok e
  have hz : (fs.map (·.1)).length ≤ sizeLine := by rw [List.length_map, sizeLine_eq]; omega
  refine set_map I.kIn O c.sa c.po n.taker c.hd wi hz fun h' O' sb => h _ ?_
  have hd : ∃ o, h'.get? dx = some o := let ⟨o, _, _, e', _⟩ := O'.ns; ⟨o, e'⟩
  refine I.write (x := a) (e := dx) (by rw [e]; exact True.intro) (.inr ho) (fun b q hb z => (sb.2 b hb).trans z) hd ?_
  refine ⟨by rw [upd_ne O.ne]; exact ho, ?_, O.ne, O'.obj, _, O'.ns, fun g => ?_, fun g hg => ?_⟩
  · have := length_putF f y fs; omega
  · show RelO ((putF f y fs).lookup g) (if g = f then some u else mA g)
    rw [lookup_putF]
    by_cases q : g = f
    · rw [if_pos q, if_pos q]; exact ry
    · rw [if_neg q, if_neg q]; exact r g
  · by_cases q : g = f
    · rw [q]; exact (keys_putF f y fs).1
    · refine (keys_putF f y fs).2 g (wi g fun z => hg ?_)
      show (if g = f then some u else mA g) = none
      rw [if_neg q]; exact z

/-- a new instance, tracked, without attributes -/
theorem Inv.made (I : Inv X pins σ H s) : Inv X pins σ (upd (upd H s.heap.objs.size (.own (s.heap.objs.size + 1))) (s.heap.objs.size + 1) (.ins C s.heap.objs.size []))
    { s with heap := (s.heap.push PySem.W.emptyDict).push (PySem.W.instObj C s.heap.objs.size) } := by
  have e1 : (s.heap.push PySem.W.emptyDict).get? s.heap.objs.size = some PySem.W.emptyDict := Heap.get?_push_size s.heap rfl
  have e2 : ((s.heap.push PySem.W.emptyDict).push (PySem.W.instObj C s.heap.objs.size)).get? (s.heap.objs.size + 1) = some (PySem.W.instObj C s.heap.objs.size) := by
    have := Heap.get?_push_size (s.heap.push PySem.W.emptyDict) (o := PySem.W.instObj C s.heap.objs.size) rfl
    rwa [Heap.size_push] at this
  have e3 : (s.heap.push PySem.W.emptyDict).Ns s.heap.objs.size (fun _ => none) := ⟨PySem.W.emptyDict, #[], _, e1, rfl, (fun e he => absurd he (by simp)), fun _ => rfl⟩
  have I1 := I.laid (a := s.heap.objs.size) (o := .own (s.heap.objs.size + 1)) (h' := s.heap.push PySem.W.emptyDict) (t' := s.toks) (fun b u q => Heap.get?_push_of_some _ q) (Nat.le_refl _) ⟨_, e1⟩
  refine I1.laid (a := s.heap.objs.size + 1) (o := .ins C s.heap.objs.size []) (t' := s.toks) (fun b u q => Heap.get?_push_of_some _ q) (Nat.le_of_eq (Heap.size_push _ _)) ?_
  have ne : s.heap.objs.size ≠ s.heap.objs.size + 1 := Nat.ne_of_lt (Nat.lt_succ_self _)
  refine ⟨by rw [upd_ne ne, upd_same], Nat.zero_le _, ne, e2, fun _ => none, (Heap.Ns1.of_empty e3).at fun o q => Heap.get?_push_of_some _ q, fun _ => True.intro, fun y hy => absurd rfl hy⟩

/-- e.f where nothing but the object is asked: through attributeBase (super) and the last hold -/
theorem attr_of {prog : Program} {w : World} {env : Env} {e : Expr} {f : Str} {pos : Pos} {s : Shared} {Q : Value → Shared → Prop} (hb : attributeBase e f env (eval e env) = eval e env)
    (h : wpAny (model prog w) A (eval e env) (fun o s₁ => wpAny (model prog w) A (getAttr o f true) Q E s₁) E s) : wpAny (model prog w) A (eval (.Attribute e f pos) env) Q E s :=
  Attribute_any_ h (by rw [arm_eval_Attribute, hb])
end

/-! ### readings and rules -/
/-- e.f, an attribute of the instance -/
def tFld (K : PySem.W.Frag) (ta : TE) (f : Str) : TE := fun σ H Q => ta σ H fun x H1 => ∃ a C dx fs v, x = .ref a ∧ H1 a = some (.ins C dx fs) ∧ Cls K C ∧ NoAttr K C f ∧ fs.lookup f = some v ∧ Q v H1
/-- e.f = value -/
def sFld (K : PySem.W.Frag) (ta tv : TE) (f : Str) : TS := fun D σ H => tv σ H fun y H1 => ta σ H1 fun x H2 => ∃ a C dx fs, x = .ref a ∧ H2 a = some (.ins C dx fs) ∧ Cls K C ∧ NoAttr K C f ∧ fs.length < 1000 ∧
  D.nx σ (upd H2 a (.ins C dx (putF f y fs)))

section
variable {X : Cx} {o e value : Expr} {f : Str} {pos pos' tpos : Pos} {ta tv : TE}
theorem pe_fld (he : PE X e ta) (hb : attributeBase e f X.env (eval e X.env) = eval e X.env) : PE X (.Attribute e f pos) (tFld X.K ta f) := by
  intro pins s σ H Q I h
  refine attr_of hb (thn (he pins s σ H _ I h) fun u s1 ⟨x, H1, I1, rx, a, C, dx, fs, v, ex, ea, c, n, l, q⟩ => ?_)
  subst ex
  obtain rfl : u = Value.ref a := rx
  exact getattr_ok I1 ea c n l fun u' s2 I2 ru => ⟨v, H1, I2, ru, q⟩
theorem ps_fld (ha : PE X o ta) (hv : PE X value tv) (hs : swapsWith value (some (.Attribute o f pos')) pos.line X.env = pure false) : PS X (.Assign [.Attribute o f pos'] value pos) (sFld X.K ta tv f) := by
  intro pins s σ H D I h
  refine plainObj_wpAny_Assign_Attribute (thn (hv pins s σ H _ I h) fun u s1 ⟨y, H1, I1, ry, q⟩ => thn (ha pins s1 σ H1 _ I1 q) fun ov s2 ⟨x, H2, I2, rx, a, C, dx, fs, ex, ea, c, n, l, q2⟩ => ?_) hs
  subst ex
  obtain rfl : ov = Value.ref a := rx
  exact setattr_ok I2 ea c n l ry fun s3 I3 => ⟨σ, _, I3, q2⟩

end

/-! ### isinstance -/
section
variable {X : Cx} {pins : List (Addr × Obj)} {σ : St} {H : Hp} {s : Shared} {A : Around} {E : Value → Shared → Prop} {Q : Value → Shared → Prop} {c : Value} {b : Bool}
end
end L2

namespace L2
open PySem PySem.Spec PyProof.Rows

/-! ### room -/
structure Room (k : Nat) (A : Around) : Prop where
  hd : A.handled = none
  dp : A.depth + 3 * k + 5 < recursionLimit
  un : A.units + 16 * k + 200 < cLine
theorem Room.mono {j k : Nat} {A : Around} (r : Room k A) (h : j ≤ k) : Room j A := ⟨r.hd, by have := r.dp; omega, by have := r.un; omega⟩
theorem Room.deeper {k : Nat} {A : Around} (r : Room (k + 1) A) (env : Env) : Room k (A.deeper env) :=
  ⟨r.hd, by have := r.dp; show A.depth + 1 + 3 * k + 5 < _; omega, by have := r.un; show A.units + 3 + 16 * k + 200 < _; omega⟩
theorem Room.in1 {k : Nat} {A : Around} (r : Room (k + 1) A) : Room k A.in1 :=
  ⟨r.hd, by have := r.dp; show A.depth + 3 * k + 5 < _; omega, by have := r.un; show A.units + 1 + 16 * k + 200 < _; omega⟩
theorem make_depth {A : Around} {C : Addr} {us : List Value} {kw : List (Str × Value)} : (A.under (.builtin "type.__call__" ⟨.ref C :: us, kw⟩)).depth = A.depth + 1 := by
  first | rfl | simp [Around.under, Code.weight, Code.isCreation, Code.isGuard, Code.isCaller, Code.frames, Code.isFrame, guardIds]
theorem make_units {A : Around} {C : Addr} {us : List Value} {kw : List (Str × Value)} : (A.under (.builtin "type.__call__" ⟨.ref C :: us, kw⟩)).units = A.units + 1 := by
  first | rfl | simp [Around.under, Code.cUnits, Code.frames, Code.isFrame]
theorem Room.make {k : Nat} {A : Around} (r : Room (k + 1) A) (C : Addr) (us : List Value) (kw : List (Str × Value)) : Room k (A.under (.builtin "type.__call__" ⟨.ref C :: us, kw⟩)) :=
  ⟨r.hd, by have := r.dp; rw [make_depth]; omega, by have := r.un; rw [make_units]; omega⟩
theorem Room.depth {k : Nat} {A : Around} (r : Room k A) : A.depth < recursionLimit := by have := r.dp; omega
theorem Room.units {k : Nat} {A : Around} (r : Room k A) : A.units + 64 < cLine := by have := r.un; omega

/-! ### argument lists and displays -/
def tNil : TA := fun _ H Q => Q [] H
def tCons (ta : TE) (tr : TA) : TA := fun σ H Q => ta σ H fun x H1 => tr σ H1 fun xs H2 => Q (x :: xs) H2
section
variable {X : Cx} {e : Expr} {es : List Expr} {te : TE} {t : TA} {pos : Pos}
theorem pa_nil : PA X [] tNil := fun _ _ _ _ H Q I h => Calls.spliced_nil ⟨[], H, I, .nil, h⟩
theorem pa_cons (ha : PE X e te) (hr : PA X es t) (hs : starEach (e :: es) X.env = (false, eval e X.env) :: starEach es X.env := by rfl) : PA X (e :: es) (tCons te t) := by
  intro pos pins s σ H Q I h
  rw [hs]
  show wpAny _ _ (spliced ((false, eval e X.env) :: backTo pos (starEach es X.env))) _ _ s
  refine Calls.spliced_cons (thn (ha pins s σ H _ I h) fun u s1 ⟨x, H1, I1, r1, q1⟩ => ?_)
  exact thn (hr pos pins s1 σ H1 _ I1 q1) fun us s2 ⟨xs, H2, I2, r2, q2⟩ => ⟨x :: xs, H2, I2, .cons r1 r2, q2⟩

/-- a tuple, a list of written items -/
def tTup (t : TA) : TE := fun σ H Q => t σ H fun xs H1 => xs.length ≤ sizeLine ∧ ∀ p, H1 p = none → Q (.ref p) (upd H1 p (.tup xs))
def tLst (t : TA) : TE := fun σ H Q => t σ H fun xs H1 => xs.length ≤ sizeLine ∧ ∀ p, H1 p = none → Q (.ref p) (upd H1 p (.lst xs))
theorem pe_tup {x1} (h : PA X es t) : PE X (.Tuple es x1 pos) (tTup t) := by
  intro pins s σ H Q I hq
  refine wpAny_Tuple_spliced (thn (h pos pins s σ H _ I hq) fun us s1 ⟨xs, H1, I1, r, z, q⟩ => ⟨by rw [← r.length]; exact z, ?_⟩)
  have hf : H1 s1.heap.objs.size = none := I1.hok.fresh (Nat.le_refl _)
  refine ⟨.ref s1.heap.objs.size, upd H1 s1.heap.objs.size (.tup xs), I1.laid (t' := s1.toks) (fun b u e => Heap.get?_push_of_some _ e) (Nat.le_refl _) ?_, rfl, q _ hf⟩
  exact ⟨z, us, r, ⟨_, Heap.get?_push_size _ rfl, rfl, _, rfl⟩⟩
theorem pe_lst (h : PA X es t) : PE X (.List es pos) (tLst t) := by
  intro pins s σ H Q I hq
  refine wpAny_List_spliced (thn (h pos pins s σ H _ I hq) fun us s1 ⟨xs, H1, I1, r, z, q⟩ => ⟨by rw [← r.length]; exact z, ?_⟩)
  have hf : H1 s1.heap.objs.size = none := I1.hok.fresh (Nat.le_refl _)
  refine ⟨.ref s1.heap.objs.size, upd H1 s1.heap.objs.size (.lst xs), I1.laid (t' := s1.toks) (fun b u e => Heap.get?_push_of_some _ e) (Nat.le_refl _) ?_, rfl, q _ hf⟩
  exact ⟨z, us, 0, r, Heap.get?_push_size _ rfl⟩
end

/-! ### what a def promises -/
/-- a def's promise: the bound arguments in the parameters' order, the heap, the wanted end, the wanted exception -/
abbrev Sp := List V → Hp → VK → XK → Prop
/-- how an exception lies behind a call (file 08 gives it): the callers' frames, abstract heap and state ahead of the call, the wish, the exception, the state -/
abbrev CXT := List Env → Hp → Shared → XK → Value → Shared → Prop

/-- the state at a call -/
structure Env0 (P : Program) (w : World) (K : PySem.W.Frag) (mg : Str → Option Value) (base : Heap) (A : Around) (outer : List Env) (s : Shared) (H : Hp) : Prop where
  frames : A.frames = some outer
  mod : Mod K mg base
  bs : ∀ b o, base.get? b = some o → s.heap.get? b = some o ∧ H b = none
  bsz : base.objs.size ≤ s.heap.objs.size
  funs : s.heap.FunFrames base outer
  frf : ∀ b ∈ frs outer, H b = none
  hok : HOk P w H s.heap
  bare : AllBare s.gens
/-- a call's end -/
def CE (outer : List Env) (P : Program) (w : World) (H : Hp) (s : Shared) (Q : VK) (u : Value) (s' : Shared) : Prop :=
  ∃ v H', s'.os = s.os ∧ AllBare s'.gens ∧ Un (frs outer) [] H H' s.heap s'.heap ∧ HOk P w H' s'.heap ∧ RelV v u ∧ Q v H'
def CR (CX : CXT) (outer : List Env) (P : Program) (w : World) (H : Hp) (s : Shared) (Q : VK) (E : XK) (r : Result) (s' : Shared) : Prop :=
  match r with
  | .ok (.ret u) => CE outer P w H s Q u s'
  | .ok _ => False
  | .error e => CX outer H s E e s'
structure FnOk (P : Program) (w : World) (K : PySem.W.Frag) (mg : Str → Option Value) (base : Heap) (CX : CXT) (k : Nat) (f : Addr) (fd : FuncData) (ps : List Str) (sp : Sp) : Prop where
  len : ∀ vs H Q E, sp vs H Q E → vs.length = ps.length
  run : ∀ (A : Around) (outer : List Env) (s : Shared) (H : Hp) (args : Args) (us : List Value) (vs : List V) (Q : VK) (E : XK), Room k A → Env0 P w K mg base A outer s H → BindsTo s fd args (ps.zip us) → Vals vs us → sp vs H Q E →
    codeAny (model P w) A (.call (.ref f) args) (CR CX outer P w H s Q E) s
theorem FnOk.mono {P : Program} {w : World} {K : PySem.W.Frag} {mg : Str → Option Value} {base : Heap} {CX : CXT} {j k : Nat} {f : Addr} {fd : FuncData} {ps : List Str} {sp : Sp} (F : FnOk P w K mg base CX j f fd ps sp) (h : j ≤ k) :
    FnOk P w K mg base CX k f fd ps sp := ⟨F.len, fun A outer s H args us vs Q E hr => F.run A outer s H args us vs Q E (hr.mono h)⟩

theorem Env0.make {P : Program} {w : World} {K : PySem.W.Frag} {mg : Str → Option Value} {base : Heap} {A : Around} {outer : List Env} {s : Shared} {H : Hp} (e : Env0 P w K mg base A outer s H) (C : Addr) (us : List Value) (kw : List (Str × Value)) :
    Env0 P w K mg base (A.under (.builtin "type.__call__" ⟨.ref C :: us, kw⟩)) outer s H := ⟨by first | exact e.frames | (simpa [Around.under, Code.envs, Code.isFrame, pushEnvs] using e.frames), e.mod, e.bs, e.bsz, e.funs, e.frf, e.hok, e.bare⟩
theorem Env0.in1 {P : Program} {w : World} {K : PySem.W.Frag} {mg : Str → Option Value} {base : Heap} {A : Around} {outer : List Env} {s : Shared} {H : Hp} (e : Env0 P w K mg base A outer s H) :
    Env0 P w K mg base A.in1 outer s H := ⟨e.frames, e.mod, e.bs, e.bsz, e.funs, e.frf, e.hok, e.bare⟩

section
variable {X : Cx} {pins : List (Addr × Obj)} {σ : St} {H : Hp} {s s' : Shared}
/-- from a body: what a callee wants -/
theorem Inv.env0 (I : Inv X pins σ H s) : Env0 X.prog X.w X.K X.mg X.base X.A X.stack s H :=
  ⟨I.ok.frames, I.ok.mod, I.bs, Nat.le_trans I.ok.bsz I.sz, I.stack, I.stkFree, I.hok, I.bare⟩
/-- behind a call -/
theorem Inv.after {Q : VK} {u : Value} (I : Inv X pins σ H s) (h : CE X.stack X.prog X.w H s Q u s') : EP X pins σ Q u s' := by
  obtain ⟨v, H', os, bare, un, hok, r, q⟩ := h
  obtain ⟨hh, g, d, t, os'⟩ := s'
  obtain rfl : os' = s.os := os
  exact ⟨v, H', I.call (h' := hh) (g' := g) (d' := d) (t' := t) (ch := []) un hok bare (fun b z => absurd z (by simp)), r, q⟩
end

/-! ### calls -/
/-- f(..): the written arguments, then the defaults dvs; E: what is wanted of an exception -/
def tCall (sp : Sp) (dvs : List V) (E : XK) (t : TA) : TE := fun σ H Q => t σ H fun vs H1 => sp (vs ++ dvs) H1 Q E
/-- C(..): a new instance and its dict, then __init__ -/
def tMake (C : Addr) (sp : Sp) (dvs : List V) (E : XK) (t : TA) : TE := fun σ H Q => t σ H fun vs H1 => ∀ x dx, H1 x = none → H1 dx = none → dx ≠ x →
  sp (.ref x :: (vs ++ dvs)) (upd (upd H1 dx (.own x)) x (.ins C dx [])) (fun v H2 => v = .non ∧ Q (.ref x) H2) E

/-- how the parameters are bound: us the positional arguments, kw the keywords' values by name, ds the defaults that fill up -/
def Binds (K : PySem.W.Frag) (fd : FuncData) (ps : List Str) (ds : List Value) : Prop :=
  ∀ (s : Shared) (us : List Value), K.In s.heap → (us ++ ds).length = ps.length → BindsTo s fd ⟨us, []⟩ (ps.zip (us ++ ds))
/-- every parameter is given -/
theorem Binds.all {K : PySem.W.Frag} {fd : FuncData} {ps : List Str} (h : ∀ us : List Value, us.length = ps.length → bindArgs fd ⟨us, []⟩ = pure (ps.zip us)) : Binds K fd ps [] := fun s us _ hl => by
  rw [List.append_nil] at hl ⊢
  exact .of_eq (h us hl)

/-- an exception of a callee reaches what this body wants of exceptions -/
def Passes (CX : CXT) (X : Cx) (E : XK) : Prop := ∀ (pins : List (Addr × Obj)) (σ : St) (H : Hp) (s : Shared) (e : Value) (s' : Shared), Inv X pins σ H s → CX X.stack H s E e s' → X.xe e s'

section
variable {X : Cx} {CX : CXT} {k : Nat} {f C : Addr} {fd : FuncData} {ps : List Str} {sp : Sp} {dvs : List V} {ds : List Value} {E : XK} {x m : Str} {p pos apos : Pos} {e o : Expr} {es : List Expr} {ta : TE} {t : TA}

/-- the callee runs -/
theorem run_fn {pins : List (Addr × Obj)} {σ : St} {H : Hp} {s : Shared} {Q : VK} {us : List Value} {vs : List V} (F : FnOk X.prog X.w X.K X.mg X.base CX k f fd ps sp) (hr : Room k X.A) (hb : Binds X.K fd ps ds) (hd : Vals dvs ds) (hx : Passes CX X E)
    (I : Inv X pins σ H s) (r : Vals vs us) (h : sp (vs ++ dvs) H Q E) : wpAny (model X.prog X.w) X.A (call (.ref f) us) (EP X pins σ Q) X.xe s := by
  have r2 : Vals (vs ++ dvs) (us ++ ds) := r.append hd
  have hl : (us ++ ds).length = ps.length := by rw [← r2.length]; exact F.len _ _ _ _ h
  refine wpAny_call (codeAny_mono (F.run X.A X.stack s H ⟨us, []⟩ (us ++ ds) (vs ++ dvs) Q E hr I.env0 (hb s us I.kIn hl) r2 h) fun r s' hq => ?_)
  cases r with
  | error e => exact hx pins σ H s e s' I hq
  | ok fl =>
    cases fl with
    | ret u => exact I.after hq
    | next => exact False.elim hq
    | brk => exact False.elim hq
    | cont => exact False.elim hq

theorem pe_call (F : FnOk X.prog X.w X.K X.mg X.base CX k f fd ps sp) (hr : Room k X.A) (hg : Gl X x) (hm : X.mg x = some (.ref f)) (hk : PySem.W.keepIn X.K (.ref f) = true) (hb : Binds X.K fd ps ds) (hd : Vals dvs ds) (hx : Passes CX X E)
    (ha : PA X (e :: es) t) (hdb : (x == ("__debug__" : Str)) = false := by decide) (he : starEach (e :: es) X.env = (false, eval e X.env) :: starEach es X.env := by rfl) (hpl : (backTo pos (starEach es X.env)).any (·.1) = false := by rfl) :
    PE X (.Call (.Name x p) (e :: es) [] pos) (tCall sp dvs E t) := by
  intro pins s σ H Q I h
  refine wpAny_Call_Name_kw (ld_glob I hg hm ?_ hdb)
  refine PySem.W.callWith_K (h₀ := X.base) I.ok.mod.kin hk (thn (ha pos pins s σ H _ I h) fun us s1 ⟨vs, H1, I1, r, q⟩ => ⟨I1.kIn, ?_⟩) he hpl
  exact run_fn F hr hb hd hx I1 r q


/-- what a class must have to be made -/
structure Mk (K : PySem.W.Frag) (C f : Addr) : Prop where
  makes : PySem.W.makesIn K C = true
  init : PySem.W.findIn K (.ref C) "__init__" = some (some (.ref f))
  fn : PySem.W.isFn K (.ref f) = true
  kp : PySem.W.keepIn K (.ref C) = true

theorem run_make {pins : List (Addr × Obj)} {σ : St} {H : Hp} {s : Shared} {Q : VK} {us : List Value} {vs : List V} (M : Mk X.K C f) (F : FnOk X.prog X.w X.K X.mg X.base CX k f fd ps sp) (hr : Room (k + 1) X.A) (hb : Binds X.K fd ps ds) (hd : Vals dvs ds)
    (hx : Passes CX X E) (I : Inv X pins σ H s) (r : Vals vs us)
    (h : ∀ x dx, H x = none → H dx = none → dx ≠ x → sp (.ref x :: (vs ++ dvs)) (upd (upd H dx (.own x)) x (.ins C dx [])) (fun v H2 => v = .non ∧ Q (.ref x) H2) E) :
    wpAny (model X.prog X.w) X.A (call (.ref C) us) (EP X pins σ Q) X.xe s := by
  have hq := h (s.heap.objs.size + 1) s.heap.objs.size (I.hok.fresh (Nat.le_succ _)) (I.hok.fresh (Nat.le_refl _)) (Nat.ne_of_lt (Nat.lt_succ_self _))
  have I2 := Inv.made (C := C) I
  have r2 : Vals (V.ref (s.heap.objs.size + 1) :: (vs ++ dvs)) (Value.ref (s.heap.objs.size + 1) :: (us ++ ds)) := .cons rfl (r.append hd)
  have hl : (Value.ref (s.heap.objs.size + 1) :: us ++ ds).length = ps.length := by
    have e := r2.length
    rw [F.len _ _ _ _ hq] at e
    exact e.symm
  refine wpAny_call (make_map (f := f) I.kIn M.makes M.init (beq_iff_eq.mp M.fn) (codeAny_mono (F.run _ X.stack _ _ ⟨Value.ref (s.heap.objs.size + 1) :: us, []⟩ (Value.ref (s.heap.objs.size + 1) :: (us ++ ds)) _ _ E (hr.make C us [])
    (I2.env0.make C us []) (hb _ (Value.ref (s.heap.objs.size + 1) :: us) I2.kIn hl) r2 hq) fun r s' hq' => ?_))
  cases r with
  | error e => exact hx pins σ _ _ e s' I2 hq'
  | ok fl =>
    cases fl with
    | ret u =>
      obtain ⟨v, H', I3, rv, ev, q3⟩ := I2.after hq'
      subst ev
      exact ⟨rv, ⟨V.ref (s.heap.objs.size + 1), H', I3, rfl, q3⟩⟩
    | next => exact False.elim hq'
    | brk => exact False.elim hq'
    | cont => exact False.elim hq'
theorem pe_make (M : Mk X.K C f) (F : FnOk X.prog X.w X.K X.mg X.base CX k f fd ps sp) (hr : Room (k + 1) X.A) (hg : Gl X x) (hm : X.mg x = some (.ref C)) (hb : Binds X.K fd ps ds) (hd : Vals dvs ds) (hx : Passes CX X E)
    (ha : PA X (e :: es) t) (hdb : (x == ("__debug__" : Str)) = false := by decide) (he : starEach (e :: es) X.env = (false, eval e X.env) :: starEach es X.env := by rfl) (hpl : (backTo pos (starEach es X.env)).any (·.1) = false := by rfl) :
    PE X (.Call (.Name x p) (e :: es) [] pos) (tMake C sp dvs E t) := by
  intro pins s σ H Q I h
  refine wpAny_Call_Name_kw (ld_glob I hg hm ?_ hdb)
  refine PySem.W.callWith_K (h₀ := X.base) I.ok.mod.kin M.kp (thn (ha pos pins s σ H _ I h) fun us s1 ⟨vs, H1, I1, r, q⟩ => ⟨I1.kIn, ?_⟩) he hpl
  exact run_make M F hr hb hd hx I1 r q
end

/-! ### keywords -/
/-- the values of the keywords, from the left -/
def PK (X : Cx) (kws : List Keyword) (t : TA) : Prop :=
  ∀ (pos : Pos) (pins : List (Addr × Obj)) (s : Shared) (σ : St) (H : Hp) (Q : List V → Hp → Prop), Inv X pins σ H s → t σ H Q → wpAny (model X.prog X.w) X.A (evalAll ((backToKw pos (keywordEach kws X.env)).map (·.2))) (AP X pins σ Q) X.xe s
section
variable {X : Cx} {CX : CXT} {k : Nat} {f C : Addr} {fd : FuncData} {ps ks : List Str} {sp : Sp} {E : XK} {x m : Str} {p pos apos kpos : Pos} {e o : Expr} {es : List Expr} {kws : List Keyword} {te ta : TE} {t tk : TA} {nm : Option Str}
theorem pk_nil : PK X [] tNil := fun _ _ _ _ H Q I h => wpAny_evalAll_nil ⟨[], H, I, .nil, h⟩
theorem pk_cons (ha : PE X e te) (hr : PK X kws t) : PK X (⟨nm, e, kpos⟩ :: kws) (tCons te t) := by
  intro pos pins s σ H Q I h
  show wpAny _ _ (evalAll ((do let v ← eval e X.env; standAt pos; pure v) :: (backToKw pos (keywordEach kws X.env)).map (·.2))) _ _ s
  refine wpAny_evalAll_cons (wpAny_bind (thn (ha pins s σ H _ I h) fun u s1 ⟨x, H1, I1, r1, q1⟩ => wpAny_bind (wpAny_standAt (wpAny_pure ?_))))
  exact thn (hr pos pins s1 σ H1 _ I1 q1) fun us s2 ⟨xs, H2, I2, r2, q2⟩ => ⟨x :: xs, H2, I2, .cons r1 r2, q2⟩

variable {g : List Value → List Value → List Value} {gV : List V → List V → List V}
end

/-! ### a def's body keeps its promise -/
/-- names: the parameters first -/
structure FnScope (N P : List Str) (sc : Scope) : Prop where
  kind : sc.kind = .function
  co : sc.isCoroutine = false
  gen : sc.isGenerator = false
  nd : N.Nodup
  pre : N.take P.length = P
  par : ∀ x ∈ P, sc.names.lookup x = some .local ∨ sc.names.lookup x = some .cell
  nofree : ∀ y ∈ sc.names, y.2 ≠ .free

theorem bindL_out {kindOf : Str → Option NameKind} {x : Str} : ∀ {binds : List (Str × Value)} {m : Str → Option Value}, (∀ v, (x, v) ∉ binds) → bindL kindOf binds m x = m x
  | [], _, _ => rfl
  | (n, v) :: r, m, h => by
    unfold bindL
    rw [bindL_out fun w hw => h w (List.mem_cons_of_mem _ hw)]
    split
    · have : x ≠ n := by rintro rfl; exact h v List.mem_cons_self
      simp [this]
    · rfl
theorem bindC_out {kindOf : Str → Option NameKind} {x : Str} : ∀ {binds : List (Str × Value)} {m : Str → Option Value}, (∀ v, (x, v) ∉ binds) → bindC kindOf binds m x = m x
  | [], _, _ => rfl
  | (n, v) :: r, m, h => by
    unfold bindC
    rw [bindC_out fun w hw => h w (List.mem_cons_of_mem _ hw)]
    split
    · rfl
    · have : x ≠ n := by rintro rfl; exact h v List.mem_cons_self
      simp [this]
theorem bindL_get {kindOf : Str → Option NameKind} {x : Str} {v : Value} : ∀ {P : List Str} {vs : List Value} {i : Nat} {m : Str → Option Value}, P.Nodup → P[i]? = some x → vs[i]? = some v → kindOf x = some .local →
    bindL kindOf (P.zip vs) m x = some v
  | [], _, _, _, _, h, _, _ => by simp at h
  | _ :: _, [], _, _, _, _, h, _ => by simp at h
  | p :: P, w :: vs, 0, m, nd, h1, h2, hk => by
    simp at h1 h2; subst h1; subst h2
    show bindL kindOf ((p, w) :: P.zip vs) m p = _
    unfold bindL
    rw [bindL_out fun v hv => (List.nodup_cons.mp nd).1 (List.of_mem_zip hv).1, if_pos hk]
    simp
  | p :: P, w :: vs, i + 1, m, nd, h1, h2, hk => by
    show bindL kindOf ((p, w) :: P.zip vs) m x = _
    unfold bindL
    exact bindL_get (i := i) (List.nodup_cons.mp nd).2 (by simpa using h1) (by simpa using h2) hk
theorem bindC_get {kindOf : Str → Option NameKind} {x : Str} {v : Value} : ∀ {P : List Str} {vs : List Value} {i : Nat} {m : Str → Option Value}, P.Nodup → P[i]? = some x → vs[i]? = some v → kindOf x ≠ some .local →
    bindC kindOf (P.zip vs) m x = some v
  | [], _, _, _, _, h, _, _ => by simp at h
  | _ :: _, [], _, _, _, _, h, _ => by simp at h
  | p :: P, w :: vs, 0, m, nd, h1, h2, hk => by
    simp at h1 h2; subst h1; subst h2
    show bindC kindOf ((p, w) :: P.zip vs) m p = _
    unfold bindC
    rw [bindC_out fun v hv => (List.nodup_cons.mp nd).1 (List.of_mem_zip hv).1, if_neg hk]
    simp
  | p :: P, w :: vs, i + 1, m, nd, h1, h2, hk => by
    show bindC kindOf ((p, w) :: P.zip vs) m x = _
    unfold bindC
    exact bindC_get (i := i) (List.nodup_cons.mp nd).2 (by simpa using h1) (by simpa using h2) hk

/-- the names' values at the entry -/
def start (N : List Str) (vs : List V) : St := vs.map some ++ List.replicate (N.length - vs.length) none

/-- the context of a def's body, at its entry; an exception leaves the frame, then lies as CX says -/
def cxOf (CX : CXT) (P : Program) (w : World) (K : PySem.W.Frag) (mg : Str → Option Value) (base : Heap) (N : List Str) (qual : Str) (scope : Scope) (f : Addr) (cd : Value) (A : Around) (outer : List Env) (s : Shared) (H : Hp) (E : XK) : Cx where
  prog := P
  w := w
  K := K
  mg := mg
  base := base
  A := A.deeper (envOfC qual scope s.heap.objs.size f cd)
  N := N
  s_0 := s
  H_0 := H
  env := envOfC qual scope s.heap.objs.size f cd
  outer := outer
  stack := envOfC qual scope s.heap.objs.size f cd :: outer
  ex := []
  calm := true
  fn := fun _ => true
  pn := []
  xe := fun e s' => wpAny (model P w) (A.deeper (envOfC qual scope s.heap.objs.size f cd)) (leaving (envOfC qual scope s.heap.objs.size f cd) e) (fun _ s'' => CX outer H s E e s'') (fun e' s'' => CX outer H s E e' s'') s'

theorem cell_has {sc : Scope} {n : Nat} {x : Str} (h : sc.names.lookup x = some .cell) : ∃ c, (cellsFrom n sc.names []).lookup x = some c := by
  have q := PySem.W.cellsFrom_some sc.names n [] (.inl h)
  exact Option.isSome_iff_exists.mp q

theorem inv_start {CX : CXT} {P : Program} {w : World} {K : PySem.W.Frag} {mg : Str → Option Value} {base : Heap} {N ps : List Str} {qual : Str} {scope : Scope} {f : Addr} {cd : Value} {A : Around} {outer : List Env} {s s1 : Shared} {H : Hp} {E : XK} {us : List Value} {vs : List V}
    (S : FnScope N ps scope) (hd : A.handled = none) (e0 : Env0 P w K mg base A outer s H) (hl : vs.length = ps.length) (r : Vals vs us)
    (x : InCallC s s.heap.objs.size (bindL (envOfC qual scope s.heap.objs.size f cd).kindOf (ps.zip us) fun _ => none) (cellsFrom (s.heap.objs.size + 1) scope.names []) (bindC (envOfC qual scope s.heap.objs.size f cd).kindOf (ps.zip us) fun _ => none) s1) :
    Inv (cxOf CX P w K mg base N qual scope f cd A outer s H E) [] (start N vs) H s1 := by
  have hpl : ps.length ≤ N.length := by have := congrArg List.length S.pre; rw [List.length_take] at this; omega
  obtain ⟨h1, tk, rfl, hk⟩ := x.done
  have noA : ∀ b : Addr, b ∉ (cxOf CX P w K mg base N qual scope f cd A outer s H E).ex := fun b z => absurd (show b ∈ ([] : List Addr) from z) (by simp)
  refine ⟨⟨e0.mod, S.kind, rfl, rfl, Nat.le_refl _, fun y z c h1 h2 => ?_, fun y hy => ?_, fun y c _ h => ?_, fun _ => hd, Around.frames_deeper e0.frames, .inr ⟨rfl, rfl⟩, fun b z => absurd z (noA b), e0.bs, e0.bsz, fun b _ _ => noA b, fun b z => absurd z (noA b), e0.funs, e0.frf⟩,
    rfl, e0.bare, Un.kept hk, ⟨_, x.toInCall.ns, fun i y v h1 h2 h3 => ?_⟩, fun y c h => ⟨_, x.cell y c h⟩, e0.hok.fresh (Nat.le_refl _), fun y c h => ?_, fun p hp => absurd (show p ∈ ([] : List (Addr × Obj)) from hp) (by simp), e0.hok.kept hk, ?_⟩
  · exact name_of_addr x.apart (PySem.mem_of_lookup h1) (PySem.mem_of_lookup h2)
  · have hy : scope.names.lookup y = some .cell ∨ scope.names.lookup y = some .free := hy
    rcases hy with hy | hy
    · exact cell_has hy
    · exact absurd rfl (S.nofree _ (PySem.mem_of_lookup hy))
  · exact Nat.le_of_lt (x.above y c (PySem.mem_of_lookup h))
  · have hi : i < vs.length := by
      unfold start at h2
      by_cases hi : i < vs.length
      · exact hi
      · rw [List.getElem?_append_right (by simpa using hi)] at h2
        rw [List.getElem?_replicate] at h2
        split at h2 <;> cases h2
    have ha : vs[i]? = some v := by
      unfold start at h2
      rw [List.getElem?_append_left (by simpa using hi), List.getElem?_map] at h2
      cases e : vs[i]? with
      | none => rw [e] at h2; cases h2
      | some a => rw [e] at h2; cases h2; rfl
    obtain ⟨u, hu, rv⟩ := r.get ha
    have hp : ps[i]? = some y := by
      rw [← S.pre, List.getElem?_take_of_lt (by omega)]; exact h1
    have ndP : ps.Nodup := by rw [← S.pre]; exact S.nd.sublist (List.take_sublist _ _)
    refine ⟨u, rv, ?_⟩
    rcases S.par y (List.mem_of_getElem? hp) with k | k
    · exact .inl ⟨k, bindL_get ndP hp hu k⟩
    · obtain ⟨c, e⟩ := cell_has (n := s.heap.objs.size + 1) k
      refine .inr ⟨.inl k, c, e, ?_⟩
      have q := x.cell y c e
      rw [bindC_get ndP hp hu (by show scope.names.lookup y ≠ _; rw [k]; decide)] at q
      exact q
  · exact e0.hok.fresh (Nat.le_of_lt (x.above y c (PySem.mem_of_lookup h)))
  · unfold start
    show _ = N.length
    rw [List.length_append, List.length_map, List.length_replicate]
    omega

/-- THE RULE: a def (or a method) of the text, by its body. The body's reading t is chosen for each entry; it is run at the parameters' values -/
theorem fn_of {CX : CXT} {P : Program} {w : World} {K : PySem.W.Frag} {mg : Str → Option Value} {base : Heap} {k : Nat} {f : Addr} {name qual : Str} {params : Arguments} {body : List Stmt} {scope : Scope} {dV kV doc pm cdv ct oc : Value} {an od : Option Addr}
    {osl : Array (Option Value)} {N ps : List Str} {sp : Sp} (lk : K.lookup f = some ⟨oc, od, .func (PySem.W.fnOf name qual params body scope dV kV doc pm an cdv ct), osl⟩) (hcd : PySem.W.codeIn K cdv qual = true) (S : FnScope N ps scope)
    (len : ∀ vs H Q E, sp vs H Q E → vs.length = ps.length)
    (hbody : ∀ (A : Around) (outer : List Env) (s : Shared) (H : Hp) (vs : List V) (Q : VK) (E : XK), Room k (A.deeper (envOfC qual scope s.heap.objs.size f cdv)) → sp vs H Q E →
      ∃ t, PSs (cxOf CX P w K mg base N qual scope f cdv A outer s H E) body t ∧ t { nx := fun _ H' => Q .non H', rt := Q } (start N vs) H) :
    FnOk P w K mg base CX (k + 1) f (PySem.W.fnOf name qual params body scope dV kV doc pm an cdv ct) ps sp := by
  refine ⟨len, fun A outer s H args us vs Q E hr e0 hb r hsp => ?_⟩
  have hl := len _ _ _ _ hsp
  have KX : K.In s.heap := e0.mod.kin.keeps fun b o e => (e0.bs b o e).1
  have lim : s.heap.NoLimit := e0.mod.nolimit.keeps fun b o e => (e0.bs b o e).1
  have hkind : ∀ y ∈ ps.zip us, scope.names.lookup y.1 = some .local ∨ (scope.names.lookup y.1 = some .cell ∧ ((cellsFrom (s.heap.objs.size + 1) scope.names []).lookup y.1).isSome = true) := fun ⟨n, v⟩ hy => by
    rcases S.par n (List.of_mem_zip hy).1 with q | q
    · exact .inl q
    · exact .inr ⟨q, PySem.W.cellsFrom_some _ _ _ (.inl q)⟩
  refine codeAny_call_function hr.depth (KX _ _ lk) rfl S.co S.gen rfl (PySem.W.codeRec_of KX hcd) (hb _ _ _ _ ?_)
  refine wpAny_newFunctionEnv_cells S.kind hkind fun env he s1 x => ?_
  subst he
  refine ⟨lim.keeps x.toInCall.keep, codeAny_func ?_⟩
  obtain ⟨t, ht, hq⟩ := hbody A outer s H vs Q E (hr.deeper _) hsp
  have I : Inv (cxOf CX P w K mg base N qual scope f cdv A outer s H E) [] (start N vs) H s1 := inv_start S hr.hd e0 hl r x
  refine wpAny_mono (ht [] s1 (start N vs) H _ I hq) (fun fl s' hs => ?_) fun e s' hs => hs
  have fin : ∀ {σ' : St} {H' : Hp} {v : V} {u : Value}, Inv (cxOf CX P w K mg base N qual scope f cdv A outer s H E) [] σ' H' s' → RelV v u → Q v H' → CE outer P w H s Q u s' :=
    fun {σ' H' v u} J rv q => ⟨v, H', J.os, J.bare, J.base, J.hok, rv, q⟩
  cases fl with
  | ret u =>
    obtain ⟨v, σ', H', J, rv, q⟩ := hs
    exact fin J rv q
  | next =>
    obtain ⟨σ', H', J, q⟩ := hs
    exact fin (v := V.non) (u := Value.none) J rfl q
  | brk =>
    obtain ⟨_, _, _, q⟩ := hs
    exact False.elim q
  | cont =>
    obtain ⟨_, _, _, q⟩ := hs
    exact False.elim q
end L2

namespace L2
open PySem PySem.Spec PyProof.Rows
section
variable {X : Cx} {x : Str} {p pos : Pos} {e : Expr} {es : List Expr} {t : TA} {id T : String} {r : List V → Hp → VK → Prop}

def tCB (r : List V → Hp → VK → Prop) (t : TA) : TE := fun σ H Q => t σ H fun vs H1 => r vs H1 Q
/-- f(e, ..), f a built-in function -/
theorem pe_callB (hc : CallR X (.builtin id) r) (hg : Gl X x) (hm : X.mg x = none) (hv : bootBuiltins x = some (.builtin id)) (ha : PA X (e :: es) t) (hn : x ≠ "__name__" := by decide) (hdb : (x == ("__debug__" : Str)) = false := by decide)
    (he : starEach (e :: es) X.env = (false, eval e X.env) :: starEach es X.env := by rfl) (hpl : (backTo pos (starEach es X.env)).any (·.1) = false := by rfl) : PE X (.Call (.Name x p) (e :: es) [] pos) (tCB r t) := by
  intro pins s σ H Q I h
  refine wpAny_Call_Name_kw (ld_blt I hg hm hv ?_ hn hdb)
  exact PyProof.Rows.callWith_builtin1 (thn (ha pos pins s σ H _ I h) fun us s1 ⟨vs, H1, I1, r1, q1⟩ => hc pins s1 σ H1 vs us Q I1 r1 q1) he hpl
end
end L2

namespace HT
open PySem PyProof.Rows

/-- t < u of tuples of ints -/
def lexLt : List Int → List Int → Bool
  | [], [] => false
  | [], _ :: _ => true
  | _ :: _, [] => false
  | x :: xs, y :: ys => if x = y then lexLt xs ys else decide (x < y)
theorem lexLt_cons (x y : Int) (xs ys : List Int) : lexLt (x :: xs) (y :: ys) = if x = y then lexLt xs ys else decide (x < y) := rfl
theorem lexLt_nil_nil : lexLt [] [] = false := rfl
theorem lexLt_nil_cons (y : Int) (ys : List Int) : lexLt [] (y :: ys) = true := rfl
theorem lexLt_cons_nil (x : Int) (xs : List Int) : lexLt (x :: xs) [] = false := rfl

theorem eqAt_int (A : Around) (s : Shared) (a : Int) (t : Tok) (c : Int) (u : Tok) : ∃ e, SeqAt.EqAt A s (.int a t) (.int c u) e ∧ (e = true ↔ a = c) :=
  ⟨(a == c), SeqAt.EqAt.int_int a t c u, by simp⟩
theorem rcLt_int (A : Around) (s : Shared) (a : Int) (t : Tok) (c : Int) (u : Tok) (prog : Program) (w : World) (E : Value → Shared → Prop) (Q : Value → Shared → Prop) (h : Q (.bool (decide (a < c))) s) :
    wpAny (model prog w) A (richCompare .Lt (.int a t) (.int c u)) Q E s :=
  (PyProof.Rows.lt_int h : wpAny (model prog w) A (compareOp .Lt (.int a t) (.int c u)) Q E s)

section
open PySem.SeqAt
open PySem.AutoSeq1 (wpAny_loadPart')
open PySem.MeetsSeq PySem.MeetsSeq2 PySem.MeetsSeq3

end

section
variable {prog : Program} {w : World} {A : Around} {E : Value → Shared → Prop} {s : Shared}



/-! ### t[a:b], not the whole -/
/-- a slice's bound as a place among n (d where it is left out) -/
def sIx (n d : Nat) : Option Int → Nat
  | none => d
  | some v => if v < 0 then (v + (n : Int)).toNat else min v.toNat n
theorem sIx_nat (n d k : Nat) : sIx n d (some (k : Int)) = min k n := by
  show (if (k : Int) < 0 then ((k : Int) + (n : Int)).toNat else min (k : Int).toNat n) = min k n
  rw [if_neg (by omega), Int.toNat_natCast]

end
end HT

namespace L2
open PySem PySem.Spec PyProof.Rows

/-! ### the parts of a slice -/
abbrev TO := St → Hp → (Option Int → Hp → Prop) → Prop
/-- a slice's part (left out, or an int) -/
def PO (X : Cx) (e : Option Expr) (t : TO) : Prop :=
  ∀ (pins : List (Addr × Obj)) (s : Shared) (σ : St) (H : Hp) (Q : Option Int → Hp → Prop), Inv X pins σ H s → t σ H Q →
    wpAny (model X.prog X.w) X.A (evalPart e X.env) (fun u s' => ∃ o H', Inv X pins σ H' s' ∧ IsPart u o ∧ Q o H') X.xe s
def tPart (t : TE) : TO := fun σ H Q => t σ H fun x H1 => ∃ i, x = .int i ∧ Q (some i) H1

theorem intsAre_of {ns : List Int} : ∀ {us : List Value}, Vals (ns.map V.int) us → IntsAre us ns := by
  induction ns with
  | nil => intro us r; rw [List.map_nil] at r; cases r; exact .nil
  | cons n ns ih =>
    intro us r
    rw [List.map_cons] at r
    cases r with
    | cons r1 r2 =>
      obtain ⟨t, e⟩ := r1
      subst e
      exact .cons n t (ih r2)

section
variable {X : Cx} {e : Expr} {te : TE} {lo hi : Option Expr} {tl th : TO} {pos p2 : Pos}

theorem po_some (h : PE X e te) : PO X (some e) (tPart te) := by
  intro pins s σ H Q I hw
  rw [evalPart_some]
  refine thn (h pins s σ H _ I hw) fun u s1 ⟨x, H1, I1, r1, q1⟩ => ?_
  obtain ⟨i, rfl, q⟩ := q1
  obtain ⟨t, rfl⟩ := r1
  exact ⟨some i, H1, I1, .int i t, q⟩

/-- what a slice of a value is, by values: the slice object stands at sl -/
def SlR (X : Cx) (r : V → Option Int → Option Int → Hp → VK → Prop) : Prop :=
  ∀ (pins : List (Addr × Obj)) (s : Shared) (σ : St) (H : Hp) (x : V) (v vl vu : Value) (lo hi : Option Int) (sl : Addr) (Q : VK), Inv X pins σ H s → RelV x v → s.heap.IsSliceOf sl vl vu .none → IsPart vl lo → IsPart vu hi → r x lo hi H Q →
    ∃ T id, typeLookup (.type T) "__getitem__" = pure (some (.builtin id)) ∧ s.TypeIs v T ∧ wpAny (model X.prog X.w) X.A (getItem v (.ref sl)) (EP X pins σ Q) X.xe s
def tSl (r : V → Option Int → Option Int → Hp → VK → Prop) (te : TE) (tl th : TO) : TE := fun σ H Q => te σ H fun x H1 => tl σ H1 fun l H2 => th σ H2 fun u H3 => r x l u H3 Q
/-- a[lo:hi], any a -/
theorem pe_slice {r : V → Option Int → Option Int → Hp → VK → Prop} (hr : SlR X r) (he : PE X e te) (hl : PO X lo tl) (hu : PO X hi th) : PE X (.Subscript e (.Slice lo hi none p2) pos) (tSl r te tl th) := by
  intro pins s σ H Q I h
  refine Subscript_ (thn (he pins s σ H _ I h) fun v s1 ⟨x, H1, I1, r1, q1⟩ => ?_)
  refine wpAny_Slice (thn (hl pins s1 σ H1 _ I1 q1) fun vl s2 ⟨l, H2, I2, pl, q2⟩ => thn (hu pins s2 σ H2 _ I2 q2) fun vu s3 ⟨u, H3, I3, pu, q3⟩ => ?_)
  rw [evalPart_none]
  refine wpAny_pure ?_
  have I4 : Inv X pins σ H3 { s3 with heap := s3.heap.push { cls := .type "slice", data := .fields #[vl, vu, .none] } } := I3.kept (t' := s3.toks) fun b ob q => Heap.get?_push_of_some _ q
  obtain ⟨T, id, hT, ht, hg⟩ := hr pins { s3 with heap := s3.heap.push { cls := .type "slice", data := .fields #[vl, vu, .none] } } σ H3 x v vl vu l u s3.heap.objs.size Q I4 r1 (Heap.IsSliceOf.new ..) pl pu q3
  show wpAny (model X.prog X.w) X.A (subscriptTail e (.Slice lo hi none p2) v (.ref s3.heap.objs.size)) (EP X pins σ Q) X.xe { s3 with heap := s3.heap.push { cls := .type "slice", data := .fields #[vl, vu, .none] } }
  exact tail_any (ops := [.ref s3.heap.objs.size, v]) ht hT hg (by with_unfolding_all rfl)

/-- the items of xs[lo:hi] -/
def cutV (xs : List V) (lo hi : Option Int) : List V := (xs.drop (HT.sIx xs.length 0 lo)).take (HT.sIx xs.length xs.length hi - HT.sIx xs.length 0 lo)
theorem cutV_length (xs : List V) (lo hi : Option Int) : (cutV xs lo hi).length ≤ xs.length := by
  unfold cutV
  rw [List.length_take, List.length_drop]
  omega

/-! ### t < u, t + u -/
end
end L2

namespace L2
open PySem PySem.Spec PyProof.Rows

/-! ### places -/
/-- the place that an index of any sign means -/
def ixN (n : Nat) (i : Int) : Option Nat := if 0 ≤ i then (if i < n then some i.toNat else none) else if -(n : Int) ≤ i then some (i + n).toNat else none
def atI {α : Type} (xs : List α) (i : Int) : Option α := (ixN xs.length i).bind fun j => xs[j]?
theorem ixN_seq {n : Nat} {i : Int} {j : Nat} (h : ixN n i = some j) : seqIndex? i n = some j ∧ j < n ∧ -(n : Int) ≤ i ∧ i < n := by
  unfold ixN at h
  by_cases h0 : 0 ≤ i
  · rw [if_pos h0] at h
    by_cases h1 : i < n
    · rw [if_pos h1] at h
      have e : i.toNat = j := Option.some.inj h
      exact ⟨by rw [seqIndex_of h0 h1, e], by omega, by omega, h1⟩
    · rw [if_neg h1] at h; cases h
  · rw [if_neg h0] at h
    by_cases h1 : -(n : Int) ≤ i
    · rw [if_pos h1] at h
      have e : (i + n).toNat = j := Option.some.inj h
      exact ⟨by rw [seqIndex_neg (by omega) h1, e], by omega, h1, by omega⟩
    · rw [if_neg h1] at h; cases h
theorem atI_get {α : Type} {xs : List α} {i : Int} {v : α} (h : atI xs i = some v) : ∃ j, seqIndex? i xs.length = some j ∧ xs[j]? = some v ∧ j < xs.length ∧ -(xs.length : Int) ≤ i ∧ i < xs.length := by
  unfold atI at h
  cases e : ixN xs.length i with
  | none => rw [e] at h; cases h
  | some j =>
    rw [e] at h
    obtain ⟨h1, h2, h3, h4⟩ := ixN_seq e
    exact ⟨j, h1, h, h2, h3, h4⟩
theorem atI_nat {α : Type} {xs : List α} {j : Nat} {v : α} (h : xs[j]? = some v) : atI xs (j : Int) = some v := by
  have hj : j < xs.length := (List.getElem?_eq_some_iff.mp h).1
  have e : ixN xs.length (j : Int) = some j := by
    unfold ixN
    rw [if_pos (by omega), if_pos (by omega)]; simp
  unfold atI; rw [e]; exact h
theorem atI_last {α : Type} (xs : List α) (v : α) : atI (xs ++ [v]) (-1) = some v := by
  have hl : (xs ++ [v]).length = xs.length + 1 := by simp
  have e : ixN (xs ++ [v]).length (-1) = some xs.length := by
    unfold ixN
    rw [hl, if_neg (by decide), if_pos (by omega)]
    congr 1
    omega
  unfold atI
  rw [e]
  show (xs ++ [v])[xs.length]? = some v
  simp

/-! ### what may be subscripted -/
/-- what stands as an index of a plain subscript -/
def PlainIx (b : Expr) : Prop := ∀ o i, subscripted b false o i = operate [o, i] (getItem o i)
/-- a subscript by values -/
def IxR (X : Cx) (r : R2) : Prop :=
  ∀ (value slice : Expr) (pins : List (Addr × Obj)) (s : Shared) (σ : St) (H : Hp) (x y : V) (v u : Value) (Q : VK), Inv X pins σ H s → RelV x v → RelV y u → r x y H Q →
    subscripted slice false v u = operate [v, u] (getItem v u) → wpAny (model X.prog X.w) X.A (subscriptTail value slice v u) (EP X pins σ Q) X.xe s
/-- a call of a builtin's method by values: the receiver, the arguments -/
def MtR (X : Cx) (id : String) (r : V → List V → Hp → VK → Prop) : Prop :=
  ∀ (pins : List (Addr × Obj)) (s : Shared) (σ : St) (H : Hp) (x : V) (xs : List V) (v : Value) (us : List Value) (Q : VK), Inv X pins σ H s → RelV x v → Vals xs us → r x xs H Q →
    wpAny (model X.prog X.w) X.A (call (.builtin id) (v :: us)) (EP X pins σ Q) X.xe s
section
variable {X : Cx} {a b : Expr} {ta tb : TE} {pos : Pos}
/-- a[b] -/
theorem pe_ix {r : R2} (hr : IxR X r) (ha : PE X a ta) (hb : PE X b tb) (hs : PlainIx b) : PE X (.Subscript a b pos) (tOp r ta tb) := by
  intro pins s σ H Q I h
  exact Subscript_ (binT ha hb I h fun v u s2 x y H2 I2 rx ry q => hr a b pins s2 σ H2 x y v u Q I2 rx ry q (hs _ _))

def rIxL (K : PySem.W.Frag) : R2 := fun x y H Q => ∃ p xs i v, x = .ref p ∧ y = .int i ∧ SqL K H p xs ∧ atI xs i = some v ∧ Q v H
theorem ix_list : IxR X (rIxL X.K) := by
  intro value slice pins s σ H x y v u Q I rx ry h hs
  obtain ⟨p, xs, i, z, rfl, rfl, hq, he, q⟩ := h
  cases rx
  obtain ⟨t, rfl⟩ := ry
  obtain ⟨its, r, pl, hz⟩ := I.list hq
  obtain ⟨j, h1, h2, h3, h4, h5⟩ := atI_get he
  obtain ⟨w, ew, rw'⟩ := r.get h2
  have hl := r.length
  have hn := line63
  have fin : EP X pins σ Q w s := ⟨z, H, I, rw', q⟩
  by_cases h0 : 0 ≤ i
  · have hj : i.toNat = j := by
      rw [seqIndex_of h0 h5] at h1
      exact Option.some.inj h1
    exact item_listR pl.isList h0 (by omega) (by rw [hj]; simpa using ew) fin hs
  · have hj : (i + (its.toArray.size : Int)).toNat = j := by
      rw [seqIndex_neg (by omega) h4] at h1
      rw [List.size_toArray, ← hl]
      exact Option.some.inj h1
    exact subscriptTail_builtinR (x := w) pl.isList.typeIs slot_list_getitem.lookup
      (wpAny_getItem_list_neg (Q := fun r s' => r = w ∧ EP X pins σ Q r s') pl.isList (by omega) (by rw [List.size_toArray] <;> omega) (by omega) (by rw [hj]; simpa using ew) ⟨rfl, fin⟩) hs

/-! ### xs[i] = v, any sign -/

/-! ### slices -/
theorem slice_bounds (lo hi : Option Int) (n : Nat) : (sliceBounds lo hi none n).1 = ((HT.sIx n 0 lo : Nat) : Int) ∧ (sliceBounds lo hi none n).2.1 = ((HT.sIx n n hi : Nat) : Int) ∧ (sliceBounds lo hi none n).2.2 = 1 := by
  refine ⟨?_, ?_, rfl⟩
  · cases lo with
    | none => simp [sliceBounds, HT.sIx]
    | some i =>
      simp only [sliceBounds, HT.sIx, Option.getD_none, show (1 : Int) > 0 by decide, if_true]
      by_cases h : i < 0
      · simp only [h, if_true] <;> omega
      · simp only [h, if_false] <;> omega
  · cases hi with
    | none => simp [sliceBounds, HT.sIx]
    | some i =>
      simp only [sliceBounds, HT.sIx, Option.getD_none, show (1 : Int) > 0 by decide, if_true]
      by_cases h : i < 0
      · simp only [h, if_true] <;> omega
      · simp only [h, if_false] <;> omega
theorem slicePick_cut (its : List Value) (lo hi : Option Int) : slicePick its.toArray lo hi none = ((its.drop (HT.sIx its.length 0 lo)).take (HT.sIx its.length its.length hi - HT.sIx its.length 0 lo)).toArray := by
  obtain ⟨h1, h2, h3⟩ := slice_bounds lo hi its.toArray.size
  unfold slicePick
  rw [h1, h2, h3]
  simp only [sliceRange_one, pick_run, List.size_toArray] <;> rfl
/-- xs[lo:hi] of a list: a new list -/
def rSlL (K : PySem.W.Frag) : V → Option Int → Option Int → Hp → VK → Prop := fun x lo hi H Q => ∃ a xs, x = .ref a ∧ SqL K H a xs ∧ ∀ p, H p = none → Q (.ref p) (upd H p (.lst (cutV xs lo hi)))
theorem sl_list : SlR X (rSlL X.K) := by
  intro pins s σ H x v vl vu lo hi sl Q I rx hs pl pu h
  obtain ⟨a, xs, rfl, hx, q⟩ := h
  cases rx
  obtain ⟨its, r, ht, hz⟩ := I.list hx
  have hlen := r.length
  refine ⟨"list", _, slot_list_getitem.lookup, ht.isList.typeIs, ?_⟩
  refine wpAny_getItem_list_slice ht.isList hs pl pu .none (by simp) ?_ (by rw [List.size_toArray] <;> omega)
  rw [slicePick_cut, ← hlen]
  refine ⟨.ref s.heap.objs.size, _, I.laid (t' := s.toks) (o := .lst (cutV xs lo hi)) (fun b ob q => Heap.get?_push_of_some _ q) (Nat.le_refl _) ?_, rfl, q _ (I.hok.fresh (Nat.le_refl _))⟩
  exact ⟨Nat.le_trans (cutV_length xs lo hi) hz, _, 0, (r.drop (HT.sIx xs.length 0 lo)).take (HT.sIx xs.length xs.length hi - HT.sIx xs.length 0 lo), Heap.get?_push_size _ rfl⟩

/-! ### in, not in: flat items -/
def flatV : V → Bool
  | .non => true
  | .bl _ => true
  | .int _ => true
  | .str _ => true
  | _ => false
/-- == of flat values -/
def eqV : V → V → Bool
  | .non, .non => true
  | .bl a, .bl b => a == b
  | .bl a, .int b => (if a then 1 else 0) == b
  | .int a, .bl b => a == (if b then 1 else 0)
  | .int a, .int b => a == b
  | .str a, .str b => a == b
  | _, _ => false
theorem eqAt_V {A : Around} {s : Shared} {y x : V} {u v : Value} (ry : RelV y u) (rx : RelV x v) (fy : flatV y = true) (fx : flatV x = true) : SeqAt.EqAt A s u v (eqV y x) := by
  cases y with
  | non =>
    cases ry
    cases x with
    | non => cases rx; exact SeqAt.EqAt.same _
    | bl b => cases rx; exact SeqAt.EqAt.none_bool b
    | int b => obtain ⟨t, rfl⟩ := rx; exact SeqAt.EqAt.none_int b t
    | str b => obtain ⟨t, rfl⟩ := rx; exact SeqAt.EqAt.none_str b t
    | _ => exact absurd (show false = true from fx) Bool.false_ne_true
  | bl a =>
    cases ry
    cases x with
    | non => cases rx; exact SeqAt.EqAt.bool_none a
    | bl b => cases rx; exact SeqAt.EqAt.bool_bool a b
    | int b => obtain ⟨t, rfl⟩ := rx; exact SeqAt.EqAt.bool_int a b t
    | str b => obtain ⟨t, rfl⟩ := rx; exact SeqAt.EqAt.bool_str a b t
    | _ => exact absurd (show false = true from fx) Bool.false_ne_true
  | int a =>
    obtain ⟨t', rfl⟩ := ry
    cases x with
    | non => cases rx; exact SeqAt.EqAt.int_none a t'
    | bl b => cases rx; exact SeqAt.EqAt.int_bool a t' b
    | int b => obtain ⟨t, rfl⟩ := rx; exact SeqAt.EqAt.int_int a t' b t
    | str b => obtain ⟨t, rfl⟩ := rx; exact SeqAt.EqAt.int_str a t' b t
    | _ => exact absurd (show false = true from fx) Bool.false_ne_true
  | str a =>
    obtain ⟨t', rfl⟩ := ry
    cases x with
    | non => cases rx; exact SeqAt.EqAt.str_none a t'
    | bl b => cases rx; exact SeqAt.EqAt.str_bool a t' b
    | int b => obtain ⟨t, rfl⟩ := rx; exact SeqAt.EqAt.str_int a t' b t
    | str b => obtain ⟨t, rfl⟩ := rx; exact SeqAt.EqAt.str_str a t' b t
    | _ => exact absurd (show false = true from fx) Bool.false_ne_true
  | _ => exact absurd (show false = true from fy) Bool.false_ne_true
/-- the items' answers, read off the values (a value's own answer does not lean on its token) -/
def eqU (x : V) (u : Value) : Bool := match u with
  | .none => eqV .non x
  | .bool b => eqV (.bl b) x
  | .int i _ => eqV (.int i) x
  | .str z _ => eqV (.str z) x
  | _ => false
theorem eqU_of {x y : V} {u : Value} (r : RelV y u) (f : flatV y = true) : eqU x u = eqV y x := by
  cases y with
  | non => cases r; rfl
  | bl b => cases r; rfl
  | int i => obtain ⟨t, rfl⟩ := r; rfl
  | str z => obtain ⟨t, rfl⟩ := r; rfl
  | _ => exact absurd (show false = true from f) Bool.false_ne_true
theorem any_eqU {x : V} : ∀ {xs : List V} {us : List Value}, Vals xs us → xs.all flatV = true → us.any (eqU x) = xs.any fun y => eqV y x
  | _, _, .nil, _ => rfl
  | y :: xs, u :: us, .cons r t, f => by
    rw [List.all_cons, Bool.and_eq_true] at f
    rw [List.any_cons, List.any_cons, eqU_of r f.1, any_eqU t f.2]
theorem mem_eqAt {A : Around} {s : Shared} {x : V} {v : Value} (rx : RelV x v) (fx : flatV x = true) : ∀ {xs : List V} {us : List Value}, Vals xs us → xs.all flatV = true → ∀ u ∈ us, SeqAt.EqAt A s u v (eqU x u)
  | _, _, .nil, _ => fun u hu => by cases hu
  | y :: xs, u :: us, .cons r t, f => fun u' hu => by
    rw [List.all_cons, Bool.and_eq_true] at f
    rcases List.mem_cons.mp hu with rfl | hu
    · rw [eqU_of r f.1]; exact eqAt_V r rx f.1 fx
    · exact mem_eqAt rx fx t f.2 u' hu
def inV (x : V) (xs : List V) : Bool := xs.any fun y => eqV y x
/-- x in a list or tuple of flat items -/
def rIn (K : PySem.W.Frag) (neg : Bool) : R2 := fun x y H Q => ∃ p xs, y = .ref p ∧ (SqL K H p xs ∨ SqT K H p xs) ∧ flatV x = true ∧ xs.all flatV = true ∧ Q (.bl (if neg then !inV x xs else inV x xs)) H
theorem op_in_seq : OpR X (compareOp .In) (rIn X.K false) := by
  intro pins s σ H x y v u Q I rx ry h
  obtain ⟨p, xs, rfl, hq, fx, fs, q⟩ := h
  cases ry
  rcases hq with hq | hq
  · obtain ⟨its, r, pl, hz⟩ := I.list hq
    refine SeqAt.in_listAt (eqU x) pl.isList (fun w hw => mem_eqAt rx fx r fs w (by simpa using hw)) ⟨.bl _, H, I, rfl, ?_⟩
    rw [show its.toArray.any (eqU x) = its.any (eqU x) by simp, any_eqU r fs]
    exact q
  · obtain ⟨its, r, pl, hz⟩ := I.tuple hq
    refine SeqAt.in_tupleAt (eqU x) pl (fun w hw => mem_eqAt rx fx r fs w (by simpa using hw)) ⟨.bl _, H, I, rfl, ?_⟩
    rw [show its.toArray.any (eqU x) = its.any (eqU x) by simp, any_eqU r fs]
    exact q
theorem op_notIn_seq : OpR X (compareOp .NotIn) (rIn X.K true) := by
  intro pins s σ H x y v u Q I rx ry h
  obtain ⟨p, xs, rfl, hq, fx, fs, q⟩ := h
  cases ry
  rcases hq with hq | hq
  · obtain ⟨its, r, pl, hz⟩ := I.list hq
    refine SeqAt.notIn_listAt (eqU x) pl.isList (fun w hw => mem_eqAt rx fx r fs w (by simpa using hw)) ⟨.bl _, H, I, rfl, ?_⟩
    rw [show its.toArray.any (eqU x) = its.any (eqU x) by simp, any_eqU r fs]
    exact q
  · obtain ⟨its, r, pl, hz⟩ := I.tuple hq
    refine SeqAt.notIn_tupleAt (eqU x) pl (fun w hw => mem_eqAt rx fx r fs w (by simpa using hw)) ⟨.bl _, H, I, rfl, ?_⟩
    rw [show its.toArray.any (eqU x) = its.any (eqU x) by simp, any_eqU r fs]
    exact q

/-! ### len, list(x), tuple(x) of any list or tuple that is read -/
theorem call_len_seq : CallR X (.builtin "len") (fun xs H Q => ∃ p ys, xs = [.ref p] ∧ (SqL X.K H p ys ∨ SqT X.K H p ys) ∧ Q (.int ys.length) H) := by
  intro pins s σ H xs us Q I r h
  obtain ⟨p, ys, rfl, hq, q⟩ := h
  obtain ⟨u, rfl, rx⟩ := vals1 r
  cases rx
  have hn := line63
  rcases hq with hq | hq
  · obtain ⟨its, r', pl, hz⟩ := I.list hq
    have hlen := r'.length
    exact Calls.call_len_list pl.isList (by simp only [List.size_toArray] <;> omega) ⟨.int ys.length, H, I.tok _, ⟨s.toks + 1, by rw [List.size_toArray, hlen]⟩, q⟩
  · obtain ⟨its, r', pl, hz⟩ := I.tuple hq
    have hlen := r'.length
    exact len_tuple pl (by simp only [List.size_toArray] <;> omega) ⟨.int ys.length, H, I.tok _, ⟨s.toks + 1, by rw [List.size_toArray, hlen]⟩, q⟩

/-! ### the call of a builtin's method: o.m(..) -/
/-- the value is of that builtin type -/
def tyV (K : PySem.W.Frag) (T : String) (x : V) (H : Hp) : Prop := match x with
  | .str _ => T = "str"
  | .int _ => T = "int"
  | .ref p => (T = "list" ∧ ∃ xs, SqL K H p xs) ∨ (T = "tuple" ∧ ∃ o, K.lookup p = some o ∧ o.cls = .type "tuple" ∧ o.dict = none) ∨
      (T = "dict" ∧ ((∃ kvs, H p = some (.dK kvs)) ∨ ∃ kvs, H p = some (.dT kvs))) ∨ (T = "set" ∧ ∃ S n, H p = some (.set S n))
  | _ => False
theorem tyV_is {pins : List (Addr × Obj)} {σ : St} {H : Hp} {s : Shared} {T : String} {x : V} {v : Value} (I : Inv X pins σ H s) (r : RelV x v) (ty : tyV X.K T x H) :
    s.TypeIs v T ∧ ∀ a, v = .ref a → ∃ ob, s.heap.get? a = some ob ∧ ob.dict = none := by
  cases x with
  | str z =>
    obtain ⟨t, rfl⟩ := r
    cases (show T = "str" from ty)
    exact ⟨typeIs_str s z t, fun _ e => nomatch e⟩
  | int i =>
    obtain ⟨t, rfl⟩ := r
    cases (show T = "int" from ty)
    exact ⟨typeIs_int s i t, fun _ e => nomatch e⟩
  | ref p =>
    cases r
    rcases ty with ⟨rfl, xs, hq⟩ | ⟨rfl, o, hk, hc, hd⟩ | ⟨rfl, hk⟩ | ⟨rfl, S, n, hk⟩
    · obtain ⟨its, _, pl, _⟩ := I.list hq
      refine ⟨pl.isList.typeIs, fun a e => ?_⟩
      cases e
      obtain ⟨o, n, e, c, hd, _⟩ := pl
      exact ⟨o, e, hd⟩
    · refine ⟨⟨o, I.kIn p o hk, hc⟩, fun a e => ?_⟩
      cases e
      exact ⟨o, I.kIn _ o hk, hd⟩
    · have z : ∃ o, s.heap.get? p = some o ∧ o.ExactDict := by
        rcases hk with ⟨kvs, hk⟩ | ⟨kvs, hk⟩
        · obtain ⟨_, _, _, _, o, _, _, e, ex, _⟩ := I.hok p _ hk
          exact ⟨o, e, ex⟩
        · obtain ⟨_, _, _, _, o, _, _, e, ex, _⟩ := I.hok p _ hk
          exact ⟨o, e, ex⟩
      obtain ⟨o, e, ex⟩ := z
      refine ⟨⟨o, e, ex.1⟩, fun a e2 => ?_⟩
      cases e2
      exact ⟨o, e, ex.2.1⟩
    · obtain ⟨o, _, _, _, e, ex, _⟩ := I.hok p _ hk
      refine ⟨⟨o, e, ex.1⟩, fun a e2 => ?_⟩
      cases e2
      exact ⟨o, e, ex.2.1⟩
  | _ => exact False.elim ty
def tBM (K : PySem.W.Frag) (T : String) (r : V → List V → Hp → VK → Prop) (to : TE) (t : TA) : TE := fun σ H Q => to σ H fun x H1 => tyV K T x H1 ∧ t σ H1 fun xs H2 => r x xs H2 Q
variable {o e : Expr} {es : List Expr} {to : TE} {t : TA} {name : Str} {apos cpos : Pos} {T id : String} {r : V → List V → Hp → VK → Prop}
theorem pe_bm (pa : PlainAttrs T) (slot : Slot T name id) (hty : typeOf (.builtin id) = pure (.type "method_descriptor")) (hm : MtR X id r) (ho : PE X o to) (ha : PA X (e :: es) t)
    (hbase : attributeBase o name X.env (eval o X.env) = eval o X.env := by rfl)
    (hfew : ((backTo cpos (starEach (e :: es) X.env)).all (fun x => !x.1) && (backToKw cpos (keywordEach [] X.env)).all (fun x => x.1.isSome)
      && decide ((e :: es).length + ([] : List Keyword).length + (if ([] : List Keyword).isEmpty then 0 else 1) < 30)) = true := by rfl)
    (hline : (apos.endLine == cpos.line) = true := by rfl) (hs : starEach (e :: es) X.env = (false, eval e X.env) :: starEach es X.env := by rfl) (hplain : (backTo cpos (starEach es X.env)).any (·.1) = false := by rfl) :
    PE X (.Call (.Attribute o name apos) (e :: es) [] cpos) (tBM X.K T r to t) := by
  intro pins s σ H Q I h
  refine wpAny_Call_method_late hbase hfew hline rfl (thn (ho pins s σ H _ I h) fun v s1 ⟨x, H1, I1, r1, ty, q1⟩ => ?_)
  obtain ⟨h1, h2⟩ := tyV_is I1 r1 ty
  refine ⟨T, id, pa, slot, hty, h1, h2, ?_⟩
  have hA := ha cpos pins s1 σ H1 _ I1 q1
  rw [hs] at hA ⊢
  refine Calls.callWith_builtin (by show (false || (backTo cpos (starEach es X.env)).any (·.1)) = false; rw [hplain] <;> rfl) (Calls.evalArgs_plain ?_)
  exact thn hA fun us s2 ⟨vs, H2, I2, r2, q2⟩ => hm pins s2 σ H2 x vs v us Q I2 r1 r2 q2
/- xs.append(e), list.index on a module's tuple .. are MtR facts of 06m -/
end
end L2

namespace L2
open PySem PySem.Spec PyProof.Rows

def MtM (X : Cx) (id : String) (r : V → List V → Hp → VK → Prop) : Prop :=
  ∀ (pins : List (Addr × Obj)) (s : Shared) (σ : St) (H : Hp) (x : V) (xs : List V) (v : Value) (us : List Value) (Q : VK), Inv X pins σ H s → RelV x v → Vals xs us → r x xs H Q →
    wpAny (model X.prog X.w) X.A (call (.builtin id) (v :: us)) (EP X pins σ Q) X.xe s

/-! ### lists of values -/
theorem Vals.one : ∀ {x : V} {us : List Value}, Vals [x] us → ∃ u, us = [u] ∧ RelV x u
  | _, _, .cons r .nil => ⟨_, rfl, r⟩

section
variable {X : Cx} {pins : List (Addr × Obj)} {σ : St} {H : Hp} {s : Shared} {l b : Addr} {xs ys zs : List V}

/-! ### the two steps: a tracked list is rewritten, a new list is laid -/
theorem Inv.lset {its its' : List Value} {n : Nat} {f : Array Value → Array Value} {t' : Nat} (I : Inv X pins σ H s) (hH : H l = some (.lst xs))
    (e : s.heap.get? l = some { cls := .type "list", data := .seq its.toArray n }) (hf : f its.toArray = its'.toArray) (hv : Vals ys its') (hz : ys.length ≤ sizeLine) :
    Inv X pins σ (upd H l (.lst ys)) { s with heap := s.heap.update l (Obj.mapSeq f), toks := t' } := by
  have q := PySem.IsL.update e f
  rw [hf] at q
  refine I.write (x := l) (e := l) (by rw [hH]; exact trivial) (.inl rfl) (fun b' u hb hu => (Heap.get?_update_other s.heap (Obj.mapSeq f) (Ne.symm hb)).trans hu) ⟨_, q⟩ ?_
  exact ⟨hz, its', _, hv, q⟩
theorem Inv.lnew {its : List Value} {t' : Nat} (I : Inv X pins σ H s) (hv : Vals ys its) (hz : ys.length ≤ sizeLine) :
    Inv X pins σ (upd H s.heap.objs.size (.lst ys)) { s with heap := s.heap.push { cls := .type "list", data := .seq its.toArray }, toks := t' } :=
  I.laid (fun _ _ q => Heap.get?_push_of_some _ q) (Nat.le_refl _) ⟨hz, its, 0, hv, Heap.get?_push_size _ rfl⟩
theorem Inv.fresh (I : Inv X pins σ H s) : H s.heap.objs.size = none := I.hok.fresh (Nat.le_refl _)
theorem Inv.lstM (I : Inv X pins σ H s) (hH : H l = some (.lst xs)) : xs.length ≤ sizeLine ∧ ∃ (its : List Value) (n : Nat), Vals xs its ∧ xs.length = its.length ∧ s.heap.get? l = some { cls := .type "list", data := .seq its.toArray n } := by
  obtain ⟨z, its, n, r, e⟩ := I.hok l _ hH
  exact ⟨z, its, n, r, r.length, e⟩

theorem notLongL {n : Nat} (h : n ≤ sizeLine) : Builtin.List.listTooLong n = false := by
  unfold Builtin.List.listTooLong
  exact decide_eq_false (by omega)
end

section
variable {X : Cx}

/-! ### methods -/
def rAppend : V → List V → Hp → VK → Prop := fun x vs H Q => ∃ l xs y, x = .ref l ∧ vs = [y] ∧ H l = some (.lst xs) ∧ xs.length < sizeLine ∧ Q .non (upd H l (.lst (xs ++ [y])))
theorem mt_append : MtM X "list.append" rAppend := by
  intro pins s σ H x vs v us Q I rx rv h
  obtain ⟨l, xs, y, rfl, rfl, hH, hz, q⟩ := h
  cases rx
  obtain ⟨u, rfl, ru⟩ := rv.one
  obtain ⟨z, its, n, r, hl, e⟩ := I.lstM hH
  refine call_meets F.slot_list_append ⟨_, e, rfl⟩ F.entry_list_append (F.args_list_append_2 _ _) (PySem.list_append l its.toArray n u (by rw [List.size_toArray]; omega)) ⟨e, ?_⟩
  refine ⟨.non, _, I.lset (its' := its ++ [u]) hH e (by simp) (r.append (.cons ru .nil)) ?_, rfl, q⟩
  rw [List.length_append, List.length_singleton]
  omega

def rExtend : V → List V → Hp → VK → Prop := fun x vs H Q => ∃ l b xs zs, x = .ref l ∧ vs = [.ref b] ∧ H l = some (.lst xs) ∧ H b = some (.lst zs) ∧ xs.length + zs.length ≤ sizeLine ∧ Q .non (upd H l (.lst (xs ++ zs)))
theorem mt_extend : MtM X "list.extend" rExtend := by
  intro pins s σ H x vs v us Q I rx rv h
  obtain ⟨l, b, xs, zs, rfl, rfl, hH, hB, hz, q⟩ := h
  cases rx
  obtain ⟨u, rfl, ru⟩ := rv.one
  cases ru
  obtain ⟨z, its, n, r, hl, e⟩ := I.lstM hH
  obtain ⟨z2, its2, n2, r2, hl2, e2⟩ := I.lstM hB
  have hsz : its.toArray.size + its2.toArray.size ≤ sizeLine := by rw [List.size_toArray, List.size_toArray]; omega
  have hlong : ¬ (!its.toArray.isEmpty && Builtin.List.listTooLong (its.toArray.size + its2.toArray.size)) = true := by
    rw [notLongL hsz, Bool.and_false]
    exact Bool.false_ne_true
  refine call_meets F.slot_list_extend ⟨_, e, rfl⟩ F.entry_list_extend (F.args_list_extend_2 _ _)
    (AutoSeq1.list_extend_list_list_0 l its.toArray n b its2.toArray n2 hlong (by rw [List.size_toArray]; omega) (by omega)) ⟨e, e2, ?_⟩
  refine ⟨.non, _, I.lset (its' := its ++ its2) hH e (by simp) (r.append r2) ?_, rfl, q⟩
  rw [List.length_append]
  omega





/-! ### list + list, list += list, list * int -/
def rCat : R2 := fun x y H Q => ∃ l b xs zs, x = .ref l ∧ y = .ref b ∧ H l = some (.lst xs) ∧ H b = some (.lst zs) ∧ xs.length + zs.length ≤ sizeLine ∧ ∀ p, H p = none → Q (.ref p) (upd H p (.lst (xs ++ zs)))
theorem op_cat : OpR X (binaryOp .Add) rCat := by
  intro pins s σ H x y v u Q I rx ry h
  obtain ⟨l, b, xs, zs, rfl, rfl, hH, hB, hz, q⟩ := h
  cases rx
  cases ry
  obtain ⟨z, its, n, r, hl, e⟩ := I.lstM hH
  obtain ⟨z2, its2, n2, r2, hl2, e2⟩ := I.lstM hB
  refine PySem.P.add_list e e2 ?_ (by rw [List.size_toArray, List.size_toArray]; omega)
  have ea : its.toArray ++ its2.toArray = (its ++ its2).toArray := by simp
  rw [ea]
  exact ⟨.ref _, _, I.lnew (t' := s.toks) (r.append r2) (by rw [List.length_append]; omega), rfl, q _ I.fresh⟩

/-! ### del xs[i] -/
end

/-! ### xs[a:b] = ys -/
section
variable {prog : Program} {w : World} {A : Around} {E : Value → Shared → Prop} {s : Shared}
end

section
variable {X : Cx}
end
end L2

namespace L2
open PySem PySem.Spec PyProof.Rows

theorem Vals.ints : ∀ {ns : List Int} {us : List Value}, Vals (ns.map V.int) us → IntsAre us ns
  | [], us, h => by
    rw [List.map_nil] at h
    cases h
    exact IntsAre.nil
  | n :: ns, us, h => by
    rw [List.map_cons] at h
    cases h with
    | cons r t =>
      obtain ⟨k, rfl⟩ := r
      exact IntsAre.cons n k (Vals.ints t)
theorem vals_of_ints : ∀ {us : List Value} {ns : List Int}, IntsAre us ns → Vals (ns.map V.int) us
  | _, _, .nil => by rw [List.map_nil]; exact Paired.nil
  | _, _, .cons n t h => by rw [List.map_cons]; exact Paired.cons (show RelV (V.int n) (Value.int n t) from ⟨t, rfl⟩) (vals_of_ints h)
theorem Vals.bls : ∀ {bs : List Bool} {us : List Value}, Vals (bs.map V.bl) us → us = bs.map Value.bool
  | [], us, h => by
    rw [List.map_nil] at h
    cases h
    rfl
  | b :: bs, us, h => by
    rw [List.map_cons] at h
    cases h with
    | cons r t =>
      cases r
      rw [Vals.bls t, List.map_cons]
theorem Vals.ref1 {a : Addr} {us : List Value} (r : Vals [V.ref a] us) : us = [Value.ref a] := by
  cases r with
  | cons r t =>
    cases t
    cases r
    rfl

/-! ### the library's walks over a list of ints, kept objects alone -/
section
variable {prog : Program} {w : World} {A : Around} {E : Value → Shared → Prop} {s : Shared} {l : Addr} {its : List Value} {ns : List Int} {Q : Value → Shared → Prop}
end

/-! ### the calls, by values (CallR of 03t; MtR of 06l) -/
section
variable {X : Cx}

/-! sorted, sort (fewer than 64 items: the library's own bound) -/
end

/-! ### list.index, flat items -/
section
variable {X : Cx}
end

/-! ### type(x) of an own instance; is, is not of a module's class -/
section
variable {X : Cx}
end

/-! ### any(xs), all(xs) of a list of bools -/
theorem iter_any {prog : Program} {w : World} {A : Around} {E : Value → Shared → Prop} {s : Shared} {l : Addr} {items : Array Value} {Q : Value → Shared → Prop} (hl : s.heap.IsList l items)
    (h : ∀ s₂ : Shared, s₂ = { s with heap := s.heap.push { cls := .type "list_iterator", data := .fields #[.ref l, .int 0 0] } } →
      (s₂.heap.IsListIter s.heap.objs.size l 0 ∧ s₂.heap.IsList l items) → l ≠ s.heap.objs.size → Q (.ref s.heap.objs.size) s₂) : wpAny (model prog w) A (pyIter (.ref l)) Q E s := by
  have hlt : l < s.heap.objs.size := by obtain ⟨_, e, _⟩ := hl; exact Heap.lt_size e
  exact wpAny_pyIter_list hl (h _ rfl ⟨⟨_, Heap.get?_push_size _ rfl, rfl, rfl⟩, hl.push _⟩ (Nat.ne_of_lt hlt))
theorem truth_bools {prog : Program} {w : World} {A : Around} {bs : List Bool} {its : List Value} (e : its = bs.map Value.bool) :
    TruthOf prog w A (fun i v => its.toArray[i]? = some v) (fun i => bs.getD i false) := fun i v s Q E hv hq => by
  have hv' : its[i]? = some v := by simpa using hv
  rw [e, List.getElem?_map] at hv'
  obtain ⟨b, hb, rfl⟩ := Option.map_eq_some_iff.mp hv'
  have hg : bs.getD i false = b := by rw [List.getD_eq_getElem?_getD, hb] <;> rfl
  have hq' : Q (bs.getD i false) s := hq
  rw [hg] at hq'
  exact wpAny_truthy_bool hq'
theorem any_range : ∀ bs : List Bool, (List.range bs.length).any (fun i => bs.getD i false) = bs.any id
  | [] => rfl
  | b :: bs => by
    rw [List.length_cons, List.range_succ_eq_map, List.any_cons, List.any_map, List.any_cons, ← any_range bs]
    all_goals rfl
theorem all_range : ∀ bs : List Bool, (List.range bs.length).all (fun i => bs.getD i false) = bs.all id
  | [] => rfl
  | b :: bs => by
    rw [List.length_cons, List.range_succ_eq_map, List.all_cons, List.all_map, List.all_cons, ← all_range bs]
    all_goals rfl
section
variable {X : Cx}
def rAll (K : PySem.W.Frag) : List V → Hp → VK → Prop := fun vs H Q => ∃ (a : Addr) (bs : List Bool), vs = [V.ref a] ∧ SqL K H a (bs.map V.bl) ∧ Q (.bl (bs.all id)) H
theorem cr_all (hc : X.calm = true) : CallR X (.builtin "all") (rAll X.K) := by
  intro pins s σ H vs us Q I r h
  obtain ⟨a, bs, rfl, hs, q⟩ := h
  obtain ⟨its, rv, hl, _⟩ := I.list hs
  rw [Vals.ref1 r]
  have hb := rv.bls
  refine call_all_walk (iter_any hl.isList fun s₂ e2 st hne => ?_)
  subst e2
  refine ⟨_, _, _, _, _, _, _, rfl, Walks.list (A := X.A.in1) (I.ok.hd hc) _ a hne its.toArray, st, truth_bools hb, fun h' tk hk => ?_⟩
  refine ⟨.bl _, H, I.kept fun b o eo => hk b o (fun hmem => ?_) (Heap.get?_push_of_some _ eo), ?_, q⟩
  · rcases List.mem_cons.mp hmem with e1 | hmem
    · exact absurd (e1 ▸ Heap.lt_size eo) (Nat.lt_irrefl _)
    · cases hmem
  · show Value.bool _ = Value.bool _
    rw [← all_range, hb, List.size_toArray, List.length_map]
end

/-! ### == and != of data at any depth: none, bools, ints, texts, lists, tuples -/
mutual
inductive Dp (K : PySem.W.Frag) (H : Hp) : V → PyData → Prop
  | non : Dp K H .non .none
  | bl (b : Bool) : Dp K H (.bl b) (.bool b)
  | int (i : Int) : Dp K H (.int i) (.int i)
  | str (x : Str) : Dp K H (.str x) (.str x)
  | lst {a : Addr} {xs : List V} {ds : List PyData} : SqL K H a xs → DpAll K H xs ds → Dp K H (.ref a) (.list ds)
  | tup {a : Addr} {xs : List V} {ds : List PyData} : SqT K H a xs → DpAll K H xs ds → Dp K H (.ref a) (.tuple ds)
inductive DpAll (K : PySem.W.Frag) (H : Hp) : List V → List PyData → Prop
  | nil : DpAll K H [] []
  | cons {v : V} {vs : List V} {d : PyData} {ds : List PyData} : Dp K H v d → DpAll K H vs ds → DpAll K H (v :: vs) (d :: ds)
end
section
variable {X : Cx} {pins : List (Addr × Obj)} {σ : St} {H : Hp} {s : Shared}
mutual
theorem Dp.reads (I : Inv X pins σ H s) : ∀ (d : PyData) (v : V) (u : Value), Dp X.K H v d → RelV v u → ∃ as, Reads s.heap u d as
  | .none, _, _, h, r => by
    cases h
    cases r
    exact ⟨_, Reads.none⟩
  | .bool b, _, _, h, r => by
    cases h
    cases r
    exact ⟨_, Reads.bool b⟩
  | .int i, _, _, h, r => by
    cases h
    obtain ⟨t, rfl⟩ := r
    exact ⟨_, Reads.int i t⟩
  | .str x, _, _, h, r => by
    cases h
    obtain ⟨t, rfl⟩ := r
    exact ⟨_, Reads.str x t⟩
  | .list ds, _, _, h, r => by
    cases h with
    | lst hs ha =>
      cases r
      obtain ⟨its, rv, ⟨o, n, ho, hc, _, hd⟩, _⟩ := I.list hs
      obtain ⟨as, hr⟩ := Dp.readsAll I ds _ its ha rv
      exact ⟨_, Reads.list ho hc hd hr⟩
  | .tuple ds, _, _, h, r => by
    cases h with
    | tup hs ha =>
      cases r
      obtain ⟨its, rv, ⟨o, ho, hc, n, hd⟩, _⟩ := I.tuple hs
      obtain ⟨as, hr⟩ := Dp.readsAll I ds _ its ha rv
      exact ⟨_, Reads.tuple ho hc hd hr⟩
  | .dict _, _, _, h, _ => by cases h
theorem Dp.readsAll (I : Inv X pins σ H s) : ∀ (ds : List PyData) (vs : List V) (us : List Value), DpAll X.K H vs ds → Vals vs us → ∃ as, ReadsAll s.heap us ds as
  | [], _, _, h, r => by
    cases h
    cases r
    exact ⟨_, ReadsAll.nil⟩
  | d :: ds, _, _, h, r => by
    cases h with
    | cons h1 h2 =>
      cases r with
      | cons r1 r2 =>
        obtain ⟨as, q1⟩ := Dp.reads I d _ _ h1 r1
        obtain ⟨bs, q2⟩ := Dp.readsAll I ds _ _ h2 r2
        exact ⟨_, ReadsAll.cons q1 q2⟩
end
end
section
variable {X : Cx}
end
end L2

namespace L2
open PySem PySem.Spec PyProof.Rows
abbrev CellAt (h : Heap) (c : Addr) (v : Option Value) : Prop := h.IsCell c v
def relS (scope sc : Scope) : Scope :=
  { scope with names := scope.names.map fun (n, k) => if (k == .free && sc.kind == .function && sc.names.lookup n == some .cell) then (n, .cell) else (n, k) }

def cloFrom (cells : List (Str × Addr)) : List (Str × NameKind) → List (Str × Addr) → List (Str × Addr)
  | [], acc => acc
  | (n, k) :: r, acc => if k == .free then cloFrom cells r ((n, (cells.lookup n).getD 0) :: acc) else cloFrom cells r acc

theorem closure_loop (env : Env) (f : Str × NameKind → List (Str × Addr) → Sem (ForInStep (List (Str × Addr))))
    (hf : ∀ n k c, f (n, k) c = if k == .free then (do let a ← cellOf env n; pure (.yield ((n, a) :: c))) else pure (.yield c)) :
    ∀ (names : List (Str × NameKind)) (acc : List (Str × Addr)), (∀ y ∈ names, y.2 = .free → ∃ c, env.cells.lookup y.1 = some c) → forIn names acc f = pure (cloFrom env.cells names acc)
  | [], acc, _ => by rw [List.forIn_nil]; rfl
  | (n, k) :: r, acc, h => by
    rw [List.forIn_cons, hf]
    have ih := fun acc => closure_loop env f hf r acc fun y hy => h y (List.mem_cons_of_mem _ hy)
    unfold cloFrom
    by_cases hk : (k == NameKind.free) = true
    · rw [if_pos hk, if_pos hk]
      obtain ⟨c, hc⟩ := h (n, k) List.mem_cons_self (by simpa using hk)
      have e : cellOf env n = pure c := by unfold cellOf; rw [hc]
      rw [e]
      have e2 : (env.cells.lookup n).getD 0 = c := by rw [hc]; rfl
      rw [e2]
      exact ih _
    · rw [if_neg hk, if_neg hk]
      exact ih _
theorem closure_ok {scope : Scope} {env : Env} (h : ∀ y ∈ scope.names, y.2 = .free → ∃ c, env.cells.lookup y.1 = some c) : closureFor scope env = pure (cloFrom env.cells scope.names []) := by
  simp only [closureFor]
  rw [closure_loop env _ (fun n k c => rfl) scope.names [] h]
  rfl

theorem mem_lookup {α : Type} : ∀ {l : List (Str × α)} {n : Str} {c : α}, (n, c) ∈ l → ∃ c', l.lookup n = some c'
  | (k, v) :: r, n, c, h => by
    rw [List.lookup_cons]
    cases hb : n == k with
    | true => exact ⟨_, rfl⟩
    | false =>
      rcases List.mem_cons.mp h with e | h
      · cases e; simp at hb
      · exact mem_lookup h

theorem cloFrom_mem {cells : List (Str × Addr)} : ∀ {names : List (Str × NameKind)} {acc : List (Str × Addr)} {n : Str} {c : Addr}, (n, c) ∈ cloFrom cells names acc → (n, c) ∈ acc ∨ ((n, .free) ∈ names ∧ c = (cells.lookup n).getD 0)
  | [], _, _, _, h => .inl h
  | (m, k) :: r, acc, n, c, h => by
    unfold cloFrom at h
    split at h
    · rename_i hk
      have hk : k = .free := by simpa using hk
      rcases cloFrom_mem h with h | ⟨h1, h2⟩
      · rcases List.mem_cons.mp h with e | h
        · cases e; exact .inr ⟨hk ▸ List.mem_cons_self, rfl⟩
        · exact .inl h
      · exact .inr ⟨List.mem_cons_of_mem _ h1, h2⟩
    · rcases cloFrom_mem h with h | ⟨h1, h2⟩
      · exact .inl h
      · exact .inr ⟨List.mem_cons_of_mem _ h1, h2⟩
theorem cloFrom_acc {cells : List (Str × Addr)} : ∀ {names : List (Str × NameKind)} {acc : List (Str × Addr)} {p : Str × Addr}, p ∈ acc → p ∈ cloFrom cells names acc
  | [], _, _, h => h
  | (m, k) :: r, acc, p, h => by
    unfold cloFrom
    split
    · exact cloFrom_acc (List.mem_cons_of_mem _ h)
    · exact cloFrom_acc h
theorem cloFrom_has {cells : List (Str × Addr)} : ∀ {names : List (Str × NameKind)} {acc : List (Str × Addr)} {n : Str}, (n, .free) ∈ names → (n, (cells.lookup n).getD 0) ∈ cloFrom cells names acc
  | (m, k) :: r, acc, n, h => by
    unfold cloFrom
    rcases List.mem_cons.mp h with e | h
    · cases e
      exact cloFrom_acc List.mem_cons_self
    · split
      · exact cloFrom_has h
      · exact cloFrom_has h

theorem cells_mem : ∀ {names : List (Str × NameKind)} {h : Heap} {acc : List (Str × Addr)} {x : Str} {c : Addr}, (x, c) ∈ cellsFrom h.objs.size names acc →
    (x, c) ∈ acc ∨ ((x, .cell) ∈ names ∧ h.objs.size ≤ c ∧ CellAt (pushCells h names) c none)
  | [], _, _, _, _, h => .inl h
  | (n, k) :: r, h, acc, x, c, hm => by
    unfold cellsFrom at hm
    unfold pushCells
    split at hm
    · rename_i hk
      rw [if_pos hk]
      have hk : k = .cell := by simpa using hk
      rw [← Heap.size_push h { cls := .type "cell", data := .cell none }] at hm
      rcases cells_mem hm with hm | ⟨h1, h2, h3⟩
      · rcases List.mem_cons.mp hm with e | hm
        · cases e
          exact .inr ⟨hk ▸ List.mem_cons_self, Nat.le_refl _, _, pushCells_keeps r _ _ _ (Heap.get?_push_size _ rfl), rfl⟩
        · exact .inl hm
      · rw [Heap.size_push] at h2
        exact .inr ⟨List.mem_cons_of_mem _ h1, Nat.le_of_succ_le h2, h3⟩
    · rename_i hk
      rw [if_neg hk]
      rcases cells_mem hm with hm | ⟨h1, h2, h3⟩
      · exact .inl hm
      · exact .inr ⟨List.mem_cons_of_mem _ h1, h2, h3⟩
theorem cells_acc : ∀ {names : List (Str × NameKind)} {n : Nat} {acc : List (Str × Addr)} {p : Str × Addr}, p ∈ acc → p ∈ cellsFrom n names acc
  | [], _, _, _, h => h
  | (m, k) :: r, n, acc, p, h => by
    unfold cellsFrom
    split
    · exact cells_acc (List.mem_cons_of_mem _ h)
    · exact cells_acc h
theorem cells_has : ∀ {names : List (Str × NameKind)} {n : Nat} {acc : List (Str × Addr)} {x : Str}, (x, .cell) ∈ names → ∃ c, (x, c) ∈ cellsFrom n names acc
  | (m, k) :: r, n, acc, x, h => by
    unfold cellsFrom
    rcases List.mem_cons.mp h with e | h
    · cases e
      exact ⟨n, cells_acc List.mem_cons_self⟩
    · split
      · exact cells_has h
      · exact cells_has h
theorem cells_inj : ∀ {names : List (Str × NameKind)} {h : Heap} {acc : List (Str × Addr)} {x y : Str} {c : Addr}, (∀ p ∈ acc, p.2 < h.objs.size) → (∀ x y c, (x, c) ∈ acc → (y, c) ∈ acc → x = y) →
    (x, c) ∈ cellsFrom h.objs.size names acc → (y, c) ∈ cellsFrom h.objs.size names acc → x = y
  | [], _, _, _, _, _, _, hi, h1, h2 => hi _ _ _ h1 h2
  | (n, k) :: r, h, acc, x, y, c, hl, hi, h1, h2 => by
    unfold cellsFrom at h1 h2
    split at h1
    · rename_i hk
      rw [if_pos hk] at h2
      rw [← Heap.size_push h { cls := .type "cell", data := .cell none }] at h1 h2
      refine cells_inj (h := h.push _) (fun p hp => ?_) (fun x y c a b => ?_) h1 h2
      · rw [Heap.size_push]
        rcases List.mem_cons.mp hp with rfl | hp
        · exact Nat.lt_succ_self _
        · exact Nat.lt_succ_of_lt (hl p hp)
      · rcases List.mem_cons.mp a with e | a <;> rcases List.mem_cons.mp b with e' | b
        · cases e; cases e'; rfl
        · cases e; exact absurd (hl _ b) (Nat.lt_irrefl _)
        · cases e'; exact absurd (hl _ a) (Nat.lt_irrefl _)
        · exact hi _ _ _ a b
    · rename_i hk
      rw [if_neg hk] at h2
      exact cells_inj hl hi h1 h2

theorem newEnv_comp {M : Model} {A : Around} {E : Value → Shared → Prop} {s : Shared} {scope : Scope} {globals : Addr} {closure : List (Str × Addr)} {qual : Str} {func : Option Addr} {code : Value} {around : Env} {builtins : Addr} {Q : Env → Shared → Prop}
    (h : Q (newEnv scope s.heap.objs.size globals (cellsFrom (s.heap.objs.size + 1) scope.names closure) qual func code (some around) builtins)
      { s with heap := pushCells (s.heap.push { cls := .type "dict", data := .dict #[] }) scope.names }) :
    wpAny M A (newFunctionEnv scope globals closure [] qual func code (some around) builtins) Q E s := by
  simp only [newFunctionEnv, Option.isSome_some, if_true]
  refine wpAny_bind (wpAny_alloc ?_)
  refine wpAny_bind (wpAny_layCells _ (fun n k c => rfl) scope.names closure _ _ ?_)
  rw [show ({ s with heap := s.heap.push { cls := .type "dict", data := .dict #[] } } : Shared).heap.objs.size = s.heap.objs.size + 1 from Heap.size_push ..]
  rw [List.forIn_nil]
  exact wpAny_bind (wpAny_pure (wpAny_pure h))

/-- every name of the written scope, in the scope that runs -/
theorem lookup_relS {sc : Scope} : ∀ {names : List (Str × NameKind)} {x : Str} {k : NameKind},
    (names.map fun (n, k) => if (k == NameKind.free && sc.kind == .function && sc.names.lookup n == some .cell) then (n, NameKind.cell) else (n, k)).lookup x = some k →
    ∃ k', names.lookup x = some k' ∧ (k = k' ∨ (k' = .free ∧ k = .cell))
  | [], _, _, h => by simp at h
  | (n, k₀) :: r, x, k, h => by
    have ih := @lookup_relS sc r x k
    have h' : List.lookup x ((if (k₀ == NameKind.free && sc.kind == .function && sc.names.lookup n == some .cell) = true then (n, NameKind.cell) else (n, k₀)) :: (r.map _)) = some k := h
    cases hx : x == n with
    | true =>
      simp only [List.lookup_cons, hx]
      by_cases hc : (k₀ == NameKind.free && sc.kind == .function && sc.names.lookup n == some .cell) = true
      · rw [if_pos hc] at h'
        simp only [List.lookup_cons, hx] at h'
        cases h'
        simp only [Bool.and_eq_true, beq_iff_eq] at hc
        exact ⟨k₀, rfl, .inr ⟨hc.1.1, rfl⟩⟩
      · rw [if_neg hc] at h'
        simp only [List.lookup_cons, hx] at h'
        cases h'
        exact ⟨_, rfl, .inl rfl⟩
    | false =>
      simp only [List.lookup_cons, hx]
      by_cases hc : (k₀ == NameKind.free && sc.kind == .function && sc.names.lookup n == some .cell) = true
      · rw [if_pos hc] at h'
        simp only [List.lookup_cons, hx] at h'
        exact ih h'
      · rw [if_neg hc] at h'
        simp only [List.lookup_cons, hx] at h'
        exact ih h'



/-- the names of a comprehension's block: its own (with their places in N), or captured -/
structure BlkOk (N : List Str) (sc scope : Scope) (own : List (Str × Nat)) : Prop where
  kind : scope.kind = .function
  uniq : ∀ y ∈ scope.names, scope.names.lookup y.1 = some y.2
  ix : ∀ p ∈ own, N[p.2]? = some p.1
  free : ∀ y ∈ scope.names, y.2 = .free → sc.names.lookup y.1 = some .cell ∨ sc.names.lookup y.1 = some .free
  own : ∀ y ∈ scope.names, y.2 = .local ∨ y.2 = .cell → y.1 ∈ own.map (·.1) ∨ y.1 ∉ N
/-- the slots of the block's own names forgotten -/
def wipe (σ : St) : List Nat → St
  | [] => σ
  | v :: vs => (wipe σ vs).set v none
theorem wipe_length (σ : St) : ∀ vs : List Nat, (wipe σ vs).length = σ.length
  | [] => rfl
  | v :: vs => by unfold wipe; rw [List.length_set, wipe_length σ vs]
theorem wipe_some {σ : St} {i : Nat} {x : V} : ∀ {vs : List Nat}, (wipe σ vs)[i]? = some (some x) → σ[i]? = some (some x) ∧ i ∉ vs
  | [], h => ⟨h, by simp⟩
  | v :: vs, h => by
    unfold wipe at h
    by_cases hi : v = i
    · subst hi
      by_cases hv : v < (wipe σ vs).length
      · rw [List.getElem?_set_self hv] at h; cases h
      · rw [List.getElem?_eq_none (by simpa using hv)] at h; cases h
    · rw [List.getElem?_set_ne hi] at h
      obtain ⟨h1, h2⟩ := wipe_some h
      exact ⟨h1, by simp only [List.mem_cons, not_or]; exact ⟨fun e => hi e.symm, h2⟩⟩

/-- the context of a block that starts at s, its iterator's objects at fp -/
abbrev Cx.blk (X : Cx) (s : Shared) (H : Hp) (scope : Scope) (cenv : Env) (fp : List Addr) : Cx := { X with s_0 := s, H_0 := H, env := cenv, outer := X.stack, ex := fp, fn := fun x => scope.names.lookup x == some .cell, pn := [], xe := fun _ _ => False }
section
variable {X : Cx} {pins : List (Addr × Obj)} {σ : St} {H : Hp} {s : Shared}
theorem block_start {scope : Scope} {own : List (Str × Nat)} {fp : List Addr} (I : Inv X pins σ H s) (ok : BlkOk X.N X.env.scope scope own) (hN : X.N.Nodup) (hfp : ∀ b ∈ fp, FpOk X pins H b ∧ b < s.heap.objs.size) :
    Inv (X.blk s H scope (compEnvC scope (cellsFrom (s.heap.objs.size + 1) scope.names (cloFrom X.env.cells scope.names [])) s.heap.objs.size X.env) fp) [] (wipe σ (own.map (·.2))) H { s with heap := pushCells (s.heap.push { cls := .type "dict", data := .dict #[] }) scope.names } := by
  have hfree : ∀ y ∈ scope.names, y.2 = .free → ∃ c, X.env.cells.lookup y.1 = some c := fun y hy e => by
    rcases ok.free y hy e with k | k
    · exact I.ok.has _ (.inl k)
    · exact I.ok.has _ (.inr k)
  generalize hcenv : compEnvC scope (cellsFrom (s.heap.objs.size + 1) scope.names (cloFrom X.env.cells scope.names [])) s.heap.objs.size X.env = cenv
  have kp : ∀ b o, s.heap.get? b = some o → (pushCells (s.heap.push { cls := .type "dict", data := .dict #[] }) scope.names).get? b = some o := fun b o e => pushCells_keeps _ _ _ _ (Heap.get?_push_of_some _ e)
  have hL : cenv.locals = s.heap.objs.size := by rw [← hcenv]; rfl
  have hcl : cenv.cells = cellsFrom (s.heap.objs.size + 1) scope.names (cloFrom X.env.cells scope.names []) := by rw [← hcenv]; rfl
  have hsc : cenv.scope = relS scope X.env.scope := by rw [← hcenv]; rfl
  rw [← Heap.size_push s.heap { cls := .type "dict", data := .dict #[] }] at hcl
  have cm : ∀ {y c}, (y, c) ∈ cloFrom X.env.cells scope.names [] → X.env.cells.lookup y = some c ∧ c < s.heap.objs.size := fun {y c} hm => by
    rcases cloFrom_mem hm with hm | ⟨h1, rfl⟩
    · cases hm
    · obtain ⟨c, hc⟩ := hfree _ h1 rfl
      rw [hc]
      obtain ⟨w, z⟩ := I.cell _ _ hc
      exact ⟨rfl, z.lt⟩
  have mem : ∀ {y c}, cenv.cells.lookup y = some c → (X.env.cells.lookup y = some c ∧ c < s.heap.objs.size) ∨ (s.heap.objs.size + 1 ≤ c ∧ CellAt (pushCells (s.heap.push { cls := .type "dict", data := .dict #[] }) scope.names) c none) := fun {y c} e => by
    rw [hcl] at e
    rcases cells_mem (PySem.mem_of_lookup e) with hm | ⟨_, h2, h3⟩
    · exact .inl (cm hm)
    · rw [Heap.size_push] at h2; exact .inr ⟨h2, h3⟩
  have look : ∀ {y}, scope.names.lookup y = some .free → ∃ c, cenv.cells.lookup y = some c ∧ X.env.cells.lookup y = some c := fun {y} hl => by
    have hy : (y, NameKind.free) ∈ scope.names := PySem.mem_of_lookup hl
    obtain ⟨c', e'⟩ := mem_lookup (cells_acc (names := scope.names) (n := (s.heap.push { cls := .type "dict", data := .dict #[] }).objs.size) (cloFrom_has (cells := X.env.cells) (acc := []) hy))
    rw [← hcl] at e'
    refine ⟨c', e', ?_⟩
    rw [hcl] at e'
    rcases cells_mem (PySem.mem_of_lookup e') with hm | ⟨h1, _, _⟩
    · exact (cm hm).1
    · have := ok.uniq _ h1
      rw [hl] at this; cases this
  have okB : (X.blk s H scope cenv fp).Ok := by
    refine ⟨I.ok.mod, by show cenv.scope.kind = _; rw [hsc]; exact ok.kind, by show cenv.globals = _; rw [← hcenv]; exact I.ok.glob, by show cenv.builtins = _; rw [← hcenv]; exact I.ok.blt, by show s.heap.objs.size ≤ cenv.locals; rw [hL]; exact Nat.le_refl _,
      fun y z c e1 e2 => ?_, fun y hy => ?_, fun y c z e => ?_, I.ok.hd, I.ok.frames, .inl rfl, fun b hb => ⟨?_, fun y c e z => ?_⟩, I.bs, Nat.le_trans I.ok.bsz I.sz, fun b o e hb => ?_, fun b hb z => ?_, I.stack, I.stkFree⟩
    · have e1 : cenv.cells.lookup y = some c := e1
      have e2 : cenv.cells.lookup z = some c := e2
      rw [hcl] at e1 e2
      refine cells_inj (fun p hp => ?_) (fun y z c a b => I.ok.inj y z c (cm a).1 (cm b).1) (PySem.mem_of_lookup e1) (PySem.mem_of_lookup e2)
      rw [Heap.size_push]
      exact Nat.lt_succ_of_lt (cm (y := p.1) (c := p.2) hp).2
    · show ∃ c, cenv.cells.lookup y = some c
      have key : ∀ k, cenv.kindOf y = some k → (k = .cell ∨ k = .free) → ∃ c, cenv.cells.lookup y = some c := fun k hk hk' => by
        unfold Env.kindOf at hk
        rw [hsc] at hk
        obtain ⟨k', e, r⟩ := lookup_relS hk
        have : k' = .cell ∨ k' = .free := by
          rcases r with rfl | ⟨rfl, _⟩
          · exact hk'
          · exact .inr rfl
        rcases this with rfl | rfl
        · obtain ⟨c, hm⟩ := cells_has (n := (s.heap.push { cls := .type "dict", data := .dict #[] }).objs.size) (acc := cloFrom X.env.cells scope.names []) (PySem.mem_of_lookup e)
          obtain ⟨c', e'⟩ := mem_lookup hm
          exact ⟨c', by rw [hcl]; exact e'⟩
        · obtain ⟨c, h1, _⟩ := look e
          exact ⟨c, h1⟩
      rcases hy with hy | hy
      · exact key _ hy (.inl rfl)
      · exact key _ hy (.inr rfl)
    · have z : (scope.names.lookup y == some NameKind.cell) = true := z
      have z : scope.names.lookup y = some .cell := by simpa using z
      have e : cenv.cells.lookup y = some c := e
      rw [hcl] at e
      rcases cells_mem (PySem.mem_of_lookup e) with hm | ⟨_, h2, _⟩
      · rcases cloFrom_mem hm with hm | ⟨h1, _⟩
        · cases hm
        · have q := ok.uniq _ h1
          rw [z] at q; cases q
      · rw [Heap.size_push] at h2
        exact Nat.le_of_succ_le h2
    · show b ≠ cenv.locals
      rw [hL]; exact Nat.ne_of_lt (hfp b hb).2
    · have e : cenv.cells.lookup y = some c := e
      rcases mem e with ⟨h1, _⟩ | ⟨h1, _⟩
      · exact (hfp b hb).1.2.2.2.2.1 y c h1 z
      · have h2 : s.heap.objs.size + 1 ≤ b := by rw [← z]; exact h1
        exact absurd (Nat.lt_of_lt_of_le (hfp b hb).2 (Nat.le_of_succ_le h2)) (Nat.lt_irrefl _)
    · rcases (hfp b hb).1.2.2.2.1 with z | z
      · exact I.ok.noex b o e z
      · exact absurd (Nat.lt_of_lt_of_le (Heap.lt_size e) (Nat.le_trans I.ok.bsz z)) (Nat.lt_irrefl _)
    · rcases List.mem_cons.mp (I.stkSub b z) with z | z
      · exact (hfp b hb).1.2.1 z
      · exact (hfp b hb).1.2.2.1 z
  refine ⟨okB, rfl, I.bare, Un.kept kp, ⟨fun _ => none, ?_, fun i y av e1 e2 e3 => ?_⟩, fun y c e => ?_, ?_, fun y c e => ?_, fun p hp => ?_, I.hok.kept kp, by rw [wipe_length]; exact I.len⟩
  · show Heap.Ns _ cenv.locals _
    rw [hL]
    exact Heap.Ns.keeps (Heap.Ns.new ..) fun b o e => pushCells_keeps _ _ _ _ e
  · obtain ⟨e2, hne⟩ := wipe_some e2
    have hfr : scope.names.lookup y = some .free ∧ (cenv.kindOf y = some .cell ∨ cenv.kindOf y = some .free) := by
      have key : ∀ k, cenv.scope.names.lookup y = some k → k = .local ∨ k = .cell ∨ k = .free → scope.names.lookup y = some .free ∧ (cenv.kindOf y = some .cell ∨ cenv.kindOf y = some .free) := fun k hk hk' => by
        have hk0 := hk
        rw [hsc] at hk
        obtain ⟨k', e, r⟩ := lookup_relS hk
        have no : ¬ (k' = .local ∨ k' = .cell) := fun hh => by
          rcases ok.own _ (PySem.mem_of_lookup e) hh with e' | e'
          · obtain ⟨p, hp, hpy⟩ := List.mem_map.mp e'
            have e3 := ok.ix p hp
            have : p.1 = y := hpy
            rw [this] at e3
            exact hne (List.mem_map.mpr ⟨p, hp, nodup_ix hN e3 e1⟩)
          · exact e' (List.mem_of_getElem? e1)
        rcases r with rfl | ⟨rfl, rfl⟩
        · rcases hk' with rfl | rfl | rfl
          · exact absurd (.inl rfl) no
          · exact absurd (.inr rfl) no
          · exact ⟨e, .inr hk0⟩
        · exact ⟨e, .inl hk0⟩
      have e3 : Vis cenv.scope y := e3
      rcases e3 with e3 | e3 | e3
      · exact key _ e3 (.inl rfl)
      · exact key _ e3 (.inr (.inl rfl))
      · exact key _ e3 (.inr (.inr rfl))
    obtain ⟨m, hn, hl⟩ := I.loc
    have hvis : Vis X.env.scope y := (ok.free _ (PySem.mem_of_lookup hfr.1) rfl).elim (fun k => .inr (.inl k)) (fun k => .inr (.inr k))
    obtain ⟨w, r, q⟩ := hl i y av e1 e2 hvis
    refine ⟨w, r, .inr ⟨hfr.2, ?_⟩⟩
    obtain ⟨c, h1, h2⟩ := look hfr.1
    rcases q with ⟨k, _⟩ | ⟨_, c', e', z⟩
    · have k : X.env.scope.names.lookup y = some .local := k
      rcases ok.free _ (PySem.mem_of_lookup hfr.1) rfl with k' | k' <;> rw [show X.env.scope.names.lookup y = _ from k'] at k <;> cases k
    · rw [h2] at e'; cases e'
      exact ⟨c, h1, z.keeps kp⟩
  · have e : cenv.cells.lookup y = some c := e
    rcases mem e with ⟨h1, _⟩ | ⟨_, z⟩
    · obtain ⟨w, z⟩ := I.cell y c h1
      exact ⟨w, z.keeps kp⟩
    · exact ⟨_, z⟩
  · show H cenv.locals = none
    rw [hL]; exact I.hok.fresh (Nat.le_refl _)
  · have e : cenv.cells.lookup y = some c := e
    rcases mem e with ⟨h1, _⟩ | ⟨h1, _⟩
    · exact I.freeC y c h1
    · exact I.hok.fresh (Nat.le_of_succ_le h1)
  · exact absurd (show p ∈ ([] : List (Addr × Obj)) ++ [] from hp) (by simp)

/-- an item appended to a tracked list -/
theorem app_ok {E : Value → Shared → Prop} {D : Addr} {xs : List V} {y : V} {v : Value} {Q : Value → Shared → Prop} (I : Inv X pins σ H s) (hD : H D = some (.lst xs)) (hz : xs.length < sizeLine) (r : RelV y v)
    (h : ∀ s', Inv X pins σ (upd H D (.lst (xs ++ [y]))) s' → Q .none s') : wpAny (model X.prog X.w) X.A (call (.builtin "list.append") [.ref D, v]) Q E s := by
  obtain ⟨hz', its, n, ri, e⟩ := I.hok D _ hD
  have hl := ri.length
  refine append_at (hsz := by rw [List.size_toArray]; omega) e fun h' sb ho' => ?_
  refine h { s with heap := h' } (I.write (t' := s.toks) (by rw [hD]; trivial) (.inl rfl) (fun b u hb q => (sb.2 b hb).trans q) ⟨_, ho'⟩ ⟨by rw [List.length_append]; exact hz, its ++ [v], n + 1, ri.append (.cons r .nil), ?_⟩)
  rw [ho']
  simp

/-- a clause's tests -/
def PTs (X : Cx) (ifs : List Expr) (t : TT) : Prop :=
  ∀ (pins : List (Addr × Obj)) (s : Shared) (σ : St) (H : Hp) (Q : Bool → Hp → Prop), Inv X pins σ H s → t σ H Q →
    wpAny (model X.prog X.w) X.A (forIn ifs true fun c r => if r = true then do let ok ← isTrue c X.env (eval c X.env); pure (ForInStep.yield ok) else pure (ForInStep.yield r)) (TP X pins σ Q) X.xe s
def tYes : TT := fun _ H Q => Q true H
theorem pts_nil : PTs X [] tYes := fun _ _ _ H _ I h => wpAny_tests_nil ⟨H, I, h⟩
theorem pts_one {c : Expr} {t : TT} (h : PT X c t) : PTs X [c] t := fun pins s σ H Q I hw => wpAny_tests_one (h pins s σ H Q I hw)
end

theorem thnF {α : Type} {t : Sem α} {Q Q' : α → Shared → Prop} {M : Model} {A : Around} {E : Value → Shared → Prop} {s : Shared} (h : wpAny M A t Q (fun _ _ => False) s) (hQ : ∀ a s, Q a s → Q' a s) : wpAny M A t Q' E s := wpAny_mono h hQ fun _ _ z => False.elim z

/-- the loop of a list comprehension's block, the target of any form (codeAny_compLoop_tests asks a target that no tuple goes to; statement and proof follow it, PyProof/CompMap.lean:41-61, with the step letOwnedTupleGo kept) -/
theorem compLoop_any {prog : Program} {w : World} {A : Around} {R : Result → Shared → Prop} {s : Shared} {elt target iter : Expr} {ifs : List Expr} {scope : Scope} {pos : Pos} {it acc : Value} {env : Env} (I : Nat → Shared → Prop)
    (turn : ∀ n s, I n s → wpAny (model prog w) A (pyNext it) (fun r s₁ => match r with
      | none => R (.ok .next) s₁
      | some v => wpAny (model prog w) A (letOwnedTupleGo target it v) (fun _ s₁' => wpAny (model prog w) A (assign target env v) (fun _ s₂ =>
          wpAny (model prog w) A (forIn ifs true fun c r => if r = true then do let ok ← isTrue c env (eval c env); pure (ForInStep.yield ok) else pure (ForInStep.yield r)) (fun ok s₃ =>
            if ok = true then wpAny (model prog w) A (eval elt env) (fun x s₄ =>
              wpAny (model prog w) A (call (.builtin "list.append") [acc, x]) (fun _ s₅ => ∃ m, m < n ∧ I m s₅) (notedBy (model prog w) A env fun e s' => R (.error e) s') s₄) (notedBy (model prog w) A env fun e s' => R (.error e) s') s₃
            else ∃ m, m < n ∧ I m s₃) (notedBy (model prog w) A env fun e s' => R (.error e) s') s₂) (notedBy (model prog w) A env fun e s' => R (.error e) s') s₁') (notedBy (model prog w) A env fun e s' => R (.error e) s') s₁) (notedBy (model prog w) A env fun e s' => R (.error e) s') s)
    (n : Nat) (h : I n s) :
    codeAny (model prog w) A (.compLoop (.ListComp elt [⟨target, iter, ifs, 0⟩] scope pos) 0 it acc env) R s := by
  refine codeAny_loop rfl I (fun n s hI => ?_) n h
  show wpAny _ A ((compTurn (.ListComp elt [⟨target, iter, ifs, 0⟩] scope pos) 0 it acc env).onRaise (fun x => do noteFrame x env; theTreesLotGoes x)) _ _ s
  refine wpAny_noted ?_
  rw [compTurn_list]
  refine wpAny_bind (wpAny_standAt (wpAny_bind (wpAny_mono (turn n s hI) (fun r s₁ h₁ => ?_) fun _ _ h' => h')))
  cases r with
  | none => exact wpAny_pure h₁
  | some v =>
    refine wpAny_bind (wpAny_mono h₁ (fun _ s₁' h₁' => ?_) fun _ _ h' => h')
    refine wpAny_bind (wpAny_mono h₁' (fun _ s₂ h₂ => wpAny_bind (wpAny_mono h₂ (fun ok s₃ h₃ => ?_) fun _ _ h' => h')) fun _ _ h' => h')
    cases ok with
    | false => exact wpAny_pure ⟨rfl, h₃⟩
    | true =>
      exact wpAny_bind (wpAny_bind (wpAny_mono h₃ (fun x s₄ h₄ => wpAny_bind (wpAny_mono h₄ (fun _ s₅ h₅ => wpAny_pure (wpAny_pure ⟨rfl, h₅⟩)) fun _ _ h' => h')) fun _ _ h' => h'))

section
variable {X : Cx}
/-- [elt for target in iter if ..]: D the new list; W by the turn and a measure, Nx what a turn is to reach -/
def tLc (wi : TI) (g : TG) (tt : TT) (te : TE) (vs : List Nat) : TE := fun σ H Q => wi σ H fun J H1 => ∀ D, H1 D = none → ∃ W : Nat → Nat → Hp → Prop, (∃ m, W 0 m (upd H1 D (.lst []))) ∧ ∀ i m H, W i m H →
  (J.stop i H ∧ Q (.ref D) H) ∨ (J.go i H ∧ ∃ Nx : Hp → Prop, (∀ H', Nx H' → ∃ m', m' < m ∧ W (i + 1) m' H') ∧ ∀ x H', J.yld i H x H' → g x (wipe σ vs) H' fun σ2 H2 => wipe σ2 vs = wipe σ vs ∧ tt σ2 H2 fun b H3 =>
    if b = true then te σ2 H3 fun y H4 => ∃ acc, H4 D = some (.lst acc) ∧ acc.length < sizeLine ∧ Nx (upd H4 D (.lst (acc ++ [y]))) else Nx H3)
theorem lc_core {pins : List (Addr × Obj)} {s : Shared} {σ : St} {H : Hp} {Q : VK} {elt tg iter : Expr} {ifs : List Expr} {scope : Scope} {own : List (Str × Nat)} {pos pos' : Pos} {wi : TI} {g : TG} {tt : TT} {te : TE} {use : Option (Value → Sem Unit)} {Qf : Value → Shared → Prop}
    (hc : X.calm = true) (hN : X.N.Nodup) (I : Inv X pins σ H s) (hi : PI X tg iter wi) (ok : BlkOk X.N X.env.scope scope own)
    (hg : ∀ (s : Shared) (H : Hp) (C : Addr) (cl : List (Str × Addr)) (fp : List Addr), PG (X.blk s H scope (compEnvC scope cl C X.env) fp) tg g) (ht : ∀ (s : Shared) (H : Hp) (C : Addr) (cl : List (Str × Addr)) (fp : List Addr), PTs (X.blk s H scope (compEnvC scope cl C X.env) fp) ifs tt)
    (he : ∀ (s : Shared) (H : Hp) (C : Addr) (cl : List (Str × Addr)) (fp : List Addr), PE (X.blk s H scope (compEnvC scope cl C X.env) fp) elt te) (hs : ∀ x, foldedSetIterable iter X.env x = pure x)
    (h : tLc wi g tt te (own.map (·.2)) σ H Q)
    (hRR : ∀ D C s' m H', Inv X pins σ H' s' → Q (.ref D) H' → s'.heap.Ns C m → FpOk X pins H' C → compPost (model X.prog X.w) X.A X.xe use Qf (.ref D) C (.ok .next) s') :
    wpAny (model X.prog X.w) X.A (comprehension (.ListComp elt [⟨tg, iter, ifs, 0⟩] scope pos) scope X.env pos' (newList []) false (eval iter X.env) use) Qf X.xe s := by
  have hfree : ∀ y ∈ scope.names, y.2 = .free → ∃ c, X.env.cells.lookup y.1 = some c := fun y hy e => by
    rcases ok.free y hy e with k | k
    · exact I.ok.has _ (.inl k)
    · exact I.ok.has _ (.inr k)
  refine wpAny_comprehension_free (use := use) rfl hs (closure_ok hfree) ok.kind (fun y hy e => by rw [ok.uniq y hy, e])
    (thn (hi pins s σ H _ I h) fun xv s1 hx => thn hx fun itv s2 h2 => ?_)
  obtain ⟨it, fp, tn, J, H2, e, I2, T, st2, f2, q⟩ := h2
  subst e
  refine wpAny_newObj_type (newEnv_comp ?_) (by show 0 ≤ sizeLine; decide)
  generalize hD : s2.heap.objs.size = D
  have hDn : H2 D = none := I2.hok.fresh (Nat.le_of_eq hD)
  obtain ⟨W, ⟨m0, w0⟩, turn⟩ := q D hDn
  -- the new list
  generalize hs3 : ({ s2 with heap := s2.heap.push { cls := .type "list", data := .seq ([] : List Value).toArray } } : Shared) = s3
  have I3 : Inv X pins σ (upd H2 D (.lst [])) s3 := by
    rw [← hs3]
    refine I2.laid (t' := s2.toks) (fun b o e => Heap.get?_push_of_some _ e) (Nat.le_of_eq hD) ⟨Nat.zero_le _, [], 0, .nil, ?_⟩
    rw [← hD]
    exact Heap.get?_push_size _ rfl
  have h3 : s3.heap = s2.heap.push { cls := .type "list", data := .seq ([] : List Value).toArray } := by rw [← hs3]
  have sz : ∀ b ∈ fp, b < s2.heap.objs.size := fun b hb => by
    obtain ⟨o, e, _⟩ := T.obj _ _ st2 b hb
    exact Heap.lt_size e
  have f3 : ∀ b ∈ fp, FpOk X pins (upd H2 D (.lst [])) b ∧ b < s3.heap.objs.size := fun b hb => by
    have hlt := sz b hb
    refine ⟨⟨?_, (f2 b hb).2⟩, by rw [h3, Heap.size_push]; exact Nat.lt_succ_of_lt hlt⟩
    rw [upd_ne (by rw [← hD]; exact Nat.ne_of_lt hlt)]
    exact (f2 b hb).1
  have st3 : tn 0 s3.heap := T.keep _ _ _ st2 fun b _ o e => by rw [h3]; exact Heap.get?_push_of_some _ e
  have I4 := block_start I3 ok hN f3
  have pg := hg s3 (upd H2 D (.lst [])) s3.heap.objs.size (cellsFrom (s3.heap.objs.size + 1) scope.names (cloFrom X.env.cells scope.names [])) fp
  have pt := ht s3 (upd H2 D (.lst [])) s3.heap.objs.size (cellsFrom (s3.heap.objs.size + 1) scope.names (cloFrom X.env.cells scope.names [])) fp
  have pe := he s3 (upd H2 D (.lst [])) s3.heap.objs.size (cellsFrom (s3.heap.objs.size + 1) scope.names (cloFrom X.env.cells scope.names [])) fp
  show codeAny _ _ (.compStart (.ListComp elt [⟨tg, iter, ifs, 0⟩] scope pos) 0 (.ref it) (.ref D) (compEnvC scope (cellsFrom (s3.heap.objs.size + 1) scope.names (cloFrom X.env.cells scope.names [])) s3.heap.objs.size X.env)) (compPost (model X.prog X.w) X.A X.xe use Qf (.ref D) s3.heap.objs.size) { s3 with heap := pushCells (s3.heap.push { cls := .type "dict", data := .dict #[] }) scope.names }
  have nfp : ∀ b ∈ fp, (upd H2 D (.lst [])) b = none := fun b hb => (f3 b hb).1.1
  generalize hce : compEnvC scope (cellsFrom (s3.heap.objs.size + 1) scope.names (cloFrom X.env.cells scope.names [])) s3.heap.objs.size X.env = ce at I4 pg pt pe ⊢
  have cL : ce.locals = s3.heap.objs.size := by subst hce; rfl
  generalize hH3 : upd H2 D (.lst []) = H3 at I3 I4 pg pt pe w0 nfp f3
  generalize hs4 : ({ s3 with heap := pushCells (s3.heap.push { cls := .type "dict", data := .dict #[] }) scope.names } : Shared) = s4 at I4 ⊢
  have st4 : tn 0 s4.heap := T.keep _ _ _ st3 fun b _ o e => by rw [← hs4]; exact pushCells_keeps _ _ _ _ (Heap.get?_push_of_some _ e)
  have stat : ∀ {σ' : St} {H' : Hp} {s' : Shared}, Inv (X.blk s3 H3 scope ce fp) [] σ' H' s' → (∀ b ∈ fp, H' b = none) → ∀ b ∈ fp, FpOk (X.blk s3 H3 scope ce fp) [] H' b := fun {σ' H' s'} I' hn b hb =>
    ⟨hn b hb, (I'.ok.exf b hb).1, I'.ok.exfs b hb, .inl hb, fun x c e => (I'.ok.exf b hb).2 x c e, fun p hp => absurd (show p ∈ ([] : List (Addr × Obj)) ++ [] from hp) (by simp)⟩
  have loop : codeAny (model X.prog X.w) X.A (.compLoop (.ListComp elt [⟨tg, iter, ifs, 0⟩] scope pos) 0 (.ref it) (.ref D) ce) (compPost (model X.prog X.w) X.A X.xe use Qf (.ref D) s3.heap.objs.size) s4 := by
    refine compLoop_any (fun n s' => ∃ i H', Inv (X.blk s3 H3 scope ce fp) [] (wipe σ (own.map (·.2))) H' s' ∧ tn i s'.heap ∧ (∀ b ∈ fp, H' b = none) ∧ W i n H') ?_ m0 ⟨0, H3, I4, st4, nfp, w0⟩
    rintro n s5 ⟨i, H5, I5, st5, n5, w5⟩
    rcases turn i n H5 w5 with ⟨stop, qq⟩ | ⟨go, Nx, hNx, step⟩
    · have td := T.done (X.blk s3 H3 scope ce fp) rfl rfl rfl hc i [] s5 _ H5 (fun _ _ => False) I5 (stat I5 n5) st5 stop
      refine thnF td fun r s6 ⟨hr, I6⟩ => ?_
      subst hr
      -- back in the def's context
      have I7 : Inv X pins σ H5 s6 := I3.call' (ch := fp) I6.os I6.base I6.hok I6.bare fun b hb => ⟨(f3 b hb).1.2.2.2.1, (f3 b hb).1.2.1, (f3 b hb).1.2.2.2.2.1, (f3 b hb).1.2.2.2.2.2⟩
      have nC : H5 s3.heap.objs.size = none := by
        have z : H5 ce.locals = none := I6.free
        rw [cL] at z
        exact z
      obtain ⟨m, hn, _⟩ := I6.loc
      have hn : s6.heap.Ns ce.locals m := hn
      rw [cL] at hn
      exact hRR D s3.heap.objs.size s6 m H5 I7 qq hn (I3.fpOk (Nat.le_refl _) nC)
    · have ti := T.item (X.blk s3 H3 scope ce fp) rfl rfl rfl hc i [] s5 _ H5 (fun _ _ => False) I5 (stat I5 n5) st5 go
      refine thnF ti fun r s6 ⟨u, hr, h6⟩ => ?_
      subst hr
      refine thnF h6 fun _ s7 ⟨x, H7, I7, r7, y7, st7, n7⟩ => ?_
      have I7' := I7.pinned (stat I7 n7) (T.obj _ _ st7)
      refine thnF (pg _ s7 _ H7 x u _ I7' r7 (step x H7 y7)) fun _ s8 ⟨σ8, H8, I8, hw8, q8⟩ => ?_
      refine thnF (pt _ s8 σ8 H8 _ I8 q8) fun b s9 ⟨H9, I9, q9⟩ => ?_
      -- the turn's end
      have fin : ∀ {s' : Shared} {H' : Hp}, Inv (X.blk s3 H3 scope ce fp) ([] ++ pinsAt fp s7.heap) σ8 H' s' → Nx H' → ∃ m, m < n ∧ ∃ i H', Inv (X.blk s3 H3 scope ce fp) [] (wipe σ (own.map (·.2))) H' s' ∧ tn i s'.heap ∧ (∀ b ∈ fp, H' b = none) ∧ W i m H' := fun {s' H'} I' nx => by
        obtain ⟨m', hm, w'⟩ := hNx H' nx
        have pin' : ∀ b ∈ fp, ∀ o, s7.heap.get? b = some o → s'.heap.get? b = some o ∧ H' b = none := fun b hb o e =>
          let z := I'.pin (b, o) (List.mem_append_right _ (List.mem_append_right _ (mem_pinsAt hb e)))
          ⟨z.1, z.2.1⟩
        have hl : (wipe σ (own.map (·.2))).length = σ8.length := by rw [← hw8, wipe_length]
        refine ⟨m', hm, i + 1, H', (I'.unpinned (pins := [])).weak hl (fun j v e => ?_), T.keep _ _ _ st7 fun b hb o e => (pin' b hb o e).1, fun b hb => ?_, w'⟩
        · rw [← hw8] at e
          exact (wipe_some e).1
        · obtain ⟨o, e, _⟩ := T.obj _ _ st7 b hb
          exact (pin' b hb o e).2
      cases b with
      | false =>
        simp only [Bool.false_eq_true, if_false] at q9 ⊢
        exact fin I9 q9
      | true =>
        simp only [if_true] at q9 ⊢
        refine thnF (pe _ s9 σ8 H9 _ I9 q9) fun z s10 ⟨yv, H10, I10, r10, acc, hD10, hz10, nx⟩ => ?_
        exact app_ok (X := X.blk s3 H3 scope ce fp) I10 hD10 hz10 r10 fun s11 I11 => fin I11 nx
  exact codeAny_compStart_list loop (T.self X.A 0 _ _ _ st4 loop)
/-- as a value -/
theorem pe_lc {elt tg iter : Expr} {ifs : List Expr} {scope : Scope} {own : List (Str × Nat)} {pos : Pos} {wi : TI} {g : TG} {tt : TT} {te : TE} (hc : X.calm = true) (hN : X.N.Nodup) (hi : PI X tg iter wi) (ok : BlkOk X.N X.env.scope scope own)
    (hg : ∀ (s : Shared) (H : Hp) (C : Addr) (cl : List (Str × Addr)) (fp : List Addr), PG (X.blk s H scope (compEnvC scope cl C X.env) fp) tg g) (ht : ∀ (s : Shared) (H : Hp) (C : Addr) (cl : List (Str × Addr)) (fp : List Addr), PTs (X.blk s H scope (compEnvC scope cl C X.env) fp) ifs tt)
    (he : ∀ (s : Shared) (H : Hp) (C : Addr) (cl : List (Str × Addr)) (fp : List Addr), PE (X.blk s H scope (compEnvC scope cl C X.env) fp) elt te) (hs : ∀ x, foldedSetIterable iter X.env x = pure x := by intro _; rfl) :
    PE X (.ListComp elt [⟨tg, iter, ifs, 0⟩] scope pos) (tLc wi g tt te (own.map (·.2))) := by
  intro pins s σ H Q I h
  rw [eval_ListComp]
  refine lc_core hc hN I hi ok hg ht he hs h fun D C s' m H' I' q hn f => ⟨m, hn, fun h'' sb => ?_⟩
  obtain ⟨f0, f1, f2, f3, f4, f5⟩ := f
  exact ⟨.ref D, H', I'.turned (t' := s'.toks) (fun b o hb e => (sb.2 b hb).trans e) f0 f1 f3 f4 f5, rfl, q⟩
/-- name = [..] on one line, the name a local -/
theorem ps_setLc {i : Nat} {y : Str} {py : Pos} {elt tg iter : Expr} {ifs : List Expr} {scope : Scope} {own : List (Str × Nat)} {pos spos : Pos} {wi : TI} {g : TG} {tt : TT} {te : TE} (hc : X.calm = true) (hN : X.N.Nodup) (hy : X.N[i]? = some y) (hyl : X.env.scope.names.lookup y = some .local)
    (hsw : swapsWith (.ListComp elt [⟨tg, iter, ifs, 0⟩] scope pos) (some (.Name y py)) spos.line X.env = pure true) (hi : PI X tg iter wi) (ok : BlkOk X.N X.env.scope scope own)
    (hg : ∀ (s : Shared) (H : Hp) (C : Addr) (cl : List (Str × Addr)) (fp : List Addr), PG (X.blk s H scope (compEnvC scope cl C X.env) fp) tg g) (ht : ∀ (s : Shared) (H : Hp) (C : Addr) (cl : List (Str × Addr)) (fp : List Addr), PTs (X.blk s H scope (compEnvC scope cl C X.env) fp) ifs tt)
    (he : ∀ (s : Shared) (H : Hp) (C : Addr) (cl : List (Str × Addr)) (fp : List Addr), PE (X.blk s H scope (compEnvC scope cl C X.env) fp) elt te) (hs : ∀ x, foldedSetIterable iter X.env x = pure x := by intro _; rfl) :
    PS X (.Assign [.Name y py] (.ListComp elt [⟨tg, iter, ifs, 0⟩] scope pos) spos) (tAsg (tLc wi g tt te (own.map (·.2))) (gName i)) := by
  intro pins s σ H D I h
  rw [exec_Assign_Name_used _ _ _ _ hsw]
  refine wpAny_bind (wpAny_standAt (wpAny_bind ?_))
  show wpAny _ X.A (do let _ ← comprehension (.ListComp elt [⟨tg, iter, ifs, 0⟩] scope pos) scope X.env (firstIterPos [⟨tg, iter, ifs, 0⟩] pos) (newList []) false (eval iter X.env) (some (assign (.Name y py) X.env))) _ _ s
  have h : tLc wi g tt te (own.map (·.2)) σ H (fun x H1 => gName i x σ H1 D.nx) := h
  refine wpAny_bind (thn (lc_core (Qf := fun _ s' => SP X pins D .next s') hc hN I hi ok hg ht he hs h fun L C s' m H' I' q hn f => ?_) fun _ s' hq => wpAny_pure (wpAny_pure hq))
  show wpAny _ _ (assign (.Name y py) X.env (.ref L)) _ _ _
  refine wpAny_assign_Name (store_ok2 (v := V.ref L) I' hN hy (.inl hyl) rfl (fun s2 I2 ⟨a, sb, ha⟩ => ?_) (.inr hyl))
  obtain ⟨f0, f1, f2, f3, f4, f5⟩ := f
  have haC : C ≠ a := by
    rcases ha with z | z
    · rw [z]; exact f1
    · exact fun e => f4 y a z e.symm
  refine ⟨m, hn.sameBut sb haC, fun h3 sb3 => ?_⟩
  exact ⟨_, H', I2.turned (t' := s2.toks) (fun b o hb e => (sb3.2 b hb).trans e) f0 f1 f3 f4 f5, q⟩
end

/-! ### the forms one uses -/
end L2

namespace L2
open PySem PySem.Spec PyProof.Rows


section
variable {prog : Program} {w : World} {A : Around} {R : Result → Shared → Prop} {s : Shared} {elt t0 i0 t1 i1 : Expr} {ifs0 ifs1 : List Expr} {scope : Scope} {pos : Pos} {it acc : Value} {env : Env}
end

section
variable {X : Cx}
end
end L2

namespace L2
open PySem PySem.Spec PyProof.Rows

/-! ### lists of pairs as tables -/
section
variable {κ : Type} [DecidableEq κ]
def valV (kvs : List (κ × V)) (k : κ) : Option V := (kvs.find? fun kv => decide (kv.1 = k)).map (·.2)
/-- in its place, or at the end -/
def putK (kvs : List (κ × V)) (k : κ) (v : V) : List (κ × V) :=
  if (kvs.any fun kv => decide (kv.1 = k)) = true then kvs.map (fun kv => if kv.1 = k then (kv.1, v) else kv) else kvs ++ [(k, v)]

theorem valV_pos {p : κ × V} {r : List (κ × V)} {k : κ} (e : p.1 = k) : valV (p :: r) k = some p.2 := by simp [valV, List.find?_cons, e]
theorem valV_neg {p : κ × V} {r : List (κ × V)} {k : κ} (e : ¬ p.1 = k) : valV (p :: r) k = valV r k := by simp [valV, List.find?_cons, e]
theorem valV_any (k : κ) : ∀ kvs : List (κ × V), (kvs.any fun kv => decide (kv.1 = k)) = (valV kvs k).isSome
  | [] => rfl
  | p :: r => by
    rw [List.any_cons]
    by_cases e : p.1 = k
    · simp only [valV_pos e, decide_eq_true e, Bool.true_or, Option.isSome_some]
    · rw [valV_neg e, decide_eq_false e, Bool.false_or]; exact valV_any k r
theorem valV_map (k j : κ) (y : V) : ∀ kvs : List (κ × V), valV (kvs.map fun kv => if kv.1 = k then (kv.1, y) else kv) j = (valV kvs j).map fun x => if j = k then y else x
  | [] => rfl
  | p :: r => by
    have ih := valV_map k j y r
    rw [List.map_cons]
    by_cases h : p.1 = k
    · rw [if_pos h]
      by_cases e : p.1 = j
      · rw [valV_pos (p := (p.1, y)) e, valV_pos e, Option.map_some, if_pos (e.symm.trans h)]
      · rw [valV_neg (p := (p.1, y)) e, valV_neg e, ih]
    · rw [if_neg h]
      by_cases e : p.1 = j
      · rw [valV_pos (p := p) e, valV_pos e, Option.map_some, if_neg (fun z => h (e.trans z))]
      · rw [valV_neg (p := p) e, valV_neg e, ih]
theorem valV_snoc (k j : κ) (y : V) : ∀ kvs : List (κ × V), valV kvs k = none → valV (kvs ++ [(k, y)]) j = if j = k then some y else valV kvs j
  | [], _ => by
    by_cases e : k = j
    · rw [if_pos e.symm]; exact valV_pos (p := (k, y)) e
    · rw [if_neg (fun z => e z.symm)]; exact valV_neg (p := (k, y)) e
  | p :: r, hn => by
    rw [List.cons_append]
    have hk : ¬ p.1 = k := fun z => by rw [valV_pos z] at hn; cases hn
    rw [valV_neg hk] at hn
    have ih := valV_snoc k j y r hn
    by_cases e : p.1 = j
    · rw [valV_pos e, valV_pos e, if_neg (fun z => hk (e.trans z))]
    · rw [valV_neg e, valV_neg e, ih]
theorem valV_put (kvs : List (κ × V)) (k j : κ) (y : V) : valV (putK kvs k y) j = if j = k then some y else valV kvs j := by
  unfold putK
  by_cases a : (kvs.any fun kv => decide (kv.1 = k)) = true
  · rw [if_pos a, valV_map]
    rw [valV_any] at a
    by_cases e : j = k
    · obtain ⟨x, hx⟩ := Option.isSome_iff_exists.mp a
      rw [if_pos e, e, hx, Option.map_some, if_pos rfl]
    · rw [if_neg e]
      cases valV kvs j with
      | none => rfl
      | some x => rw [Option.map_some, if_neg e]
  · rw [if_neg a]
    refine valV_snoc k j y kvs ?_
    rw [valV_any] at a
    cases q : valV kvs k with
    | none => rfl
    | some x => rw [q] at a; exact (a rfl).elim
theorem length_putK (kvs : List (κ × V)) (k : κ) (v : V) : (putK kvs k v).length ≤ kvs.length + 1 := by
  unfold putK
  split
  · rw [List.length_map]; omega
  · rw [List.length_append, List.length_cons, List.length_nil]; omega

theorem RelO.getD {o : Option V} {u : Option Value} {d : V} {d' : Value} (r : RelO o u) (rd : RelV d d') : RelV (o.getD d) (u.getD d') := by
  cases o with
  | none => cases u with
    | none => exact rd
    | some _ => exact (show False from r).elim
  | some _ => cases u with
    | none => exact (show False from r).elim
    | some _ => exact r

/-- raw tables of the same keys -/
theorem KV.val {kvs : List (κ × V)} {vs : List (κ × Value)} (r : KV kvs vs) (k : κ) : RelO (valV kvs k) (valueAt vs k) := by
  unfold KV at r
  induction r with
  | nil => exact True.intro
  | @cons p q ps qs h t ih =>
    obtain ⟨h1, h2⟩ := h
    by_cases e : p.1 = k
    · have e' : q.1 = k := h1.symm.trans e
      have b : valueAt (q :: qs) k = some q.2 := by simp [valueAt, List.find?_cons, e']
      rw [valV_pos e, b]; exact h2
    · have e' : ¬ q.1 = k := fun z => e (h1.trans z)
      have b : valueAt (q :: qs) k = valueAt qs k := by simp [valueAt, List.find?_cons, e']
      rw [valV_neg e, b]; exact ih
theorem KV.any {kvs : List (κ × V)} {vs : List (κ × Value)} (r : KV kvs vs) (k : κ) : (kvs.any fun kv => decide (kv.1 = k)) = vs.any fun kv => decide (kv.1 = k) := by
  unfold KV at r
  induction r with
  | nil => rfl
  | cons h t ih => rw [List.any_cons, List.any_cons, ih, h.1]
theorem KV.repl {kvs : List (κ × V)} {vs : List (κ × Value)} (r : KV kvs vs) (k : κ) {y : V} {u : Value} (ry : RelV y u) :
    KV (kvs.map fun kv => if kv.1 = k then (kv.1, y) else kv) (vs.map fun kv => if kv.1 = k then (kv.1, u) else kv) := by
  unfold KV at r ⊢
  induction r with
  | nil => exact .nil
  | @cons p q ps qs h t ih =>
    rw [List.map_cons, List.map_cons]
    refine .cons ?_ ih
    obtain ⟨h1, h2⟩ := h
    by_cases e : p.1 = k
    · rw [if_pos e, if_pos (h1.symm.trans e)]; exact ⟨h1, ry⟩
    · rw [if_neg e, if_neg (fun z => e (h1.trans z))]; exact ⟨h1, h2⟩
theorem KV.put {kvs : List (κ × V)} {vs : List (κ × Value)} (r : KV kvs vs) (k : κ) {y : V} {u : Value} (ry : RelV y u) : KV (putK kvs k y) (stored vs k u) := by
  unfold putK stored
  rw [r.any k]
  by_cases e : (vs.any fun kv => decide (kv.1 = k)) = true
  · rw [if_pos e, if_pos e]; exact r.repl k ry
  · rw [if_neg e, if_neg e]; exact Paired.snoc r ⟨rfl, ry⟩
theorem KV.length {kvs : List (κ × V)} {vs : List (κ × Value)} (r : KV kvs vs) : kvs.length = vs.length := Paired.length r
end


/-! ### a tracked dict, its keys ints and texts or tuples of these -/
theorem kV_is {P : Program} {w : World} {k : Key} {u : Value} (r : RelV (kV k) u) : (mixKind P w).is k u = true := by
  cases k with
  | inl i => obtain ⟨t, e⟩ := (show ∃ t, u = Value.int i t from r); subst e; exact mixKind_int P w i t
  | inr x => obtain ⟨t, e⟩ := (show ∃ t, u = Value.str x t from r); subst e; exact mixKind_str P w x t
theorem items_are {P : Program} {w : World} : ∀ {ks : List Key} {us : List Value}, Vals (ks.map kV) us → ItemsAre (mixKind P w) ks us
  | [], _, r => by rw [List.map_nil] at r; cases r; exact .nil
  | k :: ks, _, r => by
    rw [List.map_cons] at r
    cases r with
    | cons h t => exact .cons (kV_is h) (items_are t)

/-- raw entries of a dict with tuple keys -/
abbrev KT (H : Hp) : List (List Key × V) → List (List Key × Addr × Value) → Prop := Paired fun p q => p.1 = q.1 ∧ H q.2.1 = some (.tup (p.1.map kV)) ∧ RelV p.2 q.2.2
theorem KT.val {H : Hp} {kvs : List (List Key × V)} {xs : List (List Key × Addr × Value)} (r : KT H kvs xs) (k : List Key) : RelO (valV kvs k) ((atKey xs k).map (·.2)) := by
  induction r with
  | nil => exact True.intro
  | @cons p q ps qs h t ih =>
    obtain ⟨h1, _, h2⟩ := h
    by_cases e : p.1 = k
    · have e' : q.1 = k := h1.symm.trans e
      have b : atKey (q :: qs) k = some q.2 := by simp [atKey, List.find?_cons, e']
      rw [valV_pos e, b]; exact h2
    · have e' : ¬ q.1 = k := fun z => e (h1.trans z)
      have b : atKey (q :: qs) k = atKey qs k := by simp [atKey, List.find?_cons, e']
      rw [valV_neg e, b]; exact ih

section
variable {P : Program} {w : World} {H : Hp} {h : Heap} {a : Addr}
theorem rd_of {u : HO} (ok : HOk P w H h) (e : Rd H a u) : ObjOk P w H h a u := e.ok ok
theorem dk_rd {kvs : List (Key × V)} (ok : HOk P w H h) (e : Rd H a (.dK kvs)) : kvs.length ≤ sizeLine ∧ (a == sysModules) = false ∧ ∃ vs, KV kvs vs ∧ h.DictOf (mixKind P w) a vs :=
  show ObjOk P w H h a (.dK kvs) from rd_of ok e
theorem dk_of {kvs : List (Key × V)} (ok : HOk P w H h) (e : H a = some (.dK kvs)) : kvs.length ≤ sizeLine ∧ (a == sysModules) = false ∧ ∃ vs, KV kvs vs ∧ h.DictOf (mixKind P w) a vs := dk_rd ok (.inl e)
/-- a tracked tuple of ints and texts is a key -/
theorem key_of {ks : List Key} (ok : HOk P w H h) (e : H a = some (.tup (ks.map kV))) : (tupleKind (mixKind P w)).is h ks a := by
  obtain ⟨_, its, r, o, h1, h2, n, h3⟩ := (show ObjOk P w H h a (.tup (ks.map kV)) from ok a _ e)
  exact ⟨o, its.toArray, n, h1, h2, h3, by simpa using items_are r⟩
theorem dt_rd {kvs : List (List Key × V)} (ok : HOk P w H h) (e : Rd H a (.dT kvs)) : kvs.length ≤ sizeLine ∧ (a == sysModules) = false ∧
    ∃ xs, KT H kvs xs ∧ h.DictOfH (tupleKind (mixKind P w)) a xs := by
  obtain ⟨z, y, xs, r, o, es, ep, h1, h2, h3, h4, h5⟩ := (show ObjOk P w H h a (.dT kvs) from rd_of ok e)
  refine ⟨z, y, xs, r, o, es, ep, h1, h2, h3, h4, fun x hx => ?_, h5⟩
  have all : ∀ {l : List (List Key × V)} {m : List (List Key × Addr × Value)}, KT H l m → ∀ x ∈ m, (tupleKind (mixKind P w)).is h x.1 x.2.1 := by
    intro l m q
    induction q with
    | nil => intro x hx; exact nomatch hx
    | @cons p q ps qs hq t ih =>
      intro x hx
      rcases List.mem_cons.mp hx with e | hx
      · subst e
        exact key_of ok (by rw [← hq.1]; exact hq.2.1)
      · exact ih x hx
  exact all r x hx
end

/-- what the dict at a holds at the key y -/
def DGet (H : Hp) (a : Addr) (y : V) (r : Option V) : Prop :=
  (∃ kvs k, Rd H a (.dK kvs) ∧ y = kV k ∧ r = valV kvs k) ∨ ∃ kvs k b, Rd H a (.dT kvs) ∧ y = .ref b ∧ H b = some (.tup (k.map kV)) ∧ r = valV kvs k
theorem DGet.k {H : Hp} {a : Addr} {kvs : List (Key × V)} {k : Key} (e : H a = some (.dK kvs)) : DGet H a (kV k) (valV kvs k) := .inl ⟨kvs, k, .inl e, rfl, rfl⟩


section
variable {X : Cx} {pins : List (Addr × Obj)} {σ : St} {H : Hp} {s : Shared} {a : Addr} {y v : V} {u r : Value} {o : Option V} {A : Around} {E : Value → Shared → Prop}

theorem Inv.big (I : Inv X pins σ H s) : sysModules < s.heap.objs.size := by
  have h : mainGlobals < s.heap.objs.size := (I.mod.glob.keeps I.bk).lt
  exact Nat.lt_trans (by decide) h

/-- a dict's object is replaced -/
theorem d_write {h' : Heap} {t' : Nat} {ob : HO} (I : Inv X pins σ H s) (mu : Mut (H a)) (hs : Heap.SameBut a s.heap h') (he : ∃ q, h'.get? a = some q) (new : ObjOk X.prog X.w (upd H a ob) h' a ob) :
    Inv X pins σ (upd H a ob) { s with heap := h', toks := t' } :=
  I.write (x := a) (e := a) mu (.inl rfl) (fun b q hb z => (hs.2 b hb).trans z) he new
theorem dk_new {P : Program} {w : World} {H' : Hp} {h' : Heap} {kvs : List (Key × V)} {vs : List (Key × Value)} (z : kvs.length ≤ sizeLine) (hd : (a == sysModules) = false) (rel : KV kvs vs) (dd : h'.DictOf (mixKind P w) a vs) :
    ObjOk P w H' h' a (.dK kvs) := ⟨z, hd, vs, rel, dd⟩
end

section
variable {X : Cx} {pins : List (Addr × Obj)} {σ : St} {H : Hp} {s : Shared} {a : Addr} {kvs : List (Key × V)} {k : Key} {u : Value} {A : Around} {E : Value → Shared → Prop}
end


/-! ### readings and rules -/



section
variable {X : Cx} {o i e value : Expr} {pos pos' tpos : Pos} {td ty tv : TE}
end


/-! ### displays -/
theorem dk_empty {P : Program} {w : World} {H : Hp} (h : Heap) (hb : sysModules < h.objs.size) : ObjOk P w H (h.push { cls := .type "dict", data := .dict #[] }) h.objs.size (.dK []) :=
  ⟨Nat.zero_le _, beq_eq_false_iff_ne.mpr (Ne.symm (Nat.ne_of_lt hb)), [], .nil, Heap.DictOf.new h⟩
/-- {}, to be a dict of the kind that is wanted -/
def tDNewK : TE := fun _ H Q => ∀ p, H p = none → Q (.ref p) (upd H p (.dK []))
section
variable {X : Cx} {pos : Pos}
theorem pe_dnewK : PE X (.Dict [] [] pos) tDNewK := fun pins s σ H Q I h =>
  wpAny_Dict_empty ⟨.ref s.heap.objs.size, _, I.laid (a := s.heap.objs.size) (o := .dK []) (t' := s.toks) (fun _ _ q => Heap.get?_push_of_some _ q) (Nat.le_refl _) (dk_empty s.heap I.big), rfl, h _ (I.hok.fresh (Nat.le_refl _))⟩
end




/-! ### methods -/
structure M2 (X : Cx) (o : Expr) (m : Str) (apos : Pos) (e f : Expr) (cpos : Pos) : Prop where
  base : attributeBase o m X.env (eval o X.env) = eval o X.env
  few : ((backTo cpos (starEach [e, f] X.env)).all (fun x => !x.1) && (backToKw cpos (keywordEach [] X.env)).all (fun x => x.1.isSome)
    && decide (([e, f] : List Expr).length + ([] : List Keyword).length + (if ([] : List Keyword).isEmpty then 0 else 1) < 30)) = true
  line : (apos.endLine == cpos.line) = true
  trees : backTo cpos (starEach [e, f] X.env) = [(false, eval e X.env), (false, eval f X.env)]

/-- a is a dict, whatever its keys -/
def IsD (H : Hp) (a : Addr) : Prop := (∃ kvs, Rd H a (.dK kvs)) ∨ ∃ kvs, Rd H a (.dT kvs)
theorem isD_at {X : Cx} {pins : List (Addr × Obj)} {σ : St} {H : Hp} {s : Shared} {a : Addr} (I : Inv X pins σ H s) (d : IsD H a) :
    s.TypeIs (.ref a) "dict" ∧ (∀ b, Value.ref a = .ref b → ∃ ob, s.heap.get? b = some ob ∧ ob.dict = none) ∧ (a == sysModules) = false := by
  rcases d with ⟨kvs, e⟩ | ⟨kvs, e⟩
  · obtain ⟨_, hd, vs, _, dd⟩ := dk_rd I.hok e
    refine ⟨dd.typeIs, fun b q => ?_, hd⟩
    cases q
    obtain ⟨ob, _, _, h1, h2, _⟩ := dd
    exact ⟨ob, h1, h2.2.1⟩
  · obtain ⟨_, hd, xs, _, dd⟩ := dt_rd I.hok e
    refine ⟨dd.typeIs, fun b q => ?_, hd⟩
    cases q
    obtain ⟨ob, _, _, h1, h2, _⟩ := dd
    exact ⟨ob, h1, h2.2.1⟩

section
variable {X : Cx} {pins : List (Addr × Obj)} {σ : St} {H : Hp} {s : Shared} {a : Addr} {y d : V} {u r : Value} {o : Option V} {A : Around} {E : Value → Shared → Prop}
/-- d.get(y, x) -/
theorem d_get2 {Q : Value → Shared → Prop} (hu : A.units + 1 < cLine) (I : Inv X pins σ H s) (g : DGet H a y o) (ry : RelV y u) (rd : RelV d r) (h : ∀ w' s', Inv X pins σ H s' → RelV (o.getD d) w' → Q w' s') :
    wpAny (model X.prog X.w) A (call (.builtin "dict.get") [.ref a, u, r]) Q E s := by
  rcases g with ⟨kvs, k, e, ey, l⟩ | ⟨kvs, k, b, e, ey, eb, l⟩
  · subst ey
    obtain ⟨z, hd, vs, rel, dd⟩ := dk_rd I.hok e
    refine call_meetsIn PySem.F.slot_dict_get dd.typeIs PySem.F.entry_dict_get (PySem.F.args_dict_get_3 _ _ _) (meets_dict_get_default (mixKind X.prog X.w) a (kV_is ry) hd r) ⟨_, dd.mapOf, h _ _ (I.tok _) ?_⟩
    rw [l]
    exact (rel.val k).getD rd
  · subst ey
    cases (show u = Value.ref b from ry)
    obtain ⟨z, hd, xs, rel, dd⟩ := dt_rd I.hok e
    refine call_meetsIn PySem.F.slot_dict_get dd.typeIs PySem.F.entry_dict_get (PySem.F.args_dict_get_3 _ _ _) (meetsH_dict_get_default (tupleKind (mixKind X.prog X.w)) a b hd r) ⟨tupleKind_room_in1 hu, k, xs, key_of I.hok eb, dd, h _ _ (I.tok _) ?_⟩
    rw [l]
    exact (rel.val k).getD rd
end

def tDGet2 (td ty tx : TE) : TE := fun σ H Q => td σ H fun x H1 => ∃ a, x = .ref a ∧ IsD H1 a ∧ ty σ H1 fun y H2 => tx σ H2 fun z H3 => ∃ o, DGet H3 a y o ∧ Q (o.getD z) H3
section
variable {X : Cx} {o e f : Expr} {apos cpos : Pos} {td ty tx : TE}
theorem pe_dget2 (hu : X.A.units + 1 < cLine) (ho : PE X o td) (he : PE X e ty) (hf : PE X f tx) (m : M2 X o "get" apos e f cpos) : PE X (.Call (.Attribute o "get" apos) [e, f] [] cpos) (tDGet2 td ty tx) := by
  intro pins s σ H Q I h
  refine wpAny_Call_method m.base m.few m.line PySem.F.plainAttrs_dict PySem.F.slot_dict_get PySem.F.type_dict_get (thn (ho pins s σ H _ I h) fun u s1 ⟨x, H1, I1, rx, a, ex, d, q1⟩ => ?_)
  subst ex
  obtain rfl : u = Value.ref a := rx
  obtain ⟨t1, t2, _⟩ := isD_at I1 d
  refine ⟨t1, t2, ?_⟩
  rw [m.trees]
  refine Calls.callWith_builtin rfl (Calls.evalArgs_plain (Calls.spliced_cons (thn (he pins s1 σ H1 _ I1 q1) fun iv s2 ⟨y, H2, I2, ry, q2⟩ =>
    Calls.spliced_cons (thn (hf pins s2 σ H2 _ I2 q2) fun fv s3 ⟨z, H3, I3, rz, ov, g, q3⟩ => Calls.spliced_nil ?_))))
  exact d_get2 hu I3 g ry rz fun w' s4 I4 rw' => ⟨_, H3, I4, rw', q3⟩
end

/-! ### dict(d): a copy -/
section
variable {X : Cx} {pins : List (Addr × Obj)} {σ : St} {H : Hp} {s : Shared} {a : Addr} {kvs : List (Key × V)} {A : Around} {E : Value → Shared → Prop}
end


section
variable {X : Cx} {pins : List (Addr × Obj)} {σ : St} {H : Hp} {s : Shared} {a : Addr} {y : V} {u : Value} {A : Around} {E : Value → Shared → Prop}
end
end L2

namespace L2
open PySem PySem.Spec PyProof.Rows


section
variable {prog : Program} {w : World} {A : Around} {E : Value → Shared → Prop}


end

section
variable {X : Cx}
end
end L2

namespace L2
open PySem PySem.Spec PyProof.Rows


section
variable {X : Cx} {pins : List (Addr × Obj)} {σ : St} {H : Hp} {s : Shared} {h' : Heap}
/-- .. and one new object is laid -/
theorem Inv.turnedNew {t' : Nat} {ch : List Addr} {T : Addr} {ob : HO} (I : Inv X pins σ H s) (k : ∀ b o, b ∉ ch → s.heap.get? b = some o → h'.get? b = some o) (hf : ∀ b ∈ ch, FpOk X pins H b) (hT : s.heap.objs.size ≤ T)
    (new : ObjOk X.prog X.w (upd H T ob) h' T ob) : Inv X pins σ (upd H T ob) { s with heap := h', toks := t' } := by
  have hn : H T = none := I.hok.fresh hT
  have nit : ∀ b u, H b = some u → b ∉ ch := fun b u e z => by
    have q := (hf b z).1
    rw [q] at e; cases e
  refine I.step (g' := s.gens) (d' := s.drawn) (ch := ch) (fun b hb => ⟨(hf b hb).2.2.2.1, (hf b hb).2.1, (hf b hb).2.2.2.2.1, (hf b hb).2.2.2.2.2⟩) (fun b o _ _ hc e _ => k b o hc e) (fun b o _ _ hc e _ => ⟨o.slots, k b o hc e⟩)
    (fun b o _ e n => ?_) (fun b o hc e => ⟨o, k b o hc e⟩) (fun b xs e => ?_) (fun b o u e => ?_) (fun b ps e => ⟨#[], ?_⟩) (fun m hm => ?_) (fun b u e => ?_) I.bare
  · rw [upd_ne (Nat.ne_of_lt (Nat.lt_of_lt_of_le (Heap.lt_size e) hT))]; exact n
  · rw [upd_ne (ne_of_none e hn)]; exact e
  · rw [upd_ne (ne_of_none e hn)]; exact e
  · rw [upd_ne (ne_of_none e hn), e]; simp
  · obtain ⟨o, es, ep, ho, r⟩ := hm
    exact ⟨o, es, ep, k _ o (fun z => (hf _ z).2.1 rfl) ho, r⟩
  · by_cases hb : b = T
    · subst hb
      rw [upd_same] at e
      cases e
      exact new
    · rw [upd_ne hb] at e
      refine (I.hok b u e).stay (fun c v hc q => k c v ?_ q) (fun c q => by rw [upd_ne (ne_of_none q hn)]; exact q) fun c xs q => by rw [upd_ne (ne_of_none q hn)]; exact q
      rcases hc with z | z
      · rw [z]; exact nit b u e
      · exact nit c _ z

/-! ### locking a thing while a statement runs -/
end
section
variable {X : Cx}

/-! ### one iterator just laid -/
end

/-! ### range with a step -/
section
variable {X : Cx} {tg : Expr}
end

/-! ### reversed(list) -/
section
variable {X : Cx} {tg : Expr}
end

/-! ### a str -/

/-! ### a dict's keys: any dict's entries -/
section
variable {prog : Program} {w : World} {A : Around} {E : Value → Shared → Prop} {s : Shared}
end

/-! ### a locked dict -/
section
variable {X : Cx} {pins : List (Addr × Obj)} {σ : St} {H : Hp} {s : Shared} {d : Addr} {o : Obj}
end

section
variable {P : Program} {w : World} {K : PySem.W.Frag} {tg : Expr} {d : Addr} {o : Obj} {es : Array DictEntry} {ep : Nat}
end

/-! ### for k in d, d.keys(), d.values(), d.items() -/
section
variable {X : Cx} {tg e : Expr} {td : TE} {apos cpos : Pos}
end

/-! ### enumerate(list) -/
/-- the list at a as it stands at each turn, each item in a new pair -/
def Ite (K : PySem.W.Frag) (a : Addr) : It :=
  ⟨fun i H => ∃ (xs : List V) (x : V), SqL K H a xs ∧ xs[i]? = some x, fun i H v H' => ∃ T x, v = .ref T ∧ H T = none ∧ H' = upd H T (.tup [.int (i : Nat), x]) ∧ ∀ xs, SqL K H a xs → xs[i]? = some x, fun i H => ∃ xs : List V, SqL K H a xs ∧ xs.length ≤ i⟩
theorem turn_enum {P : Program} {w : World} {K : PySem.W.Frag} {elts : List Expr} {kk : Nat} {tpos : Pos} (a e it : Addr) :
    Turn P w K (.Tuple elts kk tpos) (Ite K a) [e, it] e (fun i h => (∃ old, IsEnum h e it ((i : Nat) : Int) old) ∧ h.IsListIter it a i ∧ e ≠ it) where
  mem := by simp
  obj := fun i h st b hb => by
    obtain ⟨⟨old, he⟩, ⟨o, ho, hc, hd⟩, _⟩ := st
    have e' : b = e ∨ b = it := by simpa using hb
    rcases e' with z | z
    · rw [z]; exact ⟨_, he, fun v q => nomatch q⟩
    · rw [z]; exact ⟨o, ho, fun v q => by rw [hd] at q; cases q⟩
  keep := fun i h h' st k => let ⟨⟨old, he⟩, hi, hne⟩ := st; ⟨⟨old, k e (by simp) _ he⟩, hi.at fun o q => k it (by simp) o q, hne⟩
  item := by
    intro X hP hw hK hc i pins s σ H E I hf st hg
    subst hP hw hK
    obtain ⟨⟨old, he⟩, hit, hne⟩ := st
    obtain ⟨xs, x, hq, hx⟩ := hg
    obtain ⟨its, rv, p, hz⟩ := I.list hq
    obtain ⟨u, hu, ru⟩ := rv.get hx
    have hel : e < s.heap.objs.size := Heap.lt_size he
    have hil : it < s.heap.objs.size := by obtain ⟨_, q, _⟩ := hit; exact Heap.lt_size q
    refine wpAny_pyNext_enum_item he hit p.isList (x := u) (by simpa using hu) hne fun h' ho hit' hT hsz hk => ?_
    refine ⟨_, rfl, wpAny_letOwnedTupleGo_enum (s := { s with heap := h', toks := s.toks + 1 }) ho fun h'' he' sb => ?_⟩
    have hT2 : h''.get? s.heap.objs.size = some { cls := .type "tuple", data := .seq #[.int i s.toks, u] } := (sb.2 _ (Nat.ne_of_gt hel)).trans hT
    have new : ObjOk X.prog X.w (upd H s.heap.objs.size (.tup [.int (i : Nat), x])) h'' s.heap.objs.size (.tup [.int (i : Nat), x]) :=
      ⟨by show 2 ≤ sizeLine; decide, [.int i s.toks, u], .cons ⟨_, rfl⟩ (.cons ru .nil), ⟨_, hT2, rfl, _, rfl⟩⟩
    have I1 : Inv X pins σ (upd H s.heap.objs.size (.tup [.int (i : Nat), x])) { s with heap := h'', toks := s.toks + 1 } :=
      I.turnedNew (ch := [e, it]) (fun b ob hb q => (sb.2 b (fun z => hb (by simp [z]))).trans (hk b ob (fun z => hb (by simp [z])) (fun z => hb (by simp [z])) q)) hf (Nat.le_refl _) new
    refine ⟨.ref s.heap.objs.size, _, I1, rfl, ⟨_, x, rfl, I.hok.fresh (Nat.le_refl _), rfl, fun ys hy => by rw [I.list_inj hy hq]; exact hx⟩, ⟨⟨u, ?_⟩, hit'.at fun o q => (sb.2 it (Ne.symm hne)).trans q, hne⟩, fun b hb => ?_⟩
    · have e1 : ((i + 1 : Nat) : Int) = (i : Int) + 1 := by omega
      rw [e1]; exact he'
    · have hb' : b < s.heap.objs.size := by
        have e' : b = e ∨ b = it := by simpa using hb
        rcases e' with z | z
        · rw [z]; exact hel
        · rw [z]; exact hil
      rw [upd_ne (Nat.ne_of_lt hb')]
      exact (hf b hb).1
  done := by
    intro X hP hw hK hc i pins s σ H E I hf st hg
    subst hP hw hK
    obtain ⟨⟨old, he⟩, hit, hne⟩ := st
    obtain ⟨xs, hq, hx⟩ := hg
    obtain ⟨its, rv, p, hz⟩ := I.list hq
    obtain ⟨f0, f1, f2, f3, f4, f5⟩ := hf it (by simp)
    have hl := rv.length
    exact wpAny_pyNext_enum_end (I.ok.hd hc) he hit p.isList (by simp; omega) fun h' eb => ⟨rfl, I.turned (t' := s.toks) (fun b o hb q => eb b o hb q) f0 f1 f3 f4 f5⟩
  self := fun A i s Q E st h => let ⟨⟨_, he⟩, _⟩ := st; wpAny_pyIter_enum he h
def iEnum (K : PySem.W.Frag) (ta : TA) : TI := fun σ H R => ta σ H fun vs H1 => ∃ a xs, vs = [.ref a] ∧ SqL K H1 a xs ∧ R (Ite K a) H1
theorem pi_enum {X : Cx} {e : Expr} {ta : TA} {p pos tpos : Pos} {elts : List Expr} {kk : Nat} (hg : Gl X "enumerate") (hm : X.mg "enumerate" = none) (ha : PA X [e] ta) (hs : starEach [e] X.env = [(false, eval e X.env)] := by rfl) :
    PI X (.Tuple elts kk tpos) (.Call (.Name "enumerate" p) [e] [] pos) (iEnum X.K ta) := by
  intro pins s σ H R I h
  refine Call_ (ld_blt I hg hm boot_enumerate (PyProof.Rows.callWith_type1 (thn (ha pos pins s σ H _ I h) fun us s1 ⟨vs, H1, I1, r1, q1⟩ => ?_) hs rfl))
  obtain ⟨a, xs, ex, hq, q⟩ := q1
  subst ex
  cases r1 with
  | cons r rr =>
    cases rr
    cases r
    obtain ⟨its, rv, p', hz⟩ := I1.list hq
    refine call_enumerate_list p'.isList fun h' he hit hsz hk => wpAny_pyIter_enum he ?_
    have I2 : Inv X pins σ H1 { s1 with heap := h' } := I1.kept (t' := s1.toks) hk
    refine ⟨s1.heap.objs.size + 1, [s1.heap.objs.size + 1, s1.heap.objs.size], _, _, H1, rfl, I2, turn_enum a (s1.heap.objs.size + 1) s1.heap.objs.size, ⟨⟨.none, he⟩, hit, Nat.succ_ne_self _⟩, fun b hb => ?_, q⟩
    have e' : b = s1.heap.objs.size + 1 ∨ b = s1.heap.objs.size := by simpa using hb
    have hle : s1.heap.objs.size ≤ b := by
      rcases e' with z | z
      · rw [z]; exact Nat.le_add_right _ _
      · rw [z]; exact Nat.le_refl _
    exact I1.fpOk hle (I1.hok.fresh hle)
/-! ### zip(list, list) -/
end L2

section 
namespace Bits
open PySem PyProof.Rows








end Bits
end 

section 
namespace TL
open PySem PySem.Builtin PySem.Builtin.Str PySem.StrLaws


/-! ### the list functions -/




/-! ### the model's split and partition are these -/




/-! ### computing spl and par -/


/-! ### digits -/

/-! ### words: x.split() -/
end TL
end 

namespace L2
open PySem PySem.Spec PyProof.Rows




section
variable {X : Cx} {pins : List (Addr × Obj)} {σ : St} {H : Hp} {s : Shared} {Q : VK}
end

section
variable {X : Cx}





/-! ### of a text alone -/

/-! ### of a text and a text -/

end

section
variable {X : Cx} {o e : Expr} {to te : TE}

end
end L2

namespace L2
open PySem PySem.Spec PyProof.Rows

section
variable {X : Cx}
end

/-! ### slices of a text -/


end L2

namespace Att
open PySem PySem.W PySem.Calls PyProof.Rows

/-! ### the script -/



/-! ### the attachment: holds_open's last premise (the goal 'hc' behind k_head) from a wpAny of the law's body -/



/-! ### rules over ANY heap (no ledger) from facts about the written part K: the library's own take a ledger (News) for what they write -/
section
variable {prog : Program} {w : World} {A : Around} {E : Value → Shared → Prop} {s : Shared} {K : Frag}





/-! the whole heap as the ledger: makes every rule that writes through a ledger a rule over any heap -/

end
end Att

namespace L2
open PySem PySem.Spec PyProof.Rows

theorem vals_ints : ∀ {vs : List Value} {ns : List Int}, IntsAre vs ns → Vals (ns.map V.int) vs
  | _, _, .nil => .nil
  | _, _, .cons n t h => .cons ⟨t, rfl⟩ (vals_ints h)

/-- nothing is tracked but the script, known to the object (or it is an object of the module) -/
def Only (H : Hp) : Prop := ∀ b, H b = none ∨ ∃ o xs, H b = some (.frz o (.lst xs))

/-- THE HEAD: the law's promise, at the heap behind the top. F, the promise of the law's def, may use that base is part of the heap (so K.In base, base.Ns mainGlobals mg stand in Mod) -/
theorem law_call {P : Program} {w : World} {K : PySem.W.Frag} {mg mb : Str → Option Value} {CX : CXT} {k : Nat} {fa a : Addr} {fd : FuncData} {x : Str} {sp : Sp} {s₁ : Shared} {vs : List Value} {ns : List Int}
    (KX : K.In s₁.heap) (hns : s₁.heap.Ns mainGlobals mg) (hb : s₁.heap.Ns builtinsNs mb) (hbb : ∀ x : Str, x ≠ "__name__" → mb x = bootBuiltins x) (hlim : s₁.heap.NoLimit) (hg : s₁.gens = #[])
    (ha : s₁.heap.get? a = some { cls := .type "list", data := .seq vs.toArray }) (hi : IntsAre vs ns) (hl : ns.length ≤ sizeLine) (hr : Room k callerA)
    (F : ∀ base : Heap, K.In base → base.Ns mainGlobals mg → FnOk P w K mg base CX k fa fd [x] sp) (hbind : ∀ (s : Shared) (u : Value), BindsTo s fd ⟨[u], []⟩ [(x, u)])
    (hsp : ∀ H : Hp, Only H → SqL K H a (ns.map V.int) → sp [.ref a] H (fun v _ => v = .bl true) fun _ _ _ => False)
    (hCX : ∀ H e s', CX [] H s₁ (fun _ _ _ => False) e s' → False) :
    codeAny (model P w) callerA (.call (.ref fa) ⟨[.ref a], []⟩) (fun r s' => r = .ok (.ret (.bool true)) ∧ OldK s₁.heap s'.heap ∧ s'.os = s₁.os ∧ AllBare s'.gens) s₁ := by
  have rv := vals_ints hi
  have lenV := hi.length
  -- from an abstract heap in which nothing but the script may be tracked
  have core : ∀ H : Hp, Only H → SqL K H a (ns.map V.int) → HOk P w H s₁.heap → (∀ b, H b ≠ none → b = a) → (H a ≠ none → K.lookup a = none) →
      codeAny (model P w) callerA (.call (.ref fa) ⟨[.ref a], []⟩) (fun r s' => r = .ok (.ret (.bool true)) ∧ OldK s₁.heap s'.heap ∧ s'.os = s₁.os ∧ AllBare s'.gens) s₁ := by
    intro H hO hS hok hA hK
    have base_of : ∀ {b : Addr} {o : Obj}, s₁.heap.get? b = some o → H b = none → (hidT s₁.heap H).get? b = some o := fun e n => hidT_get e n
    have noA : ∀ {b : Addr} {o : Obj} {es : Array DictEntry} {ep : Nat}, s₁.heap.get? b = some o → o.data = .dict es ep → H b = none := fun {b o es ep} e d => by
      cases q : H b with
      | none => rfl
      | some u =>
        have e' : b = a := hA b (by rw [q]; simp)
        subst e'
        rw [ha] at e; cases e
        have d' : Data.seq vs.toArray _ = Data.dict es ep := d
        cases d'
    have nsK : ∀ {b : Addr} {m : Str → Option Value}, s₁.heap.Ns b m → (hidT s₁.heap H).Ns b m := fun {b m} ⟨o, es, ep, e, d, r⟩ => ⟨o, es, ep, base_of e (noA e d), d, r⟩
    have hKb : K.In (hidT s₁.heap H) := fun b o e => base_of (KX b o e) (by
      cases q : H b with
      | none => rfl
      | some u =>
        have e' : b = a := hA b (by rw [q]; simp)
        subst e'
        rw [hK (by rw [q]; simp)] at e; cases e)
    have hM : Mod K mg (hidT s₁.heap H) := ⟨hKb, nsK hns, ⟨mb, nsK hb, hbb⟩, let ⟨mc, h1, h2⟩ := hlim; ⟨mc, nsK h1, h2⟩⟩
    have e0 : Env0 P w K mg (hidT s₁.heap H) callerA [] s₁ H := ⟨rfl, hM, fun b o e => of_hidT e, Nat.le_of_eq (hidT_size _ _), trivial, fun b hb => absurd (show b ∈ ([] : List Addr) from hb) (by simp), hok, .of_eq hg⟩
    refine codeAny_mono ((F _ hKb (nsK hns)).run callerA [] s₁ H ⟨[.ref a], []⟩ [.ref a] [.ref a] _ _ hr e0 (hbind s₁ (.ref a)) (.cons rfl .nil) (hsp H hO hS)) fun r s' h => ?_
    cases r with
    | error e => exact (hCX H e s' h).elim
    | ok fl =>
      cases fl with
      | next => exact False.elim h
      | brk => exact False.elim h
      | cont => exact False.elim h
      | ret u =>
        obtain ⟨v, H', os, bare, un, hok', r', q⟩ := h
        have q' : v = .bl true := q
        subst q'
        obtain rfl : u = Value.bool true := r'
        refine ⟨rfl, OldK.of_keep fun b o e => ?_, os, bare⟩
        cases q : H b with
        | none => exact un.keep b o e q (by intro z; exact absurd (show b ∈ ([] : List Addr) from z) (by simp)) (by simp)
        | some u =>
          rcases hO b with z | ⟨ob, xs, z⟩
          · rw [q] at z; cases z
          · have z2 := un.frzs b ob _ z
            obtain ⟨e1, _⟩ := hok b _ z
            obtain ⟨e2, _⟩ := hok' b _ z2
            rw [e] at e1; cases e1
            exact e2
  cases hk : K.lookup a with
  | some o =>
    -- the script is one of the module's own objects
    have e := KX a o hk
    rw [ha] at e
    cases e
    refine core (fun _ => none) (fun _ => .inl rfl) (.inr ⟨_, vs.toArray, _, hk, rfl, rfl, rfl, by rw [List.size_toArray, lenV]; exact hl, by simpa using rv⟩) (fun b u z => by have z' : (none : Option HO) = some u := z; cases z') (fun b z => absurd rfl z) fun z => absurd rfl z
  | none =>
    refine core (fun b => if b = a then some (.frz { cls := .type "list", data := .seq vs.toArray } (.lst (ns.map V.int))) else none) (fun b => ?_) (.inl (.inr ⟨{ cls := .type "list", data := .seq vs.toArray }, if_pos rfl⟩)) (fun b u z => ?_) (fun b z => ?_) fun _ => hk
    · by_cases hb : b = a
      · exact .inr ⟨_, _, if_pos hb⟩
      · exact .inl (if_neg hb)
    · by_cases hb : b = a
      · have z' := (if_pos hb).symm.trans z
        cases z'
        subst hb
        exact ⟨ha, by rw [List.length_map]; exact hl, vs, _, rv, ha⟩
      · have z' := (if_neg hb).symm.trans z
        cases z'
    · by_cases hb : b = a
      · exact hb
      · exact absurd (if_neg hb) z
end L2

namespace L2
open PySem PySem.Spec PyProof.Rows


end L2

/- THE LAST THEOREM (shape; LID, My.* are yours):
   My.Adr: a structure of the addresses that your layer names (classes, functions); My.Txt K t: a structure (Prop) of the equations over K;
   My.txt_mk : {K} {implicit addresses ..} (e1 : nsIn K mainGlobals "law" = some (some (.ref f))) (e2 : K.lookup f = some ⟨oc, od, .func (fnOf "law" "law" params body scope dV kV doc pm an cdv ct), sl⟩) (e3 : codeIn K cdv "law" = true) .. : ∃ t, My.Txt K t

set_option maxRecDepth 100000 in
set_option maxHeartbeats 0 in
theorem PySem.Challenge.cw_LID_holds : PySem.Challenge.rw_LID.Holds := by
  w_on; o_law; k_head; (case hw => w_witness2)
  k_fill
  refine L2.walk_of (l := PySem.Challenge.rw_LID) (n := 63) (k := 40) (x := "script") (CX := fun w => ..) (sp := fun _ => My.sp_law) rfl (by decide) rfl ⟨rfl, by decide, by decide⟩ (fun w h Y => PySem.W.kIn_of Y) ?F ?S ?C
  case F =>
    intro w mg fa h KX G hmg
    have T : ∃ t, My.Txt (L2.KOf KX) t := by
      dsimp only [L2.KOf]                          -- K must stand as «<heap const> w.params» for k_is
      refine' My.txt_mk ?e1 ?e2 ?e3 ..
      (case e1 => PySem.W.k_is)                    -- in the order: a name -> its address -> its object -> its parts
      (case e2 => PySem.W.k_is)
      ..
    obtain ⟨t, T⟩ := T
    have e0 := hmg.symm.trans (PySem.W.mg_of KX G T.law)
    cases e0                                       -- fa is the law's own address
    exact ⟨_, fun s u => .of_eq rfl, fun base kb nb => My.law_fn T kb nb⟩     -- if «.of_eq rfl» comes too early: refine' ⟨_, ?b, fun base kb nb => My.law_fn T kb nb⟩; exact fun s u => .of_eq rfl
  case S => exact fun w H a ns hl hO hS => ..
  case C => exact ..
(the tactic k_is has no namespace: write k_is) -/

/-! SHORT WORDS over the layer: a def of the text, its body, what a loop and a test want. -/
namespace L2
open PySem PySem.Spec PyProof.Rows

/-! ### the text by places -/
/-- the j-th statement of a class's body -/
def inClass (s : Stmt) (j : Nat) : Stmt := match s with
  | .ClassDef _ _ _ body _ _ _ _ _ _ _ => body.getD j (.Pass ⟨0, 0, 0, 0⟩)
  | _ => .Pass ⟨0, 0, 0, 0⟩
def defArgs (s : Stmt) : Arguments := match s with
  | .FunctionDef _ a _ _ _ _ _ _ _ _ => a
  | _ => { posonlyargs := [], args := [], vararg := none, kwonlyargs := [], kw_defaults := [], kwarg := none, defaults := [] }
def defBody (s : Stmt) : List Stmt := match s with
  | .FunctionDef _ _ b _ _ _ _ _ _ _ => b
  | _ => []
def defScope (s : Stmt) : Scope := match s with
  | .FunctionDef _ _ _ _ _ _ sc _ _ _ => sc
  | _ => { kind := .function, names := [], isGenerator := false, isCoroutine := false }

/-! ### no exception leaves a def -/
abbrev CX0 : CXT := fun _ _ _ _ _ _ => False
abbrev E0 : XK := fun _ _ _ => False
theorem pass0 {X : Cx} : Passes CX0 X E0 := fun _ _ _ _ _ _ _ h => h.elim

/-! ### a def (or method) of the text as it stands behind the top -/
structure Fun (K : PySem.W.Frag) (x qual : Str) (st : Stmt) (f : Addr) (fd : FuncData) : Prop where
  ex : ∃ (oc : Value) (od : Option Addr) (kV doc pm : Value) (an : Option Addr) (cdv ct : Value) (osl : Array (Option Value)),
    fd = PySem.W.fnOf x qual (defArgs st) (defBody st) (defScope st) .none kV doc pm an cdv ct ∧ K.lookup f = some ⟨oc, od, .func fd, osl⟩ ∧ PySem.W.codeIn K cdv qual = true
  kp : PySem.W.keepIn K (.ref f) = true
section
variable {P : Program} {w : World} {K : PySem.W.Frag} {mg : Str → Option Value} {base : Heap}
/-- THE RULE for a def: its body as a term of rules, and the reading of that term -/
theorem Fun.ok {x qual : Str} {st : Stmt} {f : Addr} {fd : FuncData} {N ps : List Str} {k : Nat} {sp : Sp} (F : Fun K x qual st f fd) (S : FnScope N ps (defScope st)) (len : ∀ vs H Q E, sp vs H Q E → vs.length = ps.length)
    (hbody : ∀ (cdv : Value) (A : Around) (outer : List Env) (s : Shared) (H : Hp) (vs : List V) (Q : VK) (E : XK), Room k (A.deeper (envOfC qual (defScope st) s.heap.objs.size f cdv)) → sp vs H Q E →
      ∃ t, PSs (cxOf CX0 P w K mg base N qual (defScope st) f cdv A outer s H E).nox (defBody st) t ∧ t { nx := fun _ H' => Q .non H', rt := Q } (start N vs) H) : FnOk P w K mg base CX0 (k + 1) f fd ps sp := by
  obtain ⟨oc, od, kV, doc, pm, an, cdv, ct, osl, rfl, lk, hcd⟩ := F.ex
  refine fn_of lk hcd S len fun A outer s H vs Q E hr hsp => ?_
  obtain ⟨t, h, q⟩ := hbody cdv A outer s H vs Q E hr hsp
  exact ⟨t, h.nox, q⟩
/-- how its arguments bind (no defaults): h is «fun _ _ _ _ _ _ us hl => match us, hl with | [_, _], _ => rfl», one _ a parameter -/
theorem Fun.binds {x qual : Str} {st : Stmt} {f : Addr} {fd : FuncData} {ps : List Str} (F : Fun K x qual st f fd)
    (h : ∀ (kV doc pm : Value) (an : Option Addr) (cdv ct : Value) (us : List Value), us.length = ps.length → bindArgs (PySem.W.fnOf x qual (defArgs st) (defBody st) (defScope st) .none kV doc pm an cdv ct) ⟨us, []⟩ = pure (ps.zip us)) : Binds K fd ps [] := by
  obtain ⟨oc, od, kV, doc, pm, an, cdv, ct, osl, rfl, lk, hcd⟩ := F.ex
  exact .all (h kV doc pm an cdv ct)
theorem fun_mk {x qual : Str} {st : Stmt} {f : Addr} {oc : Value} {od an : Option Addr} {osl : Array (Option Value)} {kV doc pm cdv ct : Value} (l : K.lookup f = some ⟨oc, od, .func (PySem.W.fnOf x qual (defArgs st) (defBody st) (defScope st) .none kV doc pm an cdv ct), osl⟩)
    (c : PySem.W.codeIn K cdv qual = true) (k : PySem.W.keepIn K (.ref f) = true) : Fun K x qual st f (PySem.W.fnOf x qual (defArgs st) (defBody st) (defScope st) .none kV doc pm an cdv ct) := ⟨⟨oc, od, kV, doc, pm, an, cdv, ct, osl, rfl, l, c⟩, k⟩
end
theorem hu_of {A : Around} {k : Nat} (hr : Room k A) : A.units + 1 < cLine := Nat.lt_of_le_of_lt (Nat.add_le_add_left (by decide : 1 ≤ 64) _) hr.units
theorem small1000 {n : Nat} (h : n ≤ 1000) : n < sizeLine := Nat.lt_of_le_of_lt h (by decide)

/-! ### expressions in short: the name that stands in the i-th slot -/
section
variable {X : Cx}
theorem pv (i : Nat) {x : Str} {pos : Pos} (hN : X.N[i]? = some x := by rfl) (hv : Vis X.env.scope x := by first | exact Or.inl rfl | exact Or.inr (Or.inl rfl) | exact Or.inr (Or.inr rfl)) (hd : (x == ("__debug__" : Str)) = false := by decide)
    (hcd : (x == ("__classdict__" : Str)) = false := by decide) : PE X (.Name x pos) (tVar i) := pe_var hN hv hd hcd
end

/-! ### tests -/
theorem iteT {A B : Prop} (h : A) : if true = true then A else B := by
  rw [if_pos rfl]
  exact h
theorem ite2 {c A B : Prop} [Decidable c] (h1 : c → A) (h2 : ¬ c → B) : if c then A else B := by
  by_cases h : c
  · rw [if_pos h]
    exact h1 h
  · rw [if_neg h]
    exact h2 h

/-! ### heaps -/
/-- all that was tracked is as it was -/
def Same (H H' : Hp) : Prop := ∀ b o, H b = some o → H' b = some o
theorem Same.refl (H : Hp) : Same H H := fun _ _ h => h
theorem Same.trans {H H1 H2 : Hp} (a : Same H H1) (b : Same H1 H2) : Same H H2 := fun c o h => b c o (a c o h)
theorem Same.free {H H' : Hp} (e : Same H H') {l : Addr} (h : H' l = Option.none) : H l = Option.none := by
  cases q : H l with
  | none => rfl
  | some o =>
    rw [e l o q] at h
    cases h
theorem Same.seq {K : PySem.W.Frag} {H H' : Hp} {a : Addr} {xs : List V} (e : Same H H') (h : SqL K H a xs) : SqL K H' a xs := by
  rcases h with (h | ⟨o, h⟩) | h
  · exact .inl (.inl (e _ _ h))
  · exact .inl (.inr ⟨o, e _ _ h⟩)
  · exact .inr h

/-! ### a dict's pairs: keys that differ -/
section
variable {κ : Type} [DecidableEq κ]
end
/-! ### lists -/
theorem at_of {xs : List V} {z : Int} {j : Nat} {v : V} (e : z = (j : Int)) (h : xs[j]? = some v) : atI xs z = some v := by
  rw [e]
  exact atI_nat h
end L2

section
set_option Elab.async false
set_option linter.all false
set_option maxRecDepth 100000
set_option maxHeartbeats 2000000
namespace L2
open PySem PySem.Spec PyProof.Rows
open PySem.W (WData Codec OpenSpec Well WellAll ReadsW ReadsAllW)
/-! ### an answer as data -/
mutual
/-- x stands for the datum d, lists and tuples all the way -/
inductive Dw (K : PySem.W.Frag) (H : Hp) : V → WData → Prop
  | non : Dw K H .non .none
  | bl (b : Bool) : Dw K H (.bl b) (.bool b)
  | int (i : Int) : Dw K H (.int i) (.int i)
  | str (x : Str) : Dw K H (.str x) (.str x)
  | byt (b : Array UInt8) : Dw K H (.byt b) (.bytes b.toList)
  | lst {a : Addr} {xs : List V} {ds : List WData} : SqL K H a xs → DwAll K H xs ds → Dw K H (.ref a) (.list ds)
  | tup {a : Addr} {xs : List V} {ds : List WData} : SqT K H a xs → DwAll K H xs ds → Dw K H (.ref a) (.tuple ds)
inductive DwAll (K : PySem.W.Frag) (H : Hp) : List V → List WData → Prop
  | nil : DwAll K H [] []
  | cons {v : V} {vs : List V} {d : WData} {ds : List WData} : Dw K H v d → DwAll K H vs ds → DwAll K H (v :: vs) (d :: ds)
end
theorem dw_ints {K : PySem.W.Frag} {H : Hp} : ∀ ns : List Int, DwAll K H (ns.map V.int) (ns.map WData.int)
  | [] => .nil
  | n :: r => .cons (.int n) (dw_ints r)
theorem ints_dw {K : PySem.W.Frag} {H : Hp} : ∀ (ns : List Int) (xs : List V), DwAll K H xs (ns.map WData.int) → xs = ns.map V.int
  | [], xs, h => by
    cases h
    rfl
  | n :: r, xs, h => by
    cases h with
    | cons h1 h2 =>
      cases h1
      rw [ints_dw r _ h2] <;> rfl
section
variable {P : Program} {w : World} {K : PySem.W.Frag} {H : Hp} {h : Heap} {R : PySem.W.WRecords} {cl : Str → Option Addr}
theorem sqL_at {a : Addr} {xs : List V} (hok : HOk P w H h) (KX : K.In h) (q : SqL K H a xs) : ∃ (its : List Value) (o : Obj) (n : Nat), Vals xs its ∧ h.get? a = some o ∧ o.cls = .type "list" ∧ o.data = .seq its.toArray n := by
  rcases q with q | ⟨o, its, n, e, hc, _, hd, _, hv⟩
  · obtain ⟨_, its, n, hv, e⟩ := (show ObjOk P w H h a (.lst xs) from q.ok hok)
    exact ⟨its, _, n, hv, e, rfl, rfl⟩
  · exact ⟨its.toList, o, n, hv, KX _ _ e, hc, by simp [hd]⟩
theorem sqT_at {a : Addr} {xs : List V} (hok : HOk P w H h) (KX : K.In h) (q : SqT K H a xs) : ∃ (its : List Value) (o : Obj) (n : Nat), Vals xs its ∧ h.get? a = some o ∧ o.cls = .type "tuple" ∧ o.data = .seq its.toArray n := by
  rcases q with q | ⟨o, its, n, e, hc, hd, _, hv⟩
  · obtain ⟨_, its, hv, o, e, hc, n, hd⟩ := (show ObjOk P w H h a (.tup xs) from q.ok hok)
    exact ⟨its, o, n, hv, e, hc, hd⟩
  · exact ⟨its.toList, o, n, hv, KX _ _ e, hc, by simp [hd]⟩
mutual
theorem Dw.reads (hok : HOk P w H h) (KX : K.In h) : ∀ (d : WData) (v : V) (u : Value), Dw K H v d → RelV v u → ∃ as, ReadsW R cl h u d as
  | .none, _, _, x, r => by
    cases x
    cases r
    exact ⟨_, ReadsW.none⟩
  | .bool b, _, _, x, r => by
    cases x
    cases r
    exact ⟨_, ReadsW.bool b⟩
  | .int i, _, _, x, r => by
    cases x
    obtain ⟨t, rfl⟩ := r
    exact ⟨_, ReadsW.int i t⟩
  | .str s, _, _, x, r => by
    cases x
    obtain ⟨t, rfl⟩ := r
    exact ⟨_, ReadsW.str s t⟩
  | .bytes b, _, _, x, r => by
    cases x
    obtain ⟨t, rfl⟩ := r
    exact ⟨_, ReadsW.bytes _ t⟩
  | .list ds, _, _, x, r => by
    cases x with
    | lst hs ha =>
      cases r
      obtain ⟨its, o, n, rv, ho, hc, hd⟩ := sqL_at hok KX hs
      obtain ⟨as, hr⟩ := Dw.readsAll hok KX ds _ its ha rv
      exact ⟨_, ReadsW.list ho hc hd hr⟩
  | .tuple ds, _, _, x, r => by
    cases x with
    | tup hs ha =>
      cases r
      obtain ⟨its, o, n, rv, ho, hc, hd⟩ := sqT_at hok KX hs
      obtain ⟨as, hr⟩ := Dw.readsAll hok KX ds _ its ha rv
      exact ⟨_, ReadsW.tuple ho hc hd hr⟩
  | .float _, _, _, x, _ => by cases x
  | .dict _, _, _, x, _ => by cases x
  | .bytearray _, _, _, x, _ => by cases x
  | .set _, _, _, x, _ => by cases x
  | .frozenset _, _, _, x, _ => by cases x
  | .obj _ _, _, _, x, _ => by cases x
theorem Dw.readsAll (hok : HOk P w H h) (KX : K.In h) : ∀ (ds : List WData) (vs : List V) (us : List Value), DwAll K H vs ds → Vals vs us → ∃ as, ReadsAllW R cl h us ds as
  | [], _, _, x, r => by
    cases x
    cases r
    exact ⟨_, ReadsAllW.nil⟩
  | d :: ds, _, _, x, r => by
    cases x with
    | cons h1 h2 =>
      cases r with
      | cons r1 r2 =>
        obtain ⟨as, q1⟩ := Dw.reads hok KX d _ _ h1 r1
        obtain ⟨bs, q2⟩ := Dw.readsAll hok KX ds _ _ h2 r2
        exact ⟨_, ReadsAllW.cons q1 q2⟩
end
end
/-! ### the arguments -/
mutual
/-- data that a codec tells -/
def plW : WData → Bool
  | .none => true
  | .bool _ => true
  | .int _ => true
  | .str _ => true
  | .bytes _ => true
  | .list xs => plWs xs
  | .tuple xs => plWs xs
  | _ => false
def plWs : List WData → Bool
  | [] => true
  | x :: r => plW x && plWs r
end
theorem plWs_map {α : Type} {f : α → WData} (h : ∀ a, plW (f a) = true) : ∀ l : List α, plWs (l.map f) = true
  | [] => rfl
  | x :: r => by
    show (plW (f x) && plWs (r.map f)) = true
    rw [h x, plWs_map h r] <;> rfl
theorem pl_enc : ∀ (c : Codec) (a : c.denote), plW (c.enc a) = true
  | .unit, _ => rfl
  | .bool, _ => rfl
  | .int _ _, _ => rfl
  | .nat _ _, _ => rfl
  | .u8, _ => rfl
  | .bytes _ _, _ => rfl
  | .text _ _ _ _, _ => rfl
  | .list _ _ c, a => plWs_map (fun x => pl_enc c x) a
  | .pair c d, a => by
    show (plW (c.enc a.1) && (plW (d.enc a.2) && true)) = true
    rw [pl_enc c a.1, pl_enc d a.2] <;> rfl
  | .triple c d e, a => by
    show (plW (c.enc a.1) && (plW (d.enc a.2.1) && (plW (e.enc a.2.2) && true))) = true
    rw [pl_enc c a.1, pl_enc d a.2.1, pl_enc e a.2.2] <;> rfl
  | .option c, none => rfl
  | .option c, some x => pl_enc c x
theorem pl_encAll : ∀ (cs : List Codec) (a : Codec.denoteAll cs), plWs (Codec.encAll cs a) = true
  | [], _ => rfl
  | c :: cs, a => by
    show (plW (c.enc a.1) && plWs (Codec.encAll cs a.2)) = true
    rw [pl_enc c a.1, pl_encAll cs a.2] <;> rfl
theorem weight_mem : ∀ {xs : List WData} {d : WData}, d ∈ xs → d.weight ≤ WData.weightAll xs
  | [], d, h => absurd h (by simp)
  | x :: r, d, h => by
    show d.weight ≤ x.weight + 1 + WData.weightAll r
    rcases List.mem_cons.mp h with e | m
    · rw [e]
      omega
    · have z := weight_mem m
      omega
def toV : Value → V
  | .none => .non
  | .bool b => .bl b
  | .int i _ => .int i
  | .str x _ => .str x
  | .bytes b _ => .byt b
  | .ref a => .ref a
  | _ => .non
/-- a value of the arguments, its objects among A -/
def OkU (A : List Addr) : Value → Prop
  | .none => True
  | .bool _ => True
  | .int _ _ => True
  | .str _ _ => True
  | .bytes _ _ => True
  | .ref a => a ∈ A
  | _ => False
theorem OkU.mono {A B : List Addr} (h : ∀ a ∈ A, a ∈ B) : ∀ {u : Value}, OkU A u → OkU B u := fun {u} x => by
  cases u with
  | ref a => exact h a x
  | none => trivial
  | bool b => trivial
  | int i t => trivial
  | str s t => trivial
  | bytes b t => trivial
  | _ => exact False.elim x
theorem relV_toV {A : List Addr} {u : Value} (x : OkU A u) : RelV (toV u) u := by
  cases u with
  | ref a => rfl
  | none => rfl
  | bool b => rfl
  | int i t => exact ⟨t, rfl⟩
  | str s t => exact ⟨t, rfl⟩
  | bytes b t => exact ⟨t, rfl⟩
  | _ => exact False.elim x
theorem vals_toV {A : List Addr} : ∀ {vs : List Value}, (∀ u ∈ vs, OkU A u) → Vals (vs.map toV) vs
  | [], _ => .nil
  | u :: r, h => .cons (relV_toV (h u (List.mem_cons_self ..))) (vals_toV fun x hx => h x (List.mem_cons_of_mem _ hx))
/-- an object of the arguments -/
def ArgOb (h : Heap) (A : List Addr) (a : Addr) : Prop := ∃ vs : List Value, vs.length ≤ sizeLine ∧ (∀ u ∈ vs, OkU A u) ∧
  (h.get? a = some { cls := .type "list", data := .seq vs.toArray } ∨ h.get? a = some { cls := .type "tuple", data := .seq vs.toArray })
theorem ArgOb.mono {h : Heap} {A B : List Addr} {a : Addr} (k : ∀ a ∈ A, a ∈ B) (x : ArgOb h A a) : ArgOb h B a := by
  obtain ⟨vs, h1, h2, h3⟩ := x
  exact ⟨vs, h1, fun u hu => (h2 u hu).mono k, h3⟩
theorem wellAll_len {P : Params} {h : Heap} : ∀ {vs : List Value} {ds : List WData}, WellAll P h vs ds → vs.length = ds.length
  | _, _, .nil => rfl
  | _, _, .cons _ b => by
    show _ + 1 = _ + 1
    rw [wellAll_len b]
theorem well_list {P : Params} {h : Heap} {v : Value} {ds : List WData} (x : Well P h v (.list ds)) : ∃ (a : Addr) (vs : List Value), v = .ref a ∧ h.get? a = some { cls := .type "list", data := .seq vs.toArray } ∧ WellAll P h vs ds := by
  cases x with
  | list ho hall => exact ⟨_, _, rfl, ho, hall⟩
theorem well_tuple {P : Params} {h : Heap} {v : Value} {ds : List WData} (x : Well P h v (.tuple ds)) : ∃ (a : Addr) (vs : List Value), v = .ref a ∧ h.get? a = some { cls := .type "tuple", data := .seq vs.toArray } ∧ WellAll P h vs ds := by
  cases x with
  | tuple ho hall => exact ⟨_, _, rfl, ho, hall⟩
theorem well_cons {P : Params} {h : Heap} {us : List Value} {d : WData} {ds : List WData} (x : WellAll P h us (d :: ds)) : ∃ (v : Value) (vs : List Value), us = v :: vs ∧ Well P h v d ∧ WellAll P h vs ds := by
  cases x with
  | cons a b => exact ⟨_, _, rfl, a, b⟩
theorem line_of {n : Nat} (h : n ≤ 1048576) : n ≤ sizeLine := Nat.le_trans h (by decide)
section
variable {P : Params} {h : Heap}
mutual
theorem area_one : ∀ (d : WData) (v : Value), Well P h v d → plW d = true → d.weight ≤ 1048576 → ∃ A : List Addr, OkU A v ∧ ∀ a ∈ A, ArgOb h A a
  | .none, _, x, _, _ => by
    cases x
    exact ⟨[], trivial, fun a m => absurd m (by simp)⟩
  | .bool b, _, x, _, _ => by
    cases x
    exact ⟨[], trivial, fun a m => absurd m (by simp)⟩
  | .int i, _, x, _, _ => by
    cases x
    exact ⟨[], trivial, fun a m => absurd m (by simp)⟩
  | .str s, _, x, _, _ => by
    cases x
    exact ⟨[], trivial, fun a m => absurd m (by simp)⟩
  | .bytes b, _, x, _, _ => by
    cases x
    exact ⟨[], trivial, fun a m => absurd m (by simp)⟩
  | .list ds, _, x, p, z => by
    obtain ⟨a, vs, rfl, ho, hall⟩ := well_list x
    have z2 : WData.weightAll ds ≤ 1048576 := z
    obtain ⟨A, h1, h2⟩ := area_all ds _ hall p fun d hd => Nat.le_trans (weight_mem hd) z2
    have k : ∀ b ∈ A, b ∈ a :: A := fun b hb => List.mem_cons_of_mem _ hb
    refine ⟨a :: A, List.mem_cons_self .., fun b hb => ?_⟩
    rcases List.mem_cons.mp hb with e | m
    · rw [e]
      exact ⟨vs, line_of (by rw [wellAll_len hall]; exact Nat.le_trans (PySem.W.length_le_weightAllW ds) z2), fun u hu => (h1 u hu).mono k, .inl ho⟩
    · exact (h2 b m).mono k
  | .tuple ds, _, x, p, z => by
    obtain ⟨a, vs, rfl, ho, hall⟩ := well_tuple x
    have z2 : WData.weightAll ds ≤ 1048576 := z
    obtain ⟨A, h1, h2⟩ := area_all ds _ hall p fun d hd => Nat.le_trans (weight_mem hd) z2
    have k : ∀ b ∈ A, b ∈ a :: A := fun b hb => List.mem_cons_of_mem _ hb
    refine ⟨a :: A, List.mem_cons_self .., fun b hb => ?_⟩
    rcases List.mem_cons.mp hb with e | m
    · rw [e]
      exact ⟨vs, line_of (by rw [wellAll_len hall]; exact Nat.le_trans (PySem.W.length_le_weightAllW ds) z2), fun u hu => (h1 u hu).mono k, .inr ho⟩
    · exact (h2 b m).mono k
  | .float _, _, _, p, _ => Bool.noConfusion (show false = true from p)
  | .dict _, _, _, p, _ => Bool.noConfusion (show false = true from p)
  | .bytearray _, _, _, p, _ => Bool.noConfusion (show false = true from p)
  | .set _, _, _, p, _ => Bool.noConfusion (show false = true from p)
  | .frozenset _, _, _, p, _ => Bool.noConfusion (show false = true from p)
  | .obj _ _, _, _, p, _ => Bool.noConfusion (show false = true from p)
theorem area_all : ∀ (ds : List WData) (vs : List Value), WellAll P h vs ds → plWs ds = true → (∀ d ∈ ds, d.weight ≤ 1048576) → ∃ A : List Addr, (∀ u ∈ vs, OkU A u) ∧ ∀ a ∈ A, ArgOb h A a
  | [], _, x, _, _ => by
    cases x
    exact ⟨[], fun u m => absurd m (by simp), fun a m => absurd m (by simp)⟩
  | d :: ds, _, x, p, z => by
    obtain ⟨v, vs, rfl, x1, x2⟩ := well_cons x
    have q : plW d = true ∧ plWs ds = true := Bool.and_eq_true_iff.mp p
    obtain ⟨A, a1, a2⟩ := area_one d v x1 q.1 (z d (List.mem_cons_self ..))
    obtain ⟨B, b1, b2⟩ := area_all ds vs x2 q.2 fun e he => z e (List.mem_cons_of_mem _ he)
    have kA : ∀ b ∈ A, b ∈ A ++ B := fun b hb => List.mem_append.mpr (.inl hb)
    have kB : ∀ b ∈ B, b ∈ A ++ B := fun b hb => List.mem_append.mpr (.inr hb)
    refine ⟨A ++ B, fun u hu => ?_, fun b hb => ?_⟩
    · rcases List.mem_cons.mp hu with e | m
      · rw [e]
        exact a1.mono kA
      · exact (b1 u m).mono kB
    · rcases List.mem_append.mp hb with m | m
      · exact (a2 b m).mono kA
      · exact (b2 b m).mono kB
end
end
/-- what is tracked of an argument's object -/
def hoOf (o : Obj) : Option HO := match o.data with
  | .seq vs _ => if (o.cls == Value.type "list") = true then some (.frz o (.lst (vs.toList.map toV))) else some (.frz o (.tup (vs.toList.map toV)))
  | _ => none
def argH (K : PySem.W.Frag) (h : Heap) (A : List Addr) : Hp := fun b => if b ∈ A then (if (K.lookup b).isNone = true then (h.get? b).bind hoOf else none) else none
/-- nothing is tracked but what is known to the object -/
def OnlyF (H : Hp) : Prop := ∀ b, H b = none ∨ ∃ o u, H b = some (.frz o u)
theorem hoOf_lst (vs : List Value) : hoOf { cls := .type "list", data := .seq vs.toArray } = some (.frz { cls := .type "list", data := .seq vs.toArray } (.lst (vs.map toV))) := by
  show (if (Value.type "list" == Value.type "list") = true then some (HO.frz { cls := .type "list", data := .seq vs.toArray } (.lst (vs.toArray.toList.map toV))) else some (HO.frz { cls := .type "list", data := .seq vs.toArray } (.tup (vs.toArray.toList.map toV)))) = _
  rw [if_pos (beq_self_eq_true _)]
theorem hoOf_tup (vs : List Value) : hoOf { cls := .type "tuple", data := .seq vs.toArray } = some (.frz { cls := .type "tuple", data := .seq vs.toArray } (.tup (vs.map toV))) := by
  show (if (Value.type "tuple" == Value.type "list") = true then some (HO.frz { cls := .type "tuple", data := .seq vs.toArray } (.lst (vs.toArray.toList.map toV))) else some (HO.frz { cls := .type "tuple", data := .seq vs.toArray } (.tup (vs.toArray.toList.map toV)))) = _
  rw [if_neg (by decide)]
section
variable {P : Program} {w : World} {K : PySem.W.Frag} {h : Heap} {A : List Addr}
theorem argH_at {b : Addr} {o : Obj} (hb : b ∈ A) (hk : K.lookup b = none) (e : h.get? b = some o) : argH K h A b = hoOf o := by
  unfold argH
  rw [if_pos hb, hk, if_pos (show (none : Option Obj).isNone = true from rfl), e] <;> rfl
theorem of_argH {b : Addr} {u : HO} (q : argH K h A b = some u) : b ∈ A ∧ K.lookup b = none := by
  unfold argH at q
  by_cases hb : b ∈ A
  · rw [if_pos hb] at q
    cases hk : K.lookup b with
    | none => exact ⟨hb, rfl⟩
    | some o =>
      rw [hk, if_neg (by simp)] at q
      cases q
  · rw [if_neg hb] at q
    cases q
/-- what stands tracked -/
theorem argH_is (ar : ∀ a ∈ A, ArgOb h A a) {b : Addr} {u : HO} (q : argH K h A b = some u) : K.lookup b = none ∧ ∃ vs : List Value, vs.length ≤ sizeLine ∧ (∀ u ∈ vs, OkU A u) ∧
    ((h.get? b = some { cls := .type "list", data := .seq vs.toArray } ∧ u = .frz { cls := .type "list", data := .seq vs.toArray } (.lst (vs.map toV))) ∨
     (h.get? b = some { cls := .type "tuple", data := .seq vs.toArray } ∧ u = .frz { cls := .type "tuple", data := .seq vs.toArray } (.tup (vs.map toV)))) := by
  obtain ⟨hb, hk⟩ := of_argH q
  obtain ⟨vs, h1, h2, h3⟩ := ar b hb
  refine ⟨hk, vs, h1, h2, ?_⟩
  rcases h3 with e | e
  · rw [argH_at hb hk e, hoOf_lst] at q
    exact .inl ⟨e, (Option.some.inj q).symm⟩
  · rw [argH_at hb hk e, hoOf_tup] at q
    exact .inr ⟨e, (Option.some.inj q).symm⟩
theorem argH_only (ar : ∀ a ∈ A, ArgOb h A a) : OnlyF (argH K h A) := fun b => by
  cases q : argH K h A b with
  | none => exact .inl rfl
  | some u =>
    obtain ⟨_, vs, _, _, ⟨_, e⟩ | ⟨_, e⟩⟩ := argH_is ar q
    · exact .inr ⟨_, _, by rw [e]⟩
    · exact .inr ⟨_, _, by rw [e]⟩
theorem argH_ok (ar : ∀ a ∈ A, ArgOb h A a) : HOk P w (argH K h A) h := fun b u q => by
  obtain ⟨_, vs, h1, h2, ⟨e, rfl⟩ | ⟨e, rfl⟩⟩ := argH_is ar q
  · exact ⟨e, by rw [List.length_map]; exact h1, vs, _, vals_toV h2, e⟩
  · exact ⟨e, by rw [List.length_map]; exact h1, vs, vals_toV h2, _, e, rfl, _, rfl⟩
theorem seq_inj {c c' : Value} {vs us : List Value} (e : (some { cls := c, data := .seq vs.toArray } : Option Obj) = some { cls := c', data := .seq us.toArray }) : c = c' ∧ vs = us := by
  have e1 := Option.some.inj e
  have e2 : c = c' := congrArg Obj.cls e1
  have e3 : Data.seq vs.toArray = Data.seq us.toArray := congrArg Obj.data e1
  injection e3 with e4
  refine ⟨e2, ?_⟩
  have e5 := congrArg Array.toList e4
  simpa using e5
/-- a list argument -/
theorem argL (KX : K.In h) (ar : ∀ a ∈ A, ArgOb h A a) {a : Addr} {vs : List Value} (ha : a ∈ A) (e : h.get? a = some { cls := .type "list", data := .seq vs.toArray }) : (∀ u ∈ vs, OkU A u) ∧ SqL K (argH K h A) a (vs.map toV) := by
  obtain ⟨us, h1, h2, h3⟩ := ar a ha
  have hu : us = vs := by
    rcases h3 with q | q
    · rw [e] at q
      exact (seq_inj q).2.symm
    · rw [e] at q
      exact absurd (Value.type.inj (seq_inj q).1) (by decide)
  subst hu
  refine ⟨h2, ?_⟩
  cases hk : K.lookup a with
  | none => exact .inl (.inr ⟨_, by rw [argH_at ha hk e, hoOf_lst]⟩)
  | some o =>
    have e2 := KX a o hk
    rw [e] at e2
    obtain rfl := Option.some.inj e2
    exact .inr ⟨_, us.toArray, _, hk, rfl, rfl, rfl, by rw [List.size_toArray]; exact h1, by simpa using vals_toV h2⟩
theorem argT (KX : K.In h) (ar : ∀ a ∈ A, ArgOb h A a) {a : Addr} {vs : List Value} (ha : a ∈ A) (e : h.get? a = some { cls := .type "tuple", data := .seq vs.toArray }) : (∀ u ∈ vs, OkU A u) ∧ SqT K (argH K h A) a (vs.map toV) := by
  obtain ⟨us, h1, h2, h3⟩ := ar a ha
  have hu : us = vs := by
    rcases h3 with q | q
    · rw [e] at q
      exact absurd (Value.type.inj (seq_inj q).1) (by decide)
    · rw [e] at q
      exact (seq_inj q).2.symm
  subst hu
  refine ⟨h2, ?_⟩
  cases hk : K.lookup a with
  | none => exact .inl (.inr ⟨_, by rw [argH_at ha hk e, hoOf_tup]⟩)
  | some o =>
    have e2 := KX a o hk
    rw [e] at e2
    obtain rfl := Option.some.inj e2
    exact .inr ⟨_, us.toArray, _, hk, rfl, rfl, by rw [List.size_toArray]; exact h1, by simpa using vals_toV h2⟩
mutual
theorem dw_one {Pm : Params} (KX : K.In h) (ar : ∀ a ∈ A, ArgOb h A a) : ∀ (d : WData) (v : Value), Well Pm h v d → plW d = true → OkU A v → Dw K (argH K h A) (toV v) d
  | .none, _, x, _, _ => by
    cases x
    exact .non
  | .bool b, _, x, _, _ => by
    cases x
    exact .bl b
  | .int i, _, x, _, _ => by
    cases x
    exact .int i
  | .str s, _, x, _, _ => by
    cases x
    exact .str s
  | .bytes b, _, x, _, _ => by
    cases x
    have z := Dw.byt (K := K) (H := argH K h A) b.toArray
    exact z
  | .list ds, _, x, p, hu => by
    obtain ⟨a, vs, rfl, ho, hall⟩ := well_list x
    obtain ⟨h2, hs⟩ := argL KX ar hu ho
    exact .lst hs (dw_all KX ar ds _ hall p h2)
  | .tuple ds, _, x, p, hu => by
    obtain ⟨a, vs, rfl, ho, hall⟩ := well_tuple x
    obtain ⟨h2, hs⟩ := argT KX ar hu ho
    exact .tup hs (dw_all KX ar ds _ hall p h2)
  | .float _, _, _, p, _ => Bool.noConfusion (show false = true from p)
  | .dict _, _, _, p, _ => Bool.noConfusion (show false = true from p)
  | .bytearray _, _, _, p, _ => Bool.noConfusion (show false = true from p)
  | .set _, _, _, p, _ => Bool.noConfusion (show false = true from p)
  | .frozenset _, _, _, p, _ => Bool.noConfusion (show false = true from p)
  | .obj _ _, _, _, p, _ => Bool.noConfusion (show false = true from p)
theorem dw_all {Pm : Params} (KX : K.In h) (ar : ∀ a ∈ A, ArgOb h A a) : ∀ (ds : List WData) (vs : List Value), WellAll Pm h vs ds → plWs ds = true → (∀ u ∈ vs, OkU A u) → DwAll K (argH K h A) (vs.map toV) ds
  | [], _, x, _, _ => by
    cases x
    exact .nil
  | d :: ds, _, x, p, hu => by
    obtain ⟨v, vs, rfl, x1, x2⟩ := well_cons x
    have q : plW d = true ∧ plWs ds = true := Bool.and_eq_true_iff.mp p
    exact .cons (dw_one KX ar d v x1 q.1 (hu _ (List.mem_cons_self ..))) (dw_all KX ar ds vs x2 q.2 fun u m => hu u (List.mem_cons_of_mem _ m))
end
end
/-! ### the call -/
theorem spec_call {P : Program} {w : World} {K : PySem.W.Frag} {mg mb : Str → Option Value} {CX : CXT} {k : Nat} {fa : Addr} {fd : FuncData} {ps : List Str} {sp : Sp} {s₁ : Shared} {vals : List Value} {ds : List WData} {R : PySem.W.WRecords} {cl : Str → Option Addr} {d0 : WData}
    (KX : K.In s₁.heap) (hns : s₁.heap.Ns mainGlobals mg) (hb : s₁.heap.Ns builtinsNs mb) (hbb : ∀ x : Str, x ≠ "__name__" → mb x = bootBuiltins x) (hlim : s₁.heap.NoLimit) (hg : s₁.gens = #[])
    (hwl : WellAll w.params s₁.heap vals ds) (hpl : plWs ds = true) (hwt : ∀ d ∈ ds, d.weight ≤ 1048576) (hr : Room k callerA)
    (F : ∀ base : Heap, K.In base → base.Ns mainGlobals mg → FnOk P w K mg base CX k fa fd ps sp) (hbind : ∀ (s : Shared) (us : List Value), us.length = ps.length → BindsTo s fd ⟨us, []⟩ (ps.zip us)) (hlen : ds.length = ps.length)
    (hsp : ∀ (H : Hp) (xs : List V), OnlyF H → DwAll K H xs ds → sp xs H (fun v H' => Dw K H' v d0) fun _ _ _ => False)
    (hCX : ∀ H e s', CX [] H s₁ (fun _ _ _ => False) e s' → False) :
    codeAny (model P w) callerA (.call (.ref fa) ⟨vals, []⟩) (fun r s' => ∃ u as, r = .ok (.ret u) ∧ ReadsW R cl s'.heap u d0 as ∧ OldK s₁.heap s'.heap ∧ s'.os = s₁.os ∧ AllBare s'.gens) s₁ := by
  obtain ⟨A, ho, ar⟩ := area_all ds vals hwl hpl hwt
  have hO : OnlyF (argH K s₁.heap A) := argH_only ar
  have hok : HOk P w (argH K s₁.heap A) s₁.heap := argH_ok ar
  have hS := dw_all KX ar ds vals hwl hpl ho
  have hV := vals_toV ho
  have hK : ∀ b u, argH K s₁.heap A b = some u → K.lookup b = none := fun b u q => (argH_is ar q).1
  have noA : ∀ {b : Addr} {o : Obj} {es : Array DictEntry} {ep : Nat}, s₁.heap.get? b = some o → o.data = .dict es ep → argH K s₁.heap A b = none := fun {b o es ep} e d => by
    cases q : argH K s₁.heap A b with
    | none => rfl
    | some u =>
      obtain ⟨_, vs, _, _, ⟨e2, _⟩ | ⟨e2, _⟩⟩ := argH_is ar q
      · rw [e2] at e
        cases e
        have d' : Data.seq vs.toArray _ = Data.dict es ep := d
        cases d'
      · rw [e2] at e
        cases e
        have d' : Data.seq vs.toArray _ = Data.dict es ep := d
        cases d'
  generalize argH K s₁.heap A = H at hO hok hS hK noA
  have base_of : ∀ {b : Addr} {o : Obj}, s₁.heap.get? b = some o → H b = none → (hidT s₁.heap H).get? b = some o := fun e n => hidT_get e n
  have nsK : ∀ {b : Addr} {m : Str → Option Value}, s₁.heap.Ns b m → (hidT s₁.heap H).Ns b m := fun {b m} ⟨o, es, ep, e, d, r⟩ => ⟨o, es, ep, base_of e (noA e d), d, r⟩
  have nK : ∀ b o, K.lookup b = some o → H b = none := fun b o e => by
    cases q : H b with
    | none => rfl
    | some u =>
      rw [hK b u q] at e
      cases e
  have hKb : K.In (hidT s₁.heap H) := fun b o e => base_of (KX b o e) (nK b o e)
  have hM : Mod K mg (hidT s₁.heap H) := ⟨hKb, nsK hns, ⟨mb, nsK hb, hbb⟩, let ⟨mc, h1, h2⟩ := hlim; ⟨mc, nsK h1, h2⟩⟩
  have e0 : Env0 P w K mg (hidT s₁.heap H) callerA [] s₁ H := ⟨rfl, hM, fun b o e => of_hidT e, Nat.le_of_eq (hidT_size _ _), trivial, fun b hb => absurd (show b ∈ ([] : List Addr) from hb) (by simp), hok, .of_eq hg⟩
  have hl : vals.length = ps.length := by rw [wellAll_len hwl]; exact hlen
  refine codeAny_mono ((F _ hKb (nsK hns)).run callerA [] s₁ H ⟨vals, []⟩ vals (vals.map toV) _ _ hr e0 (hbind s₁ vals hl) hV (hsp H _ hO hS)) fun r s' x => ?_
  cases r with
  | error e => exact (hCX H e s' x).elim
  | ok fl =>
    cases fl with
    | next => exact False.elim x
    | brk => exact False.elim x
    | cont => exact False.elim x
    | ret u =>
      obtain ⟨v, H', os, bare, un, hok', r', q⟩ := x
      have kept : ∀ b o, s₁.heap.get? b = some o → s'.heap.get? b = some o := fun b o e => by
        cases q2 : H b with
        | none => exact un.keep b o e q2 (by intro z; exact absurd (show b ∈ ([] : List Addr) from z) (by simp)) (by simp)
        | some u2 =>
          rcases hO b with z | ⟨ob, u3, z⟩
          · rw [q2] at z
            cases z
          · have z2 := un.frzs b ob _ z
            obtain ⟨e1, _⟩ := hok b _ z
            obtain ⟨e2, _⟩ := hok' b _ z2
            rw [e] at e1
            cases e1
            exact e2
      have KX' : K.In s'.heap := fun b o e => kept b o (KX b o e)
      obtain ⟨as, hrd⟩ := Dw.reads (R := R) (cl := cl) hok' KX' d0 v u q r'
      exact ⟨u, as, rfl, hrd, OldK.of_keep kept, os, bare⟩
/-! ### the row -/
theorem layable_weight {ds : List WData} (h : WData.layableAll ds = true) : ∀ d ∈ ds, d.weight ≤ 1048576 := fun d hd =>
  (PySem.W.layableW_iff.mp (List.all_eq_true.mp h d hd)).2.2
theorem encAll_len : ∀ (cs : List Codec) (a : Codec.denoteAll cs), (Codec.encAll cs a).length = cs.length
  | [], _ => rfl
  | c :: cs, a => by
    show (Codec.encAll cs a.2).length + 1 = cs.length + 1
    rw [encAll_len cs a.2]
/-- the goal that k_headS leaves (case hc), from the promise of the row's def: whatever the arguments that the codecs let and the row asks for, the def gives what stands for enc (f ..) -/
theorem walk_spec {r : OpenSpec} {k : Nat} {q : Program} {loose : List Str} {XP : (Str → Option Value) → Heap → Prop} {YP : World → Heap → Prop} {d : DefRec} {K : Params → PySem.W.Frag} {CX : World → CXT} {ps : List Str} {sp : World → Sp}
    (hwell : r.wellSaid = true) (hdf : d.params.defaults = []) (hlen : r.args.length = ps.length) (hr : Room k callerA)
    (hY : ∀ (w : World) (h : Heap), YP w h → (K w.params).In h)
    (F : ∀ (w : World) (mg : Str → Option Value) (fa : Addr) (h : Heap), YP w h → (K w.params).In h → h.Ns mainGlobals mg → mg d.name = some (.ref fa) →
      ∃ fd : FuncData, (∀ (s : Shared) (us : List Value), us.length = ps.length → BindsTo s fd ⟨us, []⟩ (ps.zip us)) ∧
        ∀ base : Heap, (K w.params).In base → base.Ns mainGlobals mg → FnOk r.prog w (K w.params) mg base (CX w) k fa fd ps (sp w))
    (hsp : ∀ (w : World) (H : Hp) (xs : List V) (a : Codec.denoteAll r.args), OnlyF H → Codec.withinAll r.args a = true → Codec.app r.args r.asked a = true → DwAll (K w.params) H xs (Codec.encAll r.args a) →
      sp w xs H (fun v H' => Dw (K w.params) H' v (r.ret.enc (Codec.app r.args r.f a))) fun _ _ _ => False)
    (hCX : ∀ (w : World) (H : Hp) (s : Shared) (e : Value) (s' : Shared), CX w [] H s (fun _ _ _ => False) e s' → False) :
    PySem.W.WalkOS q loose XP YP r d [] (fun f vs => PySem.call f vs) := by
  intro w s_0 s₁ mg mb G Y fa o pm cd doc dV kV ho hd hcd hD hmg hg args vals as hpre hlay hrd hwl hlo
  obtain ⟨a, e1, e2⟩ := PySem.W.os_pre_some hpre
  obtain ⟨e3, hwi⟩ := Codec.encAll_of_decAll r.args args a e1
  subst e3
  have KX := hY w _ Y
  obtain ⟨fd, hb, hF⟩ := F w mg fa _ Y KX G.T.g hmg
  refine PySem.W.enter_call (codeAny_mono (spec_call (R := []) (cl := classAt s_0.heap) (d0 := r.ret.enc (Codec.app r.args r.f a)) KX G.T.g G.T.b G.T.builtins G.T.nolimit hg hwl (pl_encAll _ _) (layable_weight hlay) hr hF hb (by rw [encAll_len]; exact hlen)
    (fun H xs hO hS => hsp w H xs a hO hwi e2 hS) fun H e s' => hCX w H s₁ e s') fun r' s' hq => ?_)
  obtain ⟨u, as', rfl, h1, h2, h3, h4⟩ := hq
  exact ⟨.inl ⟨u, _, as', rfl, fun _ => rfl, h1, (OpenSpec.post_iff hwell hwi _ _).mpr rfl, fun z => Bool.noConfusion (show false = true from z)⟩, h2, h3, h4⟩
/-- the same where the promise hangs on the written part alone -/
theorem walk_specK {r : OpenSpec} {k : Nat} {q : Program} {loose : List Str} {XP : (Str → Option Value) → Heap → Prop} {YP : World → Heap → Prop} {d : DefRec} {K : Params → PySem.W.Frag} {CX : CXT} {ps : List Str} {sp : PySem.W.Frag → Sp}
    (hwell : r.wellSaid = true) (hdf : d.params.defaults = []) (hlen : r.args.length = ps.length) (hr : Room k callerA)
    (hY : ∀ (w : World) (h : Heap), YP w h → (K w.params).In h)
    (F : ∀ (w : World) (mg : Str → Option Value) (fa : Addr) (h : Heap), YP w h → (K w.params).In h → h.Ns mainGlobals mg → mg d.name = some (.ref fa) →
      ∃ fd : FuncData, (∀ (s : Shared) (us : List Value), us.length = ps.length → BindsTo s fd ⟨us, []⟩ (ps.zip us)) ∧
        ∀ base : Heap, (K w.params).In base → base.Ns mainGlobals mg → FnOk r.prog w (K w.params) mg base CX k fa fd ps (sp (K w.params)))
    (hsp : ∀ (K : PySem.W.Frag) (H : Hp) (xs : List V) (a : Codec.denoteAll r.args), OnlyF H → Codec.withinAll r.args a = true → Codec.app r.args r.asked a = true → DwAll K H xs (Codec.encAll r.args a) →
      sp K xs H (fun v H' => Dw K H' v (r.ret.enc (Codec.app r.args r.f a))) fun _ _ _ => False)
    (hCX : ∀ (H : Hp) (s : Shared) (e : Value) (s' : Shared), CX [] H s (fun _ _ _ => False) e s' → False) :
    PySem.W.WalkOS q loose XP YP r d [] (fun f vs => PySem.call f vs) :=
  walk_spec (K := K) (CX := fun _ => CX) (sp := fun w => sp (K w.params)) hwell hdf hlen hr hY F (fun w H xs a h1 h2 h3 h4 => hsp (K w.params) H xs a h1 h2 h3 h4) fun _ H s e s' => hCX H s e s'
end L2
-- rests on (row put in by the clerk, for the bench that shows a file only what it spells): KE.SpHead KE.OsShapes
end

set_option Elab.async false
set_option linter.all false
set_option maxRecDepth 100000
/-! Own rules over the layer: a module's whole numbers, lists of whole numbers. -/
namespace Wl
open PySem PySem.Spec PyProof.Rows L2
section
variable {X : Cx}
def GI (mg : Str → Option Value) (x : Str) (n : Int) : Prop := ∃ t, mg x = some (Value.int n t)
theorem pe_gi {x : Str} {n : Int} {pos : Pos} (hg : Gl X x) (h : GI X.mg x n) (hd : (x == ("__debug__" : Str)) = false := by decide) : PE X (.Name x pos) (tC (.int n)) := by
  obtain ⟨t, h⟩ := h
  exact pe_glob hg h ⟨t, rfl⟩ hd
theorem atI_map {ns : List Int} {i v : Int} (h : atI ns i = some v) : atI (ns.map V.int) i = some (V.int v) := by
  unfold atI at h ⊢
  rw [List.length_map]
  cases e : ixN ns.length i with
  | none =>
    rw [e] at h
    cases h
  | some j =>
    rw [e] at h
    show (ns.map V.int)[j]? = _
    have q : ns[j]? = some v := h
    rw [List.getElem?_map, q]
    rfl
/-- len of a list of whole numbers -/
def rLenI (K : PySem.W.Frag) (ns : List Int) : List V → Hp → VK → Prop := fun xs H Q => ∃ p, xs = [V.ref p] ∧ SqL K H p (ns.map V.int) ∧ Q (.int ns.length) H
theorem len_ints (ns : List Int) : CallR X (.builtin "len") (rLenI X.K ns) := by
  intro pins s σ H xs us Q I r h
  obtain ⟨p, rfl, hq, q⟩ := h
  refine call_len_seq pins s σ H _ us Q I r ⟨p, _, rfl, .inl hq, ?_⟩
  rw [List.length_map]
  exact q
/-- an item of one -/
def rIxI (K : PySem.W.Frag) (ns : List Int) : R2 := fun x y H Q => ∃ p i, x = V.ref p ∧ y = V.int i ∧ SqL K H p (ns.map V.int) ∧ ∃ v, atI ns i = some v ∧ Q (.int v) H
theorem ix_ints (ns : List Int) : IxR X (rIxI X.K ns) := by
  intro value slice pins s σ H x y v u Q I rx ry h hs
  obtain ⟨p, i, rfl, rfl, hq, w, hw, q⟩ := h
  exact ix_list value slice pins s σ H _ _ v u Q I rx ry ⟨p, _, i, _, rfl, rfl, hq, atI_map hw, q⟩ hs
/-- how often an int stands in a list of whole numbers -/
def rCountI (K : PySem.W.Frag) : V → List V → Hp → VK → Prop := fun x xs H Q => ∃ (p : Addr) (k : Int) (ns : List Int), x = V.ref p ∧ xs = [V.int k] ∧ SqL K H p (ns.map V.int) ∧ Q (.int (ns.count k : Nat)) H
theorem mt_countI : MtR X "list.count" (rCountI X.K) := by
  intro pins s σ H x xs v us Q I rx rxs h
  obtain ⟨p, k, ns, rfl, rfl, hs, q⟩ := h
  cases rx
  obtain ⟨u, rfl, ru⟩ := rxs.one
  obtain ⟨t, rfl⟩ := ru
  obtain ⟨its, rv, hl, _⟩ := I.list hs
  exact count_list_ints hl.isList (Vals.ints rv) ⟨.int _, H, I.tok _, ⟨_, rfl⟩, q⟩
theorem tyV_list {K : PySem.W.Frag} {H : Hp} {p : Addr} {xs : List V} (h : SqL K H p xs) : tyV K "list" (.ref p) H := .inl ⟨rfl, xs, h⟩
theorem atI_eq {α : Type} (ns : List α) (s : Nat) : atI ns (s : Int) = ns[s]? := by
  unfold atI ixN
  rw [if_pos (by omega)]
  by_cases h : s < ns.length
  · rw [if_pos (by omega)]
    simp
  · rw [if_neg (by omega), List.getElem?_eq_none (by omega)]
    rfl
theorem atI_last' {α : Type} {ns : List α} {v : α} (h : ns.getLast? = some v) : atI ns (-1) = some v := by
  obtain ⟨ys, rfl⟩ := List.getLast?_eq_some_iff.mp h
  exact atI_last ys v
end
/-! ### a def of the text: where it stands; what it promises -/
structure FnAt (K : PySem.W.Frag) (mg : Str → Option Value) (x : Str) (st : Stmt) : Prop where
  ex : ∃ (f : Addr) (fd : FuncData), mg x = some (.ref f) ∧ Fun K x x st f fd
theorem fn_at {K : PySem.W.Frag} {h : Heap} {mg : Str → Option Value} {x : Str} {st : Stmt} {f : Addr} {oc : Value} {od an : Option Addr} {osl : Array (Option Value)} {kV doc pm cdv ct : Value} (X : K.In h) (G : h.Ns mainGlobals mg)
    (a : PySem.W.nsIn K mainGlobals x = some (some (.ref f))) (l : K.lookup f = some ⟨oc, od, .func (PySem.W.fnOf x x (defArgs st) (defBody st) (defScope st) .none kV doc pm an cdv ct), osl⟩)
    (c : PySem.W.codeIn K cdv x = true) (k : PySem.W.keepIn K (.ref f) = true) : FnAt K mg x st := ⟨⟨f, _, PySem.W.mg_of X G a, fun_mk l c k⟩⟩
theorem gi_at {K : PySem.W.Frag} {h : Heap} {mg : Str → Option Value} {x : Str} {n : Int} {t : Tok} (X : K.In h) (G : h.Ns mainGlobals mg) (a : PySem.W.nsIn K mainGlobals x = some (some (.int n t))) : GI mg x n := ⟨t, PySem.W.mg_of X G a⟩
theorem _root_.L2.Fun.bindsTo {K : PySem.W.Frag} {x qual : Str} {st : Stmt} {f : Addr} {fd : FuncData} {ps : List Str} (F : Fun K x qual st f fd)
    (h : ∀ (kV doc pm : Value) (an : Option Addr) (cdv ct : Value) (us : List Value), us.length = ps.length → bindArgs (PySem.W.fnOf x qual (defArgs st) (defBody st) (defScope st) .none kV doc pm an cdv ct) ⟨us, []⟩ = pure (ps.zip us))
    (s : Shared) (us : List Value) (hl : us.length = ps.length) : BindsTo s fd ⟨us, []⟩ (ps.zip us) := by
  obtain ⟨oc, od, kV, doc, pm, an, cdv, ct, osl, rfl, lk, hcd⟩ := F.ex
  exact .of_eq (h kV doc pm an cdv ct us hl)
structure Ok (P : Program) (w : World) (K : PySem.W.Frag) (mg : Str → Option Value) (base : Heap) (k : Nat) (x : Str) (ps : List Str) (sp : Sp) : Prop where
  ex : ∃ (f : Addr) (fd : FuncData), mg x = some (.ref f) ∧ PySem.W.keepIn K (.ref f) = true ∧ Binds K fd ps [] ∧ FnOk P w K mg base CX0 k f fd ps sp
section
variable {P : Program} {w : World} {K : PySem.W.Frag} {mg : Str → Option Value} {base : Heap}
theorem FnAt.ok {x : Str} {st : Stmt} {N ps : List Str} {k : Nat} {sp : Sp} (F : FnAt K mg x st) (S : FnScope N ps (defScope st))
    (bd : ∀ (kV doc pm : Value) (an : Option Addr) (cdv ct : Value) (us : List Value), us.length = ps.length → bindArgs (PySem.W.fnOf x x (defArgs st) (defBody st) (defScope st) .none kV doc pm an cdv ct) ⟨us, []⟩ = pure (ps.zip us))
    (len : ∀ vs H Q E, sp vs H Q E → vs.length = ps.length)
    (hbody : ∀ (f : Addr) (cdv : Value) (A : Around) (outer : List Env) (s : Shared) (H : Hp) (vs : List V) (Q : VK) (E : XK), Room k (A.deeper (envOfC x (defScope st) s.heap.objs.size f cdv)) → sp vs H Q E →
      ∃ t, PSs (cxOf CX0 P w K mg base N x (defScope st) f cdv A outer s H E).nox (defBody st) t ∧ t { nx := fun _ H' => Q .non H', rt := Q } (start N vs) H) : Ok P w K mg base (k + 1) x ps sp := by
  obtain ⟨f, fd, hm, hf⟩ := F.ex
  exact ⟨f, fd, hm, hf.kp, hf.binds bd, hf.ok S len fun cdv A outer s H vs Q E => hbody f cdv A outer s H vs Q E⟩
theorem Ok.mono {j k : Nat} {x : Str} {ps : List Str} {sp : Sp} (C : Ok P w K mg base j x ps sp) (h : j ≤ k) : Ok P w K mg base k x ps sp := by
  obtain ⟨f, fd, h1, h2, h3, h4⟩ := C.ex
  exact ⟨f, fd, h1, h2, h3, h4.mono h⟩
end
theorem pe_fn {X : Cx} {k : Nat} {x : Str} {ps : List Str} {sp : Sp} {e : Expr} {es : List Expr} {t : TA} {p pos : Pos} (C : Ok X.prog X.w X.K X.mg X.base k x ps sp) (hr : Room k X.A) (hg : Gl X x) (ha : PA X (e :: es) t)
    (hdb : (x == ("__debug__" : Str)) = false := by decide) (he : starEach (e :: es) X.env = (false, eval e X.env) :: starEach es X.env := by rfl) (hpl : (backTo pos (starEach es X.env)).any (·.1) = false := by rfl) :
    PE X (.Call (.Name x p) (e :: es) [] pos) (tCall sp [] E0 t) := by
  obtain ⟨f, fd, hm, hk, hb, F⟩ := C.ex
  exact pe_call F hr hg hm hk hb .nil pass0 ha hdb he hpl
/-! ### readings -/
theorem pt_w {X : Cx} {e : Expr} {t : TT} (h : PW X e t) : PT X e t := h.pt
theorem cx_K {CX : CXT} {P : Program} {w : World} {K : PySem.W.Frag} {mg : Str → Option Value} {base : Heap} {N : List Str} {x : Str} {sc : Scope} {f : Addr} {cd : Value} {A : Around} {outer : List Env} {s : Shared} {H : Hp} {E : XK} :
    (cxOf CX P w K mg base N x sc f cd A outer s H E).K = K := rfl
theorem cx_nox {CX : CXT} {P : Program} {w : World} {K : PySem.W.Frag} {mg : Str → Option Value} {base : Heap} {N : List Str} {x : Str} {sc : Scope} {f : Addr} {cd : Value} {A : Around} {outer : List Env} {s : Shared} {H : Hp} {E : XK} :
    (cxOf CX P w K mg base N x sc f cd A outer s H E).nox.K = K := rfl
end Wl

set_option Elab.async false
set_option linter.all false
set_option maxRecDepth 100000
/-! Own rules, second part: heaps without one list under way, walks, classes. -/
namespace Wl
open PySem PySem.Spec PyProof.Rows L2
/-! ### heaps -/
theorem same_new {H : Hp} {p : Addr} {o : HO} (h : H p = none) : Same H (upd H p o) := fun b u e => by
  rw [upd_ne (ne_of_none e h)]
  exact e
theorem same_upd {H H1 : Hp} {p : Addr} {o : HO} (h : H p = none) (s : Same H H1) : Same H (upd H1 p o) := fun b u e => by
  rw [upd_ne (ne_of_none e h)]
  exact s b u e
/-- the heap without what stands at D -/
def off (D : Addr) (H : Hp) : Hp := fun b => if b = D then none else H b
theorem off_same (D : Addr) (H : Hp) : Same (off D H) H := fun b o e => by
  unfold off at e
  by_cases h : b = D
  · rw [if_pos h] at e
    cases e
  · rw [if_neg h] at e
    exact e
theorem off_upd (D : Addr) (H : Hp) (o : HO) : off D (upd H D o) = off D H := by
  funext b
  unfold off
  by_cases h : b = D
  · rw [if_pos h, if_pos h]
  · rw [if_neg h, if_neg h, upd_ne h]
theorem off_at {D b : Addr} {H : Hp} (h : b ≠ D) : off D H b = H b := if_neg h
theorem off_free {D : Addr} {H : Hp} (h : H D = none) : off D H = H := by
  funext b
  unfold off
  by_cases e : b = D
  · rw [if_pos e, e, h]
  · rw [if_neg e]
theorem Same.off {D : Addr} {H H' : Hp} (s : Same H H') : Same (off D H) (Wl.off D H') := fun b o e => by
  have hb : b ≠ D := fun q => by
    unfold Wl.off at e
    rw [if_pos q] at e
    cases e
  rw [off_at hb] at e ⊢
  exact s b o e
theorem Same.into {D : Addr} {H H' : Hp} (h : H D = none) (s : Same H H') : Same H (Wl.off D H') := fun b o e => by
  rw [off_at (ne_of_none e h)]
  exact s b o e
theorem small {n : Nat} (h : n < 16777216) : n < sizeLine := by
  rw [sizeLine_eq]
  exact h
/-! ### Ok from the address form -/
section
variable {P : Program} {w : World} {K : PySem.W.Frag} {mg : Str → Option Value} {base : Heap}
theorem Ok.of {x : Str} {st : Stmt} {ps : List Str} {k : Nat} {sp : Sp} (F : FnAt K mg x st)
    (bd : ∀ (kV doc pm : Value) (an : Option Addr) (cdv ct : Value) (us : List Value), us.length = ps.length → bindArgs (PySem.W.fnOf x x (defArgs st) (defBody st) (defScope st) .none kV doc pm an cdv ct) ⟨us, []⟩ = pure (ps.zip us))
    (h : ∀ f fd, Fun K x x st f fd → FnOk P w K mg base CX0 k f fd ps sp) : Ok P w K mg base k x ps sp := by
  obtain ⟨f, fd, hm, hf⟩ := F.ex
  exact ⟨f, fd, hm, hf.kp, hf.binds bd, h f fd hf⟩
end
/-! ### walks -/
section
variable {K : PySem.W.Frag} {a : Addr} {xs : List V}
/-- for i, x in enumerate(list), the list left as it is -/
theorem for_enum {g : TG} {tb : TS} {D : Ends} {σ : L2.St} {H : Hp} (Pv : Nat → L2.St → Hp → Prop) (h0 : Pv 0 σ H) (hl : ∀ i σ H, i ≤ xs.length → Pv i σ H → SqL K H a xs)
    (hs : ∀ i x σ H T, xs[i]? = some x → Pv i σ H → H T = none → g (.ref T) σ (upd H T (.tup [.int (i : Nat), x])) fun σ2 H2 => tb { D with nx := Pv (i + 1), ct := Pv (i + 1), bk := D.nx } σ2 H2) (hd : ∀ σ H, Pv xs.length σ H → D.nx σ H) :
    ∃ W : Nat → Nat → L2.St → Hp → Prop, (∃ m, W 0 m σ H) ∧ ∀ i m σ H, W i m σ H →
      ((Ite K a).stop i H ∧ D.nx σ H) ∨ ((Ite K a).go i H ∧ ∃ N : L2.St → Hp → Prop, (∀ σ' H', N σ' H' → ∃ m', m' < m ∧ W (i + 1) m' σ' H') ∧ ∀ x H', (Ite K a).yld i H x H' → g x σ H' fun σ2 H2 => tb { D with nx := N, ct := N, bk := D.nx } σ2 H2) := by
  refine ⟨fun i m σ H => m = xs.length - i ∧ i ≤ xs.length ∧ Pv i σ H, ⟨xs.length, by simp, Nat.zero_le _, h0⟩, ?_⟩
  rintro i m σ H ⟨rfl, hi, p⟩
  have q := hl i σ H hi p
  by_cases hlt : i < xs.length
  · refine .inr ⟨⟨xs, xs[i], q, by simp [hlt]⟩, Pv (i + 1), fun σ' H' p' => ⟨xs.length - (i + 1), by omega, rfl, hlt, p'⟩, fun x H' y => ?_⟩
    obtain ⟨T, z, rfl, hT, rfl, hz⟩ := y
    exact hs i z σ H T (hz xs q) p hT
  · have e : i = xs.length := by omega
    subst e
    exact .inl ⟨⟨xs, q, Nat.le_refl _⟩, hd σ H p⟩
/-- what a turn of a comprehension reaches: the list under way and what is true without it -/
def LcN (H1 : Hp) (D : Addr) (P : Nat → List V → Hp → Prop) (i : Nat) (H : Hp) : Prop := ∃ acc, H D = some (.lst acc) ∧ Same H1 H ∧ P i acc (off D H)
theorem LcN.put {H1 H H4 : Hp} {D : Addr} {P : Nat → List V → Hp → Prop} {i : Nat} {acc : List V} {y : V} (hD : H1 D = none) (h1 : Same H1 H) (hH : H D = some (.lst acc)) (h4 : Same H H4) (hl : acc.length < 16777216) (p : P i (acc ++ [y]) (off D H4)) :
    ∃ acc, H4 D = some (.lst acc) ∧ acc.length < sizeLine ∧ LcN H1 D P i (upd H4 D (.lst (acc ++ [y]))) :=
  ⟨acc, h4 _ _ hH, small hl, _, upd_same, same_upd hD (h1.trans h4), by rw [off_upd]; exact p⟩
theorem LcN.skip {H1 H H3 : Hp} {D : Addr} {P : Nat → List V → Hp → Prop} {i : Nat} {acc : List V} (h1 : Same H1 H) (hH : H D = some (.lst acc)) (h3 : Same H H3) (p : P i acc (off D H3)) : LcN H1 D P i H3 :=
  ⟨acc, h3 _ _ hH, h1.trans h3, p⟩
variable {g : TG} {tt : TT} {te : TE} {vs : List Nat} {σ : L2.St} {H1 : Hp} {D : Addr} {Qd : Hp → Prop}
/-- [.. for x in list if ..] -/
theorem lcl (P : Nat → List V → Hp → Prop) (hD : H1 D = none) (hS : SqL K H1 a xs) (h0 : P 0 [] H1)
    (step : ∀ i x acc H, xs[i]? = some x → Same H1 H → H D = some (.lst acc) → P i acc (off D H) → g x (wipe σ vs) H fun σ2 H2 => wipe σ2 vs = wipe σ vs ∧ tt σ2 H2 fun b H3 =>
      if b = true then te σ2 H3 fun y H4 => ∃ acc, H4 D = some (.lst acc) ∧ acc.length < sizeLine ∧ LcN H1 D P (i + 1) (upd H4 D (.lst (acc ++ [y]))) else LcN H1 D P (i + 1) H3)
    (done : ∀ acc H, Same H1 H → H D = some (.lst acc) → P xs.length acc (off D H) → Qd H) :
    ∃ W : Nat → Nat → Hp → Prop, (∃ m, W 0 m (upd H1 D (.lst []))) ∧ ∀ i m H, W i m H →
      ((Itl K a).stop i H ∧ Qd H) ∨ ((Itl K a).go i H ∧ ∃ Nx : Hp → Prop, (∀ H', Nx H' → ∃ m', m' < m ∧ W (i + 1) m' H') ∧ ∀ x H', (Itl K a).yld i H x H' → g x (wipe σ vs) H' fun σ2 H2 => wipe σ2 vs = wipe σ vs ∧ tt σ2 H2 fun b H3 =>
        if b = true then te σ2 H3 fun y H4 => ∃ acc, H4 D = some (.lst acc) ∧ acc.length < sizeLine ∧ Nx (upd H4 D (.lst (acc ++ [y]))) else Nx H3) := by
  refine ⟨fun i m H => m = xs.length - i ∧ i ≤ xs.length ∧ LcN H1 D P i H, ⟨xs.length, by simp, Nat.zero_le _, [], upd_same, same_new hD, by rw [off_upd, off_free hD]; exact h0⟩, ?_⟩
  rintro i m H ⟨rfl, hi, acc, hH, hs, p⟩
  have q := hs.seq hS
  by_cases hlt : i < xs.length
  · refine .inr ⟨⟨xs, xs[i], q, by simp [hlt]⟩, LcN H1 D P (i + 1), fun H' p' => ⟨xs.length - (i + 1), by omega, rfl, hlt, p'⟩, fun x H' y => ?_⟩
    obtain ⟨e, y⟩ := y
    subst e
    exact step i x acc H' (y xs q) hs hH p
  · have e : i = xs.length := by omega
    subst e
    exact .inl ⟨⟨xs, q, Nat.le_refl _⟩, done acc H hs hH p⟩
/-- [.. for i, x in enumerate(list) if ..] -/
theorem lce (P : Nat → List V → Hp → Prop) (hD : H1 D = none) (hS : SqL K H1 a xs) (h0 : P 0 [] H1)
    (step : ∀ i x acc H T, xs[i]? = some x → Same H1 H → H D = some (.lst acc) → P i acc (off D H) → H T = none → g (.ref T) (wipe σ vs) (upd H T (.tup [.int (i : Nat), x])) fun σ2 H2 => wipe σ2 vs = wipe σ vs ∧ tt σ2 H2 fun b H3 =>
      if b = true then te σ2 H3 fun y H4 => ∃ acc, H4 D = some (.lst acc) ∧ acc.length < sizeLine ∧ LcN H1 D P (i + 1) (upd H4 D (.lst (acc ++ [y]))) else LcN H1 D P (i + 1) H3)
    (done : ∀ acc H, Same H1 H → H D = some (.lst acc) → P xs.length acc (off D H) → Qd H) :
    ∃ W : Nat → Nat → Hp → Prop, (∃ m, W 0 m (upd H1 D (.lst []))) ∧ ∀ i m H, W i m H →
      ((Ite K a).stop i H ∧ Qd H) ∨ ((Ite K a).go i H ∧ ∃ Nx : Hp → Prop, (∀ H', Nx H' → ∃ m', m' < m ∧ W (i + 1) m' H') ∧ ∀ x H', (Ite K a).yld i H x H' → g x (wipe σ vs) H' fun σ2 H2 => wipe σ2 vs = wipe σ vs ∧ tt σ2 H2 fun b H3 =>
        if b = true then te σ2 H3 fun y H4 => ∃ acc, H4 D = some (.lst acc) ∧ acc.length < sizeLine ∧ Nx (upd H4 D (.lst (acc ++ [y]))) else Nx H3) := by
  refine ⟨fun i m H => m = xs.length - i ∧ i ≤ xs.length ∧ LcN H1 D P i H, ⟨xs.length, by simp, Nat.zero_le _, [], upd_same, same_new hD, by rw [off_upd, off_free hD]; exact h0⟩, ?_⟩
  rintro i m H ⟨rfl, hi, acc, hH, hs, p⟩
  have q := hs.seq hS
  by_cases hlt : i < xs.length
  · refine .inr ⟨⟨xs, xs[i], q, by simp [hlt]⟩, LcN H1 D P (i + 1), fun H' p' => ⟨xs.length - (i + 1), by omega, rfl, hlt, p'⟩, fun x H' y => ?_⟩
    obtain ⟨T, z, rfl, hT, rfl, hz⟩ := y
    exact step i z acc H T (hz xs q) hs hH p hT
  · have e : i = xs.length := by omega
    subst e
    exact .inl ⟨⟨xs, q, Nat.le_refl _⟩, done acc H hs hH p⟩
/-- the same without a test -/
theorem lcl0 (P : Nat → List V → Hp → Prop) (hD : H1 D = none) (hS : SqL K H1 a xs) (h0 : P 0 [] H1)
    (step : ∀ i x acc H, xs[i]? = some x → Same H1 H → H D = some (.lst acc) → P i acc (off D H) → g x (wipe σ vs) H fun σ2 H2 => wipe σ2 vs = wipe σ vs ∧
      te σ2 H2 fun y H4 => ∃ acc, H4 D = some (.lst acc) ∧ acc.length < sizeLine ∧ LcN H1 D P (i + 1) (upd H4 D (.lst (acc ++ [y]))))
    (done : ∀ acc H, Same H1 H → H D = some (.lst acc) → P xs.length acc (off D H) → Qd H) :
    ∃ W : Nat → Nat → Hp → Prop, (∃ m, W 0 m (upd H1 D (.lst []))) ∧ ∀ i m H, W i m H →
      ((Itl K a).stop i H ∧ Qd H) ∨ ((Itl K a).go i H ∧ ∃ Nx : Hp → Prop, (∀ H', Nx H' → ∃ m', m' < m ∧ W (i + 1) m' H') ∧ ∀ x H', (Itl K a).yld i H x H' → g x (wipe σ vs) H' fun σ2 H2 => wipe σ2 vs = wipe σ vs ∧ tYes σ2 H2 fun b H3 =>
        if b = true then te σ2 H3 fun y H4 => ∃ acc, H4 D = some (.lst acc) ∧ acc.length < sizeLine ∧ Nx (upd H4 D (.lst (acc ++ [y]))) else Nx H3) :=
  lcl (tt := tYes) P hD hS h0 step done
theorem lce0 (P : Nat → List V → Hp → Prop) (hD : H1 D = none) (hS : SqL K H1 a xs) (h0 : P 0 [] H1)
    (step : ∀ i x acc H T, xs[i]? = some x → Same H1 H → H D = some (.lst acc) → P i acc (off D H) → H T = none → g (.ref T) (wipe σ vs) (upd H T (.tup [.int (i : Nat), x])) fun σ2 H2 => wipe σ2 vs = wipe σ vs ∧
      te σ2 H2 fun y H4 => ∃ acc, H4 D = some (.lst acc) ∧ acc.length < sizeLine ∧ LcN H1 D P (i + 1) (upd H4 D (.lst (acc ++ [y]))))
    (done : ∀ acc H, Same H1 H → H D = some (.lst acc) → P xs.length acc (off D H) → Qd H) :
    ∃ W : Nat → Nat → Hp → Prop, (∃ m, W 0 m (upd H1 D (.lst []))) ∧ ∀ i m H, W i m H →
      ((Ite K a).stop i H ∧ Qd H) ∨ ((Ite K a).go i H ∧ ∃ Nx : Hp → Prop, (∀ H', Nx H' → ∃ m', m' < m ∧ W (i + 1) m' H') ∧ ∀ x H', (Ite K a).yld i H x H' → g x (wipe σ vs) H' fun σ2 H2 => wipe σ2 vs = wipe σ vs ∧ tYes σ2 H2 fun b H3 =>
        if b = true then te σ2 H3 fun y H4 => ∃ acc, H4 D = some (.lst acc) ∧ acc.length < sizeLine ∧ Nx (upd H4 D (.lst (acc ++ [y]))) else Nx H3) :=
  lce (tt := tYes) P hD hS h0 step done
end
theorem blk_ok (N : List Str) (sc : Scope) {scope : Scope} {own : List (Str × Nat)} (h1 : scope.kind = .function) (h2 : ∀ y ∈ scope.names, scope.names.lookup y.1 = some y.2) (h3 : ∀ p ∈ own, N[p.2]? = some p.1)
    (h4 : ∀ y ∈ scope.names, y.2 = .free → sc.names.lookup y.1 = some .cell ∨ sc.names.lookup y.1 = some .free) (h5 : ∀ y ∈ scope.names, y.2 = .local ∨ y.2 = .cell → y.1 ∈ own.map (·.1) ∨ y.1 ∉ N) : BlkOk N sc scope own := ⟨h1, h2, h3, h4, h5⟩
/-! ### rules by the written part's name: for the blocks of comprehensions -/
section
variable {X : Cx} {K : PySem.W.Frag}
theorem pe_bmK {o e : Expr} {es : List Expr} {to : TE} {t : TA} {name : Str} {apos cpos : Pos} {T id : String} {r : V → List V → Hp → VK → Prop} (hK : X.K = K) (pa : PlainAttrs T) (slot : Slot T name id) (hty : typeOf (.builtin id) = pure (.type "method_descriptor")) (hm : MtR X id r) (ho : PE X o to) (ha : PA X (e :: es) t)
    (hbase : attributeBase o name X.env (eval o X.env) = eval o X.env := by rfl)
    (hfew : ((backTo cpos (starEach (e :: es) X.env)).all (fun x => !x.1) && (backToKw cpos (keywordEach [] X.env)).all (fun x => x.1.isSome) && decide ((e :: es).length + ([] : List Keyword).length + (if ([] : List Keyword).isEmpty then 0 else 1) < 30)) = true := by rfl)
    (hline : (apos.endLine == cpos.line) = true := by rfl) (hs : starEach (e :: es) X.env = (false, eval e X.env) :: starEach es X.env := by rfl) (hplain : (backTo cpos (starEach es X.env)).any (·.1) = false := by rfl) :
    PE X (.Call (.Attribute o name apos) (e :: es) [] cpos) (tBM K T r to t) := by
  subst hK
  exact pe_bm pa slot hty hm ho ha hbase hfew hline hs hplain
theorem mt_countK (hK : X.K = K) : MtR X "list.count" (rCountI K) := by
  subst hK
  exact mt_countI
theorem pe_fldK {e : Expr} {f : Str} {pos : Pos} {ta : TE} (hK : X.K = K) (he : PE X e ta) (hb : attributeBase e f X.env (eval e X.env) = eval e X.env) : PE X (.Attribute e f pos) (tFld K ta f) := by
  subst hK
  exact pe_fld he hb
theorem ix_listK (hK : X.K = K) : IxR X (rIxL K) := by
  subst hK
  exact ix_list
theorem op_inK (hK : X.K = K) : OpR X (compareOp .In) (rIn K false) := by
  subst hK
  exact op_in_seq
theorem call_lenK (hK : X.K = K) : CallR X (.builtin "len") (fun xs H Q => ∃ p ys, xs = [.ref p] ∧ (SqL K H p ys ∨ SqT K H p ys) ∧ Q (.int ys.length) H) := by
  subst hK
  exact call_len_seq
end
/-! ### classes -/
structure ClsAt (K : PySem.W.Frag) (mg : Str → Option Value) (x qual : Str) (st : Stmt) (attrs : List Str) (C : Addr) : Prop where
  mgC : mg x = some (.ref C)
  cl : Cls K C
  no : ∀ f ∈ attrs, NoAttr K C f
  ex : ∃ (f : Addr) (fd : FuncData), Mk K C f ∧ Fun K "__init__" qual st f fd
theorem cls_at {K : PySem.W.Frag} {h : Heap} {mg : Str → Option Value} {x qual : Str} {st : Stmt} {attrs : List Str} {C f : Addr} {oc : Value} {od an : Option Addr} {osl : Array (Option Value)} {kV doc pm cdv ct : Value} (X : K.In h) (G : h.Ns mainGlobals mg)
    (d : PySem.W.nsIn K mainGlobals x = some (some (.ref C))) (e : PySem.W.findIn K (.ref C) "__init__" = some (some (.ref f))) (i : PySem.W.isFn K (.ref f) = true)
    (m : K.lookup f = some ⟨oc, od, .func (PySem.W.fnOf "__init__" qual (defArgs st) (defBody st) (defScope st) .none kV doc pm an cdv ct), osl⟩) (n : PySem.W.codeIn K cdv qual = true) (o : PySem.W.keepIn K (.ref f) = true)
    (p : PySem.W.plainGet K C Str.empty = true) (q : PySem.W.hasDictIn K C = true) (r : PySem.W.plainOver K C = true) (v : PySem.W.findIn K (.ref C) "__setattr__" = some (some (.builtin "object.__setattr__")))
    (w : PySem.W.makesIn K C = true) (y : PySem.W.keepIn K (.ref C) = true) (no : ∀ f ∈ attrs, NoAttr K C f) : ClsAt K mg x qual st attrs C :=
  ⟨PySem.W.mg_of X G d, ⟨p, q, r, v⟩, no, f, _, ⟨w, e, i, y⟩, fun_mk m n o⟩
/-- a class that can be made, and its __init__'s promise -/
structure OkC (P : Program) (w : World) (K : PySem.W.Frag) (mg : Str → Option Value) (base : Heap) (k : Nat) (x : Str) (C : Addr) (ps : List Str) (sp : Sp) : Prop where
  ex : ∃ (f : Addr) (fd : FuncData), mg x = some (.ref C) ∧ Mk K C f ∧ Binds K fd ps [] ∧ FnOk P w K mg base CX0 k f fd ps sp
theorem OkC.mono {P : Program} {w : World} {K : PySem.W.Frag} {mg : Str → Option Value} {base : Heap} {j k : Nat} {x : Str} {C : Addr} {ps : List Str} {sp : Sp} (M : OkC P w K mg base j x C ps sp) (h : j ≤ k) : OkC P w K mg base k x C ps sp := by
  obtain ⟨f, fd, h1, h2, h3, h4⟩ := M.ex
  exact ⟨f, fd, h1, h2, h3, h4.mono h⟩
end Wl

set_option Elab.async false
set_option linter.all false
set_option maxRecDepth 100000
set_option maxHeartbeats 2000000
/-! Own rules, third part: keys that are compared (a tuple of two whole numbers and a list of whole numbers), min by a key. -/
namespace Wl
open PySem PySem.Spec PyProof.Rows L2
section
open PySem.SeqAt
open PySem.AutoSeq1 (wpAny_loadPart')
open PySem.MeetsSeq PySem.MeetsSeq2 PySem.MeetsSeq3
/-- x < y tells c -/
def LtAt (A : Around) (s : Shared) (x y : Value) (c : Bool) : Prop := ∀ (prog : Program) (w : World) (E : Value → Shared → Prop) (Q : Value → Shared → Prop), Q (.bool c) s → wpAny (model prog w) A (richCompare .Lt x y) Q E s
theorem LtAt.ints (A : Around) (s : Shared) (a : Int) (t : Tok) (c : Int) (u : Tok) : LtAt A s (.int a t) (.int c u) (decide (a < c)) := fun prog w E Q h => HT.rcLt_int A s a t c u prog w E Q h
theorem ints_at {vs : List Value} {ns : List Int} (h : IntsAre vs ns) {i : Nat} (hi : i < vs.length) : ∃ t n, vs[i]? = some (.int n t) ∧ ns.drop i = n :: ns.drop (i + 1) := by
  have hl := h.length
  have hn : i < ns.length := by omega
  obtain ⟨t, ht⟩ := h.get i ns[i] (List.getElem?_eq_getElem hn)
  exact ⟨t, ns[i], ht, List.drop_eq_getElem_cons hn⟩
theorem lt_loopI (l b : Addr) (items items2 : Array Value) (n n2 : Nat) (ns ms : List Int) (hi : IntsAre items.toList ns) (hj : IntsAre items2.toList ms) (k : Nat) :
    ∀ i : Nat, items.size - i = k → Meets (Builtin.«list.__eq__.loop» ⟨[.ref l, .ref b, rawInt i, rawInt 0], []⟩)
      (fun _ R s => s.heap.get? l = some { cls := .type "list", data := .seq items n } ∧ s.heap.get? b = some { cls := .type "list", data := .seq items2 n2 } ∧
        i ≤ items.size ∧ i ≤ items2.size ∧ R (.ok (.ret (.bool (HT.lexLt (ns.drop i) (ms.drop i))))) s) := by
  have z1 : items.size = ns.length := by rw [← hi.length]; simp
  have z2 : items2.size = ms.length := by rw [← hj.length]; simp
  induction k with
  | zero =>
    intro i hk prog w A R s h
    obtain ⟨hp, g, d, tk, os⟩ := s
    obtain ⟨hl, hb, g1, g2, h⟩ := h
    wp_walk using wpAny_loadPart' hl, wpAny_loadPart' hb
    have hi1 : items[((i : Nat) : Int).toNat]? = none := by simp; omega
    rw [hi1]
    wp_walk using wpAny_loadPart' hl, wpAny_loadPart' hb
    have e1 : ns.drop i = [] := List.drop_eq_nil_of_le (by omega)
    have e2 : HT.lexLt (ns.drop i) (ms.drop i) = decide (items.size < items2.size) := by
      rw [e1]
      by_cases q : i < ms.length
      · rw [List.drop_eq_getElem_cons q, HT.lexLt_nil_cons]
        exact (decide_eq_true (by omega)).symm
      · rw [List.drop_eq_nil_of_le (by omega), HT.lexLt_nil_nil]
        exact (decide_eq_false (by omega)).symm
    rw [e2] at h
    exact h
  | succ k ih =>
    intro i hk prog w A R s h
    obtain ⟨hp, g, d, tk, os⟩ := s
    obtain ⟨hl, hb, g1, g2, h⟩ := h
    have hlt : i < items.size := by omega
    obtain ⟨t1, x1, h1, d1⟩ := ints_at hi (i := i) (by simpa using hlt)
    have hi1 : items[((i : Nat) : Int).toNat]? = some (.int x1 t1) := by simpa using h1
    wp_walk using wpAny_loadPart' hl, wpAny_loadPart' hb
    rw [hi1]
    by_cases hlt2 : i < items2.size
    · obtain ⟨t2, x2, h2, d2⟩ := ints_at hj (i := i) (by simpa using hlt2)
      have hi2 : items2[((i : Nat) : Int).toNat]? = some (.int x2 t2) := by simpa using h2
      rw [hi2]
      rw [d1, d2, HT.lexLt_cons] at h
      obtain ⟨e, he, hiff⟩ := HT.eqAt_int A.in1 ⟨hp, g, d, tk, os⟩ x1 t1 x2 t2
      refine wpAny_bind (he prog w _ _ ?_)
      have hc : ((i : Int) + 1) = ((i + 1 : Nat) : Int) := by push_cast; rfl
      cases e with
      | true =>
        rw [if_pos (hiff.mp rfl)] at h
        wp_walk
        rw [hc]
        exact ⟨plainId_quiet plain_eq_loop _, codeAny_builtin entry_eq_loop (by
          rw [Around.under_plainId plain_eq_loop _]
          exact ih (i + 1) (by omega) prog w A R _ ⟨hl, hb, by omega, by omega, h⟩)⟩
      | false =>
        rw [if_neg (fun q => absurd (hiff.mpr q) Bool.false_ne_true)] at h
        wp_walk using wpAny_loadPart' hl, wpAny_loadPart' hb
        rw [hi1, hi2]
        have hri := HT.rcLt_int A.in1 ⟨hp, g, d, tk, os⟩ x1 t1 x2 t2 prog w
        wp_walk using hri
        exact h
    · have hi2 : items2[((i : Nat) : Int).toNat]? = none := by simp; omega
      rw [hi2]
      wp_walk using wpAny_loadPart' hl, wpAny_loadPart' hb
      rw [d1, List.drop_eq_nil_of_le (by omega : ms.length ≤ i), HT.lexLt_cons_nil] at h
      show R (.ok (.ret (.bool (decide (items.size < items2.size))))) _
      rw [decide_eq_false (by omega)]
      exact h
theorem list_ltI (l b : Addr) (items items2 : Array Value) (n n2 : Nat) (ns ms : List Int) (hi : IntsAre items.toList ns) (hj : IntsAre items2.toList ms) :
    Meets (Builtin.«list.__lt__» ⟨[.ref l, .ref b], []⟩)
      (fun _ R s => s.heap.get? l = some { cls := .type "list", data := .seq items n } ∧ s.heap.get? b = some { cls := .type "list", data := .seq items2 n2 } ∧ R (.ok (.ret (.bool (HT.lexLt ns ms)))) s) := by
  intro prog w A R s h
  obtain ⟨hp, g, d, tk, os⟩ := s
  obtain ⟨hl, hb, h⟩ := h
  have f3 := AutoSeq1.sub_list_list
  wp_walk using wpAny_loadPart' hl, wpAny_loadPart' hb
  exact ⟨plainId_quiet plain_eq_loop _, codeAny_builtin entry_eq_loop (by
    rw [Around.under_plainId plain_eq_loop _]
    exact lt_loopI l b items items2 n n2 ns ms hi hj _ 0 rfl prog w A R _ ⟨hl, hb, Nat.zero_le _, Nat.zero_le _, h⟩)⟩
theorem LtAt.lists {A : Around} {s : Shared} {l b : Addr} {items items2 : Array Value} {n n2 : Nat} {ns ms : List Int} (ho : s.heap.get? l = some { cls := .type "list", data := .seq items n }) (ho2 : s.heap.get? b = some { cls := .type "list", data := .seq items2 n2 })
    (hi : IntsAre items.toList ns) (hj : IntsAre items2.toList ms) (hu : A.units < cLine) : LtAt A s (.ref l) (.ref b) (HT.lexLt ns ms) := fun prog w E Q h =>
  richCompare_meets_room (op := .Lt) ⟨_, ho, rfl⟩ ⟨_, ho2, rfl⟩ F.slot_list_lt F.entry_list_lt (F.args_list_lt_2 _ _) (list_ltI l b items items2 n n2 ns ms hi hj)
    ⟨ho, ho2, show Value.bool (HT.lexLt ns ms) ≠ Value.notImplemented ∧ Q (.bool (HT.lexLt ns ms)) s from ⟨(fun x => nomatch x), h⟩⟩ hu
/-- the first pair that is not alike tells -/
def firstTells (e c : Nat → Bool) : List Nat → Bool
  | [] => false
  | j :: r => if e j = true then firstTells e c r else c j
theorem tuple_ltG (l b : Addr) (items items2 : Array Value) (n n2 : Nat) (dd dd2 : Option Addr) (sl sl2 : Array (Option Value)) (hsz : items.size = items2.size) (e c : Nat → Bool) :
    Meets (Builtin.«tuple.__lt__» ⟨[.ref l, .ref b], []⟩)
      (fun A R s => s.heap.get? l = some { cls := .type "tuple", dict := dd, data := .seq items n, slots := sl } ∧ s.heap.get? b = some { cls := .type "tuple", dict := dd2, data := .seq items2 n2, slots := sl2 } ∧
        (∀ j (h1 : j < items.size) (h2 : j < items2.size), EqAt A.in1 s items[j] items2[j] (e j)) ∧ (∀ j (h1 : j < items.size) (h2 : j < items2.size), e j = false → LtAt A.in1 s items[j] items2[j] (c j)) ∧
        R (.ok (.ret (.bool (firstTells e c (List.range items.size))))) s) := by
  intro prog w A R s h
  obtain ⟨hp, g, d, tk, os⟩ := s
  obtain ⟨hl, hb, he, hc, h⟩ := h
  have f2 := AutoSeq1.sub_tuple_tuple
  wp_walk using wpAny_loadPart' hl, wpAny_loadPart' hb, wpAny_forIn_list _ (fun rest b s' => b.1 = none ∧ s' = ⟨hp, g, d, tk, os⟩ ∧ ∃ i : Nat, rest = (items.toList.zip items2.toList).drop i ∧
      R (.ok (.ret (.bool (firstTells e c ((List.range items.size).drop i))))) ⟨hp, g, d, tk, os⟩) _
  case turn =>
    rintro ⟨y, x⟩ rest b s' ⟨hb', rfl, i, hz, hR⟩
    have hlt : i < (items.toList.zip items2.toList).length := by
      rcases Nat.lt_or_ge i (items.toList.zip items2.toList).length with q | q
      · exact q
      · rw [List.drop_eq_nil_of_le q] at hz
        cases hz
    have h1 : i < items.size := by simp at hlt; omega
    have h2 : i < items2.size := by omega
    rw [List.drop_eq_getElem_cons hlt] at hz
    injection hz with hyx hrest
    have ey : y = items[i] ∧ x = items2[i] := by
      rw [List.getElem_zip] at hyx
      injection hyx with a1 a2
      exact ⟨by simpa using a1, by simpa using a2⟩
    obtain ⟨rfl, rfl⟩ := ey
    have hd : (List.range items.size).drop i = i :: (List.range items.size).drop (i + 1) := by simp [List.drop_eq_getElem_cons, h1]
    rw [hd, firstTells] at hR
    refine wpAny_bind (he i h1 h2 prog w _ _ ?_)
    cases q : e i with
    | true =>
      rw [q, if_pos rfl] at hR
      wp_walk
      exact ⟨rfl, rfl, i + 1, hrest, hR⟩
    | false =>
      rw [q, if_neg Bool.false_ne_true] at hR
      have hri := hc i h1 h2 q prog w
      wp_walk using hri
      exact hR
  case fin =>
    rintro ⟨b1, b2⟩ s' ⟨hb', rfl, i, hz, hR⟩
    simp only at hb'
    subst hb'
    have hi : items.size ≤ i := by
      have := List.drop_eq_nil_iff.mp hz.symm
      simp at this
      omega
    have hd : (List.range items.size).drop i = [] := by simp; omega
    rw [hd, firstTells] at hR
    wp_walk
    simpa [Builtin.Tuple.tupleCompareSizes, hsz] using hR
  case h =>
    exact ⟨rfl, rfl, 0, rfl, h⟩
theorem ints_fun : ∀ {vs : List Value} {ns ms : List Int}, IntsAre vs ns → IntsAre vs ms → ns = ms
  | _, _, _, .nil, .nil => rfl
  | _, _, _, .cons n t h, .cons _ _ h' => by rw [ints_fun h h']
theorem EqAt.intLists {A : Around} {s : Shared} {l b : Addr} {items items2 : Array Value} {n n2 : Nat} {ns ms : List Int} (ho : s.heap.get? l = some { cls := .type "list", data := .seq items n }) (ho2 : s.heap.get? b = some { cls := .type "list", data := .seq items2 n2 })
    (hi : IntsAre items.toList ns) (hj : IntsAre items2.toList ms) (hu : A.units < cLine) : EqAt A s (.ref l) (.ref b) (decide (ns = ms)) := by
  have z1 : items.size = ns.length := by rw [← hi.length]; simp
  have z2 : items2.size = ms.length := by rw [← hj.length]; simp
  by_cases hlb : l = b
  · subst hlb
    rw [ho] at ho2
    cases ho2
    rw [decide_eq_true (ints_fun hi hj)]
    exact EqAt.same _
  · refine EqAt.of_refs hlb ?_
    by_cases hsz : items.size = items2.size
    · have key : decide (ns = ms) = (List.range items.size).all fun j => decide (ns[j]? = ms[j]?) := by
        rw [Bool.eq_iff_iff, decide_eq_true_eq, List.all_eq_true]
        constructor
        · intro q j _
          rw [q]
          exact decide_eq_true rfl
        · intro q
          apply List.ext_getElem?
          intro j
          by_cases hj' : j < items.size
          · exact of_decide_eq_true (q j (List.mem_range.mpr hj'))
          · rw [List.getElem?_eq_none (by omega), List.getElem?_eq_none (by omega)]
      rw [key]
      refine RcAt.lists ⟨_, ho, rfl, _, rfl⟩ ⟨_, ho2, rfl, _, rfl⟩ hsz hu fun j h1 h2 => ?_
      obtain ⟨t1, x1, g1, d1⟩ := ints_at hi (i := j) (by simpa using h1)
      obtain ⟨t2, x2, g2, d2⟩ := ints_at hj (i := j) (by simpa using h2)
      have e1 : items[j] = .int x1 t1 := by
        have : items[j]? = some (.int x1 t1) := by simpa using g1
        rw [Array.getElem?_eq_getElem h1] at this
        exact Option.some.inj this
      have e2 : items2[j] = .int x2 t2 := by
        have : items2[j]? = some (.int x2 t2) := by simpa using g2
        rw [Array.getElem?_eq_getElem h2] at this
        exact Option.some.inj this
      have f1 : ns[j]? = some x1 := by
        have := congrArg List.head? d1
        rw [List.head?_drop] at this
        exact this
      have f2 : ms[j]? = some x2 := by
        have := congrArg List.head? d2
        rw [List.head?_drop] at this
        exact this
      rw [e1, e2, f1, f2]
      obtain ⟨e, he, hiff⟩ := HT.eqAt_int A.in1 s x1 t1 x2 t2
      have : e = decide (some x1 = some x2) := by
        rw [Bool.eq_iff_iff, hiff, decide_eq_true_eq]
        exact ⟨fun q => by rw [q], fun q => Option.some.inj q⟩
      rw [← this]
      exact he
    · rw [decide_eq_false (fun q => hsz (by rw [z1, z2, q]))]
      exact RcAt.lists_lengths ⟨_, ho, rfl, _, rfl⟩ ⟨_, ho2, rfl, _, rfl⟩ (by simpa using hsz) hu
end
/-! ### a key: two whole numbers and a list of whole numbers -/
structure Key3 where
  c : Int
  n : Int
  ns : List Int
def Key3.lt (k m : Key3) : Bool := if k.c = m.c then (if k.n = m.n then (if k.ns = m.ns then false else HT.lexLt k.ns m.ns) else decide (k.n < m.n)) else decide (k.c < m.c)
/-- the key stands at t -/
def KeyAt (H : Hp) (t : Addr) (k : Key3) : Prop := ∃ l, H t = some (.tup [.int k.c, .int k.n, .ref l]) ∧ H l = some (.lst (k.ns.map V.int))
theorem KeyAt.same {H H' : Hp} {t : Addr} {k : Key3} (s : Same H H') (h : KeyAt H t k) : KeyAt H' t k := by
  obtain ⟨l, h1, h2⟩ := h
  exact ⟨l, s _ _ h1, s _ _ h2⟩
theorem tup_items {X : Cx} {pins : List (Addr × Obj)} {σ : L2.St} {H : Hp} {s : Shared} {t : Addr} {k : Key3} (I : Inv X pins σ H s) (h : KeyAt H t k) : ∃ (u u' : Tok) (l : Addr) (o : Obj) (n : Nat) (its : List Value) (c : Nat),
    s.heap.get? t = some o ∧ o.cls = .type "tuple" ∧ o.data = .seq #[.int k.c u, .int k.n u', .ref l] n ∧ s.heap.get? l = some { cls := .type "list", data := .seq its.toArray c } ∧ IntsAre its.toArray.toList k.ns := by
  obtain ⟨l, h1, h2⟩ := h
  obtain ⟨its, r1, p1, _⟩ := I.tuple (SqT.of h1)
  obtain ⟨_, its2, c, r2, _, e2⟩ := I.lstM h2
  obtain ⟨o, ho, hc, n, hd⟩ := id p1
  cases r1 with
  | cons a1 r1 =>
    cases r1 with
    | cons a2 r1 =>
      cases r1 with
      | cons a3 r1 =>
        cases r1
        obtain ⟨u, rfl⟩ := a1
        obtain ⟨u', rfl⟩ := a2
        cases a3
        exact ⟨u, u', l, o, n, its2, c, ho, hc, hd, e2, by simpa using intsAre_of r2⟩
theorem LtAt.keys {X : Cx} {pins : List (Addr × Obj)} {σ : L2.St} {H : Hp} {s : Shared} {A : Around} {t t' : Addr} {k m : Key3} (I : Inv X pins σ H s) (h : KeyAt H t k) (h' : KeyAt H t' m) (hu : A.units + 2 < cLine) : LtAt A s (.ref t) (.ref t') (k.lt m) := by
  obtain ⟨u, u', l, ⟨cls, dd, data, sl⟩, n, its, c, ho, hc, hd, hl, hi⟩ := tup_items I h
  obtain ⟨u2, u2', l2, ⟨cls2, dd2, data2, sl2⟩, n2, its2, c2, ho2, hc2, hd2, hl2, hi2⟩ := tup_items I h'
  simp only at hc hd hc2 hd2
  subst hc hd hc2 hd2
  intro prog w E Q hq
  have e0 : ((k.c == m.c) : Bool) = decide (k.c = m.c) := by rw [Bool.eq_iff_iff]; simp
  have e1 : ((k.n == m.n) : Bool) = decide (k.n = m.n) := by rw [Bool.eq_iff_iff]; simp
  have key : firstTells (fun j => match j with | 0 => decide (k.c = m.c) | 1 => decide (k.n = m.n) | _ => decide (k.ns = m.ns)) (fun j => match j with | 0 => decide (k.c < m.c) | 1 => decide (k.n < m.n) | _ => HT.lexLt k.ns m.ns)
      (List.range (#[Value.int k.c u, Value.int k.n u', Value.ref l] : Array Value).size) = k.lt m := by
    show firstTells _ _ [0, 1, 2] = _
    simp only [firstTells, Key3.lt, decide_eq_true_eq]
  have u1 : A.in1.units < cLine := by
    show A.units + 1 < cLine
    omega
  refine richCompare_meets_room (op := .Lt) ⟨_, ho, rfl⟩ ⟨_, ho2, rfl⟩ F.slot_tuple_lt F.entry_tuple_lt (F.args_tuple_lt_2 _ _)
    (tuple_ltG t t' _ _ n n2 dd dd2 sl sl2 (by rfl) (fun j => match j with | 0 => decide (k.c = m.c) | 1 => decide (k.n = m.n) | _ => decide (k.ns = m.ns)) (fun j => match j with | 0 => decide (k.c < m.c) | 1 => decide (k.n < m.n) | _ => HT.lexLt k.ns m.ns))
    ⟨ho, ho2, fun j h1 h2 => ?_, fun j h1 h2 _ => ?_, ?_⟩ (by omega)
  · match j, h1, h2 with
    | 0, _, _ =>
      show SeqAt.EqAt A.in1 s (.int k.c u) (.int m.c u2) _
      rw [← e0]
      exact SeqAt.EqAt.int_int k.c u m.c u2
    | 1, _, _ =>
      show SeqAt.EqAt A.in1 s (.int k.n u') (.int m.n u2') _
      rw [← e1]
      exact SeqAt.EqAt.int_int k.n u' m.n u2'
    | 2, _, _ => exact EqAt.intLists hl hl2 hi hi2 u1
    | j + 3, h1, _ => exact absurd (show j + 3 < 3 from h1) (by omega)
  · match j, h1, h2 with
    | 0, _, _ => exact LtAt.ints A.in1 s k.c u m.c u2
    | 1, _, _ => exact LtAt.ints A.in1 s k.n u' m.n u2'
    | 2, _, _ => exact LtAt.lists hl hl2 hi hi2 u1
    | j + 3, h1, _ => exact absurd (show j + 3 < 3 from h1) (by omega)
  · rw [key]
    exact ⟨(fun x => nomatch x), hq⟩
end Wl

set_option Elab.async false
set_option linter.all false
set_option maxRecDepth 100000
set_option maxHeartbeats 2000000
/-! Own rules, fourth part: min(list, key = def, default = None). -/
namespace Wl
open PySem PySem.Spec PyProof.Rows L2
theorem min_args (a v u : Value) : argsOk "min" ⟨[a], [(Str.ofString "key", v), (Str.ofString "default", u)]⟩ := by unfold argsOk; kernel_rfl
section
variable {X : Cx} {pins : List (Addr × Obj)} {σ : L2.St} {Q : VK} {l I S q : Addr} {xs : List V} {H1 : Hp} {ks : Nat → Key3}
/-- the walk under way: j items are through, sq is the best one and its key -/
structure MinSt (X : Cx) (pins : List (Addr × Obj)) (σ : L2.St) (H1 : Hp) (l I S : Addr) (j : Nat) (sq : Array Value) (H : Hp) (s : Shared) : Prop where
  inv : Inv X pins σ H s
  same : Same H1 H
  it : s.heap.IsListIter I l j
  bst : ∃ c, s.heap.get? S = some (seqObj "list" sq c)
  fI : FpOk X pins H I
  fS : FpOk X pins H S
/-- what is asked of the key's call -/
def KeyCall (X : Cx) (σ : L2.St) (H1 : Hp) (xs : List V) (q : Addr) (ks : Nat → Key3) : Prop :=
  ∀ (i : Nat) (v : V) (pins : List (Addr × Obj)) (H : Hp) (s : Shared) (u : Value), xs[i]? = some v → Same H1 H → Inv X pins σ H s → RelV v u →
    wpAny (model X.prog X.w) X.A.in1 (call (.ref q) [u]) (EP X pins σ fun x H' => ∃ t, x = .ref t ∧ Same H H' ∧ KeyAt H' t (ks i)) (fun _ _ => False) s
/-- where the call of min is to end -/
def MinEnd (X : Cx) (pins : List (Addr × Obj)) (σ : L2.St) (Q : VK) (r : Result) (s : Shared) : Prop := match r with
  | .ok (.ret u) => EP X pins σ Q u s
  | .ok _ => False
  | .error e => X.xe e s
theorem fp_of {H H' : Hp} {b : Addr} (f : FpOk X pins H b) (h : H' b = none) : FpOk X pins H' b := ⟨h, f.2⟩
/-- the next item and its key -/
theorem min_next (hh : X.A.handled = none) (hS : SqL X.K H1 l xs) (hlI : l ≠ I) (hSI : S ≠ I) (kc : KeyCall X σ H1 xs q ks) {j : Nat} {sq : Array Value} {H : Hp} {s : Shared} {v : V} (m : MinSt X pins σ H1 l I S j sq H s) (hv : xs[j]? = some v)
    {R : Option Value → Shared → Prop}
    (go : ∀ (u : Value) (s1 : Shared), RelV v u → wpAny (model X.prog X.w) X.A.in1 (call (.ref q) [u]) (fun k s2 => ∃ (H2 : Hp) (t : Addr), k = .ref t ∧ MinSt X pins σ H1 l I S (j + 1) sq H2 s2 ∧ Same H H2 ∧ KeyAt H2 t (ks j)) (fun _ _ => False) s1 → R (some u) s1) :
    wpAny (model X.prog X.w) X.A.in1 (pyNext (.ref I)) R (fun _ _ => False) s := by
  obtain ⟨its, rv, hl, _⟩ := m.inv.list (m.same.seq hS)
  obtain ⟨u, hu, ru⟩ := rv.get hv
  have W := Walks.list (prog := X.prog) (w := X.w) (A := X.A.in1) hh I l hlI its.toArray
  have hlt : j < its.toArray.size := by
    have := (List.getElem?_eq_some_iff.mp hu).1
    simpa using this
  refine W.item j _ _ _ hlt ⟨m.it, hl.isList⟩ fun v' h' tk' hP hst' hk' => ?_
  have hv' : v' = u := by
    have e1 : its[j]? = some v' := by simpa using hP
    rw [hu] at e1
    exact (Option.some.inj e1).symm
  subst hv'
  obtain ⟨oI, hoI, hoc, hod⟩ := id hst'.1
  obtain ⟨c, hbS⟩ := m.bst
  obtain ⟨f0, f1, f2, f3, f4, f5⟩ := m.fI
  have I1 : Inv X pins σ H { s with heap := h', toks := tk' } := m.inv.turned (fun b o hb e => hk' b o (by simpa using hb) e) f0 f1 f3 f4 f5
  have hbS1 : h'.get? S = some (seqObj "list" sq c) := hk' S _ (by simpa using hSI) hbS
  refine go v' _ ru ?_
  have fp : ∀ b ∈ [I, S], FpOk X pins H b := fun b hb => by
    rcases List.mem_cons.mp hb with z | z
    · rw [z]
      exact m.fI
    · rw [List.mem_singleton.mp z]
      exact m.fS
  have fo : ∀ b ∈ [I, S], ∃ o, h'.get? b = some o ∧ ∀ z, o.data ≠ .cell z := fun b hb => by
    rcases List.mem_cons.mp hb with z | z
    · rw [z]
      refine ⟨oI, hoI, fun y hy => ?_⟩
      rw [hod] at hy
      cases hy
    · rw [List.mem_singleton.mp z]
      exact ⟨_, hbS1, fun y hy => nomatch hy⟩
  have I2 := I1.pinned (fp := [I, S]) fp fo
  refine wpAny_mono (kc j v _ H _ v' hv m.same I2 ru) (fun k s2 hq => ?_) fun _ _ z => z
  obtain ⟨x, H2, I3, rx, t, rfl, s12, hk⟩ := hq
  have hkr : k = .ref t := rx
  have pin : ∀ b ∈ [I, S], ∀ o, h'.get? b = some o → s2.heap.get? b = some o ∧ H2 b = none := fun b hb o e =>
    let z := I3.pin (b, o) (List.mem_append_right _ (List.mem_append_right _ (mem_pinsAt hb e)))
    ⟨z.1, z.2.1⟩
  have pI := pin I (by simp) oI hoI
  have pS := pin S (by simp) _ hbS1
  exact ⟨H2, t, hkr, ⟨I3.unpinned, m.same.trans s12, ⟨oI, pI.1, hoc, hod⟩, ⟨c, pS.1⟩, fp_of m.fI pI.2, fp_of m.fS pS.2⟩, s12, hk⟩
def NextKey (X : Cx) (pins : List (Addr × Obj)) (σ : L2.St) (H1 : Hp) (l I S q : Addr) (ks : Nat → Key3) (j : Nat) (sq : Array Value) (H : Hp) (y : V) : Option Value → Shared → Prop := fun o s1 => ∃ u, o = some u ∧ RelV y u ∧
  wpAny (model X.prog X.w) X.A.in1 (call (.ref q) [u]) (fun k s2 => ∃ (H2 : Hp) (t : Addr), k = .ref t ∧ MinSt X pins σ H1 l I S (j + 1) sq H2 s2 ∧ Same H H2 ∧ KeyAt H2 t (ks j)) (fun _ _ => False) s1
theorem lex_irr : ∀ ns : List Int, HT.lexLt ns ns = false
  | [] => rfl
  | x :: r => by rw [HT.lexLt_cons, if_pos rfl, lex_irr r]
theorem Key3.irr (k : Key3) : k.lt k = false := by
  unfold Key3.lt
  rw [if_pos rfl, if_pos rfl, if_pos rfl]
/-- the best one written anew -/
theorem MinSt.put {j : Nat} {sq : Array Value} {H : Hp} {s : Shared} (hSI : S ≠ I) (m : MinSt X pins σ H1 l I S j sq H s) (new : Array Value) (z1 : sq.size ≤ 2) (z2 : new.size ≤ 2) {R : Unit → Shared → Prop} {E : Value → Shared → Prop}
    (h : ∀ s', MinSt X pins σ H1 l I S j new H s' → R () s') : wpAny (model X.prog X.w) X.A.in1 (updateSeq S fun _ => new) R E s := by
  obtain ⟨c, hbS⟩ := m.bst
  obtain ⟨f0, f1, f2, f3, f4, f5⟩ := m.fS
  have sb := Heap.SameBut.update s.heap S (Obj.mapSeq fun _ => new)
  obtain ⟨oI, hoI, hoc, hod⟩ := id m.it
  have hsl := sizeLine_eq
  refine wpAny_updateSeq (hz := by omega) (_hz' := by omega) hbS rfl (h _ ⟨m.inv.turned (t' := s.toks) (fun b o hb e => (sb.2 b hb).trans e) f0 f1 f3 f4 f5, m.same, ⟨oI, (sb.2 I hSI.symm).trans hoI, hoc, hod⟩, ?_, m.fI, m.fS⟩)
  exact ⟨_, get?_update_seq hbS fun _ => new⟩
/-- the loop of min: the best of the first j + 1 items is the one at i -/
theorem min_go (hh : X.A.handled = none) (hu : X.A.in1.units + 2 < cLine) (hS : SqL X.K H1 l xs) (hlI : l ≠ I) (hSI : S ≠ I) (kc : KeyCall X σ H1 xs q ks) (tr : ∀ a b c, (ks a).lt (ks b) = true → (ks b).lt (ks c) = true → (ks a).lt (ks c) = true)
    (hQ : ∀ i v H, xs[i]? = some v → Same H1 H → (∀ a, a < xs.length → (ks a).lt (ks i) = false) → Q v H) :
    ∀ (r j i : Nat) (H : Hp) (s : Shared) (v : V) (vb : Value) (t : Addr), xs.length - (j + 1) = r → j + 1 ≤ xs.length → MinSt X pins σ H1 l I S (j + 1) #[vb, .ref t] H s → xs[i]? = some v → RelV v vb → KeyAt H t (ks i) → i ≤ j →
      (∀ a, a ≤ j → (ks a).lt (ks i) = false) → codeAny (model X.prog X.w) X.A (.builtin "min.loop" ⟨[.ref I, .ref q, .ref S], [(Str.ofString "default", .none)]⟩) (MinEnd X pins σ Q) s := by
  have nm : (toString "min" ++ toString ".loop" : String) = "min.loop" := by decide
  intro r
  induction r with
  | zero =>
    intro j i H s v vb t hr hj m hv rv hk hij best
    obtain ⟨its, rx, hl, _⟩ := m.inv.list (m.same.seq hS)
    obtain ⟨c, hbS⟩ := m.bst
    have W := Walks.list (prog := X.prog) (w := X.w) (A := X.A.in1) hh I l hlI its.toArray
    have hin : its.toArray.size = j + 1 := by
      rw [List.size_toArray, ← rx.length]
      omega
    refine codeAny_builtin PySem.F.entry_min_loop ?_
    rw [Around.under_plainId PySem.F.plain_min_loop (Args.mk _ _)]
    show wpAny _ X.A.in1 (seqItems? (.ref S) >>= _) _ _ s
    refine wpAny_bind (wpAny_seqItems hbS rfl ?_)
    show wpAny _ X.A.in1 (tryCatch (pyNext (.ref I)) _ >>= _) _ _ s
    refine wpAny_bind (wpAny_tryCatch (W.done _ _ _ ⟨by rw [hin]; exact m.it, hl.isList⟩ fun h' tk' hk' => ?_))
    obtain ⟨f0, f1, f2, f3, f4, f5⟩ := m.fI
    have I1 : Inv X pins σ H { s with heap := h', toks := tk' } := m.inv.turned (fun b o hb e => hk' b o (by simpa using hb) e) f0 f1 f3 f4 f5
    have hbS1 : h'.get? S = some (seqObj "list" #[vb, .ref t] c) := hk' S _ (by simpa using hSI) hbS
    have sb := Heap.SameBut.update h' S (Obj.mapSeq fun _ => (#[] : Array Value))
    obtain ⟨g0, g1, g2, g3, g4, g5⟩ := m.fS
    show wpAny _ X.A.in1 (updateSeq S (fun _ => #[]) >>= _) _ _ _
    refine wpAny_bind ?_
    refine wpAny_updateSeq hbS1 rfl (wpAny_bind (wpAny_letGo (wpAny_pure ?_)))
    exact ⟨v, H, I1.turned (t' := tk') (fun b o hb e => (sb.2 b hb).trans e) g0 g1 g3 g4 g5, rv, hQ i v H hv m.same fun a ha => best a (by omega)⟩
  | succ r ih =>
    intro j i H s v vb t hr hj m hv rv hk hij best
    have hlt : j + 1 < xs.length := by omega
    obtain ⟨c, hbS⟩ := m.bst
    obtain ⟨y, hy⟩ : ∃ y, xs[j + 1]? = some y := ⟨_, List.getElem?_eq_getElem hlt⟩
    refine codeAny_builtin PySem.F.entry_min_loop ?_
    rw [Around.under_plainId PySem.F.plain_min_loop (Args.mk _ _)]
    show wpAny _ X.A.in1 (seqItems? (.ref S) >>= _) _ _ s
    refine wpAny_bind (wpAny_seqItems hbS rfl ?_)
    show wpAny _ X.A.in1 (tryCatch (pyNext (.ref I)) _ >>= _) _ _ s
    refine wpAny_bind (wpAny_tryCatch (wpAny_mono (min_next hh hS hlI hSI kc m hy (R := NextKey X pins σ H1 l I S q ks (j + 1) #[vb, .ref t] H y) fun u s1 ru hc => ⟨u, rfl, ru, hc⟩) (fun o s1 hq => ?_) fun _ _ z => z.elim))
    obtain ⟨u, rfl, ru, hc⟩ := hq
    show wpAny _ X.A.in1 (tryCatch (holding [u] (call (.ref q) [u])) _ >>= _) _ _ s1
    refine wpAny_bind (wpAny_tryCatch (wpAny_holding (wpAny_mono hc (fun k s2 hq => ?_) fun _ _ z => z.elim)))
    obtain ⟨H2, t2, rfl, m2, s12, hk2⟩ := hq
    have hlt2 := LtAt.keys (A := X.A.in1) m2.inv hk2 (hk.same s12) hu
    show wpAny _ X.A.in1 (tryCatch (holding [u, .ref t2] (richCompare .Lt (.ref t2) (.ref t) >>= _)) _ >>= _) _ _ s2
    refine wpAny_bind (wpAny_tryCatch (wpAny_holding (wpAny_bind (hlt2 _ _ _ _ ?_))))
    refine wpAny_bind (wpAny_holding (wpAny_truthy_bool ?_))
    refine wpAny_bind (wpAny_letGo (wpAny_pure ?_))
    cases hb : (ks (j + 1)).lt (ks i) with
    | true =>
      simp only [if_true]
      refine wpAny_bind (m2.put hSI #[u, .ref t2] (Nat.le_refl 2) (Nat.le_refl 2) fun s3 m3 => wpAny_bind (wpAny_letGo ?_))
      rw [nm]
      refine wpAny_pure ⟨plainId_quiet PySem.F.plain_min_loop (Args.mk _ _), ih (j + 1) (j + 1) H2 s3 y u t2 (by omega) hlt m3 hy ru hk2 (Nat.le_refl _) fun a ha => ?_⟩
      cases h5 : (ks a).lt (ks (j + 1)) with
      | false => rfl
      | true =>
        by_cases e : a = j + 1
        · rw [e, Key3.irr] at h5
          cases h5
        · have := tr a (j + 1) i h5 hb
          rw [best a (by omega)] at this
          cases this
    | false =>
      simp only [Bool.false_eq_true, if_false]
      refine wpAny_bind (wpAny_letGo ?_)
      rw [nm]
      refine wpAny_pure ⟨plainId_quiet PySem.F.plain_min_loop (Args.mk _ _), ih (j + 1) i H2 s2 v vb t (by omega) hlt m2 hv rv (hk.same s12) (by omega) fun a ha => ?_⟩
      by_cases e : a = j + 1
      · rw [e]
        exact hb
      · exact best a (by omega)
/-- min(list, key = q, default = None) -/
theorem min_call (hh : X.A.handled = none) (hu : X.A.in1.units + 2 < cLine) (hS : SqL X.K H1 l xs) (kc : KeyCall X σ H1 xs q ks) (tr : ∀ a b c, (ks a).lt (ks b) = true → (ks b).lt (ks c) = true → (ks a).lt (ks c) = true) {s : Shared} (I1 : Inv X pins σ H1 s)
    (hN : xs = [] → Q .non H1) (hQ : ∀ i v H, xs[i]? = some v → Same H1 H → (∀ a, a < xs.length → (ks a).lt (ks i) = false) → Q v H) :
    wpAny (model X.prog X.w) X.A (call (.builtin "min") [.ref l] [(Str.ofString "key", .ref q), (Str.ofString "default", .none)]) (EP X pins σ Q) X.xe s := by
  have nm : (toString "min" ++ toString ".loop" : String) = "min.loop" := by decide
  obtain ⟨its, rx, hl, _⟩ := I1.list hS
  refine kmk_tree PySem.F.kind_min PySem.F.plain_min PySem.F.entry_min (min_args _ _ _) ?_
  show wpAny _ X.A.in1 (Builtin.Builtins.bindParams "min" ["key", "default"] 0 ⟨[], [(Str.ofString "key", .ref q), (Str.ofString "default", .none)]⟩ >>= _) _ _ s
  refine wpAny_bind (wpAny_of_eq (show Builtin.Builtins.bindParams "min" ["key", "default"] 0 ⟨[], [(Str.ofString "key", .ref q), (Str.ofString "default", .none)]⟩ = pure [some (.ref q), some .none] from rfl) ?_)
  refine wpAny_bind (wpAny_pure ?_)
  refine wpAny_bind (wpAny_pyIter_list hl.isList ?_)
  refine wpAny_bind (wpAny_newList ?_ (Nat.zero_le _))
  rw [nm]
  generalize hI : s.heap.objs.size = I
  generalize hs1 : s.heap.push { cls := .type "list_iterator", data := .fields #[.ref l, .int 0 0] } = h1
  have z1 : h1.objs.size = I + 1 := by rw [← hs1, ← hI]; exact size_push' ..
  generalize hS0 : h1.objs.size = S
  have gI1 : h1.get? I = some { cls := .type "list_iterator", data := .fields #[.ref l, .int 0 0] } := by
    rw [← hs1, ← hI]
    exact Heap.get?_push_size _ rfl
  have gI : (h1.push (seqObj "list" #[] 0)).get? I = some { cls := .type "list_iterator", data := .fields #[.ref l, .int 0 0] } := Heap.get?_push_of_some _ gI1
  have gS : (h1.push (seqObj "list" #[] 0)).get? S = some (seqObj "list" #[] 0) := by
    rw [← hS0]
    exact Heap.get?_push_size _ rfl
  have hSI : S ≠ I := by omega
  have hlI : l ≠ I := by
    obtain ⟨_, e, _⟩ := hl.isList
    exact Nat.ne_of_lt (by rw [← hI]; exact Heap.lt_size e)
  have I2 : Inv X pins σ H1 { s with heap := h1.push (seqObj "list" #[] 0) } := I1.kept (t' := s.toks) fun b o e => Heap.get?_push_of_some _ (by rw [← hs1]; exact Heap.get?_push_of_some _ e)
  have fI : FpOk X pins H1 I := I1.fpOk (Nat.le_of_eq hI) (I1.hok.fresh (Nat.le_of_eq hI))
  have fS : FpOk X pins H1 S := I1.fpOk (by omega) (I1.hok.fresh (by omega))
  have m : MinSt X pins σ H1 l I S 0 #[] H1 { s with heap := h1.push (seqObj "list" #[] 0) } := ⟨I2, Same.refl _, ⟨_, gI, rfl, rfl⟩, ⟨0, gS⟩, fI, fS⟩
  refine wpAny_pure ⟨plainId_quiet PySem.F.plain_min_loop (Args.mk _ _), ?_⟩
  refine codeAny_mono (R := MinEnd X pins σ Q) ?_ fun r s' h => ?_
  · refine codeAny_builtin PySem.F.entry_min_loop ?_
    rw [Around.under_plainId PySem.F.plain_min_loop (Args.mk _ _)]
    show wpAny _ X.A.in1 (seqItems? (.ref S) >>= _) _ _ _
    refine wpAny_bind (wpAny_seqItems gS rfl ?_)
    show wpAny _ X.A.in1 (tryCatch (pyNext (.ref I)) _ >>= _) _ _ _
    cases xs with
    | nil =>
      cases rx
      have W := Walks.list (prog := X.prog) (w := X.w) (A := X.A.in1) hh I l hlI (([] : List Value).toArray)
      refine wpAny_bind (wpAny_tryCatch (W.done _ _ _ ⟨⟨_, gI, rfl, rfl⟩, (I2.list hS).elim fun its' z => by
        obtain ⟨r', p', _⟩ := z
        cases r'
        exact p'.isList⟩ fun h' tk' hk' => ?_))
      obtain ⟨f0, f1, f2, f3, f4, f5⟩ := fI
      refine wpAny_bind (wpAny_rule (wpAny_pure ?_))
      exact ⟨.non, H1, I2.turned (fun b o hb e => hk' b o (by simpa using hb) e) f0 f1 f3 f4 f5, rfl, hN rfl⟩
    | cons y ys =>
      refine wpAny_bind (wpAny_tryCatch (wpAny_mono (min_next hh hS hlI hSI kc m (v := y) rfl (R := NextKey X pins σ H1 l I S q ks 0 #[] H1 y) fun u s1 ru hc => ⟨u, rfl, ru, hc⟩) (fun o s1 hq => ?_) fun _ _ z => z.elim))
      obtain ⟨u, rfl, ru, hc⟩ := hq
      show wpAny _ X.A.in1 (tryCatch (holding [u] (call (.ref q) [u])) _ >>= _) _ _ s1
      refine wpAny_bind (wpAny_tryCatch (wpAny_holding (wpAny_mono hc (fun k s2 hq => ?_) fun _ _ z => z.elim)))
      obtain ⟨H2, t2, rfl, m2, s12, hk2⟩ := hq
      show wpAny _ X.A.in1 (updateSeq S (fun _ => #[u, .ref t2]) >>= _) _ _ s2
      refine wpAny_bind (m2.put hSI #[u, .ref t2] (Nat.zero_le 2) (Nat.le_refl 2) fun s3 m3 => ?_)
      rw [nm]
      refine wpAny_pure ⟨plainId_quiet PySem.F.plain_min_loop (Args.mk _ _), min_go hh hu hS hlI hSI kc tr hQ _ 0 0 H2 s3 y u t2 rfl (by rw [List.length_cons]; omega) m3 rfl ru hk2 (Nat.le_refl _) fun a ha => ?_⟩
      rw [show a = 0 by omega]
      exact Key3.irr _
  · cases r with
    | error e => exact h
    | ok fl =>
      cases fl with
      | ret u => exact h
      | next => exact False.elim h
      | brk => exact False.elim h
      | cont => exact False.elim h
/-- min(e, key = x, default = None), x a def of the module whose keys are of that form -/
def tMin (K : PySem.W.Frag) (sp : Sp) (te : TE) : TE := fun σ H Q => te σ H fun v H1 => ∃ (l : Addr) (xs : List V) (ks : Nat → Key3), v = .ref l ∧ SqL K H1 l xs ∧
  (∀ i z H2, xs[i]? = some z → Same H1 H2 → sp [z] H2 (fun y H' => ∃ t, y = .ref t ∧ Same H2 H' ∧ KeyAt H' t (ks i)) E0) ∧ (∀ a b c, (ks a).lt (ks b) = true → (ks b).lt (ks c) = true → (ks a).lt (ks c) = true) ∧
  (xs = [] → Q .non H1) ∧ ∀ i z H2, xs[i]? = some z → Same H1 H2 → (∀ a, a < xs.length → (ks a).lt (ks i) = false) → Q z H2
theorem pe_min {k : Nat} {x y : Str} {sp : Sp} {e : Expr} {te : TE} {j} {p p1 p2 p3 p4 pos : Pos} (C : Ok X.prog X.w X.K X.mg X.base k x [y] sp) (hr : Room (k + 1) X.A) (hg : Gl X "min") (hm : X.mg "min" = none) (hgx : Gl X x) (he : PE X e te)
    (hdb : (x == ("__debug__" : Str)) = false := by decide) (hst : backTo pos (starEach [e] X.env) = [(false, eval e X.env)] := by rfl) :
    PE X (.Call (.Name "min" p) [e] [⟨some "key", .Name x p1, p2⟩, ⟨some "default", .Constant .none j p3, p4⟩] pos) (tMin X.K sp te) := by
  obtain ⟨f, fd, hmf, hkp, hb, F⟩ := C.ex
  intro pins s σ H Q I h
  refine wpAny_Call_Name_kw (ld_blt I hg hm boot_min ?_)
  refine callWith_kw ?_ hst (by rw [hst]; rfl)
  rw [hst]
  refine Calls.spliced_cons (thn (he pins s σ H _ I h) fun u s1 ⟨v, H1, I1, rv, hq⟩ => Calls.spliced_nil ?_)
  obtain ⟨l, xs, ks, rfl, hS, hk, tr, hN, hQ⟩ := hq
  cases rv
  have pk : PK X [⟨some "key", .Name x p1, p2⟩, ⟨some "default", .Constant .none j p3, p4⟩] (tCons (tC (.ref f)) (tCons (tC .non) tNil)) := pk_cons (pe_glob hgx hmf rfl hdb) (pk_cons pe_non pk_nil)
  refine thn (pk pos pins s1 σ H1 (fun zs H2 => zs = [.ref f, .non] ∧ H2 = H1) I1 ⟨rfl, rfl⟩) fun ws s2 ⟨zs, H2, I2, rz, e1, e2⟩ => ?_
  subst e1 e2
  cases rz with
  | cons a1 rz =>
    cases rz with
    | cons a2 rz =>
      cases rz
      cases a1
      cases a2
      show wpAny _ X.A (call (.builtin "min") [.ref l] [(Str.ofString "key", .ref f), (Str.ofString "default", .none)]) (EP X pins σ Q) X.xe s2
      have hun := hr.un
      refine min_call hr.hd (by show X.A.units + 1 + 2 < cLine; omega) hS (fun i z pins' H' s' w hz sm I' rw' => ?_) tr I2 hN hQ
      refine wpAny_call (codeAny_mono (F.run X.A.in1 X.stack s' H' ⟨[w], []⟩ [w] [z] _ E0 hr.in1 I'.env0.in1 (hb s' [w] I'.kIn rfl) (.cons rw' .nil) (hk i z H' hz sm)) fun r s'' hq => ?_)
      cases r with
      | error e => exact (show False from hq)
      | ok fl =>
        cases fl with
        | ret u => exact I'.after hq
        | next => exact False.elim hq
        | brk => exact False.elim hq
        | cont => exact False.elim hq
end
end Wl

set_option Elab.async false
set_option linter.all false
set_option maxRecDepth 100000
set_option maxHeartbeats 2000000
/-! Own rules, fifth part: setdefault, a def that is handed in, objects of classes with a few attributes. -/
namespace Wl
open PySem PySem.Spec PyProof.Rows L2
section
variable {X : Cx} {o e f : Expr} {apos cpos : Pos} {td ty tx : TE}
/-- d.setdefault(k, x) -/
def tDSet (td ty tx : TE) : TE := fun σ H Q => td σ H fun x H1 => ∃ a, x = .ref a ∧ IsD H1 a ∧ ty σ H1 fun y H2 => tx σ H2 fun z H3 => ∃ kvs k, H3 a = some (.dK kvs) ∧ y = kV k ∧ kvs.length < sizeLine ∧
  (∀ v, valV kvs k = some v → Q v H3) ∧ (valV kvs k = none → Q z (upd H3 a (.dK (putK kvs k z))))
theorem pe_dsetd (ho : PE X o td) (he : PE X e ty) (hf : PE X f tx) (m : M2 X o "setdefault" apos e f cpos) : PE X (.Call (.Attribute o "setdefault" apos) [e, f] [] cpos) (tDSet td ty tx) := by
  intro pins s σ H Q I h
  refine wpAny_Call_method m.base m.few m.line PySem.F.plainAttrs_dict PySem.F.slot_dict_setdefault PySem.F.type_dict_setdefault (thn (ho pins s σ H _ I h) fun u s1 ⟨x, H1, I1, rx, a, ex, d, q1⟩ => ?_)
  subst ex
  obtain rfl : u = Value.ref a := rx
  obtain ⟨t1, t2, _⟩ := isD_at I1 d
  refine ⟨t1, t2, ?_⟩
  rw [m.trees]
  refine Calls.callWith_builtin rfl (Calls.evalArgs_plain (Calls.spliced_cons (thn (he pins s1 σ H1 _ I1 q1) fun iv s2 ⟨y, H2, I2, ry, q2⟩ =>
    Calls.spliced_cons (thn (hf pins s2 σ H2 _ I2 q2) fun fv s3 ⟨z, H3, I3, rz, kvs, k, e3, ey, hl, q3, q4⟩ => Calls.spliced_nil ?_))))
  subst ey
  obtain ⟨z0, hd, vs, rel, dd⟩ := dk_of I3.hok e3
  refine call_meetsIn PySem.F.slot_dict_setdefault dd.typeIs PySem.F.entry_dict_setdefault (PySem.F.args_dict_setdefault_3 _ _ _) (kt_meets_setdefault (mixKind X.prog X.w) a (kV_is ry) hd fv) ⟨vs, dd, by rw [← rel.length]; exact z0, fun v hv => ?_, fun hn h' dd' hs => ?_⟩
  · have hv2 := rel.val k
    rw [hv] at hv2
    cases q : valV kvs k with
    | none =>
      rw [q] at hv2
      exact (show False from hv2).elim
    | some w' =>
      rw [q] at hv2
      exact ⟨w', H3, I3.tok _, hv2, q3 w' q⟩
  · have hn2 := rel.val k
    rw [hn] at hn2
    have q : valV kvs k = none := by
      cases q : valV kvs k with
      | none => rfl
      | some w' =>
        rw [q] at hn2
        exact (show False from hn2).elim
    have he : ∃ q, h'.get? a = some q := let ⟨q, _, _, hq, _⟩ := dd'; ⟨q, hq⟩
    have hz : (putK kvs k z).length ≤ sizeLine := by have := length_putK kvs k z; omega
    exact ⟨z, _, d_write I3 (by rw [e3]; exact True.intro) hs he (dk_new hz hd (rel.put k rz) dd'), rz, q4 q⟩
end
theorem pg_tupK {X : Cx} {K : PySem.W.Frag} {es : List Expr} {k : Nat} {t : TGs} {n : Nat} {pos : Pos} (hK : X.K = K) (hc : X.calm = true) (h : PGs X es t) (hn : (assignEach es X.env).length = n := by rfl) (hst : (assignEach es X.env).findIdx? (·.1) = none := by rfl) :
    PG X (.Tuple es k pos) (gTup K n t) := by
  subst hK
  exact pg_tup hc h hn hst
/-- a def that stands in a local name, called -/
def tCallV (f : Addr) (sp : Sp) (i : Nat) (t : TA) : TE := fun σ H Q => σ[i]? = some (some (V.ref f)) ∧ t σ H fun vs H1 => sp vs H1 Q E0
theorem pe_callV {X : Cx} {k i : Nat} {x y : Str} {f : Addr} {ps : List Str} {sp : Sp} {e : Expr} {es : List Expr} {t : TA} {p pos : Pos} (C : Ok X.prog X.w X.K X.mg X.base k x ps sp) (hf : X.mg x = some (.ref f)) (hr : Room k X.A) (hN : X.N[i]? = some y) (hv : Vis X.env.scope y) (ha : PA X (e :: es) t)
    (hd : (y == ("__debug__" : Str)) = false := by decide) (hcd : (y == ("__classdict__" : Str)) = false := by decide) (he : starEach (e :: es) X.env = (false, eval e X.env) :: starEach es X.env := by rfl) (hpl : (backTo pos (starEach es X.env)).any (·.1) = false := by rfl) :
    PE X (.Call (.Name y p) (e :: es) [] pos) (tCallV f sp i t) := by
  obtain ⟨f', fd, hm, hk, hb, F⟩ := C.ex
  have ef : f' = f := by
    rw [hm] at hf
    injection hf with h1
    injection h1
  subst ef
  intro pins s σ H Q I h
  obtain ⟨hσ, h⟩ := h
  refine wpAny_Call_Name_kw (thn (pe_var (X := X) (pos := p) hN hv hd hcd pins s σ H (fun v H' => v = V.ref f' ∧ H' = H) I ⟨_, hσ, rfl, rfl⟩) fun u s1 ⟨v, H', I1, rv, e1, e2⟩ => ?_)
  subst e1 e2
  cases rv
  refine PySem.W.callWith_K (h₀ := X.base) I.ok.mod.kin hk (thn (ha pos pins s1 σ H' _ I1 h) fun us s2 ⟨vs, H1, I2, r, q⟩ => ⟨I2.kIn, ?_⟩) he hpl
  exact run_fn F hr hb .nil pass0 I2 r (by rw [List.append_nil]; exact q)
/-- list[i], by values, the index a place -/
def rGetL (K : PySem.W.Frag) : V → V → Hp → VK → Prop := fun o i H Q => ∃ (p : Addr) (xs : List V) (k : Nat) (v : V), o = .ref p ∧ i = .int (k : Int) ∧ SqL K H p xs ∧ xs[k]? = some v ∧ Q v H
theorem get_list {X : Cx} : PGet X (rGetL X.K) := by
  intro pins s σ H o i ov iv Q I ro ri h
  obtain ⟨p, xs, k, v, rfl, rfl, hq, hv, q⟩ := h
  cases ro
  obtain ⟨t, rfl⟩ := ri
  obtain ⟨its, r, pl, hz⟩ := I.list hq
  obtain ⟨u, hu, ru⟩ := r.get hv
  have hk := (List.getElem?_eq_some_iff.mp hu).1
  have hl := r.length
  have hn := line63
  exact wpAny_getItem_list pl.isList (Int.natCast_nonneg _) (by omega) (by simpa using hu) ⟨v, H, I, ru, q⟩
/-! ### objects with a few attributes -/
theorem pe_newG {X : Cx} {k : Nat} {x : Str} {C : Addr} {ps : List Str} {sp : Sp} {R : List V → Hp → VK → Prop} {e : Expr} {es : List Expr} {t : TA} {p pos : Pos} (M : OkC X.prog X.w X.K X.mg X.base k x C ps sp)
    (imp : ∀ vs H1 Q, R vs H1 Q → ∀ x dx, H1 x = none → H1 dx = none → dx ≠ x → sp (.ref x :: vs) (upd (upd H1 dx (.own x)) x (.ins C dx [])) (fun v H2 => v = .non ∧ Q (.ref x) H2) E0)
    (hr : Room (k + 1) X.A) (hg : Gl X x) (ha : PA X (e :: es) t)
    (hdb : (x == ("__debug__" : Str)) = false := by decide) (he : starEach (e :: es) X.env = (false, eval e X.env) :: starEach es X.env := by rfl) (hpl : (backTo pos (starEach es X.env)).any (·.1) = false := by rfl) :
    PE X (.Call (.Name x p) (e :: es) [] pos) (tCB R t) := by
  obtain ⟨f, fd, h1, h2, h3, h4⟩ := M.ex
  intro pins s σ H Q I h
  refine wpAny_Call_Name_kw (ld_glob I hg h1 ?_ hdb)
  refine PySem.W.callWith_K (h₀ := X.base) I.ok.mod.kin h2.kp (thn (ha pos pins s σ H _ I h) fun us s1 ⟨vs, H1, I1, r, q⟩ => ⟨I1.kIn, ?_⟩) he hpl
  exact run_make h2 h4 hr h3 .nil pass0 I1 r fun y dx g1 g2 g3 => by rw [List.append_nil]; exact imp vs H1 Q q y dx g1 g2 g3
/-- what a new object's heap keeps -/
theorem same_made {H H' : Hp} {x dx : Addr} {o u : HO} (h1 : H x = none) (h2 : H dx = none) (h : ∀ b v, upd (upd H dx o) x u b = some v → b ≠ x → H' b = some v) : Same H H' := fun b v e => by
  refine h b v ?_ (ne_of_none e h1)
  rw [upd_ne (ne_of_none e h1), upd_ne (ne_of_none e h2)]
  exact e
/-- __init__ of two attributes, of three -/
def sp2 (C : Addr) (f g : Str) : Sp := fun vs H Q _ => ∃ (p dx : Addr) (a b : V), vs = [.ref p, a, b] ∧ H p = some (.ins C dx []) ∧ ∀ H' : Hp, H' p = some (.ins C dx [(f, a), (g, b)]) → (∀ q o, H q = some o → q ≠ p → H' q = some o) → Q .non H'
def sp3 (C : Addr) (f g h : Str) : Sp := fun vs H Q _ => ∃ (p dx : Addr) (a b c : V), vs = [.ref p, a, b, c] ∧ H p = some (.ins C dx []) ∧ ∀ H' : Hp, H' p = some (.ins C dx [(f, a), (g, b), (h, c)]) → (∀ q o, H q = some o → q ≠ p → H' q = some o) → Q .non H'
def rNew2 (C : Addr) (f g : Str) : List V → Hp → VK → Prop := fun vs H Q => ∃ a b, vs = [a, b] ∧ ∀ (H2 : Hp) (x dx : Addr), H x = none → Same H H2 → H2 x = some (.ins C dx [(f, a), (g, b)]) → Q (.ref x) H2
def rNew3 (C : Addr) (f g h : Str) : List V → Hp → VK → Prop := fun vs H Q => ∃ a b c, vs = [a, b, c] ∧ ∀ (H2 : Hp) (x dx : Addr), H x = none → Same H H2 → H2 x = some (.ins C dx [(f, a), (g, b), (h, c)]) → Q (.ref x) H2
section
variable {X : Cx} {k : Nat} {x f g h : Str} {C : Addr} {ps : List Str} {e : Expr} {es : List Expr} {t : TA} {p pos : Pos}
theorem pe_new2 (M : OkC X.prog X.w X.K X.mg X.base k x C ps (sp2 C f g)) (hr : Room (k + 1) X.A) (hg : Gl X x) (ha : PA X (e :: es) t)
    (hdb : (x == ("__debug__" : Str)) = false := by decide) (he : starEach (e :: es) X.env = (false, eval e X.env) :: starEach es X.env := by rfl) (hpl : (backTo pos (starEach es X.env)).any (·.1) = false := by rfl) :
    PE X (.Call (.Name x p) (e :: es) [] pos) (tCB (rNew2 C f g) t) :=
  pe_newG M (fun vs H1 Q q y dx g1 g2 g3 => by
    obtain ⟨a, b, rfl, q⟩ := q
    exact ⟨y, dx, a, b, rfl, upd_same, fun H' h1 h2 => ⟨rfl, q H' y dx g1 (same_made g1 g2 h2) h1⟩⟩) hr hg ha hdb he hpl
theorem pe_new3 (M : OkC X.prog X.w X.K X.mg X.base k x C ps (sp3 C f g h)) (hr : Room (k + 1) X.A) (hg : Gl X x) (ha : PA X (e :: es) t)
    (hdb : (x == ("__debug__" : Str)) = false := by decide) (he : starEach (e :: es) X.env = (false, eval e X.env) :: starEach es X.env := by rfl) (hpl : (backTo pos (starEach es X.env)).any (·.1) = false := by rfl) :
    PE X (.Call (.Name x p) (e :: es) [] pos) (tCB (rNew3 C f g h) t) :=
  pe_newG M (fun vs H1 Q q y dx g1 g2 g3 => by
    obtain ⟨a, b, c, rfl, q⟩ := q
    exact ⟨y, dx, a, b, c, rfl, upd_same, fun H' h1 h2 => ⟨rfl, q H' y dx g1 (same_made g1 g2 h2) h1⟩⟩) hr hg ha hdb he hpl
end
end Wl

set_option Elab.async false
/-! The specification's book, read line by line over lists of whole numbers. -/
namespace Wd
open Rg RugG
/-- a whole number as a byte -/
def u8 (z : Int) : UInt8 := UInt8.ofNat z.toNat
def Byt (l : List Int) : Prop := ∀ x ∈ l, 0 ≤ x ∧ x ≤ 255
theorem text_eq (l : List Int) : RugGNeutral.text l = l.map u8 := by
  unfold RugGNeutral.text RugGNeutral.nats
  rw [List.map_map]
  rfl
theorem u8_nat {z : Int} (h : 0 ≤ z ∧ z ≤ 255) : (u8 z).toNat = z.toNat := by
  unfold u8
  rw [UInt8.toNat_ofNat']
  omega
theorem u8_inj {z y : Int} (h : 0 ≤ z ∧ z ≤ 255) (h' : 0 ≤ y ∧ y ≤ 255) : u8 z = u8 y ↔ z = y := by
  constructor
  · intro e
    have q := congrArg UInt8.toNat e
    rw [u8_nat h, u8_nat h'] at q
    omega
  · intro e
    rw [e]
theorem u8_is {z : Int} (h : 0 ≤ z ∧ z ≤ 255) (n : Nat) (hn : n ≤ 255) : u8 z = UInt8.ofNat n ↔ z = (n : Int) := by
  have e : UInt8.ofNat n = u8 (n : Int) := rfl
  rw [e, u8_inj h (by omega)]
/-- the number of a colour's byte, or -1 -/
def colNo (c : Int) : Int :=
  if 97 ≤ c ∧ c ≤ 122 then c - 97 else if 65 ≤ c ∧ c ≤ 90 then c - 65 + 26 else if 48 ≤ c ∧ c ≤ 57 then c - 48 + 52 else -1
theorem colourOf_all : ∀ n : Fin 256, colourOf (UInt8.ofNat n.val) = if colNo (n.val : Int) = -1 then none else some (colNo (n.val : Int)).toNat := by decide +kernel
theorem colourOf_u8 {z : Int} (h : 0 ≤ z ∧ z ≤ 255) : colourOf (u8 z) = if colNo z = -1 then none else some (colNo z).toNat := by
  have q := colourOf_all ⟨z.toNat, by omega⟩
  have e : ((z.toNat : Nat) : Int) = z := by omega
  simp only [e] at q
  exact q
theorem colNo_range (c : Int) : colNo c = -1 ∨ (0 ≤ colNo c ∧ colNo c < 62) := by
  unfold colNo
  split
  · omega
  · split
    · omega
    · split <;> omega
/-! ### decimals -/
theorem decimalFrom_fuel : ∀ (f g n : Nat), n < f → n < g → decimalFrom f n = decimalFrom g n
  | 0, _, _, h, _ => absurd h (Nat.not_lt_zero _)
  | _ + 1, 0, _, _, h => absurd h (Nat.not_lt_zero _)
  | f + 1, g + 1, n, h1, h2 => by
    unfold decimalFrom
    by_cases hn : n < 10
    · rw [if_pos hn, if_pos hn]
    · rw [if_neg hn, if_neg hn, decimalFrom_fuel f g (n / 10) (by omega) (by omega)]
theorem decimal_small {n : Nat} (h : n < 10) : decimal n = [UInt8.ofNat (48 + n)] := by
  unfold decimal decimalFrom
  rw [if_pos h, Nat.mod_eq_of_lt h]
  rfl
theorem decimal_step {n k : Nat} (hn : 1 ≤ n) (hk : k < 10) : decimal (10 * n + k) = decimal n ++ [UInt8.ofNat (48 + k)] := by
  have e : decimal (10 * n + k) = decimalFrom (10 * n + k + 1) (10 * n + k) := rfl
  rw [e]
  unfold decimalFrom
  rw [if_neg (by omega), show (10 * n + k) / 10 = n by omega, show (10 * n + k) % 10 = k by omega, decimalFrom_fuel (10 * n + k) (n + 1) n (by omega) (by omega)]
  rfl
theorem numberOf_snoc (d : Bytes) (x : UInt8) : numberOf (d ++ [x]) = 10 * numberOf d + (x.toNat - 48) := by
  unfold numberOf
  rw [List.foldl_append]
  rfl
theorem numberOf_nil : numberOf [] = 0 := rfl
theorem isDigit_iff (x : UInt8) : isDigit x = true ↔ 48 ≤ x.toNat ∧ x.toNat ≤ 57 := by
  unfold isDigit
  rw [Bool.and_eq_true, decide_eq_true_iff, decide_eq_true_iff]
theorem ofNat_toNat (x : UInt8) : UInt8.ofNat x.toNat = x := by simp
/-- digits so far: none, or a number's -/
def Dig (d : Bytes) : Prop := d = [] ∨ (d.all isDigit = true ∧ decimal (numberOf d) = d)
theorem numOk_iff (lo hi : Nat) (d : Bytes) : numOk lo hi d = true ↔ d ≠ [] ∧ d.all isDigit = true ∧ lo ≤ numberOf d ∧ numberOf d ≤ hi ∧ decimal (numberOf d) = d := by
  unfold numOk
  simp only [Bool.and_eq_true, bne_iff_ne, decide_eq_true_iff, beq_iff_eq, ne_eq]
theorem Dig.of_ok {lo hi : Nat} {d : Bytes} (h : numOk lo hi d = true) : Dig d := by
  rw [numOk_iff] at h
  exact .inr ⟨h.2.1, h.2.2.2.2⟩
theorem Dig.ne0 {d : Bytes} (h : Dig d) : d ≠ [0] := by
  rintro rfl
  rcases h with h | h
  · cases h
  · exact absurd h.1 (by decide)
theorem canon_snoc {d : Bytes} (hd : Dig d) {x : UInt8} (hx : 48 ≤ x.toNat ∧ x.toNat ≤ 57) :
    decimal (numberOf (d ++ [x])) = d ++ [x] ↔ ¬ (d ≠ [] ∧ numberOf d = 0) := by
  have ex : UInt8.ofNat (48 + (x.toNat - 48)) = x := by
    rw [show 48 + (x.toNat - 48) = x.toNat by omega]
    exact ofNat_toNat x
  rw [numberOf_snoc]
  rcases hd with rfl | ⟨_, hc⟩
  · rw [numberOf_nil, show 10 * 0 + (x.toNat - 48) = x.toNat - 48 by omega, decimal_small (by omega), ex]
    simp
  · by_cases hz : numberOf d = 0
    · rw [hz] at hc ⊢
      have e0 : d = [48] := by rw [← hc]; decide
      subst e0
      rw [show 10 * 0 + (x.toNat - 48) = x.toNat - 48 by omega, decimal_small (by omega), ex]
      simp
    · rw [decimal_step (by omega) (by omega), ex, hc]
      simp [hz]
theorem numOk_snoc (lo hi : Nat) {d : Bytes} (hd : Dig d) (x : UInt8) :
    numOk lo hi (d ++ [x]) = true ↔ (48 ≤ x.toNat ∧ x.toNat ≤ 57) ∧ ¬ (d ≠ [] ∧ numberOf d = 0) ∧ lo ≤ 10 * numberOf d + (x.toNat - 48) ∧ 10 * numberOf d + (x.toNat - 48) ≤ hi := by
  rw [numOk_iff]
  constructor
  · rintro ⟨_, h1, h2, h3, h4⟩
    rw [List.all_append, Bool.and_eq_true] at h1
    have hx : isDigit x = true := by
      have q := h1.2
      simpa using q
    rw [isDigit_iff] at hx
    rw [canon_snoc hd hx] at h4
    rw [numberOf_snoc] at h2 h3
    exact ⟨hx, h4, h2, h3⟩
  · rintro ⟨hx, h4, h2, h3⟩
    refine ⟨by simp, ?_, by rw [numberOf_snoc]; exact h2, by rw [numberOf_snoc]; exact h3, (canon_snoc hd hx).mpr h4⟩
    rw [List.all_append, Bool.and_eq_true]
    constructor
    · rcases hd with rfl | h
      · rfl
      · exact h.1
    · have q := (isDigit_iff x).mpr hx
      simpa using q
/-! ### digits taken, over whole numbers -/
def digOk (lo hi : Int) (fst : Bool) (v x : Int) : Prop := 48 ≤ x ∧ x ≤ 57 ∧ ¬ (fst = false ∧ v = 0) ∧ lo ≤ v * 10 + x - 48 ∧ v * 10 + x - 48 ≤ hi
instance (lo hi : Int) (fst : Bool) (v x : Int) : Decidable (digOk lo hi fst v x) := by unfold digOk; infer_instance
/-- how many digits of a number from lo to hi stand here, behind a first part of the value v (fst: there's none) -/
def numCount (lo hi : Int) : Bool → Int → List Int → Nat
  | _, _, [] => 0
  | fst, v, x :: r => if digOk lo hi fst v x then numCount lo hi false (v * 10 + x - 48) r + 1 else 0
/-- .. and their number -/
def numVal (lo hi : Int) : Bool → Int → List Int → Int
  | _, v, [] => v
  | fst, v, x :: r => if digOk lo hi fst v x then numVal lo hi false (v * 10 + x - 48) r else v
theorem numCount_le (lo hi : Int) : ∀ (r : List Int) (fst : Bool) (v : Int), numCount lo hi fst v r ≤ r.length
  | [], _, _ => Nat.le_refl _
  | x :: r, fst, v => by
    unfold numCount
    split
    · exact Nat.succ_le_succ (numCount_le lo hi r _ _)
    · exact Nat.zero_le _
theorem numVal_le (lo hi : Int) : ∀ (r : List Int) (fst : Bool) (v : Int), v ≤ hi → numVal lo hi fst v r ≤ hi
  | [], _, _, h => h
  | x :: r, fst, v, h => by
    unfold numVal
    split
    · rename_i q
      exact numVal_le lo hi r _ _ q.2.2.2.2
    · exact h
theorem numVal_ge0 (lo hi : Int) : ∀ (r : List Int) (fst : Bool) (v : Int), 0 ≤ v → 0 ≤ numVal lo hi fst v r
  | [], _, _, h => h
  | x :: r, fst, v, h => by
    unfold numVal
    split
    · rename_i q
      have h1 := q.1
      exact numVal_ge0 lo hi r _ _ (by omega)
    · exact h
theorem numVal_ge (lo hi : Int) : ∀ (r : List Int) (fst : Bool) (v : Int), (lo ≤ v ∨ 0 < numCount lo hi fst v r) → lo ≤ numVal lo hi fst v r
  | [], _, _, h => by
    rcases h with h | h
    · exact h
    · exact absurd h (Nat.lt_irrefl _)
  | x :: r, fst, v, h => by
    unfold numVal
    unfold numCount at h
    split
    · rename_i q
      exact numVal_ge lo hi r _ _ (.inl q.2.2.2.1)
    · rename_i q
      rw [if_neg q] at h
      rcases h with h | h
      · exact h
      · exact absurd h (Nat.lt_irrefl _)
theorem digOk_iff (lo hi : Nat) {d : Bytes} (hd : Dig d) {x : Int} (hx : 0 ≤ x ∧ x ≤ 255) :
    numOk lo hi (d ++ [u8 x]) = true ↔ digOk (lo : Int) (hi : Int) d.isEmpty (numberOf d : Int) x := by
  rw [numOk_snoc lo hi hd, u8_nat hx]
  unfold digOk
  cases d with
  | nil =>
    rw [numberOf_nil]
    simp
    omega
  | cons a r =>
    simp only [List.isEmpty_cons, ne_eq, reduceCtorEq, not_false_eq_true, true_and]
    constructor
    · rintro ⟨h1, h2, h3, h4⟩
      refine ⟨by omega, by omega, by omega, by omega, by omega⟩
    · rintro ⟨h1, h2, h3, h4, h5⟩
      refine ⟨by omega, by omega, by omega, by omega⟩
theorem numberOf_next {d : Bytes} {x : Int} (hx : 48 ≤ x ∧ x ≤ 57) : (numberOf (d ++ [u8 x]) : Int) = (numberOf d : Int) * 10 + x - 48 := by
  rw [numberOf_snoc, u8_nat (by omega)]
  omega
theorem isEmpty_snoc (d : Bytes) (x : UInt8) : (d ++ [x]).isEmpty = false := by cases d <;> rfl
/-! ### the specification's reader, part by part -/
theorem shade_run (l : List Dyeing) (k : Nat) : ∀ (r : List Int) (p : Nat) (d : Bytes), Byt r → Dig d →
    bookFrom p l (some k) none d (r.map u8) =
      if (r[numCount 0 999 d.isEmpty (numberOf d) r]? = some 32) ∧ ¬ (d = [] ∧ numCount 0 999 d.isEmpty (numberOf d) r = 0)
      then bookFrom (p + numCount 0 999 d.isEmpty (numberOf d) r + 1) l (some k) (some (numVal 0 999 d.isEmpty (numberOf d) r).toNat) [] ((r.drop (numCount 0 999 d.isEmpty (numberOf d) r + 1)).map u8)
      else .error (p + numCount 0 999 d.isEmpty (numberOf d) r)
  | [], p, d, _, _ => by simp [numCount, bookFrom]
  | x :: r, p, d, hb, hd => by
    have hx : 0 ≤ x ∧ x ≤ 255 := hb x (List.mem_cons_self ..)
    have hr : Byt r := fun y hy => hb y (List.mem_cons_of_mem _ hy)
    rw [List.map_cons, bookFrom, if_neg hd.ne0]
    have e32 : (u8 x = 32) ↔ x = 32 := u8_is hx 32 (by decide)
    have edig := digOk_iff 0 999 hd hx
    by_cases hdg : digOk 0 999 d.isEmpty (numberOf d) x
    · have n32 : ¬ x = 32 := by
        have := hdg.1
        omega
      rw [if_neg (by rw [e32]; exact fun q => n32 q.1), if_pos (edig.mpr hdg)]
      have ih := shade_run l k r (p + 1) (d ++ [u8 x]) hr (Dig.of_ok (edig.mpr hdg))
      rw [ih, isEmpty_snoc, numberOf_next ⟨hdg.1, hdg.2.1⟩]
      have ec : numCount 0 999 d.isEmpty (numberOf d) (x :: r) = numCount 0 999 false ((numberOf d : Int) * 10 + x - 48) r + 1 := by
        rw [numCount, if_pos hdg]
      have ev : numVal 0 999 d.isEmpty (numberOf d) (x :: r) = numVal 0 999 false ((numberOf d : Int) * 10 + x - 48) r := by
        rw [numVal, if_pos hdg]
      rw [ec, ev, List.getElem?_cons_succ, List.drop_succ_cons]
      have e1 : ∀ n : Nat, p + 1 + n = p + (n + 1) := by intro n; omega
      have e2 : ¬ (d ++ [u8 x] = []) := by simp
      simp only [e1, e2, false_and, not_false_eq_true, and_true, Nat.add_eq_zero_iff, Nat.one_ne_zero, and_false]
    · have ec : numCount 0 999 d.isEmpty (numberOf d) (x :: r) = 0 := by
        rw [numCount, if_neg hdg]
      have ev : numVal 0 999 d.isEmpty (numberOf d) (x :: r) = numberOf d := by
        rw [numVal, if_neg hdg]
      rw [ec, ev]
      have e3 : ¬ numOk 0 999 (d ++ [u8 x]) = true := fun q => hdg (edig.mp q)
      rw [if_neg e3]
      by_cases h : x = 32 ∧ d ≠ []
      · rw [if_pos ⟨e32.mpr h.1, h.2⟩, if_pos ⟨by rw [h.1]; rfl, fun q => h.2 q.1⟩]
        rfl
      · rw [if_neg (fun q => h ⟨e32.mp q.1, q.2⟩), if_neg]
        · rfl
        · rintro ⟨q1, q2⟩
          exact h ⟨Option.some.inj q1, fun q => q2 ⟨q, rfl⟩⟩
theorem knots_run (l : List Dyeing) (k h : Nat) : ∀ (r : List Int) (p : Nat) (d : Bytes), Byt r → Dig d →
    bookFrom p l (some k) (some h) d (r.map u8) =
      if (r[numCount 1 99999 d.isEmpty (numberOf d) r]? = some 10) ∧ ¬ (d = [] ∧ numCount 1 99999 d.isEmpty (numberOf d) r = 0)
      then bookFrom (p + numCount 1 99999 d.isEmpty (numberOf d) r + 1) (⟨k, h, (numVal 1 99999 d.isEmpty (numberOf d) r).toNat⟩ :: l) none none [] ((r.drop (numCount 1 99999 d.isEmpty (numberOf d) r + 1)).map u8)
      else .error (p + numCount 1 99999 d.isEmpty (numberOf d) r)
  | [], p, d, _, _ => by simp [numCount, bookFrom]
  | x :: r, p, d, hb, hd => by
    have hx : 0 ≤ x ∧ x ≤ 255 := hb x (List.mem_cons_self ..)
    have hr : Byt r := fun y hy => hb y (List.mem_cons_of_mem _ hy)
    rw [List.map_cons, bookFrom, if_neg hd.ne0]
    have e32 : (u8 x = LF) ↔ x = 10 := u8_is hx 10 (by decide)
    have edig := digOk_iff 1 99999 hd hx
    by_cases hdg : digOk 1 99999 d.isEmpty (numberOf d) x
    · have n32 : ¬ x = 10 := by
        have := hdg.1
        omega
      show (if u8 x = LF ∧ d ≠ [] then _ else _) = _
      rw [if_neg (by rw [e32]; exact fun q => n32 q.1), if_pos (edig.mpr hdg)]
      have ih := knots_run l k h r (p + 1) (d ++ [u8 x]) hr (Dig.of_ok (edig.mpr hdg))
      rw [ih, isEmpty_snoc, numberOf_next ⟨hdg.1, hdg.2.1⟩]
      have ec : numCount 1 99999 d.isEmpty (numberOf d) (x :: r) = numCount 1 99999 false ((numberOf d : Int) * 10 + x - 48) r + 1 := by
        rw [numCount, if_pos hdg]
      have ev : numVal 1 99999 d.isEmpty (numberOf d) (x :: r) = numVal 1 99999 false ((numberOf d : Int) * 10 + x - 48) r := by
        rw [numVal, if_pos hdg]
      rw [ec, ev, List.getElem?_cons_succ, List.drop_succ_cons]
      have e1 : ∀ n : Nat, p + 1 + n = p + (n + 1) := by intro n; omega
      have e2 : ¬ (d ++ [u8 x] = []) := by simp
      simp only [e1, e2, false_and, not_false_eq_true, and_true, Nat.add_eq_zero_iff, Nat.one_ne_zero, and_false]
    · have ec : numCount 1 99999 d.isEmpty (numberOf d) (x :: r) = 0 := by
        rw [numCount, if_neg hdg]
      have ev : numVal 1 99999 d.isEmpty (numberOf d) (x :: r) = numberOf d := by
        rw [numVal, if_neg hdg]
      rw [ec, ev]
      have e3 : ¬ numOk 1 99999 (d ++ [u8 x]) = true := fun q => hdg (edig.mp q)
      show (if u8 x = LF ∧ d ≠ [] then _ else _) = _
      rw [if_neg e3]
      by_cases h : x = 10 ∧ d ≠ []
      · rw [if_pos ⟨e32.mpr h.1, h.2⟩, if_pos ⟨by rw [h.1]; rfl, fun q => h.2 q.1⟩]
        rfl
      · rw [if_neg (fun q => h ⟨e32.mp q.1, q.2⟩), if_neg]
        · rfl
        · rintro ⟨q1, q2⟩
          exact h ⟨Option.some.inj q1, fun q => q2 ⟨q, rfl⟩⟩
/-- how many digits of a shade, of knots, stand at the head -/
def shN (r : List Int) : Nat := numCount 0 999 true 0 r
def knN (r : List Int) : Nat := numCount 1 99999 true 0 r
/-- **A line behind its colour**: how many bytes of it are right; where it's whole: shade and knots. -/
def lineAt (r : List Int) : Nat × Option (Int × Int) :=
  if r[0]? = some 32 then
    if shN (r.drop 1) = 0 then (1, none)
    else if (r.drop 1)[shN (r.drop 1)]? = some 32 then
      if knN ((r.drop 1).drop (shN (r.drop 1) + 1)) = 0 then (shN (r.drop 1) + 2, none)
      else if ((r.drop 1).drop (shN (r.drop 1) + 1))[knN ((r.drop 1).drop (shN (r.drop 1) + 1))]? = some 10 then
        (shN (r.drop 1) + knN ((r.drop 1).drop (shN (r.drop 1) + 1)) + 3, some (numVal 0 999 true 0 (r.drop 1), numVal 1 99999 true 0 ((r.drop 1).drop (shN (r.drop 1) + 1))))
      else (shN (r.drop 1) + knN ((r.drop 1).drop (shN (r.drop 1) + 1)) + 2, none)
    else (shN (r.drop 1) + 1, none)
  else (0, none)
theorem Byt.drop {l : List Int} (h : Byt l) (n : Nat) : Byt (l.drop n) := fun x hx => h x (List.mem_of_mem_drop hx)
theorem line_run (l : List Dyeing) (k p : Nat) (r : List Int) (hb : Byt r) :
    bookFrom p l (some k) none [0] (r.map u8) =
      match (lineAt r).2 with
      | none => .error (p + (lineAt r).1)
      | some z => bookFrom (p + (lineAt r).1) (⟨k, z.1.toNat, z.2.toNat⟩ :: l) none none [] ((r.drop (lineAt r).1).map u8) := by
  cases r with
  | nil => simp [lineAt, bookFrom]
  | cons x r =>
    have hx : 0 ≤ x ∧ x ≤ 255 := hb x (List.mem_cons_self ..)
    have hr : Byt r := fun y hy => hb y (List.mem_cons_of_mem _ hy)
    have e32 : (u8 x = 32) ↔ x = 32 := u8_is hx 32 (by decide)
    rw [List.map_cons, bookFrom, if_pos rfl]
    unfold lineAt
    have ed : (x :: r).drop 1 = r := rfl
    rw [ed]
    by_cases h0 : x = 32
    · rw [if_pos (e32.mpr h0), if_pos (by rw [h0]; rfl), shade_run l k r (p + 1) [] hr (.inl rfl)]
      have es : numCount 0 999 ([] : Bytes).isEmpty (numberOf []) r = shN r := rfl
      rw [es]
      by_cases h1 : shN r = 0
      · rw [if_neg (by rintro ⟨_, q⟩; exact q ⟨rfl, h1⟩), if_pos h1, h1]
        rfl
      · rw [if_neg h1]
        by_cases h2 : r[shN r]? = some 32
        · rw [if_pos ⟨h2, fun q => h1 q.2⟩, if_pos h2, knots_run l k _ (r.drop (shN r + 1)) _ [] (hr.drop _) (.inl rfl)]
          have ek : numCount 1 99999 ([] : Bytes).isEmpty (numberOf []) (r.drop (shN r + 1)) = knN (r.drop (shN r + 1)) := rfl
          rw [ek]
          by_cases h3 : knN (r.drop (shN r + 1)) = 0
          · rw [if_neg (by rintro ⟨_, q⟩; exact q ⟨rfl, h3⟩), if_pos h3, h3]
            show Except.error (p + 1 + shN r + 1 + 0) = Except.error (p + (shN r + 2))
            congr 1
            omega
          · rw [if_neg h3]
            by_cases h4 : (r.drop (shN r + 1))[knN (r.drop (shN r + 1))]? = some 10
            · rw [if_pos ⟨h4, fun q => h3 q.2⟩, if_pos h4]
              show bookFrom (p + 1 + shN r + 1 + knN (r.drop (shN r + 1)) + 1) _ _ _ _ _ = bookFrom (p + (shN r + knN (r.drop (shN r + 1)) + 3)) _ _ _ _ _
              rw [show p + 1 + shN r + 1 + knN (r.drop (shN r + 1)) + 1 = p + (shN r + knN (r.drop (shN r + 1)) + 3) by omega]
              have e5 : (r.drop (shN r + 1)).drop (knN (r.drop (shN r + 1)) + 1) = (x :: r).drop (shN r + knN (r.drop (shN r + 1)) + 3) := by
                rw [List.drop_drop, show shN r + knN (r.drop (shN r + 1)) + 3 = (shN r + 1 + (knN (r.drop (shN r + 1)) + 1)) + 1 by omega, List.drop_succ_cons]
              rw [e5]
              rfl
            · rw [if_neg (by rintro ⟨q, _⟩; exact h4 q), if_neg h4]
              show Except.error (p + 1 + shN r + 1 + knN (r.drop (shN r + 1))) = Except.error (p + (shN r + knN (r.drop (shN r + 1)) + 2))
              congr 1
              omega
        · rw [if_neg (by rintro ⟨q, _⟩; exact h2 q), if_neg h2]
          show Except.error (p + 1 + shN r) = Except.error (p + (shN r + 1))
          congr 1
          omega
    · rw [if_neg (fun q => h0 (e32.mp q)), if_neg (by intro q; exact h0 (Option.some.inj q))]
      rfl
/-- may a line of the colour k follow the lines l (the last first)? -/
def Follows (l : List Dyeing) (k : Nat) : Prop := l.length < 256 ∧ (l.head?).all (fun (d : Dyeing) => decide (d.colour ≤ k)) = true ∧ (l.filter fun (d : Dyeing) => d.colour == k).length < 6
instance (l : List Dyeing) (k : Nat) : Decidable (Follows l k) := by unfold Follows; infer_instance
theorem book_turn (l : List Dyeing) (p : Nat) (x : Int) (r : List Int) (hb : Byt (x :: r)) :
    bookFrom p l none none [] ((x :: r).map u8) =
      if colNo x = -1 then .error p
      else if Follows l (colNo x).toNat then
        match (lineAt r).2 with
        | none => .error (p + 1 + (lineAt r).1)
        | some z => bookFrom (p + 1 + (lineAt r).1) (⟨(colNo x).toNat, z.1.toNat, z.2.toNat⟩ :: l) none none [] ((r.drop (lineAt r).1).map u8)
      else .error p := by
  have hx : 0 ≤ x ∧ x ≤ 255 := hb x (List.mem_cons_self ..)
  have hr : Byt r := fun y hy => hb y (List.mem_cons_of_mem _ hy)
  rw [List.map_cons, bookFrom, colourOf_u8 hx]
  by_cases h : colNo x = -1
  · rw [if_pos h, if_pos h]
  · rw [if_neg h, if_neg h]
    show (if Follows l (colNo x).toNat then bookFrom (p + 1) l (some (colNo x).toNat) none [0] (r.map u8) else Except.error p) = _
    rw [line_run l _ (p + 1) r hr]
theorem book_end (l : List Dyeing) (p : Nat) : bookFrom p l none none [] (([] : List Int).map u8) = .ok l.reverse := by
  simp [bookFrom]
end Wd

set_option Elab.async false
/-! A chart of a text: the right chart whose text it is. -/
namespace Wd
open Rg RugG
theorem byteOf_LF : ∀ k : Fin 62, byteOf k.val ≠ LF := by decide +kernel
theorem colourOf_byteOf : ∀ k : Fin 62, colourOf (byteOf k.val) = some k.val := by decide +kernel
theorem cut_row (c : UInt8) : ∀ (r w rest : Bytes) (p : Nat), (∀ x ∈ r, x ≠ c) → cut c p w (r ++ c :: rest) = (p, w ++ r) :: cut c (p + (w ++ r).length + 1) [] rest
  | [], w, rest, p, _ => by
    rw [List.nil_append, cut, if_pos rfl, List.append_nil]
  | x :: r, w, rest, p, h => by
    rw [List.cons_append, cut, if_neg (h x (List.mem_cons_self ..)), cut_row c r (w ++ [x]) rest p (fun y hy => h y (List.mem_cons_of_mem _ hy)), List.append_assoc]
    rfl
theorem cut_rows : ∀ (rows : List (List Nat)) (p : Nat), (∀ r ∈ rows, ∀ k ∈ r, k < 62) →
    (cut LF p [] (rows.flatMap fun (r : List Nat) => r.map byteOf ++ [LF])).map Prod.snd = rows.map (fun r => r.map byteOf) ++ [[]]
  | [], p, _ => by
    rw [List.flatMap_nil, cut]
    rfl
  | r :: rows, p, h => by
    rw [List.flatMap_cons, List.append_assoc]
    show List.map Prod.snd (cut LF p [] (r.map byteOf ++ LF :: (rows.flatMap fun (r : List Nat) => r.map byteOf ++ [LF]))) = _
    rw [cut_row LF (r.map byteOf) [] _ p, List.map_cons, cut_rows rows _ (fun r' hr' => h r' (List.mem_cons_of_mem _ hr'))]
    · rfl
    · intro x hx
      obtain ⟨k, hk, rfl⟩ := List.mem_map.mp hx
      exact byteOf_LF ⟨k, h r (List.mem_cons_self ..) k hk⟩
theorem map_colours {r : List Nat} (h : ∀ k ∈ r, k < 62) : (r.map byteOf).map colourOf = r.map some := by
  rw [List.map_map]
  refine List.map_congr_left fun k hk => ?_
  exact colourOf_byteOf ⟨k, h k hk⟩
theorem right_iff (c : Chart) : c.right = true ↔ (1 ≤ c.wide ∧ c.wide ≤ 512 ∧ 1 ≤ c.high ∧ c.high ≤ 512) ∧ c.wide * c.high ≤ 65536 ∧ c.rows.length = c.high ∧ ∀ r ∈ c.rows, r.length = c.wide ∧ ∀ k ∈ r, k < 62 := by
  unfold Chart.right sizeOk
  simp only [Bool.and_eq_true, decide_eq_true_eq, List.all_eq_true]
  exact Iff.rfl
theorem chartOf_iff (b : Bytes) (c : Chart) : chartOf b = some c ↔ c.right = true ∧ c.text = b := by
  unfold chartOf
  constructor
  · intro h
    simp only at h
    split at h
    · rename_i q
      cases h
      exact q
    · cases h
  · rintro ⟨hr, rfl⟩
    have hR := (right_iff c).mp hr
    obtain ⟨⟨h1, h2, h3, h4⟩, h5, h6, h7⟩ := hR
    have hk : ∀ r ∈ c.rows, ∀ k ∈ r, k < 62 := fun r hr => (h7 r hr).2
    have el : ((cut LF 0 [] c.text).map fun (x : Nat × Bytes) => x.2.map colourOf).dropLast = c.rows.map fun r => r.map some := by
      have e1 : ((cut LF 0 [] c.text).map fun (x : Nat × Bytes) => x.2.map colourOf) = ((cut LF 0 [] c.text).map Prod.snd).map (fun w => w.map colourOf) := by
        rw [List.map_map]
        rfl
      rw [e1]
      unfold Chart.text
      rw [cut_rows c.rows 0 hk, List.map_append, List.map_map]
      show ((c.rows.map ((fun (w : Bytes) => w.map colourOf) ∘ fun (r : List Nat) => r.map byteOf)) ++ [[]]).dropLast = _
      rw [List.dropLast_concat]
      exact List.map_congr_left fun r hr => map_colours (hk r hr)
    simp only [el]
    have e2 : (c.rows.map fun r => r.map some).map (fun (r : List (Option Nat)) => r.filterMap id) = c.rows := by
      rw [List.map_map]
      conv => rhs; rw [← List.map_id c.rows]
      refine List.map_congr_left fun r _ => ?_
      show (r.map some).filterMap id = r
      rw [List.filterMap_map]
      show r.filterMap (fun x => some x) = r
      exact List.filterMap_some
    have e3 : ((c.rows.map fun r => r.map some).headD []).length = c.wide := by
      cases e : c.rows with
      | nil =>
        rw [e] at h6
        simp at h6
        omega
      | cons r rs =>
        have := (h7 r (by rw [e]; exact List.mem_cons_self ..)).1
        simp [this]
    have e4 : (c.rows.map fun r => r.map some).length = c.high := by rw [List.length_map, h6]
    rw [e2, e3, e4]
    have ec : (⟨c.wide, c.high, c.rows⟩ : Chart) = c := rfl
    rw [ec, if_pos ⟨hr, rfl⟩]
theorem chartOf_none (b : Bytes) : chartOf b = none ↔ ∀ c : Chart, c.right = true → c.text ≠ b := by
  constructor
  · intro h c hc e
    rw [(chartOf_iff b c).mpr ⟨hc, e⟩] at h
    cases h
  · intro h
    cases e : chartOf b with
    | none => rfl
    | some c =>
      obtain ⟨h1, h2⟩ := (chartOf_iff b c).mp e
      exact absurd h2 (h c h1)
end Wd

set_option Elab.async false
/-! A chart over lists of whole numbers: its rows of bytes; what a row needs. -/
namespace Wd
open Rg RugG
theorem byteOf_colNo_all : ∀ n : Fin 256, colNo (n.val : Int) ≠ -1 → byteOf (colNo (n.val : Int)).toNat = UInt8.ofNat n.val := by decide +kernel
theorem byteOf_colNo {x : Int} (h : colNo x ≠ -1) : byteOf (colNo x).toNat = u8 x := by
  have hx : 0 ≤ x ∧ x ≤ 255 := by
    unfold colNo at h
    split at h
    · omega
    · split at h
      · omega
      · split at h
        · omega
        · exact absurd rfl h
  have q := byteOf_colNo_all ⟨x.toNat, by omega⟩
  have e : ((x.toNat : Nat) : Int) = x := by omega
  simp only [e] at q
  exact q h
theorem colNo_inj {x y : Int} (hx : colNo x ≠ -1) (h : colNo x = colNo y) : x = y := by
  unfold colNo at *
  repeat' split at hx
  all_goals (repeat' split at h)
  all_goals omega
/-- rows of bytes, each with a byte 10 behind -/
def flat (R : List (List Int)) : List Int := R.flatMap fun r => r ++ [10]
/-- **The rows of a right chart**, all of the width w. -/
structure Rows (w : Nat) (R : List (List Int)) : Prop where
  wide : 1 ≤ w ∧ w ≤ 512
  high : 1 ≤ R.length ∧ R.length ≤ 512
  area : w * R.length ≤ 65536
  len : ∀ r ∈ R, r.length = w
  col : ∀ r ∈ R, ∀ x ∈ r, colNo x ≠ -1
def nums (r : List Int) : List Nat := r.map fun x => (colNo x).toNat
def chartR (w : Nat) (R : List (List Int)) : Chart := ⟨w, R.length, R.map nums⟩
theorem colNo_lt {x : Int} (h : colNo x ≠ -1) : (colNo x).toNat < 62 := by
  rcases colNo_range x with q | q
  · exact absurd q h
  · omega
theorem Rows.right {w : Nat} {R : List (List Int)} (h : Rows w R) : (chartR w R).right = true := by
  rw [right_iff]
  refine ⟨⟨h.wide.1, h.wide.2, h.high.1, h.high.2⟩, h.area, by simp [chartR], fun r hr => ?_⟩
  obtain ⟨r', hr', rfl⟩ := List.mem_map.mp hr
  refine ⟨by unfold nums; rw [List.length_map]; exact h.len r' hr', fun k hk => ?_⟩
  obtain ⟨x, hx, rfl⟩ := List.mem_map.mp hk
  exact colNo_lt (h.col r' hr' x hx)
theorem text_nums {r : List Int} (h : ∀ x ∈ r, colNo x ≠ -1) : (nums r).map byteOf = r.map u8 := by
  unfold nums
  rw [List.map_map]
  exact List.map_congr_left fun x hx => byteOf_colNo (h x hx)
theorem text_flat : ∀ (R : List (List Int)), (∀ r ∈ R, ∀ x ∈ r, colNo x ≠ -1) → ((R.map nums).flatMap fun (r : List Nat) => r.map byteOf ++ [LF]) = (flat R).map u8
  | [], _ => rfl
  | r :: R, h => by
    unfold flat
    rw [List.map_cons, List.flatMap_cons, List.flatMap_cons, List.map_append, text_flat R (fun r' hr' => h r' (List.mem_cons_of_mem _ hr')), text_nums (h r (List.mem_cons_self ..)), List.map_append]
    rfl
theorem Rows.chart {w : Nat} {R : List (List Int)} (h : Rows w R) : chartOf ((flat R).map u8) = some (chartR w R) :=
  (chartOf_iff _ _).mpr ⟨h.right, text_flat R h.col⟩
/-! from a right chart to its rows -/
def byteI (k : Nat) : Int := if k < 26 then 97 + k else if k < 52 then 65 + (k - 26) else 48 + (k - 52)
theorem colNo_byteI : ∀ k : Fin 62, colNo (byteI k.val) = k.val := by decide +kernel
theorem u8_byteI (k : Nat) : u8 (byteI k) = byteOf k := by
  unfold u8 byteI byteOf
  congr 1
  split
  · omega
  · split <;> omega
theorem byteI_range {k : Nat} (h : k < 62) : 0 ≤ byteI k ∧ byteI k ≤ 255 := by
  unfold byteI
  split
  · omega
  · split <;> omega
theorem map_u8_inj : ∀ {a b : List Int}, Byt a → Byt b → a.map u8 = b.map u8 → a = b
  | [], [], _, _, _ => rfl
  | [], _ :: _, _, _, h => by simp at h
  | _ :: _, [], _, _, h => by simp at h
  | x :: a, y :: b, ha, hb, h => by
    rw [List.map_cons, List.map_cons] at h
    have h1 := (List.cons.inj h).1
    have h2 := (List.cons.inj h).2
    rw [(u8_inj (ha x (List.mem_cons_self ..)) (hb y (List.mem_cons_self ..))).mp h1, map_u8_inj (fun z hz => ha z (List.mem_cons_of_mem _ hz)) (fun z hz => hb z (List.mem_cons_of_mem _ hz)) h2]
theorem mem_flat {R : List (List Int)} {x : Int} : x ∈ flat R ↔ ∃ r ∈ R, x ∈ r ∨ x = 10 := by
  unfold flat
  rw [List.mem_flatMap]
  simp [List.mem_append]
theorem chart_rows {t : List Int} (ht : Byt t) {c : Chart} (h : chartOf (t.map u8) = some c) : ∃ (w : Nat) (R : List (List Int)), Rows w R ∧ t = flat R ∧ c = chartR w R := by
  obtain ⟨h1, h2⟩ := (chartOf_iff _ _).mp h
  obtain ⟨⟨a1, a2, a3, a4⟩, a5, a6, a7⟩ := (right_iff c).mp h1
  have hcol : ∀ r ∈ c.rows, ∀ k ∈ r, k < 62 := fun r hr => (a7 r hr).2
  have hR : Rows c.wide (c.rows.map fun r => r.map byteI) := by
    refine ⟨⟨a1, a2⟩, by rw [List.length_map, a6]; exact ⟨a3, a4⟩, by rw [List.length_map, a6]; exact a5, fun r hr => ?_, fun r hr x hx => ?_⟩
    · obtain ⟨r', hr', rfl⟩ := List.mem_map.mp hr
      rw [List.length_map]
      exact (a7 r' hr').1
    · obtain ⟨r', hr', rfl⟩ := List.mem_map.mp hr
      obtain ⟨k, hk, rfl⟩ := List.mem_map.mp hx
      have := colNo_byteI ⟨k, hcol r' hr' k hk⟩
      simp only at this
      omega
  have hn : (c.rows.map fun r => r.map byteI).map nums = c.rows := by
    rw [List.map_map]
    conv => rhs; rw [← List.map_id c.rows]
    refine List.map_congr_left fun r hr => ?_
    show nums (r.map byteI) = r
    unfold nums
    rw [List.map_map]
    conv => rhs; rw [← List.map_id r]
    refine List.map_congr_left fun k hk => ?_
    show (colNo (byteI k)).toNat = k
    have := colNo_byteI ⟨k, hcol r hr k hk⟩
    simp only at this
    omega
  refine ⟨c.wide, _, hR, ?_, ?_⟩
  · refine map_u8_inj ht (fun x hx => ?_) ?_
    · obtain ⟨r, hr, hx⟩ := mem_flat.mp hx
      rcases hx with hx | rfl
      · obtain ⟨r', hr', rfl⟩ := List.mem_map.mp hr
        obtain ⟨k, hk, rfl⟩ := List.mem_map.mp hx
        exact byteI_range (hcol r' hr' k hk)
      · omega
    · rw [← text_flat _ hR.col, hn, ← h2]
      rfl
  · unfold chartR
    rw [hn, List.length_map, a6]
theorem count_nums {r : List Int} (h : ∀ x ∈ r, colNo x ≠ -1) {y : Int} (hy : colNo y ≠ -1) : rowNeed (nums r) (colNo y).toNat = r.count y := by
  unfold rowNeed nums
  induction r with
  | nil => rfl
  | cons x r ih =>
    have ih' := ih fun z hz => h z (List.mem_cons_of_mem _ hz)
    have hx := h x (List.mem_cons_self ..)
    rw [List.map_cons, List.filter_cons]
    by_cases e : x = y
    · subst e
      rw [if_pos (by simp), List.length_cons, ih', List.count_cons_self]
    · rw [if_neg, ih', List.count_cons_of_ne (fun q => e q)]
      intro q
      have q' : (colNo x).toNat = (colNo y).toNat := by simpa using q
      apply e
      apply colNo_inj hx
      rcases colNo_range x with z | z
      · exact absurd z hx
      · rcases colNo_range y with z' | z'
        · exact absurd z' hy
        · omega
theorem needs_rows {w : Nat} {R : List (List Int)} (h : Rows w R) {y : Int} (hy : colNo y ≠ -1) : (chartR w R).needs (colNo y).toNat = R.map fun r => r.count y := by
  unfold Chart.needs chartR
  rw [List.map_map]
  refine List.map_congr_left fun r hr => ?_
  exact count_nums (h.col r hr) hy
/-! the colour that is handed in -/
theorem colourAt_eq (n : Nat) : colourAt n = if colNo (n : Int) = -1 then none else some (colNo (n : Int)).toNat := by
  unfold colourAt
  by_cases h : 255 < n
  · rw [if_pos h, if_pos]
    unfold colNo
    repeat' split
    all_goals omega
  · rw [if_neg h]
    have q := colourOf_u8 (z := (n : Int)) (by omega)
    exact q
end Wd

set_option Elab.async false
/-! The way that's told: the least of the ways that go. -/
namespace Wd
open Rg RugG
/-! ### the ways -/
theorem mem_pickings (n : Nat) : ∀ (f : Nat) (had w : List Nat), w ∈ pickings n f had ↔ w.length ≤ f ∧ w.Nodup ∧ ∀ k ∈ w, k < n ∧ k ∉ had
  | 0, had, w => by
    rw [pickings]
    constructor
    · intro h
      have e : w = [] := by simpa using h
      subst e
      exact ⟨Nat.le_refl _, List.nodup_nil, fun k hk => absurd hk (by simp)⟩
    · rintro ⟨h, _, _⟩
      have e : w = [] := List.eq_nil_of_length_eq_zero (by omega)
      subst e
      simp
  | f + 1, had, w => by
    rw [pickings, List.mem_cons, List.mem_flatMap]
    constructor
    · rintro (rfl | ⟨k, hk, h⟩)
      · exact ⟨Nat.zero_le _, List.nodup_nil, fun k hk => absurd hk (by simp)⟩
      · obtain ⟨r, hr, rfl⟩ := List.mem_map.mp h
        obtain ⟨h1, h2, h3⟩ := (mem_pickings n f (k :: had) r).mp hr
        obtain ⟨hk1, hk2⟩ := List.mem_filter.mp hk
        have hkn : k < n := List.mem_range.mp hk1
        have hkh : k ∉ had := by simpa using hk2
        refine ⟨by simp only [List.length_cons]; omega, List.nodup_cons.mpr ⟨fun q => (h3 k q).2 (List.mem_cons_self ..), h2⟩, fun j hj => ?_⟩
        rcases List.mem_cons.mp hj with rfl | hj
        · exact ⟨hkn, hkh⟩
        · exact ⟨(h3 j hj).1, fun q => (h3 j hj).2 (List.mem_cons_of_mem _ q)⟩
    · rintro ⟨h1, h2, h3⟩
      cases w with
      | nil => exact .inl rfl
      | cons k r =>
        refine .inr ⟨k, List.mem_filter.mpr ⟨List.mem_range.mpr (h3 k (List.mem_cons_self ..)).1, by simpa using (h3 k (List.mem_cons_self ..)).2⟩, List.mem_map.mpr ⟨r, ?_, rfl⟩⟩
        refine (mem_pickings n f (k :: had) r).mpr ⟨by simp only [List.length_cons] at h1; omega, (List.nodup_cons.mp h2).2, fun j hj => ⟨(h3 j (List.mem_cons_of_mem _ hj)).1, ?_⟩⟩
        intro q
        rcases List.mem_cons.mp q with rfl | q
        · exact (List.nodup_cons.mp h2).1 hj
        · exact (h3 j (List.mem_cons_of_mem _ hj)).2 q
theorem nodup_le : ∀ {n : Nat} {w : List Nat}, w.Nodup → (∀ k ∈ w, k < n) → w.length ≤ n
  | 0, w, _, hn => by
    cases w with
    | nil => exact Nat.le_refl _
    | cons k r => exact absurd (hn k (List.mem_cons_self ..)) (Nat.not_lt_zero _)
  | n + 1, w, h, hn => by
    have ih := nodup_le (n := n) (w := w.erase n) (h.erase n) fun k hk => by
      have h1 := (h.mem_erase_iff).mp hk
      have h2 := hn k h1.2
      have h3 := h1.1
      omega
    rw [List.length_erase] at ih
    split at ih <;> omega
theorem mem_ways (n : Nat) (w : List Nat) : w ∈ pickings n n [] ↔ w.Nodup ∧ ∀ k ∈ w, k < n := by
  rw [mem_pickings]
  constructor
  · rintro ⟨_, h2, h3⟩
    exact ⟨h2, fun k hk => (h3 k hk).1⟩
  · rintro ⟨h2, h3⟩
    exact ⟨nodup_le h2 h3, h2, fun k hk => ⟨h3 k hk, by simp⟩⟩
/-! ### the order -/
theorem sooner_irr : ∀ w : List Nat, sooner w w = false
  | [] => rfl
  | a :: r => by simp [sooner, sooner_irr r]
theorem sooner_trans : ∀ {a b c : List Nat}, sooner a b = true → sooner b c = true → sooner a c = true
  | [], _, _, h, _ => by simp [sooner] at h
  | _ :: _, [], _, h, _ => by simp [sooner] at h
  | _ :: _, _ :: _, [], _, h => by simp [sooner] at h
  | x :: a, y :: b, z :: c, h1, h2 => by
    simp only [sooner, Bool.or_eq_true, decide_eq_true_eq, Bool.and_eq_true, beq_iff_eq] at h1 h2 ⊢
    rcases h1 with h1 | ⟨e1, h1⟩
    · rcases h2 with h2 | ⟨e2, h2⟩
      · exact .inl (by omega)
      · exact .inl (by omega)
    · rcases h2 with h2 | ⟨e2, h2⟩
      · exact .inl (by omega)
      · exact .inr ⟨by omega, sooner_trans h1 h2⟩
theorem sooner_total : ∀ {a b : List Nat}, a.length = b.length → a ≠ b → sooner a b = true ∨ sooner b a = true
  | [], [], _, h => absurd rfl h
  | [], _ :: _, h, _ => by simp at h
  | _ :: _, [], h, _ => by simp at h
  | x :: a, y :: b, hl, hn => by
    simp only [sooner, Bool.or_eq_true, decide_eq_true_eq, Bool.and_eq_true, beq_iff_eq]
    by_cases h : x = y
    · subst h
      have hn' : a ≠ b := fun q => hn (by rw [q])
      rcases sooner_total (by simpa using hl) hn' with q | q
      · exact .inl (.inr ⟨rfl, q⟩)
      · exact .inr (.inr ⟨rfl, q⟩)
    · omega
theorem before_iff (l : List Dyeing) (x y : List Nat) : wayBefore l x y = true ↔ wayCost l x < wayCost l y ∨ (wayCost l x = wayCost l y ∧ (x.length < y.length ∨ (x.length = y.length ∧ sooner x y = true))) := by
  unfold wayBefore
  simp only [Bool.or_eq_true, decide_eq_true_eq, Bool.and_eq_true, beq_iff_eq]
theorem before_irr (l : List Dyeing) (x : List Nat) : wayBefore l x x = false := by
  cases e : wayBefore l x x with
  | false => rfl
  | true =>
    rw [before_iff] at e
    rcases e with h | ⟨_, h | ⟨_, h⟩⟩
    · omega
    · omega
    · rw [sooner_irr] at h
      cases h
theorem before_trans {l : List Dyeing} {x y z : List Nat} (h1 : wayBefore l x y = true) (h2 : wayBefore l y z = true) : wayBefore l x z = true := by
  rw [before_iff] at h1 h2 ⊢
  rcases h1 with h1 | ⟨e1, h1⟩
  · rcases h2 with h2 | ⟨e2, h2⟩
    · exact .inl (by omega)
    · exact .inl (by omega)
  · rcases h2 with h2 | ⟨e2, h2⟩
    · exact .inl (by omega)
    · refine .inr ⟨by omega, ?_⟩
      rcases h1 with h1 | ⟨f1, h1⟩
      · rcases h2 with h2 | ⟨f2, h2⟩
        · exact .inl (by omega)
        · exact .inl (by omega)
      · rcases h2 with h2 | ⟨f2, h2⟩
        · exact .inl (by omega)
        · exact .inr ⟨by omega, sooner_trans h1 h2⟩
theorem before_total (l : List Dyeing) {x y : List Nat} (h : x ≠ y) : wayBefore l x y = true ∨ wayBefore l y x = true := by
  rw [before_iff, before_iff]
  by_cases h1 : wayCost l x = wayCost l y
  · by_cases h2 : x.length = y.length
    · rcases sooner_total h2 h with q | q
      · exact .inl (.inr ⟨h1, .inr ⟨h2, q⟩⟩)
      · exact .inr (.inr ⟨h1.symm, .inr ⟨h2.symm, q⟩⟩)
    · omega
  · omega
/-! ### the least -/
def pick (l : List Dyeing) (b : Option (List Nat)) (w : List Nat) : Option (List Nat) := match b with
  | none => some w
  | some v => if wayBefore l w v = true then some w else some v
theorem pick_fold (l : List Dyeing) : ∀ (ws : List (List Nat)) (b : Option (List Nat)),
    match ws.foldl (pick l) b with
    | none => b = none ∧ ws = []
    | some w => (w ∈ ws ∨ b = some w) ∧ (∀ v ∈ ws, v = w ∨ wayBefore l w v = true) ∧ ∀ v, b = some v → v = w ∨ wayBefore l w v = true
  | [], none => ⟨rfl, rfl⟩
  | [], some w => ⟨.inr rfl, fun v hv => absurd hv (by simp), fun v hv => .inl (Option.some.inj hv).symm⟩
  | x :: ws, b => by
    rw [List.foldl_cons]
    have ih := pick_fold l ws (pick l b x)
    cases e : ws.foldl (pick l) (pick l b x) with
    | none =>
      rw [e] at ih
      have h := ih.1
      unfold pick at h
      split at h
      · cases h
      · split at h <;> cases h
    | some w =>
      rw [e] at ih
      obtain ⟨h1, h2, h3⟩ := ih
      have hx : x = w ∨ wayBefore l w x = true := by
        cases b with
        | none => exact h3 x rfl
        | some v =>
          by_cases q : wayBefore l x v = true
          · exact h3 x (by show (if _ then _ else _) = _; rw [if_pos q])
          · have h4 := h3 v (by show (if _ then _ else _) = _; rw [if_neg q])
            by_cases exv : x = v
            · rw [exv]
              exact h4
            · have q2 : wayBefore l v x = true := by
                rcases before_total l exv with z | z
                · exact absurd z q
                · exact z
              rcases h4 with h4 | h4
              · rw [← h4]
                exact .inr q2
              · exact .inr (before_trans h4 q2)
      refine ⟨?_, fun v hv => ?_, fun v hv => ?_⟩
      · rcases h1 with h1 | h1
        · exact .inl (List.mem_cons_of_mem _ h1)
        · cases b with
          | none =>
            have : x = w := Option.some.inj h1
            exact .inl (by rw [this]; exact List.mem_cons_self ..)
          | some v =>
            have h5 : (if wayBefore l x v = true then some x else some v) = some w := h1
            by_cases q : wayBefore l x v = true
            · rw [if_pos q] at h5
              exact .inl (by rw [Option.some.inj h5]; exact List.mem_cons_self ..)
            · rw [if_neg q] at h5
              exact .inr h5
      · rcases List.mem_cons.mp hv with rfl | hv
        · exact hx
        · exact h2 v hv
      · subst hv
        by_cases q : wayBefore l x v = true
        · have h6 := h3 x (by show (if _ then _ else _) = _; rw [if_pos q])
          rcases h6 with h6 | h6
          · rw [← h6]
            exact .inr q
          · exact .inr (before_trans h6 q)
        · exact h3 v (by show (if _ then _ else _) = _; rw [if_neg q])
/-- a way that goes -/
def Goes (l : List Dyeing) (rows : List (Nat × Nat)) (w : List Nat) : Prop := w.Nodup ∧ (∀ k ∈ w, k < l.length) ∧ (goes l w rows).isSome = true
theorem best_fold (l : List Dyeing) (rows : List (Nat × Nat)) : bestWay l rows = ((pickings l.length l.length []).filter fun (w : List Nat) => (goes l w rows).isSome).foldl (pick l) none := rfl
theorem mem_cands (l : List Dyeing) (rows : List (Nat × Nat)) (w : List Nat) : w ∈ ((pickings l.length l.length []).filter fun (w : List Nat) => (goes l w rows).isSome) ↔ Goes l rows w := by
  rw [List.mem_filter, mem_ways]
  exact ⟨fun ⟨⟨a, b⟩, c⟩ => ⟨a, b, c⟩, fun ⟨a, b, c⟩ => ⟨⟨a, b⟩, c⟩⟩
theorem best_none (l : List Dyeing) (rows : List (Nat × Nat)) : bestWay l rows = none ↔ ∀ w, ¬ Goes l rows w := by
  rw [best_fold]
  have q := pick_fold l ((pickings l.length l.length []).filter fun (w : List Nat) => (goes l w rows).isSome) none
  constructor
  · intro h w hw
    rw [h] at q
    have := (mem_cands l rows w).mpr hw
    rw [q.2] at this
    simp at this
  · intro h
    cases e : ((pickings l.length l.length []).filter fun (w : List Nat) => (goes l w rows).isSome).foldl (pick l) none with
    | none => rfl
    | some w =>
      rw [e] at q
      rcases q.1 with z | z
      · exact absurd ((mem_cands l rows w).mp z) (h w)
      · cases z
theorem best_some (l : List Dyeing) (rows : List (Nat × Nat)) (w : List Nat) : bestWay l rows = some w ↔ Goes l rows w ∧ ∀ v, Goes l rows v → v = w ∨ wayBefore l w v = true := by
  rw [best_fold]
  have q := pick_fold l ((pickings l.length l.length []).filter fun (w : List Nat) => (goes l w rows).isSome) none
  constructor
  · intro h
    rw [h] at q
    refine ⟨?_, fun v hv => q.2.1 v ((mem_cands l rows v).mpr hv)⟩
    rcases q.1 with z | z
    · exact (mem_cands l rows w).mp z
    · cases z
  · rintro ⟨h1, h2⟩
    cases e : ((pickings l.length l.length []).filter fun (w : List Nat) => (goes l w rows).isSome).foldl (pick l) none with
    | none =>
      rw [e] at q
      have := (mem_cands l rows w).mpr h1
      rw [q.2] at this
      simp at this
    | some v =>
      rw [e] at q
      have hv : Goes l rows v := by
        rcases q.1 with z | z
        · exact (mem_cands l rows v).mp z
        · cases z
      rcases h2 v hv with z | z
      · rw [z]
      · rcases q.2.1 w ((mem_cands l rows w).mpr h1) with y | y
        · rw [y]
        · have := before_trans z y
          rw [before_irr] at this
          cases this
end Wd

set_option Elab.async false
/-! What each call is to answer, over lists of whole numbers. -/
namespace Wd
open Rg RugG
def intsN (l : List Nat) : List Int := l.map fun (n : Nat) => (n : Int)
theorem shown_says (z : Int) : RugGNeutral.shown (says z) = [z] := rfl
theorem shown_tells (z : Int) (l : List Int) : RugGNeutral.shown (tells z l) = z :: l := by
  show z :: (l ++ []) = z :: l
  rw [List.append_nil]
theorem needs_eq (colour : Int) (hc : 0 ≤ colour) (t : List Int) : PyWqbbck.needs colour t = if 66048 < t.length then [-2] else match chartOf (t.map u8) with
    | none => [-6]
    | some c => if colNo colour = -1 then [-1] else 0 :: intsN (c.needs (colNo colour).toNat) := by
  show RugGNeutral.shown (RugG.answer (.needs (RugGNeutral.text t) colour.toNat)) = _
  rw [text_eq]
  show RugGNeutral.shown (if 66048 < (t.map u8).length then MUCH else (match chartOf (t.map u8) with
    | none => WRONG
    | some c => ofOne colour.toNat fun k => tells 0 (RugG.ints (c.needs k)))) = _
  rw [List.length_map]
  by_cases h : 66048 < t.length
  · rw [if_pos h, if_pos h]
    rfl
  · rw [if_neg h, if_neg h]
    cases chartOf (t.map u8) with
    | none => rfl
    | some c =>
      show RugGNeutral.shown (ofOne colour.toNat fun k => tells 0 (RugG.ints (c.needs k))) = if colNo colour = -1 then [-1] else 0 :: intsN (c.needs (colNo colour).toNat)
      unfold ofOne
      rw [colourAt_eq, show ((colour.toNat : Nat) : Int) = colour by omega]
      by_cases h2 : colNo colour = -1
      · rw [if_pos h2, if_pos h2]
        rfl
      · rw [if_neg h2, if_neg h2]
        exact shown_tells _ _
/-- a call of a chart and a book -/
theorem both_eq (t b : List Int) (f : Chart → Book → Ans) : RugGNeutral.shown (ofBoth (t.map u8) (b.map u8) f) = if 66048 < t.length ∨ 4096 < b.length then [-2] else match chartOf (t.map u8), bookIn (b.map u8) with
    | some c, .ok d => RugGNeutral.shown (f c d)
    | _, _ => [-6] := by
  unfold ofBoth
  rw [List.length_map, List.length_map]
  show RugGNeutral.shown (if 66048 < t.length ∨ 4096 < b.length then MUCH else _) = _
  by_cases h : 66048 < t.length ∨ 4096 < b.length
  · rw [if_pos h, if_pos h]
    rfl
  · rw [if_neg h, if_neg h]
    cases chartOf (t.map u8) <;> cases bookIn (b.map u8) <;> rfl
theorem one_eq (colour : Int) (hc : 0 ≤ colour) (f : Nat → Ans) : RugGNeutral.shown (ofOne colour.toNat f) = if colNo colour = -1 then [-1] else RugGNeutral.shown (f (colNo colour).toNat) := by
  unfold ofOne
  rw [colourAt_eq, show ((colour.toNat : Nat) : Int) = colour by omega]
  by_cases h2 : colNo colour = -1
  · rw [if_pos h2, if_pos h2]
    rfl
  · rw [if_neg h2, if_neg h2]
def takesN (z : List Take) : List Int := intsN (z.flatMap fun (x : Take) => [x.number, x.first, x.last, x.knots])
/-- what is answered of a chart, a book and a colour that are right -/
def shareA (c : Chart) (d : Book) (k : Nat) : List Int := match shareOf c d k with
  | none => [-5]
  | some z => 0 :: takesN z
def costA (c : Chart) (d : Book) (k : Nat) : List Int := match costOf c d k with
  | none => [-5]
  | some z => [(z : Int)]
def leftA (c : Chart) (d : Book) (k : Nat) : List Int := match leftOf c d k with
  | none => [-5]
  | some z => 0 :: intsN z
def allA (c : Chart) (d : Book) : List Int := match firstShort c d with
  | some k => [-5, (k : Int)]
  | none => [((((List.range 62).filterMap (costOf c d)).sum : Nat) : Int)]
/-- the refusals ahead of these, in their order -/
def refusals (t b : List Int) (f : Chart → Book → List Int) : List Int := if 66048 < t.length ∨ 4096 < b.length then [-2] else match chartOf (t.map u8), bookIn (b.map u8) with
    | some c, .ok d => f c d
    | _, _ => [-6]
theorem refusals_congr {t b : List Int} {f g : Chart → Book → List Int} (h : ∀ c d, f c d = g c d) : refusals t b f = refusals t b g := by
  unfold refusals
  split
  · rfl
  · cases chartOf (t.map u8) <;> cases bookIn (b.map u8) <;> first | rfl | exact h _ _
theorem share_eq (colour : Int) (hc : 0 ≤ colour) (t b : List Int) : PyWqbbck.share colour t b = refusals t b fun c d => if colNo colour = -1 then [-1] else shareA c d (colNo colour).toNat := by
  show RugGNeutral.shown (RugG.answer (.share (RugGNeutral.text t) (RugGNeutral.text b) colour.toNat)) = _
  rw [text_eq, text_eq]
  refine Eq.trans (both_eq t b _) ?_
  refine refusals_congr (f := fun c d => RugGNeutral.shown _) fun c d => ?_
  refine Eq.trans (one_eq colour hc _) ?_
  by_cases h : colNo colour = -1
  · rw [if_pos h, if_pos h]
  · rw [if_neg h, if_neg h]
    unfold shareA
    cases shareOf c d (colNo colour).toNat with
    | none => rfl
    | some z => exact shown_tells _ _
theorem cost_eq (colour : Int) (hc : 0 ≤ colour) (t b : List Int) : PyWqbbck.cost colour t b = refusals t b fun c d => if colNo colour = -1 then [-1] else costA c d (colNo colour).toNat := by
  show RugGNeutral.shown (RugG.answer (.cost (RugGNeutral.text t) (RugGNeutral.text b) colour.toNat)) = _
  rw [text_eq, text_eq]
  refine Eq.trans (both_eq t b _) ?_
  refine refusals_congr (f := fun c d => RugGNeutral.shown _) fun c d => ?_
  refine Eq.trans (one_eq colour hc _) ?_
  by_cases h : colNo colour = -1
  · rw [if_pos h, if_pos h]
  · rw [if_neg h, if_neg h]
    unfold costA
    cases costOf c d (colNo colour).toNat with
    | none => rfl
    | some z => rfl
theorem left_eq (colour : Int) (hc : 0 ≤ colour) (t b : List Int) : PyWqbbck.left colour t b = refusals t b fun c d => if colNo colour = -1 then [-1] else leftA c d (colNo colour).toNat := by
  show RugGNeutral.shown (RugG.answer (.left (RugGNeutral.text t) (RugGNeutral.text b) colour.toNat)) = _
  rw [text_eq, text_eq]
  refine Eq.trans (both_eq t b _) ?_
  refine refusals_congr (f := fun c d => RugGNeutral.shown _) fun c d => ?_
  refine Eq.trans (one_eq colour hc _) ?_
  by_cases h : colNo colour = -1
  · rw [if_pos h, if_pos h]
  · rw [if_neg h, if_neg h]
    unfold leftA
    cases leftOf c d (colNo colour).toNat with
    | none => rfl
    | some z => exact shown_tells _ _
theorem all_eq (t b : List Int) : PyWqbbck.all_costs t b = refusals t b allA := by
  show RugGNeutral.shown (RugG.answer (.all (RugGNeutral.text t) (RugGNeutral.text b))) = _
  rw [text_eq, text_eq]
  refine Eq.trans (both_eq t b _) ?_
  refine refusals_congr (f := fun c d => RugGNeutral.shown _) fun c d => ?_
  unfold allA
  cases firstShort c d with
  | none => rfl
  | some z => rfl
end Wd

set_option Elab.async false
/-! A way gone dyeing by dyeing: what a part of it takes and what is left. -/
namespace Wd
open Rg RugG
/-- one dyeing over the rows that are left: what it takes, and the rest; none: it takes no row -/
def one (l : List Dyeing) (k : Nat) (rows : List (Nat × Nat)) : Option (Take × List (Nat × Nat)) := match l[k]? with
  | none => none
  | some d => if (takes d.knots 0 rows).1 = 0 then none else some (⟨k, (rows.headD (0, 0)).1, ((rows.take (takes d.knots 0 rows).1).getLastD (0, 0)).1, (takes d.knots 0 rows).2⟩, rows.drop (takes d.knots 0 rows).1)
/-- several, one behind another -/
def run (l : List Dyeing) : List Nat → List (Nat × Nat) → Option (List Take × List (Nat × Nat))
  | [], rows => some ([], rows)
  | k :: r, rows => match one l k rows with
    | none => none
    | some z => match run l r z.2 with
      | none => none
      | some y => some (z.1 :: y.1, y.2)
theorem goes_run (l : List Dyeing) : ∀ (w : List Nat) (rows : List (Nat × Nat)), goes l w rows = match run l w rows with
    | none => none
    | some y => if y.2 = [] then some y.1 else none
  | [], [] => rfl
  | [], _ :: _ => rfl
  | k :: r, rows => by
    rw [goes, run]
    unfold one
    cases l[k]? with
    | none => rfl
    | some d =>
      simp only
      by_cases h : (takes d.knots 0 rows).1 = 0
      · rw [if_pos h, if_pos h]
      · rw [if_neg h, if_neg h, goes_run l r]
        simp only
        cases run l r (rows.drop (takes d.knots 0 rows).1) with
        | none => rfl
        | some y =>
          simp only
          by_cases h2 : y.2 = []
          · rw [if_pos h2, if_pos h2]
            rfl
          · rw [if_neg h2, if_neg h2]
            rfl
theorem run_append (l : List Dyeing) : ∀ (u v : List Nat) (rows : List (Nat × Nat)), run l (u ++ v) rows = match run l u rows with
    | none => none
    | some y => match run l v y.2 with
      | none => none
      | some z => some (y.1 ++ z.1, z.2)
  | [], v, rows => by
    rw [List.nil_append, run]
    simp only
    cases run l v rows with
    | none => rfl
    | some z => rfl
  | k :: u, v, rows => by
    rw [List.cons_append, run, run]
    cases one l k rows with
    | none => rfl
    | some z =>
      simp only
      rw [run_append l u v z.2]
      cases run l u z.2 with
      | none => rfl
      | some y =>
        simp only
        cases run l v y.2 with
        | none => rfl
        | some q => rfl
theorem one_nil (l : List Dyeing) (k : Nat) : one l k [] = none := by
  unfold one
  cases l[k]? with
  | none => rfl
  | some d =>
    simp only
    rw [takes, if_pos rfl]
/-- behind the last row nothing more goes -/
theorem run_nil_rows (l : List Dyeing) (w : List Nat) (h : w ≠ []) : run l w [] = none := by
  cases w with
  | nil => exact absurd rfl h
  | cons k r => rw [run, one_nil]
theorem run_snoc (l : List Dyeing) (u : List Nat) (k : Nat) (rows : List (Nat × Nat)) : run l (u ++ [k]) rows = match run l u rows with
    | none => none
    | some y => match one l k y.2 with
      | none => none
      | some z => some (y.1 ++ [z.1], z.2) := by
  rw [run_append]
  cases run l u rows with
  | none => rfl
  | some y =>
    simp only [run]
    cases one l k y.2 with
    | none => rfl
    | some z => rfl
theorem goes_isSome (l : List Dyeing) (w : List Nat) (rows : List (Nat × Nat)) : (goes l w rows).isSome = true ↔ ∃ ts, run l w rows = some (ts, []) := by
  rw [goes_run]
  cases run l w rows with
  | none => simp
  | some y =>
    obtain ⟨ts, r⟩ := y
    simp only
    by_cases h : r = []
    · rw [if_pos h]
      subst h
      simp
    · rw [if_neg h]
      simp [h]
theorem goes_of_run {l : List Dyeing} {w : List Nat} {rows : List (Nat × Nat)} {ts : List Take} (h : run l w rows = some (ts, [])) : goes l w rows = some ts := by
  rw [goes_run, h]
  rfl
theorem run_lt {l : List Dyeing} : ∀ {w : List Nat} {rows : List (Nat × Nat)} {y : List Take × List (Nat × Nat)}, run l w rows = some y → ∀ k ∈ w, k < l.length
  | [], _, _, _, k, hk => absurd hk (by simp)
  | j :: w, rows, y, h, k, hk => by
    rw [run] at h
    cases e : one l j rows with
    | none =>
      rw [e] at h
      cases h
    | some z =>
      rw [e] at h
      simp only at h
      rcases List.mem_cons.mp hk with rfl | hk
      · unfold one at e
        cases e2 : l[k]? with
        | none =>
          rw [e2] at e
          cases e
        | some d => exact (List.getElem?_eq_some_iff.mp e2).1
      · cases e3 : run l w z.2 with
        | none =>
          rw [e3] at h
          cases h
        | some q => exact run_lt e3 k hk
theorem Goes_iff (l : List Dyeing) (rows : List (Nat × Nat)) (w : List Nat) : Goes l rows w ↔ w.Nodup ∧ ∃ ts, run l w rows = some (ts, []) := by
  unfold Goes
  rw [goes_isSome]
  constructor
  · rintro ⟨h1, _, h3⟩
    exact ⟨h1, h3⟩
  · rintro ⟨h1, ts, h3⟩
    exact ⟨h1, run_lt h3, ts, h3⟩
/-! ### a way's cost grows at its end -/
def shadeOf (l : List Dyeing) (k : Nat) : Nat := (l[k]?.map fun (d : Dyeing) => d.shade).getD 0
theorem cost_two (l : List Dyeing) (a b : Nat) (r : List Nat) : wayCost l (a :: b :: r) = apartBy (shadeOf l a) (shadeOf l b) + wayCost l (b :: r) := by
  rw [wayCost]
  rfl
theorem cost_snoc (l : List Dyeing) : ∀ (u : List Nat) (a b : Nat), wayCost l (u ++ [a] ++ [b]) = wayCost l (u ++ [a]) + apartBy (shadeOf l a) (shadeOf l b)
  | [], a, b => by
    show wayCost l (a :: b :: []) = wayCost l (a :: []) + _
    rw [cost_two]
    simp [wayCost]
  | [x], a, b => by
    show wayCost l (x :: a :: b :: []) = wayCost l (x :: a :: []) + _
    rw [cost_two, cost_two, cost_two]
    simp [wayCost]
  | x :: y :: u, a, b => by
    show wayCost l (x :: y :: (u ++ [a] ++ [b])) = wayCost l (x :: y :: (u ++ [a])) + _
    have ih := cost_snoc l (y :: u) a b
    rw [cost_two, cost_two]
    have e1 : y :: (u ++ [a] ++ [b]) = (y :: u) ++ [a] ++ [b] := rfl
    have e2 : y :: (u ++ [a]) = (y :: u) ++ [a] := rfl
    rw [e1, e2, ih, Nat.add_assoc]
theorem cost_le (l : List Dyeing) : ∀ (u v : List Nat), wayCost l u ≤ wayCost l (u ++ v)
  | [], v => by simp [wayCost]
  | [x], v => by simp [wayCost]
  | x :: y :: u, v => by
    show wayCost l (x :: y :: u) ≤ wayCost l (x :: y :: (u ++ v))
    rw [cost_two, cost_two]
    have := cost_le l (y :: u) v
    exact Nat.add_le_add_left this _
end Wd

set_option Elab.async false
/-! judge's own defs as Lean functions, and what they are worth. -/
namespace Wd
open Rg RugG
theorem judge_eq (b : List Int) : PyWqbbck.judge b = if 4096 < b.length then [-2] else match bookIn (b.map u8) with
    | .ok d => [(d.length : Int)]
    | .error k => [-6, (k : Int)] := by
  show RugGNeutral.shown (RugG.answer (.judge (RugGNeutral.text b))) = _
  rw [text_eq]
  show RugGNeutral.shown (if 4096 < (b.map u8).length then MUCH else (match bookIn (b.map u8) with
    | .ok d => says (d.length : Int)
    | .error k => tells (-6) [(k : Int)])) = _
  rw [List.length_map]
  by_cases h : 4096 < b.length
  · rw [if_pos h, if_pos h]
    rfl
  · rw [if_neg h, if_neg h]
    cases bookIn (b.map u8) <;> rfl
def byteEnd (t : List Int) (s : Nat) (c : Int) : Nat := if t[s]? = some c then s + 1 else s
def partEnd (t : List Int) (s p : Nat) : Nat :=
  if p = 2 then s + shN (t.drop s) else if p = 4 then s + knN (t.drop s) else if p = 5 then byteEnd t s 10 else byteEnd t s 32
/-- the ends of a line's parts: from es on, with e the last -/
def endsFrom (t : List Int) : Nat → List Nat → Nat → List Nat
  | 0, es, e => es ++ [e]
  | f + 1, es, e => if partEnd t e (es.length + 1) = e then es ++ [e] else endsFrom t f (es ++ [e]) (partEnd t e (es.length + 1))
def lineEnds (t : List Int) (s : Nat) : List Nat := endsFrom t 5 [] (s + 1)
theorem bE (t : List Int) (s : Nat) (c : Int) : byteEnd t s c = s ↔ ¬ t[s]? = some c := by
  unfold byteEnd
  by_cases h : t[s]? = some c
  · rw [if_pos h]
    simp [h]
  · rw [if_neg h]
    simp [h]
theorem bE2 {t : List Int} {s : Nat} {c : Int} (h : t[s]? = some c) : byteEnd t s c = s + 1 := by
  unfold byteEnd
  rw [if_pos h]
/-- the line's ends are whole, and their last, as lineAt says -/
theorem lineEnds_last (t : List Int) (s : Nat) : ∃ es e, lineEnds t s = es ++ [e] ∧ e = s + 1 + (lineAt (t.drop (s + 1))).1 ∧ (es.length < 5 ↔ (lineAt (t.drop (s + 1))).2 = none) ∧ es.length ≤ 5 := by
  have p1 : ∀ e, partEnd t e 1 = byteEnd t e 32 := fun e => rfl
  have p2 : ∀ e, partEnd t e 2 = e + shN (t.drop e) := fun e => rfl
  have p3 : ∀ e, partEnd t e 3 = byteEnd t e 32 := fun e => rfl
  have p4 : ∀ e, partEnd t e 4 = e + knN (t.drop e) := fun e => rfl
  have p5 : ∀ e, partEnd t e 5 = byteEnd t e 10 := fun e => rfl
  have d0 : ∀ i, (t.drop (s + 1))[i]? = t[s + 1 + i]? := fun i => by rw [List.getElem?_drop]
  have d1 : (t.drop (s + 1)).drop 1 = t.drop (s + 2) := by rw [List.drop_drop]
  unfold lineEnds lineAt
  rw [d1, d0 0, Nat.add_zero]
  by_cases h0 : t[s + 1]? = some 32
  · rw [if_pos h0]
    rw [endsFrom, if_neg (by show ¬ partEnd t (s + 1) 1 = s + 1; rw [p1, bE]; exact fun q => q h0)]
    have e1 : partEnd t (s + 1) (([] : List Nat).length + 1) = s + 2 := by
      show partEnd t (s + 1) 1 = s + 2
      rw [p1, bE2 h0]
    rw [e1, endsFrom]
    have e2 : partEnd t (s + 2) (([] ++ [s + 1] : List Nat).length + 1) = s + 2 + shN (t.drop (s + 2)) := p2 _
    rw [e2]
    by_cases h1 : shN (t.drop (s + 2)) = 0
    · rw [if_pos (by omega), if_pos h1]
      exact ⟨_, _, rfl, rfl, by simp, by simp⟩
    · rw [if_neg (by omega), if_neg h1, endsFrom]
      have d3 : (t.drop (s + 2))[shN (t.drop (s + 2))]? = t[s + 2 + shN (t.drop (s + 2))]? := by rw [List.getElem?_drop]
      have d4 : (t.drop (s + 2)).drop (shN (t.drop (s + 2)) + 1) = t.drop (s + 2 + shN (t.drop (s + 2)) + 1) := by rw [List.drop_drop]; rfl
      rw [d3, d4]
      generalize shN (t.drop (s + 2)) = n at *
      have e3 : partEnd t (s + 2 + n) (([] ++ [s + 1] ++ [s + 2] : List Nat).length + 1) = byteEnd t (s + 2 + n) 32 := p3 _
      rw [e3]
      by_cases h2 : t[s + 2 + n]? = some 32
      · rw [if_neg (by rw [bE]; exact fun q => q h2), if_pos h2, bE2 h2, endsFrom]
        have e4 : partEnd t (s + 2 + n + 1) (([] ++ [s + 1] ++ [s + 2] ++ [s + 2 + n] : List Nat).length + 1) = s + 2 + n + 1 + knN (t.drop (s + 2 + n + 1)) := p4 _
        rw [e4]
        have d5 : (t.drop (s + 2 + n + 1))[knN (t.drop (s + 2 + n + 1))]? = t[s + 2 + n + 1 + knN (t.drop (s + 2 + n + 1))]? := by rw [List.getElem?_drop]
        rw [d5]
        generalize knN (t.drop (s + 2 + n + 1)) = m at *
        by_cases h3 : m = 0
        · rw [if_pos (by omega), if_pos h3]
          exact ⟨_, _, rfl, by simp only; omega, by simp, by simp⟩
        · rw [if_neg (by omega), if_neg h3, endsFrom]
          have e5 : partEnd t (s + 2 + n + 1 + m) (([] ++ [s + 1] ++ [s + 2] ++ [s + 2 + n] ++ [s + 2 + n + 1] : List Nat).length + 1) = byteEnd t (s + 2 + n + 1 + m) 10 := p5 _
          rw [e5]
          by_cases h4 : t[s + 2 + n + 1 + m]? = some 10
          · rw [if_neg (by rw [bE]; exact fun q => q h4), if_pos h4, bE2 h4, endsFrom]
            exact ⟨_, _, rfl, by simp only; omega, by simp, by simp⟩
          · rw [if_pos (by rw [bE]; exact h4), if_neg h4]
            exact ⟨_, _, rfl, by simp only; omega, by simp, by simp⟩
      · rw [if_pos (by rw [bE]; exact h2), if_neg h2]
        exact ⟨_, _, rfl, by simp only; omega, by simp, by simp⟩
  · rw [if_neg h0]
    rw [endsFrom, if_pos (by show partEnd t (s + 1) 1 = s + 1; rw [p1, bE]; exact h0)]
    exact ⟨_, _, rfl, by simp, by simp, by simp⟩
theorem shN_le (r : List Int) : shN r ≤ r.length := numCount_le _ _ _ _ _
theorem knN_le (r : List Int) : knN r ≤ r.length := numCount_le _ _ _ _ _
theorem lineAt_le (r : List Int) : (lineAt r).1 ≤ r.length := by
  unfold lineAt
  have a1 := shN_le (r.drop 1)
  have a2 := knN_le ((r.drop 1).drop (shN (r.drop 1) + 1))
  simp only [List.length_drop] at a1 a2
  split
  · rename_i h0
    have b0 := (List.getElem?_eq_some_iff.mp h0).1
    split
    · simp only; omega
    · split
      · rename_i h2
        have b2 := (List.getElem?_eq_some_iff.mp h2).1
        simp only [List.length_drop] at b2
        split
        · simp only; omega
        · split
          · rename_i h4
            have b4 := (List.getElem?_eq_some_iff.mp h4).1
            simp only [List.length_drop] at b4
            simp only; omega
          · simp only; omega
      · simp only; omega
  · simp only; omega
/-- the colours' numbers of the lines read, in order -/
def cols (l : List Dyeing) : List Int := (l.reverse.map fun d => (d.colour : Int))
theorem cols_cons (d : Dyeing) (l : List Dyeing) : cols (d :: l) = cols l ++ [(d.colour : Int)] := by
  unfold cols
  rw [List.reverse_cons, List.map_append]
  rfl
theorem cols_length (l : List Dyeing) : (cols l).length = l.length := by
  unfold cols
  simp
theorem cols_count (l : List Dyeing) (k : Nat) : (cols l).count (k : Int) = (l.filter fun (d : Dyeing) => d.colour == k).length := by
  induction l with
  | nil => rfl
  | cons d l ih =>
    rw [cols_cons, List.count_append, ih, List.filter_cons]
    by_cases h : d.colour = k
    · subst h
      simp
    · rw [if_neg (by simpa using h)]
      have : ¬ (d.colour : Int) = (k : Int) := by omega
      simp [this]
/-- the test that judge makes -/
def mayFollow (cs : List Int) (c : Int) : Bool :=
  if c = -1 ∨ cs.length = 256 then false
  else if 0 < cs.length ∧ c < cs.getLastD 0 then false
  else decide ((cs.count c : Int) < 6)
theorem mayFollow_iff (l : List Dyeing) (x : Int) (hl : l.length ≤ 256) : mayFollow (cols l) (colNo x) = true ↔ colNo x ≠ -1 ∧ Follows l (colNo x).toNat := by
  unfold mayFollow Follows
  rw [cols_length]
  by_cases h1 : colNo x = -1
  · simp [h1]
  · have hr : 0 ≤ colNo x := by
      rcases colNo_range x with h | h
      · exact absurd h h1
      · exact h.1
    obtain ⟨k, hk⟩ : ∃ k : Nat, colNo x = (k : Int) := ⟨(colNo x).toNat, by omega⟩
    rw [hk] at h1 ⊢
    rw [cols_count]
    have e : ((k : Int)).toNat = k := by omega
    rw [e]
    by_cases h2 : l.length = 256
    · rw [if_pos (.inr h2)]
      simp [h2]
    · rw [if_neg (by rintro (q | q); exact h1 q; exact h2 q)]
      have h3 : l.length < 256 := by omega
      cases l with
      | nil => simp
      | cons d l =>
        rw [cols_cons]
        have e2 : (cols l ++ [(d.colour : Int)]).getLastD 0 = d.colour := by simp
        rw [e2]
        by_cases h4 : (k : Int) < d.colour
        · rw [if_pos ⟨by simp, h4⟩]
          simp
          omega
        · rw [if_neg (fun q => h4 q.2)]
          simp only [decide_eq_true_iff, List.head?_cons, Option.all_some, ne_eq, h3, true_and, h1, not_false_eq_true]
          constructor
          · intro q
            exact ⟨by omega, by omega⟩
          · rintro ⟨q1, q2⟩
            omega
/-- judge's loop: what stands between two turns -/
structure Told (b : List Int) (s : Nat) (l : List Dyeing) : Prop where
  le : s ≤ b.length
  few : l.length ≤ 256
  eq : bookIn (b.map u8) = bookFrom s l none none [] ((b.drop s).map u8)
theorem Told.start (b : List Int) : Told b 0 [] := ⟨Nat.zero_le _, by simp, rfl⟩
theorem Told.stop {b : List Int} {s : Nat} {l : List Dyeing} (T : Told b s l) (h : ¬ s < b.length) : bookIn (b.map u8) = .ok l.reverse := by
  rw [T.eq, List.drop_of_length_le (by omega), book_end]
theorem Told.turn {b : List Int} {s : Nat} {l : List Dyeing} {x : Int} (T : Told b s l) (hb : Byt b) (hx : b[s]? = some x) :
    (mayFollow (cols l) (colNo x) = false → bookIn (b.map u8) = .error s) ∧
    (mayFollow (cols l) (colNo x) = true → (lineAt (b.drop (s + 1))).2 = none → bookIn (b.map u8) = .error (s + 1 + (lineAt (b.drop (s + 1))).1)) ∧
    (mayFollow (cols l) (colNo x) = true → ∀ z, (lineAt (b.drop (s + 1))).2 = some z → ∃ d : Dyeing, (d.colour : Int) = colNo x ∧ Told b (s + 1 + (lineAt (b.drop (s + 1))).1) (d :: l)) := by
  have hs : s < b.length := (List.getElem?_eq_some_iff.mp hx).1
  have ed : b.drop s = x :: b.drop (s + 1) := by
    rw [List.drop_eq_getElem_cons hs]
    congr 1
    exact (List.getElem?_eq_some_iff.mp hx).2
  have hbt : Byt (x :: b.drop (s + 1)) := by rw [← ed]; exact hb.drop s
  have eq := T.eq
  rw [ed, book_turn l s x (b.drop (s + 1)) hbt] at eq
  have mf := mayFollow_iff l x T.few
  refine ⟨fun h => ?_, fun h hn => ?_, fun h z hz => ?_⟩
  · rw [eq]
    by_cases h1 : colNo x = -1
    · rw [if_pos h1]
    · rw [if_neg h1, if_neg]
      intro q
      rw [mf.mpr ⟨h1, q⟩] at h
      cases h
  · obtain ⟨h1, h2⟩ := mf.mp h
    rw [eq, if_neg h1, if_pos h2, hn]
  · obtain ⟨h1, h2⟩ := mf.mp h
    rw [if_neg h1, if_pos h2, hz] at eq
    refine ⟨⟨(colNo x).toNat, z.1.toNat, z.2.toNat⟩, ?_, ?_, ?_, ?_⟩
    · show (((colNo x).toNat : Nat) : Int) = colNo x
      rcases colNo_range x with q | q
      · exact absurd q h1
      · omega
    · have := lineAt_le (b.drop (s + 1))
      rw [List.length_drop] at this
      omega
    · have := h2.1
      simp only [List.length_cons]
      omega
    · rw [eq]
      simp only [List.drop_drop]
end Wd

set_option Elab.async false
/-! A chart's text cut into its rows; when it is right. -/
namespace Wd
open Rg RugG
theorem flat_snoc (R : List (List Int)) (r : List Int) : flat (R ++ [r]) = flat R ++ (r ++ [10]) := by
  unfold flat
  rw [List.flatMap_append, List.flatMap_cons, List.flatMap_nil, List.append_nil]
theorem flat_cons (r : List Int) (R : List (List Int)) : flat (r :: R) = r ++ 10 :: flat R := by
  unfold flat
  rw [List.flatMap_cons, List.append_assoc]
  rfl
/-- up to a first byte 10 -/
theorem cut_inj : ∀ {a b c d : List Int}, (10 : Int) ∉ a → (10 : Int) ∉ b → a ++ 10 :: c = b ++ 10 :: d → a = b ∧ c = d
  | [], [], c, d, _, _, h => ⟨rfl, by simpa using h⟩
  | [], y :: b, c, d, _, hb, h => by
    have e : (10 : Int) = y := (List.cons.inj h).1
    exact absurd (by rw [e]; exact List.mem_cons_self ..) hb
  | x :: a, [], c, d, ha, _, h => by
    have e : x = (10 : Int) := (List.cons.inj h).1
    exact absurd (by rw [← e]; exact List.mem_cons_self ..) ha
  | x :: a, y :: b, c, d, ha, hb, h => by
    obtain ⟨e1, e2⟩ := List.cons.inj h
    obtain ⟨e3, e4⟩ := cut_inj (fun q => ha (List.mem_cons_of_mem _ q)) (fun q => hb (List.mem_cons_of_mem _ q)) e2
    exact ⟨by rw [e1, e3], e4⟩
theorem flat_inj : ∀ {R S : List (List Int)} {a b : List Int}, (∀ r ∈ R, (10 : Int) ∉ r) → (∀ r ∈ S, (10 : Int) ∉ r) → (10 : Int) ∉ a → (10 : Int) ∉ b → flat R ++ a = flat S ++ b → R = S ∧ a = b
  | [], [], a, b, _, _, _, _, h => ⟨rfl, by simpa [flat] using h⟩
  | [], s :: S, a, b, _, _, ha, _, h => by
    rw [flat_cons] at h
    have e : a = (s ++ 10 :: flat S) ++ b := by simpa [flat] using h
    exact absurd (by rw [e]; simp) ha
  | r :: R, [], a, b, _, _, _, hb, h => by
    rw [flat_cons] at h
    have e : (r ++ 10 :: flat R) ++ a = b := by simpa [flat] using h
    exact absurd (by rw [← e]; simp) hb
  | r :: R, s :: S, a, b, hR, hS, ha, hb, h => by
    rw [flat_cons, flat_cons, List.append_assoc, List.append_assoc, List.cons_append, List.cons_append] at h
    obtain ⟨e1, e2⟩ := cut_inj (hR r (List.mem_cons_self ..)) (hS s (List.mem_cons_self ..)) h
    obtain ⟨e3, e4⟩ := flat_inj (fun q hq => hR q (List.mem_cons_of_mem _ hq)) (fun q hq => hS q (List.mem_cons_of_mem _ hq)) ha hb e2
    exact ⟨by rw [e1, e3], e4⟩
/-- t's rows, each with its byte 10; what is behind the last one -/
def Cut (t : List Int) (R : List (List Int)) : Prop := ∃ rest, t = flat R ++ rest ∧ (∀ r ∈ R, (10 : Int) ∉ r) ∧ (10 : Int) ∉ rest
/-- the cutting under way: i bytes seen, the row under way from s -/
structure Cutting (t : List Int) (i s : Nat) (R : List (List Int)) : Prop where
  le : s ≤ i
  eq : flat R ++ (t.drop s).take (i - s) = t.take i
  rows : ∀ r ∈ R, (10 : Int) ∉ r
  now : (10 : Int) ∉ (t.drop s).take (i - s)
  few : R.length ≤ i
theorem Cutting.start (t : List Int) : Cutting t 0 0 [] := ⟨Nat.le_refl _, by simp [flat], by simp, by simp, Nat.le_refl _⟩
theorem take_next {t : List Int} {i : Nat} {x : Int} (h : t[i]? = some x) : t.take (i + 1) = t.take i ++ [x] := by
  rw [List.take_add_one, h]
  rfl
theorem Cutting.row {t : List Int} {i s : Nat} {R : List (List Int)} (C : Cutting t i s R) (h : t[i]? = some 10) : Cutting t (i + 1) (i + 1) (R ++ [(t.drop s).take (i - s)]) := by
  refine ⟨Nat.le_refl _, ?_, ?_, by simp, by rw [List.length_append, List.length_singleton]; exact Nat.succ_le_succ C.few⟩
  · rw [flat_snoc, Nat.sub_self, List.take_zero, List.append_nil, take_next h, ← C.eq, List.append_assoc]
  · intro r hr
    rcases List.mem_append.mp hr with q | q
    · exact C.rows r q
    · rw [List.mem_singleton.mp q]
      exact C.now
theorem Cutting.on {t : List Int} {i s : Nat} {R : List (List Int)} {x : Int} (C : Cutting t i s R) (h : t[i]? = some x) (hx : x ≠ 10) : Cutting t (i + 1) s R := by
  have hle := C.le
  have e : (t.drop s).take (i + 1 - s) = (t.drop s).take (i - s) ++ [x] := by
    rw [show i + 1 - s = (i - s) + 1 by omega]
    apply take_next
    rw [List.getElem?_drop, show s + (i - s) = i by omega]
    exact h
  refine ⟨by omega, ?_, C.rows, ?_, by have := C.few; omega⟩
  · rw [e, take_next h, ← C.eq, List.append_assoc]
  · rw [e]
    intro q
    rcases List.mem_append.mp q with q | q
    · exact C.now q
    · exact hx (List.mem_singleton.mp q).symm
theorem Cutting.done {t : List Int} {s : Nat} {R : List (List Int)} (C : Cutting t t.length s R) : Cut t R := ⟨_, by rw [C.eq, List.take_length], C.rows, C.now⟩
theorem Cut.same {t : List Int} {R S : List (List Int)} (h : Cut t R) (hS : ∀ r ∈ S, (10 : Int) ∉ r) (e : t = flat S) : R = S := by
  obtain ⟨rest, h1, h2, h3⟩ := h
  exact (flat_inj h2 hS h3 (b := []) (by simp) (by rw [← h1, e, List.append_nil])).1
theorem Cut.flat {t : List Int} {R : List (List Int)} (h : Cut t R) (hl : t.getLast? = some 10) : t = Wd.flat R := by
  obtain ⟨rest, h1, _, h3⟩ := h
  cases rest with
  | nil => rw [h1, List.append_nil]
  | cons x r =>
    have e : (10 : Int) ∈ x :: r := by
      rw [h1, List.getLast?_append] at hl
      have : (x :: r).getLast? = some 10 := by
        cases q : (x :: r).getLast? with
        | none => simp at q
        | some z => rw [q] at hl; exact hl
      exact List.mem_of_getLast? this
    exact absurd e h3
theorem col_ten {x : Int} (h : colNo x ≠ -1) : x ≠ 10 := fun e => h (by rw [e]; rfl)
theorem Rows.noTen {w : Nat} {R : List (List Int)} (h : Rows w R) : ∀ r ∈ R, (10 : Int) ∉ r := fun r hr q => col_ten (h.col r hr 10 q) rfl
theorem flat_last {w : Nat} {R : List (List Int)} (h : Rows w R) : (Wd.flat R).getLast? = some 10 := by
  have h1 := h.high.1
  obtain ⟨R', r, rfl⟩ : ∃ R' r, R = R' ++ [r] := ⟨R.dropLast, R.getLast (fun q => by rw [q] at h1; simp at h1), (List.dropLast_concat_getLast _).symm⟩
  rw [flat_snoc, ← List.append_assoc, List.getLast?_concat]
/-- t is a right chart's text -/
def Right (t : List Int) : Prop := ∃ (w : Nat) (R : List (List Int)), Rows w R ∧ t = Wd.flat R
theorem right_none {t : List Int} (ht : Byt t) : chartOf (t.map u8) = none ↔ ¬ Right t := by
  constructor
  · rintro h ⟨w, R, hR, rfl⟩
    rw [hR.chart] at h
    cases h
  · intro h
    cases e : chartOf (t.map u8) with
    | none => rfl
    | some c =>
      obtain ⟨w, R, h1, h2, _⟩ := chart_rows ht e
      exact absurd ⟨w, R, h1, h2⟩ h
theorem Right.rows {t : List Int} {R : List (List Int)} (h : Right t) (c : Cut t R) : ∃ w, Rows w R ∧ t = Wd.flat R ∧ chartOf (t.map u8) = some (chartR w R) := by
  obtain ⟨w, S, hS, e⟩ := h
  have := c.same hS.noTen e
  subst this
  exact ⟨w, hS, e, by rw [e]; exact hS.chart⟩
theorem right_iff' {t : List Int} {R : List (List Int)} (c : Cut t R) : Right t ↔ t.getLast? = some 10 ∧ ∃ r S, R = r :: S ∧ 1 ≤ r.length ∧ r.length ≤ 512 ∧ R.length ≤ 512 ∧ r.length * R.length ≤ 65536 ∧ ∀ q ∈ R, q.length = r.length ∧ ∀ x ∈ q, colNo x ≠ -1 := by
  constructor
  · intro h
    obtain ⟨w, hR, e, _⟩ := h.rows c
    refine ⟨by rw [e]; exact flat_last hR, ?_⟩
    have h1 := hR.high.1
    cases R with
    | nil => simp at h1
    | cons r S =>
      have hw := hR.len r (List.mem_cons_self ..)
      refine ⟨r, S, rfl, by rw [hw]; exact hR.wide.1, by rw [hw]; exact hR.wide.2, hR.high.2, by rw [hw]; exact hR.area, fun q hq => ⟨by rw [hw]; exact hR.len q hq, hR.col q hq⟩⟩
  · rintro ⟨h1, r, S, e, h2, h3, h4, h5, h6⟩
    refine ⟨r.length, R, ⟨⟨h2, h3⟩, ⟨by rw [e, List.length_cons]; exact Nat.succ_le_succ (Nat.zero_le _), h4⟩, h5, fun q hq => (h6 q hq).1, fun q hq => (h6 q hq).2⟩, c.flat h1⟩
/-! ### the refusals -/
def refT (t b : List Int) : Int := if 66048 < t.length ∨ 4096 < b.length then -2 else match chartOf (t.map u8), bookIn (b.map u8) with
  | some _, .ok _ => 0
  | _, _ => -6
def refC (c : Int) (t b : List Int) : Int := if refT t b = 0 ∧ colNo c = -1 then -1 else refT t b
theorem refT_long {t b : List Int} (h : 66048 < t.length ∨ 4096 < b.length) : refT t b = -2 := if_pos h
theorem refT_chart {t b : List Int} (h : ¬ (66048 < t.length ∨ 4096 < b.length)) (hc : chartOf (t.map u8) = none) : refT t b = -6 := by
  unfold refT
  rw [if_neg h, hc]
theorem judge_head {b : List Int} (h : ¬ 4096 < b.length) : ∃ x r, PyWqbbck.judge b = x :: r ∧ (x = -6 ↔ ∃ e, bookIn (b.map u8) = .error e) := by
  have e := judge_eq b
  rw [if_neg h] at e
  cases q : bookIn (b.map u8) with
  | error k =>
    rw [q] at e
    exact ⟨_, _, e, by simp⟩
  | ok d =>
    rw [q] at e
    refine ⟨_, _, e, ?_⟩
    constructor
    · intro z
      have : (0 : Int) ≤ d.length := Int.natCast_nonneg _
      omega
    · rintro ⟨k, hk⟩
      cases hk
theorem refT_book {t b : List Int} (h : ¬ (66048 < t.length ∨ 4096 < b.length)) {c : Chart} (hc : chartOf (t.map u8) = some c) {x : Int} {r : List Int} (hj : PyWqbbck.judge b = x :: r) : refT t b = if x = -6 then -6 else 0 := by
  obtain ⟨y, s, h1, h2⟩ := judge_head (b := b) (fun q => h (Or.inr q))
  rw [hj] at h1
  obtain ⟨rfl, rfl⟩ := List.cons.inj h1
  unfold refT
  rw [if_neg h, hc]
  cases q : bookIn (b.map u8) with
  | error k =>
    rw [if_pos (h2.mpr ⟨k, q⟩)]
  | ok d =>
    rw [if_neg (fun z => by obtain ⟨k, hk⟩ := h2.mp z; rw [q] at hk; cases hk)]
/-- needs, by the refusals -/
theorem needs_ref (c : Int) (hc : 0 ≤ c) (t : List Int) (ht : Byt t) : PyWqbbck.needs c t = if refC c t [] = 0 then (match chartOf (t.map u8) with
    | some d => 0 :: intsN (d.needs (colNo c).toNat)
    | none => []) else [refC c t []] := by
  rw [needs_eq c hc t]
  have e0 : bookIn (([] : List Int).map u8) = .ok [] := rfl
  unfold refC
  by_cases h : 66048 < t.length
  · rw [if_pos h, refT_long (Or.inl h)]
    simp
  · rw [if_neg h]
    have h' : ¬ (66048 < t.length ∨ 4096 < ([] : List Int).length) := by simp; omega
    cases q : chartOf (t.map u8) with
    | none =>
      rw [refT_chart h' q]
      simp
    | some d =>
      have : refT t [] = 0 := by
        unfold refT
        rw [if_neg h', q, e0]
      rw [this]
      by_cases hn : colNo c = -1
      · simp [hn]
      · simp [hn]
end Wd

set_option Elab.async false
/-! A right book read line by line: each line's numbers, the dyeings of a colour. -/
namespace Wd
open Rg RugG
/-- digits added to a value -/
def valOf (v : Int) (ds : List Int) : Int := ds.foldl (fun v x => v * 10 + x - 48) v
theorem valOf_snoc (v : Int) (ds : List Int) (x : Int) : valOf v (ds ++ [x]) = valOf v ds * 10 + x - 48 := by
  unfold valOf
  rw [List.foldl_append]
  rfl
theorem num_fold (lo hi : Int) : ∀ (r : List Int) (fst : Bool) (v : Int), numVal lo hi fst v r = valOf v (r.take (numCount lo hi fst v r))
  | [], _, _ => rfl
  | x :: r, fst, v => by
    unfold numVal numCount
    by_cases h : digOk lo hi fst v x
    · rw [if_pos h, if_pos h, List.take_succ_cons, num_fold lo hi r]
      rfl
    · rw [if_neg h, if_neg h]
      rfl
/-- a whole line: its parts' ends and its numbers -/
theorem line_whole {t : List Int} {s : Nat} {z : Int × Int} (h : (lineAt (t.drop (s + 1))).2 = some z) : ∃ n m : Nat, lineEnds t s = [s + 1, s + 2, s + 2 + n, s + 3 + n, s + 3 + n + m, s + 4 + n + m] ∧
    z.1 = valOf 0 ((t.drop (s + 2)).take n) ∧ z.2 = valOf 0 ((t.drop (s + 3 + n)).take m) ∧ s + 4 + n + m = s + 1 + (lineAt (t.drop (s + 1))).1 ∧ 0 ≤ z.1 ∧ 0 ≤ z.2 ∧ s + 4 + n + m ≤ t.length := by
  have d0 : ∀ i, (t.drop (s + 1))[i]? = t[s + 1 + i]? := fun i => by rw [List.getElem?_drop]
  have d1 : (t.drop (s + 1)).drop 1 = t.drop (s + 2) := by rw [List.drop_drop]
  have d2 : ∀ n, (t.drop (s + 2)).drop (n + 1) = t.drop (s + 3 + n) := fun n => by rw [List.drop_drop]; congr 1; omega
  have d3 : ∀ n, (t.drop (s + 2))[n]? = t[s + 2 + n]? := fun i => by rw [List.getElem?_drop]
  have d4 : ∀ n m, (t.drop (s + 3 + n))[m]? = t[s + 3 + n + m]? := fun n m => by rw [List.getElem?_drop]
  have all : (lineAt (t.drop (s + 1))).1 ≤ (t.drop (s + 1)).length := lineAt_le _
  rw [List.length_drop] at all
  unfold lineAt at h
  have e1 : (lineAt (t.drop (s + 1))).1 = (lineAt (t.drop (s + 1))).1 := rfl
  conv at e1 => rhs; unfold lineAt
  rw [d0 0, Nat.add_zero, d1, d3, d2, d4] at h e1
  generalize hn : shN (t.drop (s + 2)) = n at h e1
  generalize hm : knN (t.drop (s + 3 + n)) = m at h e1
  by_cases h0 : t[s + 1]? = some 32
  · rw [if_pos h0] at h e1
    by_cases h1 : n = 0
    · rw [if_pos h1] at h
      cases h
    · rw [if_neg h1] at h e1
      by_cases h2 : t[s + 2 + n]? = some 32
      · rw [if_pos h2] at h e1
        by_cases h3 : m = 0
        · rw [if_pos h3] at h
          cases h
        · rw [if_neg h3] at h e1
          by_cases h4 : t[s + 3 + n + m]? = some 10
          · rw [if_pos h4] at h e1
            have ez := Option.some.inj h
            have e2 : (lineAt (t.drop (s + 1))).1 = n + m + 3 := e1
            refine ⟨n, m, ?_, ?_, ?_, by omega, ?_, ?_, ?_⟩
            · unfold lineEnds
              have q1 : partEnd t (s + 1) 1 = s + 2 := bE2 h0
              have q2 : partEnd t (s + 2) 2 = s + 2 + n := by show s + 2 + shN (t.drop (s + 2)) = _; rw [hn]
              have q3 : partEnd t (s + 2 + n) 3 = s + 3 + n := by
                show byteEnd t (s + 2 + n) 32 = _
                rw [bE2 h2]
                omega
              have q4 : partEnd t (s + 3 + n) 4 = s + 3 + n + m := by show s + 3 + n + knN (t.drop (s + 3 + n)) = _; rw [hm]
              have q5 : partEnd t (s + 3 + n + m) 5 = s + 4 + n + m := by
                show byteEnd t (s + 3 + n + m) 10 = _
                rw [bE2 h4]
                omega
              rw [endsFrom, List.length_nil, q1, if_neg (by omega), endsFrom, List.nil_append, List.length_singleton, q2, if_neg (by omega), endsFrom]
              simp only [List.cons_append, List.nil_append, List.length_cons, List.length_nil]
              rw [q3, if_neg (by omega), endsFrom]
              simp only [List.cons_append, List.nil_append, List.length_cons, List.length_nil]
              rw [q4, if_neg (by omega), endsFrom]
              simp only [List.cons_append, List.nil_append, List.length_cons, List.length_nil]
              rw [q5, if_neg (by omega), endsFrom]
              rfl
            · rw [← ez, ← hn]
              exact num_fold _ _ _ _ _
            · rw [← ez, ← hm]
              exact num_fold _ _ _ _ _
            · rw [← ez]
              exact numVal_ge0 _ _ _ _ _ (by decide)
            · rw [← ez]
              exact numVal_ge0 _ _ _ _ _ (by decide)
            · have := (List.getElem?_eq_some_iff.mp h4).1
              omega
          · rw [if_neg h4] at h
            cases h
      · rw [if_neg h2] at h
        cases h
  · rw [if_neg h0] at h
    cases h
/-- a right book under way: s bytes through, its dyeings (the last first) -/
structure Reading (b : List Int) (d : Book) (s : Nat) (l : List Dyeing) : Prop where
  le : s ≤ b.length
  few : l.length ≤ 256
  six : ∀ k, (l.filter fun (d : Dyeing) => d.colour == k).length ≤ 6
  eq : bookFrom s l none none [] ((b.drop s).map u8) = .ok d
theorem Reading.start {b : List Int} {d : Book} (h : bookIn (b.map u8) = .ok d) : Reading b d 0 [] := ⟨Nat.zero_le _, by simp, by simp, h⟩
theorem Reading.stop {b : List Int} {d : Book} {s : Nat} {l : List Dyeing} (R : Reading b d s l) (h : ¬ s < b.length) : d = l.reverse := by
  have e := R.eq
  rw [List.drop_of_length_le (by omega), book_end] at e
  exact (Except.ok.inj e).symm
theorem Reading.turn {b : List Int} {d : Book} {s : Nat} {l : List Dyeing} {x : Int} (R : Reading b d s l) (hb : Byt b) (hx : b[s]? = some x) :
    colNo x ≠ -1 ∧ ∃ z, (lineAt (b.drop (s + 1))).2 = some z ∧ Reading b d (s + 1 + (lineAt (b.drop (s + 1))).1) (⟨(colNo x).toNat, z.1.toNat, z.2.toNat⟩ :: l) := by
  have hs : s < b.length := (List.getElem?_eq_some_iff.mp hx).1
  have ed : b.drop s = x :: b.drop (s + 1) := by
    rw [List.drop_eq_getElem_cons hs]
    congr 1
    exact (List.getElem?_eq_some_iff.mp hx).2
  have hbt : Byt (x :: b.drop (s + 1)) := by rw [← ed]; exact hb.drop s
  have eq := R.eq
  rw [ed, book_turn l s x (b.drop (s + 1)) hbt] at eq
  by_cases h1 : colNo x = -1
  · rw [if_pos h1] at eq
    cases eq
  · rw [if_neg h1] at eq
    by_cases h2 : Follows l (colNo x).toNat
    · rw [if_pos h2] at eq
      refine ⟨h1, ?_⟩
      cases h3 : (lineAt (b.drop (s + 1))).2 with
      | none =>
        rw [h3] at eq
        cases eq
      | some z =>
        rw [h3] at eq
        refine ⟨z, rfl, ?_, ?_, ?_, ?_⟩
        · have := lineAt_le (b.drop (s + 1))
          rw [List.length_drop] at this
          omega
        · have := h2.1
          simp only [List.length_cons]
          omega
        · intro k
          rw [List.filter_cons]
          by_cases h4 : (colNo x).toNat = k
          · rw [if_pos (by rw [← h4]; exact beq_self_eq_true _), List.length_cons]
            have := h2.2.2
            rw [h4] at this
            omega
          · rw [if_neg (by simpa using h4)]
            exact R.six k
        · rw [← eq]
          simp only [List.drop_drop]
    · rw [if_neg h2] at eq
      cases eq
/-- the dyeings of a colour, in the book's order -/
def ofB (l : List Dyeing) (x : Int) : List Dyeing := l.filter fun (d : Dyeing) => decide ((d.colour : Int) = colNo x)
theorem ofB_snoc (l : List Dyeing) (d : Dyeing) (x : Int) : ofB (d :: l).reverse x = ofB l.reverse x ++ if (d.colour : Int) = colNo x then [d] else [] := by
  unfold ofB
  rw [List.reverse_cons, List.filter_append, List.filter_cons, List.filter_nil]
  by_cases h : (d.colour : Int) = colNo x
  · rw [if_pos (decide_eq_true h), if_pos h]
  · rw [if_neg (by simpa using h), if_neg h]
theorem ofB_colour (d : Book) {x : Int} (h : colNo x ≠ -1) : ofB d x = ofColour d (colNo x).toNat := by
  unfold ofB ofColour
  apply List.filter_congr
  intro y _
  rw [Bool.eq_iff_iff, decide_eq_true_eq, beq_iff_eq]
  rcases colNo_range x with q | q
  · exact absurd q h
  · omega
theorem col_back {x : Int} (h : colNo x ≠ -1) : (((colNo x).toNat : Nat) : Int) = colNo x := by
  rcases colNo_range x with q | q
  · exact absurd q h
  · omega
theorem ofB_six {b : List Int} {d : Book} (hb : bookIn (b.map u8) = .ok d) (hB : Byt b) (x : Int) : (ofB d x).length ≤ 6 := by
  -- the whole book read
  have go : ∀ (f s : Nat) (l : List Dyeing), b.length - s ≤ f → Reading b d s l → ∀ k, (d.filter fun (d : Dyeing) => d.colour == k).length ≤ 6 := by
    intro f
    induction f with
    | zero =>
      intro s l hf R k
      rw [R.stop (by omega), List.filter_reverse, List.length_reverse]
      exact R.six k
    | succ f ih =>
      intro s l hf R k
      by_cases h : s < b.length
      · obtain ⟨_, z, hz, R'⟩ := R.turn hB (List.getElem?_eq_getElem h)
        exact ih _ _ (by omega) R' k
      · rw [R.stop h, List.filter_reverse, List.length_reverse]
        exact R.six k
  by_cases h : colNo x = -1
  · have : ofB d x = [] := by
      unfold ofB
      rw [List.filter_eq_nil_iff]
      intro y _ q
      have := of_decide_eq_true q
      omega
    rw [this]
    exact Nat.zero_le _
  · rw [ofB_colour d h]
    exact go _ 0 [] (Nat.le_refl _) (Reading.start hb) _
end Wd

set_option Elab.async false
set_option linter.all false
/-! The search over ways as the program goes it: places, levels, what is told. -/
namespace Wd
open Rg RugG
/-! ### what a dyeing takes, by places -/
def sumN (l : List (Nat × Nat)) : Nat := (l.map fun x => x.2).sum
theorem sumN_cons (x : Nat × Nat) (l : List (Nat × Nat)) : sumN (x :: l) = x.2 + sumN l := by
  unfold sumN
  rw [List.map_cons, List.sum_cons]
theorem sumN_append (a b : List (Nat × Nat)) : sumN (a ++ b) = sumN a + sumN b := by
  unfold sumN
  rw [List.map_append, List.sum_append]
theorem takes_le (h : Nat) : ∀ (l : List (Nat × Nat)) (s : Nat), (takes h s l).1 ≤ l.length
  | [], _ => Nat.le_refl _
  | x :: r, s => by
    rw [takes]
    split
    · exact Nat.succ_le_succ (takes_le h r _)
    · exact Nat.zero_le _
theorem takes_sum (h : Nat) : ∀ (l : List (Nat × Nat)) (s : Nat), (takes h s l).2 = s + sumN (l.take (takes h s l).1)
  | [], s => rfl
  | x :: r, s => by
    rw [takes]
    split
    · show (takes h (s + x.2) r).2 = s + sumN ((x :: r).take ((takes h (s + x.2) r).1 + 1))
      rw [takes_sum h r, List.take_succ_cons, sumN_cons]
      omega
    · rfl
theorem takes_have (h : Nat) : ∀ (l : List (Nat × Nat)) (s : Nat), s ≤ h → (takes h s l).2 ≤ h
  | [], s, q => q
  | x :: r, s, q => by
    rw [takes]
    split
    · rename_i g
      exact takes_have h r _ g
    · exact q
/-- as many as are enough, and no more -/
theorem takes_is (h : Nat) : ∀ (l : List (Nat × Nat)) (s j : Nat), j ≤ l.length → s + sumN (l.take j) ≤ h → (∀ x, l[j]? = some x → h < s + sumN (l.take j) + x.2) → (takes h s l).1 = j
  | [], s, j, hj, _, _ => by
    have : j = 0 := by simpa using hj
    rw [this]
    rfl
  | x :: r, s, 0, _, h1, h2 => by
    have := h2 x rfl
    rw [takes, if_neg (by simpa [sumN] using this)]
  | x :: r, s, j + 1, hj, h1, h2 => by
    rw [List.take_succ_cons, sumN_cons] at h1
    rw [takes, if_pos (by omega)]
    show (takes h (s + x.2) r).1 + 1 = j + 1
    rw [takes_is h r (s + x.2) j (by simpa using hj) (by omega) fun y hy => ?_]
    have := h2 y hy
    rw [List.take_succ_cons, sumN_cons] at this
    omega
def knotsOf (l : List Dyeing) (k : Nat) : Nat := (l[k]?.map fun (d : Dyeing) => d.knots).getD 0
/-- where the rows of dyeing k end that begin at p -/
def endK (h : Nat) (W : List (Nat × Nat)) (p : Nat) : Nat := p + (takes h 0 (W.drop p)).1
def stepE (l : List Dyeing) (W : List (Nat × Nat)) (p k : Nat) : Nat := endK (knotsOf l k) W p
theorem endK_le {h : Nat} {W : List (Nat × Nat)} {p : Nat} (hp : p ≤ W.length) : endK h W p ≤ W.length := by
  have := takes_le h (W.drop p) 0
  rw [List.length_drop] at this
  unfold endK
  omega
section
variable (l : List Dyeing) (W : List (Nat × Nat))
def endsR : Nat → List Nat → List Nat
  | p, [] => [p]
  | p, k :: r => p :: endsR (stepE l W p k) r
def lastR : Nat → List Nat → Nat
  | p, [] => p
  | p, k :: r => lastR (stepE l W p k) r
def okR : Nat → List Nat → Prop
  | _, [] => True
  | p, k :: r => p < stepE l W p k ∧ okR (stepE l W p k) r
def takeR (p k : Nat) : Take := ⟨k, ((W.drop p).headD (0, 0)).1, (((W.drop p).take (stepE l W p k - p)).getLastD (0, 0)).1, sumN ((W.drop p).take (stepE l W p k - p))⟩
def takesR : Nat → List Nat → List Take
  | _, [] => []
  | p, k :: r => takeR l W p k :: takesR (stepE l W p k) r
theorem one_eq' {k : Nat} (p : Nat) (hk : k < l.length) : one l k (W.drop p) = if p < stepE l W p k then some (takeR l W p k, W.drop (stepE l W p k)) else none := by
  have e1 : l[k]? = some l[k] := List.getElem?_eq_getElem hk
  have e2 : knotsOf l k = l[k].knots := by
    unfold knotsOf
    rw [e1]
    rfl
  unfold one
  rw [e1]
  simp only
  unfold stepE endK takeR stepE endK
  rw [e2]
  by_cases h : (takes l[k].knots 0 (W.drop p)).1 = 0
  · rw [if_pos h, if_neg (by omega)]
  · rw [if_neg h, if_pos (by omega), takes_sum, Nat.add_sub_cancel_left, List.drop_drop, Nat.zero_add]
theorem run_eq : ∀ (w : List Nat) (p : Nat), (∀ k ∈ w, k < l.length) → (okR l W p w → run l w (W.drop p) = some (takesR l W p w, W.drop (lastR l W p w))) ∧ (¬ okR l W p w → run l w (W.drop p) = none)
  | [], p, _ => ⟨fun _ => rfl, fun h => absurd trivial h⟩
  | k :: r, p, hw => by
    have ih := run_eq r (stepE l W p k) fun j hj => hw j (List.mem_cons_of_mem _ hj)
    rw [run, one_eq' l W p (hw k (List.mem_cons_self ..))]
    by_cases h : p < stepE l W p k
    · rw [if_pos h]
      simp only
      refine ⟨fun q => ?_, fun q => ?_⟩
      · rw [ih.1 q.2]
        rfl
      · rw [ih.2 (fun z => q ⟨h, z⟩)]
    · rw [if_neg h]
      exact ⟨fun q => absurd q.1 h, fun _ => rfl⟩
theorem lastR_le : ∀ (w : List Nat) (p : Nat), p ≤ W.length → lastR l W p w ≤ W.length
  | [], p, h => h
  | k :: r, p, h => lastR_le r _ (endK_le h)
theorem lastR_snoc : ∀ (u : List Nat) (p k : Nat), lastR l W p (u ++ [k]) = stepE l W (lastR l W p u) k
  | [], _, _ => rfl
  | _ :: u, _, k => lastR_snoc u _ k
theorem endsR_snoc : ∀ (u : List Nat) (p k : Nat), endsR l W p (u ++ [k]) = endsR l W p u ++ [stepE l W (lastR l W p u) k]
  | [], _, _ => rfl
  | _ :: u, p, k => by
    show p :: endsR l W _ (u ++ [k]) = p :: (endsR l W _ u ++ _)
    rw [endsR_snoc u]
    rfl
theorem endsR_last : ∀ (u : List Nat) (p : Nat), (endsR l W p u).getLast? = some (lastR l W p u)
  | [], _ => rfl
  | k :: u, p => by
    show (p :: endsR l W (stepE l W p k) u).getLast? = _
    rw [List.getLast?_cons, endsR_last u]
    rfl
theorem endsR_len : ∀ (u : List Nat) (p : Nat), (endsR l W p u).length = u.length + 1
  | [], _ => rfl
  | k :: u, p => by
    show (p :: endsR l W _ u).length = _
    rw [List.length_cons, endsR_len u, List.length_cons]
theorem okR_snoc : ∀ (u : List Nat) (p k : Nat), okR l W p (u ++ [k]) ↔ okR l W p u ∧ lastR l W p u < stepE l W (lastR l W p u) k
  | [], p, k => by
    show (p < stepE l W p k ∧ True) ↔ (True ∧ _)
    simp [lastR]
  | j :: u, p, k => by
    show (p < stepE l W p j ∧ okR l W _ (u ++ [k])) ↔ ((p < stepE l W p j ∧ okR l W _ u) ∧ _)
    rw [okR_snoc u, and_assoc]
    rfl
theorem okR_prefix : ∀ (u v : List Nat) (p : Nat), okR l W p (u ++ v) → okR l W p u
  | [], _, _, _ => trivial
  | j :: u, v, p, h => ⟨h.1, okR_prefix u v _ h.2⟩
theorem okR_le : ∀ (w : List Nat) (p : Nat), okR l W p w → p ≤ lastR l W p w
  | [], _, _ => Nat.le_refl _
  | k :: r, p, h => Nat.le_trans (Nat.le_of_lt h.1) (okR_le r _ h.2)
/-- a way under way of m dyeings -/
def Lv (m : Nat) (w : List Nat) : Prop := w.length = m ∧ w.Nodup ∧ (∀ k ∈ w, k < l.length) ∧ okR l W 0 w
theorem Goes_lv (w : List Nat) : Goes l W w ↔ Lv l W w.length w ∧ lastR l W 0 w = W.length := by
  rw [Goes_iff]
  have hle := lastR_le l W w 0 (Nat.zero_le _)
  constructor
  · rintro ⟨h1, ts, h2⟩
    have h3 := run_lt h2
    have e := run_eq l W w 0 h3
    rw [List.drop_zero] at e
    have h4 : okR l W 0 w := by
      by_cases q : okR l W 0 w
      · exact q
      · rw [e.2 q] at h2
        cases h2
    refine ⟨⟨rfl, h1, h3, h4⟩, ?_⟩
    rw [e.1 h4] at h2
    have h5 := (Prod.mk.inj (Option.some.inj h2)).2
    have := List.drop_eq_nil_iff.mp h5
    omega
  · rintro ⟨⟨_, h1, h3, h4⟩, h5⟩
    have e := run_eq l W w 0 h3
    rw [List.drop_zero] at e
    exact ⟨h1, takesR l W 0 w, by rw [e.1 h4, h5, List.drop_length]⟩
theorem goes_takes {w : List Nat} (h : Goes l W w) : goes l w W = some (takesR l W 0 w) := by
  obtain ⟨⟨_, _, h3, h4⟩, h5⟩ := (Goes_lv l W w).mp h
  have e := run_eq l W w 0 h3
  rw [List.drop_zero] at e
  exact goes_of_run (by rw [e.1 h4, h5, List.drop_length])
/-- the ways with one dyeing more -/
def longer (u : List Nat) : List (List Nat) := ((List.range l.length).filter fun k => decide (k ∉ u ∧ lastR l W 0 u < stepE l W (lastR l W 0 u) k)).map fun k => u ++ [k]
theorem mem_longer (u w : List Nat) : w ∈ longer l W u ↔ ∃ k, k < l.length ∧ k ∉ u ∧ lastR l W 0 u < stepE l W (lastR l W 0 u) k ∧ w = u ++ [k] := by
  unfold longer
  rw [List.mem_map]
  constructor
  · rintro ⟨k, hk, rfl⟩
    rw [List.mem_filter, List.mem_range, decide_eq_true_eq] at hk
    exact ⟨k, hk.1, hk.2.1, hk.2.2, rfl⟩
  · rintro ⟨k, h1, h2, h3, rfl⟩
    exact ⟨k, by rw [List.mem_filter, List.mem_range, decide_eq_true_eq]; exact ⟨h1, h2, h3⟩, rfl⟩
theorem longer_len (u : List Nat) : (longer l W u).length ≤ l.length := by
  unfold longer
  rw [List.length_map]
  exact Nat.le_trans (List.length_filter_le _ _) (by rw [List.length_range]; exact Nat.le_refl _)
theorem stepE_end {p k : Nat} (h : W.length ≤ p) : stepE l W p k = p := by
  unfold stepE endK
  rw [List.drop_of_length_le h]
  rfl
theorem lv_next {m : Nat} {B : List (List Nat)} (hB : ∀ w, w ∈ B ↔ Lv l W m w) : ∀ w, w ∈ (B.filter fun u => decide (lastR l W 0 u < W.length)).flatMap (longer l W) ↔ Lv l W (m + 1) w := by
  intro w
  rw [List.mem_flatMap]
  constructor
  · rintro ⟨u, hu, hw⟩
    rw [List.mem_filter, decide_eq_true_eq, hB] at hu
    obtain ⟨⟨g1, g2, g3, g4⟩, g5⟩ := hu
    obtain ⟨k, h1, h2, h3, rfl⟩ := (mem_longer l W u w).mp hw
    refine ⟨by rw [List.length_append, g1]; rfl, ?_, ?_, (okR_snoc l W u 0 k).mpr ⟨g4, h3⟩⟩
    · rw [List.nodup_append]
      refine ⟨g2, by simp, ?_⟩
      intro a ha b hb e
      rw [List.mem_singleton.mp hb] at e
      exact h2 (e ▸ ha)
    · intro j hj
      rcases List.mem_append.mp hj with q | q
      · exact g3 j q
      · rw [List.mem_singleton.mp q]
        exact h1
  · rintro ⟨g1, g2, g3, g4⟩
    obtain ⟨u, k, rfl⟩ : ∃ u k, w = u ++ [k] := ⟨w.dropLast, w.getLast (fun q => by rw [q] at g1; simp at g1), (List.dropLast_concat_getLast _).symm⟩
    obtain ⟨h1, h2⟩ := (okR_snoc l W u 0 k).mp g4
    rw [List.nodup_append] at g2
    refine ⟨u, ?_, (mem_longer l W u _).mpr ⟨k, g3 k (by simp), ?_, h2, rfl⟩⟩
    · rw [List.mem_filter, decide_eq_true_eq, hB]
      refine ⟨⟨by rw [List.length_append] at g1; exact Nat.succ.inj g1, g2.1, fun j hj => g3 j (List.mem_append_left _ hj), h1⟩, ?_⟩
      rcases Nat.lt_or_ge (lastR l W 0 u) W.length with q | q
      · exact q
      · rw [stepE_end l W q] at h2
        exact absurd h2 (Nat.lt_irrefl _)
    · intro q
      exact g2.2.2 k q k (by simp) rfl
/-- the ways that go, of fewer than m dyeings -/
theorem going_next {m : Nat} {B G : List (List Nat)} (hB : ∀ w, w ∈ B ↔ Lv l W m w) (hG : ∀ w, w ∈ G ↔ w.length < m ∧ Goes l W w) : ∀ w, w ∈ G ++ B.filter (fun u => decide (lastR l W 0 u = W.length)) ↔ w.length < m + 1 ∧ Goes l W w := by
  intro w
  rw [List.mem_append, hG, List.mem_filter, hB, decide_eq_true_eq]
  constructor
  · rintro (⟨h1, h2⟩ | ⟨h1, h2⟩)
    · exact ⟨by omega, h2⟩
    · have e := h1.1
      exact ⟨by omega, (Goes_lv l W w).mpr ⟨by rw [e]; exact h1, h2⟩⟩
  · rintro ⟨h1, h2⟩
    by_cases h : w.length < m
    · exact Or.inl ⟨h, h2⟩
    · obtain ⟨h3, h4⟩ := (Goes_lv l W w).mp h2
      rw [show w.length = m by omega] at h3
      exact Or.inr ⟨h3, h4⟩
/-- no way is begun any more: all that go are there -/
theorem going_all {m : Nat} {G : List (List Nat)} (hB : ∀ w, ¬ Lv l W m w) (hG : ∀ w, w ∈ G ↔ w.length < m ∧ Goes l W w) : ∀ w, w ∈ G ↔ Goes l W w := by
  intro w
  rw [hG]
  refine ⟨fun h => h.2, fun h => ⟨?_, h⟩⟩
  rcases Nat.lt_or_ge w.length m with q | q
  · exact q
  · obtain ⟨⟨_, g2, g3, g4⟩, _⟩ := (Goes_lv l W w).mp h
    have e : w = w.take m ++ w.drop m := (List.take_append_drop m w).symm
    refine absurd ⟨by rw [List.length_take]; omega, ?_, fun k hk => g3 k (List.mem_of_mem_take hk), ?_⟩ (hB (w.take m))
    · rw [e, List.nodup_append] at g2
      exact g2.1
    · rw [e] at g4
      exact okR_prefix l W _ _ 0 g4
theorem lv_few {m : Nat} {w : List Nat} (h : Lv l W m w) : m ≤ l.length := by
  obtain ⟨h1, h2, h3, _⟩ := h
  rw [← h1]
  exact nodup_le h2 h3
theorem lv_zero : ∀ w, w ∈ [([] : List Nat)] ↔ Lv l W 0 w := by
  intro w
  rw [List.mem_singleton]
  constructor
  · rintro rfl
    exact ⟨rfl, List.nodup_nil, by simp, trivial⟩
  · rintro ⟨h, _⟩
    exact List.length_eq_zero_iff.mp h
/-- the way that's told, from a way of which no other one is ahead -/
theorem best_of {w : List Nat} (h1 : Goes l W w) (h2 : ∀ v, Goes l W v → wayBefore l v w = false) : bestWay l W = some w := by
  rw [best_some]
  refine ⟨h1, fun v hv => ?_⟩
  by_cases e : v = w
  · exact Or.inl e
  · rcases before_total l e with q | q
    · rw [h2 v hv] at q
      cases q
    · exact Or.inr q
theorem best_no (h : ∀ w, ¬ Goes l W w) : bestWay l W = none := (best_none l W).mpr h
/-! ### the answers -/
theorem takesR_get : ∀ (w : List Nat) (p j k : Nat), w[j]? = some k → ∃ a, (endsR l W p w)[j]? = some a ∧ (endsR l W p w)[j + 1]? = some (stepE l W a k) ∧ (takesR l W p w)[j]? = some (takeR l W a k)
  | [], _, _, _, h => by simp at h
  | x :: r, p, 0, k, h => by
    have e : x = k := Option.some.inj h
    subst e
    refine ⟨p, rfl, ?_, rfl⟩
    show (endsR l W (stepE l W p x) r)[0]? = _
    cases r <;> rfl
  | x :: r, p, j + 1, k, h => takesR_get r (stepE l W p x) j k h
theorem takesR_len : ∀ (w : List Nat) (p : Nat), (takesR l W p w).length = w.length
  | [], _ => rfl
  | _ :: r, _ => by
    show (takesR l W _ r).length + 1 = r.length + 1
    rw [takesR_len r]
theorem okR_get : ∀ (w : List Nat) (p j a k : Nat), okR l W p w → w[j]? = some k → (endsR l W p w)[j]? = some a → a < stepE l W a k
  | [], _, _, _, _, _, h, _ => by simp at h
  | x :: r, p, 0, a, k, ho, h, ha => by
    have e : x = k := Option.some.inj h
    have e2 : p = a := Option.some.inj ha
    subst e e2
    exact ho.1
  | x :: r, p, j + 1, a, k, ho, h, ha => okR_get r _ j a k ho.2 h ha
theorem endsR_le : ∀ (w : List Nat) (p j a : Nat), p ≤ W.length → (endsR l W p w)[j]? = some a → a ≤ W.length
  | [], p, 0, a, hp, h => by
    have e : p = a := Option.some.inj h
    omega
  | [], p, j + 1, a, hp, h => by simp [endsR] at h
  | x :: r, p, 0, a, hp, h => by
    have e : p = a := Option.some.inj h
    omega
  | x :: r, p, j + 1, a, hp, h => endsR_le r _ j a (endK_le hp) h
end
theorem head_at {W : List (Nat × Nat)} {p : Nat} (h : p < W.length) : (W.drop p).headD (0, 0) = W[p] := by
  rw [List.drop_eq_getElem_cons h]
  rfl
theorem last_at {W : List (Nat × Nat)} {p e : Nat} (h1 : p < e) (h2 : e ≤ W.length) : (((W.drop p).take (e - p)).getLastD (0, 0)) = W[e - 1]'(by omega) := by
  rw [List.getLastD_eq_getLast?, List.getLast?_eq_getElem?]
  have hl : ((W.drop p).take (e - p)).length = e - p := by
    rw [List.length_take, List.length_drop]
    omega
  rw [hl, List.getElem?_take_of_lt (by omega), List.getElem?_drop, show p + (e - p - 1) = e - 1 by omega, List.getElem?_eq_getElem (by omega)]
  rfl
/-! ### the rows in need -/
def nd (c : List Nat) : List (Nat × Nat) := (c.zipIdx.filter fun (x : Nat × Nat) => decide (0 < x.1)).map fun (x : Nat × Nat) => (x.2, x.1)
theorem nd_snoc' (c : List Nat) (n : Nat) : nd (c ++ [n]) = nd c ++ if 0 < n then [(c.length, n)] else [] := by
  unfold nd
  rw [List.zipIdx_append, List.filter_append, List.map_append]
  congr 1
  show List.map _ (List.filter _ [(n, 0 + c.length)]) = _
  rw [Nat.zero_add]
  by_cases h : 0 < n
  · rw [if_pos h, List.filter_cons_of_pos (by simpa using h)]
    rfl
  · rw [if_neg h, List.filter_cons_of_neg (by simpa using h)]
    rfl
theorem nd_len (c : List Nat) : (nd c).length ≤ c.length := by
  unfold nd
  rw [List.length_map]
  exact Nat.le_trans (List.length_filter_le _ _) (by rw [List.length_zipIdx]; exact Nat.le_refl _)
theorem needy_eq {w : Nat} {R : List (List Int)} (h : Rows w R) {y : Int} (hy : colNo y ≠ -1) : needy (chartR w R) (colNo y).toNat = nd (R.map fun r => r.count y) := by
  unfold needy nd
  rw [needs_rows h hy]
end Wd

set_option Elab.async false
set_option linter.all false
/-! The answers of share, cost, left by the way that's told. -/
namespace Wd
open Rg RugG
/-- what a call answers: the refusals, no way, or what is made of the way -/
def whole (ans : List Dyeing → List (Nat × Nat) → List Nat → List Int) (c : Int) (t b : List Int) : List Int := if refC c t b = 0 then (match chartOf (t.map u8), bookIn (b.map u8) with
    | some ch, .ok d => (match bestWay (ofColour d (colNo c).toNat) (needy ch (colNo c).toNat) with
      | none => [-5]
      | some u => ans (ofColour d (colNo c).toNat) (needy ch (colNo c).toNat) u)
    | _, _ => []) else [refC c t b]
theorem whole_eq {ans : List Dyeing → List (Nat × Nat) → List Nat → List Int} {f : Chart → Book → Nat → List Int} (h : ∀ ch d k, f ch d k = match bestWay (ofColour d k) (needy ch k) with
      | none => [-5]
      | some u => ans (ofColour d k) (needy ch k) u) (c : Int) (t b : List Int) : refusals t b (fun ch d => if colNo c = -1 then [-1] else f ch d (colNo c).toNat) = whole ans c t b := by
  unfold refusals whole refC
  by_cases h1 : 66048 < t.length ∨ 4096 < b.length
  · rw [if_pos h1, refT_long h1]
    simp
  · rw [if_neg h1]
    unfold refT
    rw [if_neg h1]
    cases q1 : chartOf (t.map u8) with
    | none => simp
    | some ch =>
      cases q2 : bookIn (b.map u8) with
      | error e => simp
      | ok d =>
        by_cases h2 : colNo c = -1
        · simp [h2]
        · simp [h2, h]
def ansShare (l : List Dyeing) (W : List (Nat × Nat)) (u : List Nat) : List Int := 0 :: takesN (takesR l W 0 u)
def ansCost (l : List Dyeing) (_ : List (Nat × Nat)) (u : List Nat) : List Int := [((wayCost l u : Nat) : Int)]
theorem best_goes {l : List Dyeing} {W : List (Nat × Nat)} {u : List Nat} (h : bestWay l W = some u) : Goes l W u := ((best_some l W u).mp h).1
theorem share_whole (c : Int) (hc : 0 ≤ c) (t b : List Int) : PyWqbbck.share c t b = whole ansShare c t b := by
  rw [share_eq c hc]
  refine whole_eq (fun ch d k => ?_) c t b
  unfold shareA shareOf
  cases q : bestWay (ofColour d k) (needy ch k) with
  | none => rfl
  | some u =>
    rw [Option.bind_some, goes_takes _ _ (best_goes q)]
    rfl
theorem cost_whole (c : Int) (hc : 0 ≤ c) (t b : List Int) : PyWqbbck.cost c t b = whole ansCost c t b := by
  rw [cost_eq c hc]
  refine whole_eq (fun ch d k => ?_) c t b
  unfold costA costOf
  cases q : bestWay (ofColour d k) (needy ch k) with
  | none => rfl
  | some u => rfl
/-- what is left: of each dyeing -/
def leftR (l : List Dyeing) (ts : List Take) : List Int := l.zipIdx.map fun x => (x.1.knots : Int) - (((ts.filter fun y => y.number == x.2).map Take.knots).sum : Nat)
def ansLeft (l : List Dyeing) (W : List (Nat × Nat)) (u : List Nat) : List Int := 0 :: leftR l (takesR l W 0 u)
/-- the whole is right: all that the call is handed -/
theorem whole_ok {c : Int} {t b : List Int} (bt : Byt t) (h : refC c t b = 0) : colNo c ≠ -1 ∧ ¬ 66048 < t.length ∧ ¬ 4096 < b.length ∧ Right t ∧ ∃ d, bookIn (b.map u8) = .ok d := by
  unfold refC at h
  by_cases q : refT t b = 0 ∧ colNo c = -1
  · rw [if_pos q] at h
    exact absurd h (by decide)
  · rw [if_neg q] at h
    by_cases g : 66048 < t.length ∨ 4096 < b.length
    · rw [refT_long g] at h
      exact absurd h (by decide)
    · have h' := h
      unfold refT at h'
      rw [if_neg g] at h'
      cases q1 : chartOf (t.map u8) with
      | none =>
        rw [q1] at h'
        exact absurd (show (-6 : Int) = 0 from h') (by decide)
      | some ch =>
        rw [q1] at h'
        cases q2 : bookIn (b.map u8) with
        | error e =>
          rw [q2] at h'
          exact absurd (show (-6 : Int) = 0 from h') (by decide)
        | ok d =>
          refine ⟨fun z => q ⟨h, z⟩, fun z => g (Or.inl z), fun z => g (Or.inr z), Classical.byContradiction fun z => ?_, d, rfl⟩
          rw [(right_none bt).mpr z] at q1
          cases q1
theorem sum_cast (l : List (Nat × Nat)) : (l.map fun z => ((z.2 : Nat) : Int)).sum = ((sumN l : Nat) : Int) := by
  induction l with
  | nil => rfl
  | cons x r ih =>
    rw [List.map_cons, List.sum_cons, sumN_cons, ih]
    omega
end Wd

set_option Elab.async false
set_option linter.all false
/-! What is left of a colour's dyeings. -/
namespace Wd
open Rg RugG
/-- what a number's takes come to -/
def takenBy (ts : List Take) (j : Nat) : Nat := ((ts.filter fun y => y.number == j).map Take.knots).sum
theorem takenBy_cons (x : Take) (ts : List Take) (j : Nat) : takenBy (x :: ts) j = (if x.number = j then x.knots else 0) + takenBy ts j := by
  unfold takenBy
  by_cases h : x.number = j
  · rw [if_pos h, List.filter_cons_of_pos (by simpa using h), List.map_cons, List.sum_cons]
  · rw [if_neg h, List.filter_cons_of_neg (by simpa using h), Nat.zero_add]
theorem takenBy_snoc (ts : List Take) (x : Take) (j : Nat) : takenBy (ts ++ [x]) j = takenBy ts j + if x.number = j then x.knots else 0 := by
  induction ts with
  | nil =>
    rw [List.nil_append, takenBy_cons]
    show _ + 0 = 0 + _
    omega
  | cons y ts ih =>
    rw [List.cons_append, takenBy_cons, takenBy_cons, ih]
    omega
theorem leftR_get (l : List Dyeing) (ts : List Take) (j : Nat) : (leftR l ts)[j]? = l[j]?.map fun d => (d.knots : Int) - (takenBy ts j : Nat) := by
  unfold leftR
  rw [List.getElem?_map, List.getElem?_zipIdx, Option.map_map]
  cases l[j]? with
  | none => rfl
  | some d =>
    show some ((d.knots : Int) - (takenBy ts (0 + j) : Nat)) = some _
    rw [Nat.zero_add]
theorem leftR_len (l : List Dyeing) (ts : List Take) : (leftR l ts).length = l.length := by
  unfold leftR
  rw [List.length_map, List.length_zipIdx]
theorem leftR_nil (l : List Dyeing) : leftR l [] = l.map fun d => (d.knots : Int) := by
  apply List.ext_getElem?
  intro j
  rw [leftR_get, List.getElem?_map]
  cases l[j]? with
  | none => rfl
  | some d =>
    show some ((d.knots : Int) - 0) = _
    rw [Int.sub_zero]
    rfl
theorem leftR_snoc {l : List Dyeing} {ts : List Take} {x : Take} {d : Dyeing} (h : l[x.number]? = some d) : leftR l (ts ++ [x]) = (leftR l ts).set x.number ((d.knots : Int) - (takenBy ts x.number : Nat) - (x.knots : Nat)) := by
  have hx : x.number < l.length := (List.getElem?_eq_some_iff.mp h).1
  apply List.ext_getElem?
  intro j
  rw [leftR_get, List.getElem?_set, takenBy_snoc, leftR_len]
  by_cases e : x.number = j
  · subst e
    rw [if_pos rfl, if_pos rfl, if_pos hx, h]
    show some ((d.knots : Int) - ((takenBy ts x.number + x.knots : Nat) : Int)) = some ((d.knots : Int) - (takenBy ts x.number : Nat) - (x.knots : Nat))
    congr 1
    omega
  · rw [if_neg e, if_neg e, leftR_get, Nat.add_zero]
theorem takes_nums (l : List Dyeing) (W : List (Nat × Nat)) : ∀ (u : List Nat) (p j : Nat), j ∉ u → takenBy (takesR l W p u) j = 0
  | [], _, _, _ => rfl
  | k :: r, p, j, h => by
    show takenBy (takeR l W p k :: takesR l W _ r) j = 0
    rw [takenBy_cons, takes_nums l W r _ j (fun q => h (List.mem_cons_of_mem _ q)), if_neg]
    exact fun q => h (by rw [← (show k = j from q)]; exact List.mem_cons_self ..)
theorem take_enough (l : List Dyeing) (W : List (Nat × Nat)) (p k : Nat) : (takeR l W p k).knots ≤ knotsOf l k := by
  show sumN ((W.drop p).take (stepE l W p k - p)) ≤ _
  have e : stepE l W p k - p = (takes (knotsOf l k) 0 (W.drop p)).1 := by
    unfold stepE endK
    omega
  have h1 := takes_sum (knotsOf l k) (W.drop p) 0
  have h2 := takes_have (knotsOf l k) (W.drop p) 0 (Nat.zero_le _)
  rw [e]
  omega
theorem taken_enough (l : List Dyeing) (W : List (Nat × Nat)) : ∀ (u : List Nat) (p j : Nat), u.Nodup → takenBy (takesR l W p u) j ≤ knotsOf l j
  | [], _, _, _ => Nat.zero_le _
  | k :: r, p, j, h => by
    obtain ⟨h1, h2⟩ := List.nodup_cons.mp h
    show takenBy (takeR l W p k :: takesR l W _ r) j ≤ _
    rw [takenBy_cons]
    by_cases e : k = j
    · subst e
      rw [if_pos (show (takeR l W p k).number = k from rfl), takes_nums l W r _ k h1, Nat.add_zero]
      exact take_enough l W p k
    · rw [if_neg (show ¬ (takeR l W p k).number = j from e), Nat.zero_add]
      exact taken_enough l W r _ j h2
theorem left_whole (c : Int) (hc : 0 ≤ c) (t b : List Int) : PyWqbbck.left c t b = whole ansLeft c t b := by
  rw [left_eq c hc]
  refine whole_eq (fun ch d k => ?_) c t b
  unfold leftA leftOf shareOf
  cases q : bestWay (ofColour d k) (needy ch k) with
  | none => rfl
  | some u =>
    have hG := best_goes q
    rw [Option.bind_some, goes_takes _ _ hG]
    show 0 :: intsN _ = 0 :: leftR _ _
    congr 1
    generalize hl : ofColour d k = l
    generalize hW : needy ch k = W
    rw [hl, hW] at hG
    unfold intsN leftR
    rw [List.map_map]
    apply List.map_congr_left
    rintro ⟨y, j⟩ hy
    have hj : l[j]? = some y := by
      have := List.mem_zipIdx_iff_getElem?.mp hy
      exact this
    have hen := taken_enough l W u 0 j hG.1
    have hk : knotsOf l j = y.knots := by
      unfold knotsOf
      rw [hj]
      rfl
    show ((y.knots - takenBy (takesR l W 0 u) j : Nat) : Int) = (y.knots : Int) - (takenBy (takesR l W 0 u) j : Nat)
    omega
end Wd

set_option Elab.async false
set_option linter.all false
set_option maxRecDepth 100000
set_option maxHeartbeats 2000000
namespace Wj
open PySem PySem.Spec PyProof.Rows L2 Wl Wd
def top (i : Nat) : Stmt := PySem.Challenge.pw_wooldyes_s04_cost.main.body.getD i (.Pass ⟨0, 0, 0, 0⟩)
abbrev s_colour_number : Stmt := top 28
abbrev s_byte_end : Stmt := top 29
abbrev s_number_end : Stmt := top 30
abbrev s_part_end : Stmt := top 31
abbrev s_line_ends : Stmt := top 32
abbrev s_may_follow : Stmt := top 33
abbrev s_judge : Stmt := top 34
abbrev s_chart_rows : Stmt := top 35
abbrev s_is_chart_row : Stmt := top 36
abbrev s_is_chart : Stmt := top 37
abbrev s_texts_refusal : Stmt := top 38
abbrev s_refusal : Stmt := top 39
abbrev s_part_number : Stmt := top 40
abbrev s_book_dyeings : Stmt := top 41
abbrev s_rows_in_need : Stmt := top 42
abbrev s_ends_from_each : Stmt := top 43
abbrev s_longer_ways : Stmt := top 44
abbrev s_rank : Stmt := top 45
abbrev s_told_way : Stmt := top 46
abbrev s_answer_of_way : Stmt := top 47
abbrev s_tell_cost : Stmt := top 48
abbrev s_cost : Stmt := top 49
abbrev s_Dyeing : Stmt := inClass (top 25) 0
abbrev s_Need : Stmt := inClass (top 26) 0
abbrev s_Way : Stmt := inClass (top 27) 0
structure Txt (K : PySem.W.Frag) (mg : Str → Option Value) (CD CN CW : Addr) : Prop where
  b_abs : mg "abs" = none
  b_all : mg "all" = none
  b_enumerate : mg "enumerate" = none
  b_len : mg "len" = none
  b_min : mg "min" = none
  c_NOT_REFUSED : GI mg "NOT_REFUSED" (0)
  c_NO_COLOUR : GI mg "NO_COLOUR" (-1)
  c_TOO_LONG : GI mg "TOO_LONG" (-2)
  c_NO_WAY : GI mg "NO_WAY" (-5)
  c_AT_FAULT : GI mg "AT_FAULT" (-6)
  c_BLANK : GI mg "BLANK" (32)
  c_LINE_END : GI mg "LINE_END" (10)
  c_ZERO : GI mg "ZERO" (48)
  c_NINE : GI mg "NINE" (57)
  c_MOST_CHART_BYTES : GI mg "MOST_CHART_BYTES" (66048)
  c_MOST_WIDTH : GI mg "MOST_WIDTH" (512)
  c_MOST_HEIGHT : GI mg "MOST_HEIGHT" (512)
  c_MOST_CHART_KNOTS : GI mg "MOST_CHART_KNOTS" (65536)
  c_MOST_BOOK_BYTES : GI mg "MOST_BOOK_BYTES" (4096)
  c_MOST_LINES : GI mg "MOST_LINES" (256)
  c_MOST_OF_ONE_COLOUR : GI mg "MOST_OF_ONE_COLOUR" (6)
  c_LEAST_SHADE : GI mg "LEAST_SHADE" (0)
  c_MOST_SHADE : GI mg "MOST_SHADE" (999)
  c_LEAST_KNOTS : GI mg "LEAST_KNOTS" (1)
  c_MOST_KNOTS : GI mg "MOST_KNOTS" (99999)
  c_LINE_PARTS : GI mg "LINE_PARTS" (6)
  c_SHADE_PART : GI mg "SHADE_PART" (2)
  c_KNOTS_PART : GI mg "KNOTS_PART" (4)
  c_END_PART : GI mg "END_PART" (5)
  f_colour_number : FnAt K mg "colour_number" s_colour_number
  f_byte_end : FnAt K mg "byte_end" s_byte_end
  f_number_end : FnAt K mg "number_end" s_number_end
  f_part_end : FnAt K mg "part_end" s_part_end
  f_line_ends : FnAt K mg "line_ends" s_line_ends
  f_may_follow : FnAt K mg "may_follow" s_may_follow
  f_judge : FnAt K mg "judge" s_judge
  f_chart_rows : FnAt K mg "chart_rows" s_chart_rows
  f_is_chart_row : FnAt K mg "is_chart_row" s_is_chart_row
  f_is_chart : FnAt K mg "is_chart" s_is_chart
  f_texts_refusal : FnAt K mg "texts_refusal" s_texts_refusal
  f_refusal : FnAt K mg "refusal" s_refusal
  f_part_number : FnAt K mg "part_number" s_part_number
  f_book_dyeings : FnAt K mg "book_dyeings" s_book_dyeings
  f_rows_in_need : FnAt K mg "rows_in_need" s_rows_in_need
  f_ends_from_each : FnAt K mg "ends_from_each" s_ends_from_each
  f_longer_ways : FnAt K mg "longer_ways" s_longer_ways
  f_rank : FnAt K mg "rank" s_rank
  f_told_way : FnAt K mg "told_way" s_told_way
  f_answer_of_way : FnAt K mg "answer_of_way" s_answer_of_way
  f_tell_cost : FnAt K mg "tell_cost" s_tell_cost
  f_cost : FnAt K mg "cost" s_cost
  k_Dyeing : ClsAt K mg "Dyeing" "Dyeing.__init__" s_Dyeing ["shade", "knots"] CD
  k_Need : ClsAt K mg "Need" "Need.__init__" s_Need ["row", "knots"] CN
  k_Way : ClsAt K mg "Way" "Way.__init__" s_Way ["change", "numbers", "ends"] CW
theorem txt_mk {K : PySem.W.Frag} {h : Heap} {mg : Str → Option Value} {CD CN CW : Addr} {t0 : Tok} {t1 : Tok} {t2 : Tok} {t3 : Tok} {t4 : Tok} {t5 : Tok} {t6 : Tok} {t7 : Tok} {t8 : Tok} {t9 : Tok} {t10 : Tok} {t11 : Tok} {t12 : Tok} {t13 : Tok} {t14 : Tok} {t15 : Tok} {t16 : Tok} {t17 : Tok} {t18 : Tok} {t19 : Tok} {t20 : Tok} {t21 : Tok} {t22 : Tok} {t23 : Tok} {f0 : Addr} {oc0 kV0 dc0 pm0 cd0 ct0 : Value} {od0 an0 : Option Addr} {sl0 : Array (Option Value)} {f1 : Addr} {oc1 kV1 dc1 pm1 cd1 ct1 : Value} {od1 an1 : Option Addr} {sl1 : Array (Option Value)} {f2 : Addr} {oc2 kV2 dc2 pm2 cd2 ct2 : Value} {od2 an2 : Option Addr} {sl2 : Array (Option Value)} {f3 : Addr} {oc3 kV3 dc3 pm3 cd3 ct3 : Value} {od3 an3 : Option Addr} {sl3 : Array (Option Value)} {f4 : Addr} {oc4 kV4 dc4 pm4 cd4 ct4 : Value} {od4 an4 : Option Addr} {sl4 : Array (Option Value)} {f5 : Addr} {oc5 kV5 dc5 pm5 cd5 ct5 : Value} {od5 an5 : Option Addr} {sl5 : Array (Option Value)} {f6 : Addr} {oc6 kV6 dc6 pm6 cd6 ct6 : Value} {od6 an6 : Option Addr} {sl6 : Array (Option Value)} {f7 : Addr} {oc7 kV7 dc7 pm7 cd7 ct7 : Value} {od7 an7 : Option Addr} {sl7 : Array (Option Value)} {f8 : Addr} {oc8 kV8 dc8 pm8 cd8 ct8 : Value} {od8 an8 : Option Addr} {sl8 : Array (Option Value)} {f9 : Addr} {oc9 kV9 dc9 pm9 cd9 ct9 : Value} {od9 an9 : Option Addr} {sl9 : Array (Option Value)} {f10 : Addr} {oc10 kV10 dc10 pm10 cd10 ct10 : Value} {od10 an10 : Option Addr} {sl10 : Array (Option Value)} {f11 : Addr} {oc11 kV11 dc11 pm11 cd11 ct11 : Value} {od11 an11 : Option Addr} {sl11 : Array (Option Value)} {f12 : Addr} {oc12 kV12 dc12 pm12 cd12 ct12 : Value} {od12 an12 : Option Addr} {sl12 : Array (Option Value)} {f13 : Addr} {oc13 kV13 dc13 pm13 cd13 ct13 : Value} {od13 an13 : Option Addr} {sl13 : Array (Option Value)} {f14 : Addr} {oc14 kV14 dc14 pm14 cd14 ct14 : Value} {od14 an14 : Option Addr} {sl14 : Array (Option Value)} {f15 : Addr} {oc15 kV15 dc15 pm15 cd15 ct15 : Value} {od15 an15 : Option Addr} {sl15 : Array (Option Value)} {f16 : Addr} {oc16 kV16 dc16 pm16 cd16 ct16 : Value} {od16 an16 : Option Addr} {sl16 : Array (Option Value)} {f17 : Addr} {oc17 kV17 dc17 pm17 cd17 ct17 : Value} {od17 an17 : Option Addr} {sl17 : Array (Option Value)} {f18 : Addr} {oc18 kV18 dc18 pm18 cd18 ct18 : Value} {od18 an18 : Option Addr} {sl18 : Array (Option Value)} {f19 : Addr} {oc19 kV19 dc19 pm19 cd19 ct19 : Value} {od19 an19 : Option Addr} {sl19 : Array (Option Value)} {f20 : Addr} {oc20 kV20 dc20 pm20 cd20 ct20 : Value} {od20 an20 : Option Addr} {sl20 : Array (Option Value)} {f21 : Addr} {oc21 kV21 dc21 pm21 cd21 ct21 : Value} {od21 an21 : Option Addr} {sl21 : Array (Option Value)} {g0 : Addr} {poc0 pkV0 pdc0 ppm0 pcd0 pct0 : Value} {pod0 pan0 : Option Addr} {psl0 : Array (Option Value)} {g1 : Addr} {poc1 pkV1 pdc1 ppm1 pcd1 pct1 : Value} {pod1 pan1 : Option Addr} {psl1 : Array (Option Value)} {g2 : Addr} {poc2 pkV2 pdc2 ppm2 pcd2 pct2 : Value} {pod2 pan2 : Option Addr} {psl2 : Array (Option Value)} (X : K.In h) (G : h.Ns mainGlobals mg)
    (u_abs : PySem.W.nsIn K mainGlobals "abs" = some none)
    (u_all : PySem.W.nsIn K mainGlobals "all" = some none)
    (u_enumerate : PySem.W.nsIn K mainGlobals "enumerate" = some none)
    (u_len : PySem.W.nsIn K mainGlobals "len" = some none)
    (u_min : PySem.W.nsIn K mainGlobals "min" = some none)
    (a0 : PySem.W.nsIn K mainGlobals "NOT_REFUSED" = some (some (.int (0) t0)))
    (a1 : PySem.W.nsIn K mainGlobals "NO_COLOUR" = some (some (.int (-1) t1)))
    (a2 : PySem.W.nsIn K mainGlobals "TOO_LONG" = some (some (.int (-2) t2)))
    (a3 : PySem.W.nsIn K mainGlobals "NO_WAY" = some (some (.int (-5) t3)))
    (a4 : PySem.W.nsIn K mainGlobals "AT_FAULT" = some (some (.int (-6) t4)))
    (a5 : PySem.W.nsIn K mainGlobals "BLANK" = some (some (.int (32) t5)))
    (a6 : PySem.W.nsIn K mainGlobals "LINE_END" = some (some (.int (10) t6)))
    (a7 : PySem.W.nsIn K mainGlobals "ZERO" = some (some (.int (48) t7)))
    (a8 : PySem.W.nsIn K mainGlobals "NINE" = some (some (.int (57) t8)))
    (a9 : PySem.W.nsIn K mainGlobals "MOST_CHART_BYTES" = some (some (.int (66048) t9)))
    (a10 : PySem.W.nsIn K mainGlobals "MOST_WIDTH" = some (some (.int (512) t10)))
    (a11 : PySem.W.nsIn K mainGlobals "MOST_HEIGHT" = some (some (.int (512) t11)))
    (a12 : PySem.W.nsIn K mainGlobals "MOST_CHART_KNOTS" = some (some (.int (65536) t12)))
    (a13 : PySem.W.nsIn K mainGlobals "MOST_BOOK_BYTES" = some (some (.int (4096) t13)))
    (a14 : PySem.W.nsIn K mainGlobals "MOST_LINES" = some (some (.int (256) t14)))
    (a15 : PySem.W.nsIn K mainGlobals "MOST_OF_ONE_COLOUR" = some (some (.int (6) t15)))
    (a16 : PySem.W.nsIn K mainGlobals "LEAST_SHADE" = some (some (.int (0) t16)))
    (a17 : PySem.W.nsIn K mainGlobals "MOST_SHADE" = some (some (.int (999) t17)))
    (a18 : PySem.W.nsIn K mainGlobals "LEAST_KNOTS" = some (some (.int (1) t18)))
    (a19 : PySem.W.nsIn K mainGlobals "MOST_KNOTS" = some (some (.int (99999) t19)))
    (a20 : PySem.W.nsIn K mainGlobals "LINE_PARTS" = some (some (.int (6) t20)))
    (a21 : PySem.W.nsIn K mainGlobals "SHADE_PART" = some (some (.int (2) t21)))
    (a22 : PySem.W.nsIn K mainGlobals "KNOTS_PART" = some (some (.int (4) t22)))
    (a23 : PySem.W.nsIn K mainGlobals "END_PART" = some (some (.int (5) t23)))
    (b0 : PySem.W.nsIn K mainGlobals "colour_number" = some (some (.ref f0))) (l0 : K.lookup f0 = some ⟨oc0, od0, .func (PySem.W.fnOf "colour_number" "colour_number" (defArgs s_colour_number) (defBody s_colour_number) (defScope s_colour_number) .none kV0 dc0 pm0 an0 cd0 ct0), sl0⟩) (c0 : PySem.W.codeIn K cd0 "colour_number" = true) (k0 : PySem.W.keepIn K (.ref f0) = true)
    (b1 : PySem.W.nsIn K mainGlobals "byte_end" = some (some (.ref f1))) (l1 : K.lookup f1 = some ⟨oc1, od1, .func (PySem.W.fnOf "byte_end" "byte_end" (defArgs s_byte_end) (defBody s_byte_end) (defScope s_byte_end) .none kV1 dc1 pm1 an1 cd1 ct1), sl1⟩) (c1 : PySem.W.codeIn K cd1 "byte_end" = true) (k1 : PySem.W.keepIn K (.ref f1) = true)
    (b2 : PySem.W.nsIn K mainGlobals "number_end" = some (some (.ref f2))) (l2 : K.lookup f2 = some ⟨oc2, od2, .func (PySem.W.fnOf "number_end" "number_end" (defArgs s_number_end) (defBody s_number_end) (defScope s_number_end) .none kV2 dc2 pm2 an2 cd2 ct2), sl2⟩) (c2 : PySem.W.codeIn K cd2 "number_end" = true) (k2 : PySem.W.keepIn K (.ref f2) = true)
    (b3 : PySem.W.nsIn K mainGlobals "part_end" = some (some (.ref f3))) (l3 : K.lookup f3 = some ⟨oc3, od3, .func (PySem.W.fnOf "part_end" "part_end" (defArgs s_part_end) (defBody s_part_end) (defScope s_part_end) .none kV3 dc3 pm3 an3 cd3 ct3), sl3⟩) (c3 : PySem.W.codeIn K cd3 "part_end" = true) (k3 : PySem.W.keepIn K (.ref f3) = true)
    (b4 : PySem.W.nsIn K mainGlobals "line_ends" = some (some (.ref f4))) (l4 : K.lookup f4 = some ⟨oc4, od4, .func (PySem.W.fnOf "line_ends" "line_ends" (defArgs s_line_ends) (defBody s_line_ends) (defScope s_line_ends) .none kV4 dc4 pm4 an4 cd4 ct4), sl4⟩) (c4 : PySem.W.codeIn K cd4 "line_ends" = true) (k4 : PySem.W.keepIn K (.ref f4) = true)
    (b5 : PySem.W.nsIn K mainGlobals "may_follow" = some (some (.ref f5))) (l5 : K.lookup f5 = some ⟨oc5, od5, .func (PySem.W.fnOf "may_follow" "may_follow" (defArgs s_may_follow) (defBody s_may_follow) (defScope s_may_follow) .none kV5 dc5 pm5 an5 cd5 ct5), sl5⟩) (c5 : PySem.W.codeIn K cd5 "may_follow" = true) (k5 : PySem.W.keepIn K (.ref f5) = true)
    (b6 : PySem.W.nsIn K mainGlobals "judge" = some (some (.ref f6))) (l6 : K.lookup f6 = some ⟨oc6, od6, .func (PySem.W.fnOf "judge" "judge" (defArgs s_judge) (defBody s_judge) (defScope s_judge) .none kV6 dc6 pm6 an6 cd6 ct6), sl6⟩) (c6 : PySem.W.codeIn K cd6 "judge" = true) (k6 : PySem.W.keepIn K (.ref f6) = true)
    (b7 : PySem.W.nsIn K mainGlobals "chart_rows" = some (some (.ref f7))) (l7 : K.lookup f7 = some ⟨oc7, od7, .func (PySem.W.fnOf "chart_rows" "chart_rows" (defArgs s_chart_rows) (defBody s_chart_rows) (defScope s_chart_rows) .none kV7 dc7 pm7 an7 cd7 ct7), sl7⟩) (c7 : PySem.W.codeIn K cd7 "chart_rows" = true) (k7 : PySem.W.keepIn K (.ref f7) = true)
    (b8 : PySem.W.nsIn K mainGlobals "is_chart_row" = some (some (.ref f8))) (l8 : K.lookup f8 = some ⟨oc8, od8, .func (PySem.W.fnOf "is_chart_row" "is_chart_row" (defArgs s_is_chart_row) (defBody s_is_chart_row) (defScope s_is_chart_row) .none kV8 dc8 pm8 an8 cd8 ct8), sl8⟩) (c8 : PySem.W.codeIn K cd8 "is_chart_row" = true) (k8 : PySem.W.keepIn K (.ref f8) = true)
    (b9 : PySem.W.nsIn K mainGlobals "is_chart" = some (some (.ref f9))) (l9 : K.lookup f9 = some ⟨oc9, od9, .func (PySem.W.fnOf "is_chart" "is_chart" (defArgs s_is_chart) (defBody s_is_chart) (defScope s_is_chart) .none kV9 dc9 pm9 an9 cd9 ct9), sl9⟩) (c9 : PySem.W.codeIn K cd9 "is_chart" = true) (k9 : PySem.W.keepIn K (.ref f9) = true)
    (b10 : PySem.W.nsIn K mainGlobals "texts_refusal" = some (some (.ref f10))) (l10 : K.lookup f10 = some ⟨oc10, od10, .func (PySem.W.fnOf "texts_refusal" "texts_refusal" (defArgs s_texts_refusal) (defBody s_texts_refusal) (defScope s_texts_refusal) .none kV10 dc10 pm10 an10 cd10 ct10), sl10⟩) (c10 : PySem.W.codeIn K cd10 "texts_refusal" = true) (k10 : PySem.W.keepIn K (.ref f10) = true)
    (b11 : PySem.W.nsIn K mainGlobals "refusal" = some (some (.ref f11))) (l11 : K.lookup f11 = some ⟨oc11, od11, .func (PySem.W.fnOf "refusal" "refusal" (defArgs s_refusal) (defBody s_refusal) (defScope s_refusal) .none kV11 dc11 pm11 an11 cd11 ct11), sl11⟩) (c11 : PySem.W.codeIn K cd11 "refusal" = true) (k11 : PySem.W.keepIn K (.ref f11) = true)
    (b12 : PySem.W.nsIn K mainGlobals "part_number" = some (some (.ref f12))) (l12 : K.lookup f12 = some ⟨oc12, od12, .func (PySem.W.fnOf "part_number" "part_number" (defArgs s_part_number) (defBody s_part_number) (defScope s_part_number) .none kV12 dc12 pm12 an12 cd12 ct12), sl12⟩) (c12 : PySem.W.codeIn K cd12 "part_number" = true) (k12 : PySem.W.keepIn K (.ref f12) = true)
    (b13 : PySem.W.nsIn K mainGlobals "book_dyeings" = some (some (.ref f13))) (l13 : K.lookup f13 = some ⟨oc13, od13, .func (PySem.W.fnOf "book_dyeings" "book_dyeings" (defArgs s_book_dyeings) (defBody s_book_dyeings) (defScope s_book_dyeings) .none kV13 dc13 pm13 an13 cd13 ct13), sl13⟩) (c13 : PySem.W.codeIn K cd13 "book_dyeings" = true) (k13 : PySem.W.keepIn K (.ref f13) = true)
    (b14 : PySem.W.nsIn K mainGlobals "rows_in_need" = some (some (.ref f14))) (l14 : K.lookup f14 = some ⟨oc14, od14, .func (PySem.W.fnOf "rows_in_need" "rows_in_need" (defArgs s_rows_in_need) (defBody s_rows_in_need) (defScope s_rows_in_need) .none kV14 dc14 pm14 an14 cd14 ct14), sl14⟩) (c14 : PySem.W.codeIn K cd14 "rows_in_need" = true) (k14 : PySem.W.keepIn K (.ref f14) = true)
    (b15 : PySem.W.nsIn K mainGlobals "ends_from_each" = some (some (.ref f15))) (l15 : K.lookup f15 = some ⟨oc15, od15, .func (PySem.W.fnOf "ends_from_each" "ends_from_each" (defArgs s_ends_from_each) (defBody s_ends_from_each) (defScope s_ends_from_each) .none kV15 dc15 pm15 an15 cd15 ct15), sl15⟩) (c15 : PySem.W.codeIn K cd15 "ends_from_each" = true) (k15 : PySem.W.keepIn K (.ref f15) = true)
    (b16 : PySem.W.nsIn K mainGlobals "longer_ways" = some (some (.ref f16))) (l16 : K.lookup f16 = some ⟨oc16, od16, .func (PySem.W.fnOf "longer_ways" "longer_ways" (defArgs s_longer_ways) (defBody s_longer_ways) (defScope s_longer_ways) .none kV16 dc16 pm16 an16 cd16 ct16), sl16⟩) (c16 : PySem.W.codeIn K cd16 "longer_ways" = true) (k16 : PySem.W.keepIn K (.ref f16) = true)
    (b17 : PySem.W.nsIn K mainGlobals "rank" = some (some (.ref f17))) (l17 : K.lookup f17 = some ⟨oc17, od17, .func (PySem.W.fnOf "rank" "rank" (defArgs s_rank) (defBody s_rank) (defScope s_rank) .none kV17 dc17 pm17 an17 cd17 ct17), sl17⟩) (c17 : PySem.W.codeIn K cd17 "rank" = true) (k17 : PySem.W.keepIn K (.ref f17) = true)
    (b18 : PySem.W.nsIn K mainGlobals "told_way" = some (some (.ref f18))) (l18 : K.lookup f18 = some ⟨oc18, od18, .func (PySem.W.fnOf "told_way" "told_way" (defArgs s_told_way) (defBody s_told_way) (defScope s_told_way) .none kV18 dc18 pm18 an18 cd18 ct18), sl18⟩) (c18 : PySem.W.codeIn K cd18 "told_way" = true) (k18 : PySem.W.keepIn K (.ref f18) = true)
    (b19 : PySem.W.nsIn K mainGlobals "answer_of_way" = some (some (.ref f19))) (l19 : K.lookup f19 = some ⟨oc19, od19, .func (PySem.W.fnOf "answer_of_way" "answer_of_way" (defArgs s_answer_of_way) (defBody s_answer_of_way) (defScope s_answer_of_way) .none kV19 dc19 pm19 an19 cd19 ct19), sl19⟩) (c19 : PySem.W.codeIn K cd19 "answer_of_way" = true) (k19 : PySem.W.keepIn K (.ref f19) = true)
    (b20 : PySem.W.nsIn K mainGlobals "tell_cost" = some (some (.ref f20))) (l20 : K.lookup f20 = some ⟨oc20, od20, .func (PySem.W.fnOf "tell_cost" "tell_cost" (defArgs s_tell_cost) (defBody s_tell_cost) (defScope s_tell_cost) .none kV20 dc20 pm20 an20 cd20 ct20), sl20⟩) (c20 : PySem.W.codeIn K cd20 "tell_cost" = true) (k20 : PySem.W.keepIn K (.ref f20) = true)
    (b21 : PySem.W.nsIn K mainGlobals "cost" = some (some (.ref f21))) (l21 : K.lookup f21 = some ⟨oc21, od21, .func (PySem.W.fnOf "cost" "cost" (defArgs s_cost) (defBody s_cost) (defScope s_cost) .none kV21 dc21 pm21 an21 cd21 ct21), sl21⟩) (c21 : PySem.W.codeIn K cd21 "cost" = true) (k21 : PySem.W.keepIn K (.ref f21) = true)
    (d0 : PySem.W.nsIn K mainGlobals "Dyeing" = some (some (.ref CD))) (e0 : PySem.W.findIn K (.ref CD) "__init__" = some (some (.ref g0))) (i0 : PySem.W.isFn K (.ref g0) = true) (m0 : K.lookup g0 = some ⟨poc0, pod0, .func (PySem.W.fnOf "__init__" "Dyeing.__init__" (defArgs s_Dyeing) (defBody s_Dyeing) (defScope s_Dyeing) .none pkV0 pdc0 ppm0 pan0 pcd0 pct0), psl0⟩) (n0 : PySem.W.codeIn K pcd0 "Dyeing.__init__" = true) (o0 : PySem.W.keepIn K (.ref g0) = true) (p0 : PySem.W.plainGet K CD Str.empty = true) (q0 : PySem.W.hasDictIn K CD = true) (r0 : PySem.W.plainOver K CD = true) (v0 : PySem.W.findIn K (.ref CD) "__setattr__" = some (some (.builtin "object.__setattr__"))) (w0 : PySem.W.makesIn K CD = true) (x0 : PySem.W.keepIn K (.ref CD) = true) (z0_shade : PySem.W.findIn K (.ref CD) "shade" = some none) (z0_knots : PySem.W.findIn K (.ref CD) "knots" = some none)
    (d1 : PySem.W.nsIn K mainGlobals "Need" = some (some (.ref CN))) (e1 : PySem.W.findIn K (.ref CN) "__init__" = some (some (.ref g1))) (i1 : PySem.W.isFn K (.ref g1) = true) (m1 : K.lookup g1 = some ⟨poc1, pod1, .func (PySem.W.fnOf "__init__" "Need.__init__" (defArgs s_Need) (defBody s_Need) (defScope s_Need) .none pkV1 pdc1 ppm1 pan1 pcd1 pct1), psl1⟩) (n1 : PySem.W.codeIn K pcd1 "Need.__init__" = true) (o1 : PySem.W.keepIn K (.ref g1) = true) (p1 : PySem.W.plainGet K CN Str.empty = true) (q1 : PySem.W.hasDictIn K CN = true) (r1 : PySem.W.plainOver K CN = true) (v1 : PySem.W.findIn K (.ref CN) "__setattr__" = some (some (.builtin "object.__setattr__"))) (w1 : PySem.W.makesIn K CN = true) (x1 : PySem.W.keepIn K (.ref CN) = true) (z1_row : PySem.W.findIn K (.ref CN) "row" = some none) (z1_knots : PySem.W.findIn K (.ref CN) "knots" = some none)
    (d2 : PySem.W.nsIn K mainGlobals "Way" = some (some (.ref CW))) (e2 : PySem.W.findIn K (.ref CW) "__init__" = some (some (.ref g2))) (i2 : PySem.W.isFn K (.ref g2) = true) (m2 : K.lookup g2 = some ⟨poc2, pod2, .func (PySem.W.fnOf "__init__" "Way.__init__" (defArgs s_Way) (defBody s_Way) (defScope s_Way) .none pkV2 pdc2 ppm2 pan2 pcd2 pct2), psl2⟩) (n2 : PySem.W.codeIn K pcd2 "Way.__init__" = true) (o2 : PySem.W.keepIn K (.ref g2) = true) (p2 : PySem.W.plainGet K CW Str.empty = true) (q2 : PySem.W.hasDictIn K CW = true) (r2 : PySem.W.plainOver K CW = true) (v2 : PySem.W.findIn K (.ref CW) "__setattr__" = some (some (.builtin "object.__setattr__"))) (w2 : PySem.W.makesIn K CW = true) (x2 : PySem.W.keepIn K (.ref CW) = true) (z2_change : PySem.W.findIn K (.ref CW) "change" = some none) (z2_numbers : PySem.W.findIn K (.ref CW) "numbers" = some none) (z2_ends : PySem.W.findIn K (.ref CW) "ends" = some none) : Txt K mg CD CN CW :=
  ⟨PySem.W.mg_none_of X G u_abs, PySem.W.mg_none_of X G u_all, PySem.W.mg_none_of X G u_enumerate, PySem.W.mg_none_of X G u_len, PySem.W.mg_none_of X G u_min, gi_at X G a0, gi_at X G a1, gi_at X G a2, gi_at X G a3, gi_at X G a4, gi_at X G a5, gi_at X G a6, gi_at X G a7, gi_at X G a8, gi_at X G a9, gi_at X G a10, gi_at X G a11, gi_at X G a12, gi_at X G a13, gi_at X G a14, gi_at X G a15, gi_at X G a16, gi_at X G a17, gi_at X G a18, gi_at X G a19, gi_at X G a20, gi_at X G a21, gi_at X G a22, gi_at X G a23, fn_at X G b0 l0 c0 k0, fn_at X G b1 l1 c1 k1, fn_at X G b2 l2 c2 k2, fn_at X G b3 l3 c3 k3, fn_at X G b4 l4 c4 k4, fn_at X G b5 l5 c5 k5, fn_at X G b6 l6 c6 k6, fn_at X G b7 l7 c7 k7, fn_at X G b8 l8 c8 k8, fn_at X G b9 l9 c9 k9, fn_at X G b10 l10 c10 k10, fn_at X G b11 l11 c11 k11, fn_at X G b12 l12 c12 k12, fn_at X G b13 l13 c13 k13, fn_at X G b14 l14 c14 k14, fn_at X G b15 l15 c15 k15, fn_at X G b16 l16 c16 k16, fn_at X G b17 l17 c17 k17, fn_at X G b18 l18 c18 k18, fn_at X G b19 l19 c19 k19, fn_at X G b20 l20 c20 k20, fn_at X G b21 l21 c21 k21, cls_at X G d0 e0 i0 m0 n0 o0 p0 q0 r0 v0 w0 x0 (by intro a ha; simp only [List.mem_cons, List.not_mem_nil, or_false] at ha; rcases ha with rfl | rfl; exact z0_shade; exact z0_knots), cls_at X G d1 e1 i1 m1 n1 o1 p1 q1 r1 v1 w1 x1 (by intro a ha; simp only [List.mem_cons, List.not_mem_nil, or_false] at ha; rcases ha with rfl | rfl; exact z1_row; exact z1_knots), cls_at X G d2 e2 i2 m2 n2 o2 p2 q2 r2 v2 w2 x2 (by intro a ha; simp only [List.mem_cons, List.not_mem_nil, or_false] at ha; rcases ha with rfl | rfl | rfl; exact z2_change; exact z2_numbers; exact z2_ends)⟩
end Wj

set_option Elab.async false
set_option linter.all false
set_option maxRecDepth 100000
set_option maxHeartbeats 2000000
namespace Wj
open PySem PySem.Spec PyProof.Rows L2 Wl Wd
/-! ### promises -/
def spCol : Sp := fun vs H Q _ => ∃ c : Int, vs = [V.int c] ∧ Q (.int (colNo c)) H
def spByt (K : PySem.W.Frag) (ns : List Int) : Sp := fun vs H Q _ => ∃ (a : Addr) (i c : Int), vs = [V.ref a, V.int i, V.int c] ∧ SqL K H a (ns.map V.int) ∧ ∃ s : Nat, i = s ∧ Q (.int (byteEnd ns s c : Nat)) H
def spNum (K : PySem.W.Frag) (ns : List Int) : Sp := fun vs H Q _ => ∃ (a : Addr) (i lo hi : Int), vs = [V.ref a, V.int i, V.int lo, V.int hi] ∧ SqL K H a (ns.map V.int) ∧ ∃ s : Nat, i = s ∧ Q (.int ((s + numCount lo hi true 0 (ns.drop s) : Nat))) H
def spPart (K : PySem.W.Frag) (ns : List Int) : Sp := fun vs H Q _ => ∃ (a : Addr) (i j : Int), vs = [V.ref a, V.int i, V.int j] ∧ SqL K H a (ns.map V.int) ∧ ∃ s p : Nat, i = s ∧ j = p ∧ Q (.int (partEnd ns s p : Nat)) H
def vN (l : List Nat) : List V := l.map fun (n : Nat) => V.int (n : Int)
def spLine (K : PySem.W.Frag) (ns : List Int) : Sp := fun vs H Q _ => ∃ (a : Addr) (i : Int), vs = [V.ref a, V.int i] ∧ SqL K H a (ns.map V.int) ∧ ∃ s : Nat, i = s ∧ ∀ (H' : Hp) (l : Addr), Same H H' → H l = none → H' l = some (.lst (vN (lineEnds ns s))) → Q (.ref l) H'
def spMay (K : PySem.W.Frag) : Sp := fun vs H Q _ => ∃ (a : Addr) (c : Int), vs = [V.ref a, V.int c] ∧ ∃ cs : List Int, SqL K H a (cs.map V.int) ∧ Q (.bl (mayFollow cs c)) H
def spJudge (K : PySem.W.Frag) : Sp := fun vs H Q _ => ∃ (a : Addr) (ns : List Int), vs = [V.ref a] ∧ SqL K H a (ns.map V.int) ∧ Byt ns ∧ ∀ (H' : Hp) (p : Addr), Same H H' → H' p = some (.lst ((PyWqbbck.judge ns).map V.int)) → Q (.ref p) H'
section
variable {P : Program} {w : World} {K : PySem.W.Frag} {mg : Str → Option Value} {base : Heap} {CD CN CW : Addr}
theorem sc_colour_number : FnScope ["byte"] ["byte"] (defScope s_colour_number) := ⟨rfl, rfl, rfl, by decide +kernel, rfl, by decide +kernel, by decide +kernel⟩
theorem ok_col (T : Txt K mg CD CN CW) : Ok P w K mg base 1 "colour_number" ["byte"] spCol := by
  refine T.f_colour_number.ok sc_colour_number (fun _ _ _ _ _ _ us hl => match us, hl with | [_], _ => rfl) (fun vs H Q E h => ?_) (fun f cdv A outer s H vs Q E hr h => ?_)
  · obtain ⟨c, rfl, _⟩ := h
    rfl
  · obtain ⟨c, rfl, k⟩ := h
    refine ⟨_, pss_cons (ps_if (pt_chain op_le op_le pe_int (pv 0) pe_int) (pss_one (ps_ret (pe_op op_sub (pv 0) pe_int))) pss_nil)
      (pss_cons (ps_if (pt_chain op_le op_le pe_int (pv 0) pe_int) (pss_one (ps_ret (pe_op op_add (pe_op op_sub (pv 0) pe_int) pe_int))) pss_nil)
      (pss_cons (ps_if (pt_chain op_le op_le (pe_gi rfl T.c_ZERO) (pv 0) (pe_gi rfl T.c_NINE)) (pss_one (ps_ret (pe_op op_add (pe_op op_sub (pv 0) (pe_gi rfl T.c_ZERO)) pe_int))) pss_nil)
      (pss_one (ps_ret (pe_gi rfl T.c_NO_COLOUR))))), ?_⟩
    have e0 : start ["byte"] [V.int c] = [some (V.int c)] := rfl
    rw [e0]
    simp only [tSeq, tNext, tIfS, tTest, tB, tChain, tOp, tUn, rU, rI0, rI, rEq, rNe, scal, tVar, tC, tRet, tAsg, gName, tAug, ipI, tAnd, tOr, tNot, tCall, tCons, tNil, tLst, tCB, tBM, tDrop, rLenI, rIxI, List.getElem?_cons_zero, List.getElem?_cons_succ, List.set_cons_zero, List.set_cons_succ, Option.some.injEq, V.int.injEq, V.bl.injEq, V.ref.injEq, List.cons.injEq, List.append_nil, exists_eq_left, exists_eq_left', exists_and_left, and_true, true_and, and_self, decide_eq_true_eq, Bool.false_eq_true, if_true, if_false, reduceIte]
    have fin : ∀ z : Int, colNo c = z → Q (.int z) H := fun z e => by rw [← e]; exact k
    repeat' split
    all_goals (refine fin _ ?_; unfold colNo; repeat' split)
    all_goals omega
theorem sc_byte_end : FnScope ["text", "start", "byte"] ["text", "start", "byte"] (defScope s_byte_end) := ⟨rfl, rfl, rfl, by decide +kernel, rfl, by decide +kernel, by decide +kernel⟩
theorem ok_byt (T : Txt K mg CD CN CW) (ns : List Int) : Ok P w K mg base 1 "byte_end" ["text", "start", "byte"] (spByt K ns) := by
  refine T.f_byte_end.ok sc_byte_end (fun _ _ _ _ _ _ us hl => match us, hl with | [_, _, _], _ => rfl) (fun vs H Q E h => ?_) (fun f cdv A outer s H vs Q E hr h => ?_)
  · obtain ⟨a, i, c, rfl, _⟩ := h
    rfl
  · obtain ⟨a, i, c, rfl, hS, s, rfl, k⟩ := h
    refine ⟨_, pss_cons (ps_if (pt_w (pw_and (pt_cmpR op_lt (pv 1) (pe_callB (len_ints ns) (by rfl) T.b_len PySem.boot_len (pa_cons (pv 0) pa_nil)) (nomark _))
        (pw_and1 (pt_cmpR op_eq (pe_ix (ix_ints ns) (pv 0) (pv 1) (fun _ _ => rfl)) (pv 2) (nomark _))))) (pss_one (ps_ret (pe_op op_add (pv 1) pe_int))) pss_nil)
      (pss_one (ps_ret (pv 1))), ?_⟩
    have e0 : start ["text", "start", "byte"] [V.ref a, V.int s, V.int c] = [some (V.ref a), some (V.int s), some (V.int c)] := rfl
    rw [e0]
    simp only [tSeq, tNext, tIfS, tTest, tB, tChain, tOp, tUn, rU, rI0, rI, rEq, rNe, scal, tVar, tC, tRet, tAsg, gName, tAug, ipI, tAnd, tOr, tNot, tCall, tCons, tNil, tLst, tCB, tBM, tDrop, rLenI, rIxI, List.getElem?_cons_zero, List.getElem?_cons_succ, List.set_cons_zero, List.set_cons_succ, Option.some.injEq, V.int.injEq, V.bl.injEq, V.ref.injEq, List.cons.injEq, List.append_nil, exists_eq_left, exists_eq_left', exists_and_left, and_true, true_and, and_self, decide_eq_true_eq, Bool.false_eq_true, if_true, if_false, reduceIte, cx_K, cx_nox, hS, atI_eq]
    unfold byteEnd at k
    by_cases h1 : (s : Int) < ns.length
    · rw [if_pos h1]
      have h2 : s < ns.length := by omega
      rw [List.getElem?_eq_getElem h2] at k ⊢
      simp only [tSeq, tNext, tIfS, tTest, tB, tChain, tOp, tUn, rU, rI0, rI, rEq, rNe, scal, tVar, tC, tRet, tAsg, gName, tAug, ipI, tAnd, tOr, tNot, tCall, tCons, tNil, tLst, tCB, tBM, tDrop, rLenI, rIxI, List.getElem?_cons_zero, List.getElem?_cons_succ, List.set_cons_zero, List.set_cons_succ, Option.some.injEq, V.int.injEq, V.bl.injEq, V.ref.injEq, List.cons.injEq, List.append_nil, exists_eq_left, exists_eq_left', exists_and_left, and_true, true_and, and_self, decide_eq_true_eq, Bool.false_eq_true, if_true, if_false, reduceIte] at k ⊢
      by_cases h3 : ns[s] = c
      · rw [if_pos h3] at k ⊢
        exact k
      · rw [if_neg h3] at k ⊢
        exact k
    · rw [if_neg h1]
      rw [List.getElem?_eq_none (by omega), if_neg (by simp)] at k
      exact k
theorem sc_number_end : FnScope ["text", "start", "least", "most", "value", "place"] ["text", "start", "least", "most"] (defScope s_number_end) := ⟨rfl, rfl, rfl, by decide +kernel, rfl, by decide +kernel, by decide +kernel⟩
/-- number_end's loop -/
def WNum (ns : List Int) (a : Addr) (s : Nat) (lo hi : Int) (H : Hp) : Nat → L2.St → Hp → Prop := fun m σ H' => ∃ (v : Int) (p : Nat), m = ns.length - p ∧ H' = H ∧
  σ = [some (V.ref a), some (V.int s), some (V.int lo), some (V.int hi), some (V.int v), some (V.int p)] ∧ s ≤ p ∧ p + numCount lo hi (decide (p = s)) v (ns.drop p) = s + numCount lo hi true 0 (ns.drop s)
theorem ok_num (T : Txt K mg CD CN CW) (ns : List Int) : Ok P w K mg base 1 "number_end" ["text", "start", "least", "most"] (spNum K ns) := by
  refine T.f_number_end.ok sc_number_end (fun _ _ _ _ _ _ us hl => match us, hl with | [_, _, _, _], _ => rfl) (fun vs H Q E h => ?_) (fun f cdv A outer s0 H vs Q E hr h => ?_)
  · obtain ⟨a, i, lo, hi, rfl, _⟩ := h
    rfl
  · obtain ⟨a, i, lo, hi, rfl, hS, s, rfl, k⟩ := h
    refine ⟨_, pss_cons (ps_set (i := 4) sc_number_end.nd rfl (Or.inl rfl) pe_int)
      (pss_cons (ps_set (i := 5) sc_number_end.nd rfl (Or.inl rfl) (pv 1))
      (pss_cons (ps_while PassesOwn.never
          (pt_w (pw_and (pt_cmpR op_lt (pv 5) (pe_callB (len_ints ns) (by rfl) T.b_len PySem.boot_len (pa_cons (pv 0) pa_nil)) (nomark _)) (pw_and1 (pt_chain op_le op_le (pe_gi rfl T.c_ZERO) (pe_ix (ix_ints ns) (pv 0) (pv 5) (fun _ _ => rfl)) (pe_gi rfl T.c_NINE)))))
          (pss_cons (ps_if (pt_w (pw_and (pt_cmpR op_gt (pv 5) (pv 1) (nomark _)) (pw_and1 (pt_cmpR op_eq (pv 4) pe_int (nomark _))))) (pss_one (ps_ret (pv 5))) pss_nil)
          (pss_cons (ps_set (i := 4) sc_number_end.nd rfl (Or.inl rfl) (pe_op op_sub (pe_op op_add (pe_op op_mul (pv 4) pe_int) (pe_ix (ix_ints ns) (pv 0) (pv 5) (fun _ _ => rfl))) (pe_gi rfl T.c_ZERO)))
          (pss_cons (ps_if (pt_w (pw_or (pt_cmpR op_lt (pv 4) (pv 2) (nomark _)) (pw_or1 (pt_cmpR op_gt (pv 4) (pv 3) (nomark _))))) (pss_one (ps_ret (pv 5))) pss_nil)
          (pss_one (ps_aug (i := 5) sc_number_end.nd rfl (Or.inl rfl) pe_int ip_add))))))
      (pss_one (ps_ret (pv 5))))), ?_⟩
    refine ⟨_, rfl, WNum ns a s lo hi H, ⟨ns.length - s, 0, s, rfl, rfl, rfl, Nat.le_refl _, by rw [decide_eq_true rfl]⟩, ?_⟩
    rintro m σ H' ⟨v, p, rfl, rfl, rfl, hle, heq⟩
    simp only [tSeq, tNext, tIfS, tTest, tB, tChain, tOp, tUn, rU, rI0, rI, rEq, rNe, scal, tVar, tC, tRet, tAsg, gName, tAug, ipI, tAnd, tOr, tNot, tCall, tCons, tNil, tLst, tCB, tBM, tDrop, rLenI, rIxI, List.getElem?_cons_zero, List.getElem?_cons_succ, List.set_cons_zero, List.set_cons_succ, Option.some.injEq, V.int.injEq, V.bl.injEq, V.ref.injEq, List.cons.injEq, List.append_nil, exists_eq_left, exists_eq_left', exists_and_left, and_true, true_and, and_self, decide_eq_true_eq, Bool.false_eq_true, if_true, if_false, reduceIte, cx_K, cx_nox, hS, atI_eq]
    have done : numCount lo hi (decide (p = s)) v (ns.drop p) = 0 → Q (.int (p : Int)) H' := fun e => by
      rw [e, Nat.add_zero] at heq
      rw [← heq] at k
      exact k
    by_cases h1 : (p : Int) < ns.length
    · rw [if_pos h1]
      have h2 : p < ns.length := by omega
      have ed : ns.drop p = ns[p] :: ns.drop (p + 1) := List.drop_eq_getElem_cons h2
      have key : numCount lo hi (decide (p = s)) v (ns.drop p) = if digOk lo hi (decide (p = s)) v ns[p] then numCount lo hi false (v * 10 + ns[p] - 48) (ns.drop (p + 1)) + 1 else 0 := by
        rw [ed]
        rfl
      have dk : digOk lo hi (decide (p = s)) v ns[p] ↔ 48 ≤ ns[p] ∧ ns[p] ≤ 57 ∧ ¬ (p ≠ s ∧ v = 0) ∧ lo ≤ v * 10 + ns[p] - 48 ∧ v * 10 + ns[p] - 48 ≤ hi := by
        unfold digOk
        simp
      have ret : ¬ digOk lo hi (decide (p = s)) v ns[p] → Q (.int (p : Int)) H' := fun q => done (by rw [key, if_neg q])
      have hx : ns[p]? = some ns[p] := List.getElem?_eq_getElem h2
      rw [hx]
      generalize ns[p] = x at *
      simp only [tSeq, tNext, tIfS, tTest, tB, tChain, tOp, tUn, rU, rI0, rI, rEq, rNe, scal, tVar, tC, tRet, tAsg, gName, tAug, ipI, tAnd, tOr, tNot, tCall, tCons, tNil, tLst, tCB, tBM, tDrop, rLenI, rIxI, List.getElem?_cons_zero, List.getElem?_cons_succ, List.set_cons_zero, List.set_cons_succ, Option.some.injEq, V.int.injEq, V.bl.injEq, V.ref.injEq, List.cons.injEq, List.append_nil, exists_eq_left, exists_eq_left', exists_and_left, and_true, true_and, and_self, decide_eq_true_eq, Bool.false_eq_true, if_true, if_false, reduceIte]
      by_cases h3 : 48 ≤ x
      · rw [if_pos h3]
        by_cases h4 : x ≤ 57
        · rw [if_pos h4]
          refine ⟨fun σ' H'' => ∃ m', m' < ns.length - p ∧ WNum ns a s lo hi H' m' σ' H'', fun _ _ q => q, ?_⟩
          have go : (if v * 10 + x - 48 < lo then Q (.int (p : Int)) H' else if hi < v * 10 + x - 48 then Q (.int (p : Int)) H' else
              ∃ m', m' < ns.length - p ∧ WNum ns a s lo hi H' m' [some (V.ref a), some (V.int s), some (V.int lo), some (V.int hi), some (V.int (v * 10 + x - 48)), some (V.int ((p : Int) + 1))] H') ∨ (s < p ∧ v = 0) := by
            by_cases h5 : s < p ∧ v = 0
            · exact .inr h5
            · refine .inl ?_
              by_cases h6 : v * 10 + x - 48 < lo
              · rw [if_pos h6]
                exact ret fun q => by have := dk.mp q; omega
              · rw [if_neg h6]
                by_cases h7 : hi < v * 10 + x - 48
                · rw [if_pos h7]
                  exact ret fun q => by have := dk.mp q; omega
                · rw [if_neg h7]
                  have hd : digOk lo hi (decide (p = s)) v x := dk.mpr ⟨h3, h4, by omega, by omega, by omega⟩
                  rw [if_pos hd] at key
                  refine ⟨ns.length - (p + 1), by omega, v * 10 + x - 48, p + 1, rfl, rfl, rfl, by omega, ?_⟩
                  rw [decide_eq_false (by omega : ¬ p + 1 = s)]
                  omega
          have hm : CMul v 10 := .inr ⟨by decide, by decide⟩
          simp only [tSeq, tNext, tIfS, tTest, tB, tChain, tOp, tUn, rU, rI0, rI, rEq, rNe, scal, tVar, tC, tRet, tAsg, gName, tAug, ipI, tAnd, tOr, tNot, tCall, tCons, tNil, tLst, tCB, tBM, tDrop, rLenI, rIxI, List.getElem?_cons_zero, List.getElem?_cons_succ, List.set_cons_zero, List.set_cons_succ, Option.some.injEq, V.int.injEq, V.bl.injEq, V.ref.injEq, List.cons.injEq, List.append_nil, exists_eq_left, exists_eq_left', exists_and_left, and_true, true_and, and_self, decide_eq_true_eq, Bool.false_eq_true, if_true, if_false, reduceIte, cx_K, cx_nox, hS, atI_eq, hx, hm]
          have no : s < p ∧ v = 0 → Q (.int (p : Int)) H' := fun q => ret fun d => (dk.mp d).2.2.1 ⟨by omega, q.2⟩
          rcases go with g | g
          · exact ite2 (fun h5 => ite2 (fun h6 => no ⟨by omega, h6⟩) (fun _ => g)) (fun _ => g)
          · rw [if_pos (by omega), if_pos g.2]
            exact no g
        · rw [if_neg h4]
          exact ret fun q => h4 (dk.mp q).2.1
      · rw [if_neg h3]
        exact ret fun q => h3 (dk.mp q).1
    · rw [if_neg h1]
      exact done (by rw [List.drop_of_length_le (by omega)]; rfl)
theorem sc_part_end : FnScope ["text", "start", "part"] ["text", "start", "part"] (defScope s_part_end) := ⟨rfl, rfl, rfl, by decide +kernel, rfl, by decide +kernel, by decide +kernel⟩
theorem ok_part (T : Txt K mg CD CN CW) (ns : List Int) : Ok P w K mg base 2 "part_end" ["text", "start", "part"] (spPart K ns) := by
  have CB : Ok P w K mg base 1 "byte_end" ["text", "start", "byte"] (spByt K ns) := ok_byt T ns
  have CN : Ok P w K mg base 1 "number_end" ["text", "start", "least", "most"] (spNum K ns) := ok_num T ns
  refine T.f_part_end.ok sc_part_end (fun _ _ _ _ _ _ us hl => match us, hl with | [_, _, _], _ => rfl) (fun vs H Q E h => ?_) (fun f cdv A outer s0 H vs Q E hr h => ?_)
  · obtain ⟨a, i, j, rfl, _⟩ := h
    rfl
  · obtain ⟨a, i, j, rfl, hS, s, p, rfl, rfl, k⟩ := h
    refine ⟨_, pss_cons (ps_if (pt_cmpR op_eq (pv 2) (pe_gi rfl T.c_SHADE_PART) (nomark _)) (pss_one (ps_ret (pe_fn CN hr rfl (pa_cons (pv 0) (pa_cons (pv 1) (pa_cons (pe_gi rfl T.c_LEAST_SHADE) (pa_cons (pe_gi rfl T.c_MOST_SHADE) pa_nil))))))) pss_nil)
      (pss_cons (ps_if (pt_cmpR op_eq (pv 2) (pe_gi rfl T.c_KNOTS_PART) (nomark _)) (pss_one (ps_ret (pe_fn CN hr rfl (pa_cons (pv 0) (pa_cons (pv 1) (pa_cons (pe_gi rfl T.c_LEAST_KNOTS) (pa_cons (pe_gi rfl T.c_MOST_KNOTS) pa_nil))))))) pss_nil)
      (pss_cons (ps_if (pt_cmpR op_eq (pv 2) (pe_gi rfl T.c_END_PART) (nomark _)) (pss_one (ps_ret (pe_fn CB hr rfl (pa_cons (pv 0) (pa_cons (pv 1) (pa_cons (pe_gi rfl T.c_LINE_END) pa_nil)))))) pss_nil)
      (pss_one (ps_ret (pe_fn CB hr rfl (pa_cons (pv 0) (pa_cons (pv 1) (pa_cons (pe_gi rfl T.c_BLANK) pa_nil)))))))), ?_⟩
    have e0 : start ["text", "start", "part"] [V.ref a, V.int s, V.int p] = [some (V.ref a), some (V.int s), some (V.int p)] := rfl
    rw [e0]
    simp only [tSeq, tNext, tIfS, tTest, tB, tChain, tOp, tUn, rU, rI0, rI, rEq, rNe, scal, tVar, tC, tRet, tAsg, gName, tAug, ipI, tAnd, tOr, tNot, tCall, tCons, tNil, tLst, tCB, tBM, tDrop, rLenI, rIxI, List.getElem?_cons_zero, List.getElem?_cons_succ, List.set_cons_zero, List.set_cons_succ, Option.some.injEq, V.int.injEq, V.bl.injEq, V.ref.injEq, List.cons.injEq, List.append_nil, exists_eq_left, exists_eq_left', exists_and_left, and_true, true_and, and_self, decide_eq_true_eq, Bool.false_eq_true, if_true, if_false, reduceIte, cx_K, cx_nox]
    unfold partEnd at k
    by_cases h1 : p = 2
    · rw [if_pos h1] at k
      rw [if_pos (by omega)]
      exact ⟨_, _, _, _, rfl, hS, s, rfl, k⟩
    · rw [if_neg h1] at k
      rw [if_neg (by omega)]
      by_cases h2 : p = 4
      · rw [if_pos h2] at k
        rw [if_pos (by omega)]
        exact ⟨_, _, _, _, rfl, hS, s, rfl, k⟩
      · rw [if_neg h2] at k
        rw [if_neg (by omega)]
        by_cases h3 : p = 5
        · rw [if_pos h3] at k
          rw [if_pos (by omega)]
          exact ⟨_, _, _, rfl, hS, s, rfl, k⟩
        · rw [if_neg h3] at k
          rw [if_neg (by omega)]
          exact ⟨_, _, _, rfl, hS, s, rfl, k⟩
theorem sc_line_ends : FnScope ["text", "start", "ends", "end"] ["text", "start"] (defScope s_line_ends) := ⟨rfl, rfl, rfl, by decide +kernel, rfl, by decide +kernel, by decide +kernel⟩
def WLine (ns : List Int) (a l : Addr) (s : Nat) (H : Hp) : Nat → L2.St → Hp → Prop := fun m σ H' => ∃ (es : List Nat) (e : Nat) (v3 : Option V), m = 5 - es.length ∧
  σ = [some (V.ref a), some (V.int s), some (V.ref l), v3] ∧ H' l = some (.lst (vN (es ++ [e]))) ∧ Same H H' ∧ es.length ≤ 5 ∧ endsFrom ns (5 - es.length) es e = lineEnds ns s
theorem ints_snoc (es : List Nat) (e : Nat) : vN (es ++ [e]) = vN es ++ [V.int (e : Int)] := by
  unfold vN
  rw [List.map_append]
  rfl
theorem ints_len (es : List Nat) : (vN es).length = es.length := by
  unfold vN
  rw [List.length_map]
theorem ints_last (es : List Nat) (e : Nat) : atI (vN (es ++ [e])) (-1) = some (V.int (e : Int)) := by
  rw [ints_snoc]
  exact atI_last _ _
theorem ok_line (T : Txt K mg CD CN CW) (ns : List Int) : Ok P w K mg base 3 "line_ends" ["text", "start"] (spLine K ns) := by
  have CP : Ok P w K mg base 2 "part_end" ["text", "start", "part"] (spPart K ns) := ok_part T ns
  refine T.f_line_ends.ok sc_line_ends (fun _ _ _ _ _ _ us hl => match us, hl with | [_, _], _ => rfl) (fun vs H Q E h => ?_) (fun f cdv A outer s0 H vs Q E hr h => ?_)
  · obtain ⟨a, i, rfl, _⟩ := h
    rfl
  · obtain ⟨a, i, rfl, hS, s, rfl, k⟩ := h
    refine ⟨_, pss_cons (ps_set (i := 2) sc_line_ends.nd rfl (Or.inl rfl) (pe_lst (pa_cons (pe_op op_add (pv 1) pe_int) pa_nil)))
      (pss_cons (ps_while PassesOwn.never (pt_cmpR op_lt (pe_callB call_len_seq (by rfl) T.b_len PySem.boot_len (pa_cons (pv 2) pa_nil)) (pe_gi rfl T.c_LINE_PARTS) (nomark _))
        (pss_cons (ps_set (i := 3) sc_line_ends.nd rfl (Or.inl rfl) (pe_fn CP hr rfl (pa_cons (pv 0) (pa_cons (pe_ix ix_list (pv 2) (pe_un un_neg pe_int) (fun _ _ => rfl)) (pa_cons (pe_callB call_len_seq (by rfl) T.b_len PySem.boot_len (pa_cons (pv 2) pa_nil)) pa_nil)))))
        (pss_cons (ps_if (pt_cmpR op_eq (pv 3) (pe_ix ix_list (pv 2) (pe_un un_neg pe_int) (fun _ _ => rfl)) (nomark _)) (pss_one (ps_ret (pv 2))) pss_nil)
        (pss_one (ps_expr (pe_bm PySem.F.plainAttrs_list PySem.F.slot_list_append PySem.F.type_list_append mt_append (pv 2) (pa_cons (pv 3) pa_nil)))))))
      (pss_one (ps_ret (pv 2)))), ?_⟩
    refine ⟨_, rfl, _, _, rfl, rfl, (by show 1 ≤ sizeLine; decide), fun l hl => ?_⟩
    have s1 : Same H (upd H l (.lst [V.int ((s : Int) + 1)])) := fun b o e => by
      rw [upd_ne (ne_of_none e hl)]
      exact e
    refine ⟨WLine ns a l s H, ⟨5, [], s + 1, none, rfl, rfl, upd_same, s1, Nat.zero_le _, rfl⟩, ?_⟩
    rintro m σ H' ⟨es, e, v3, rfl, rfl, hl', hSm, hle, heq⟩
    have hsz : (vN (es ++ [e])).length = es.length + 1 := by rw [ints_len, List.length_append]; rfl
    refine ⟨_, rfl, l, _, rfl, .inl (SqL.of hl'), _, _, rfl, rfl, _, rfl, ?_⟩
    refine ite2 (fun h => ?_) (fun h => ?_)
    · have h5 : es.length < 5 := by
        have := of_decide_eq_true h
        rw [hsz] at this
        omega
      refine ⟨fun σ' H'' => ∃ m', m' < 5 - es.length ∧ WLine ns a l s H m' σ' H'', fun _ _ q => q, ?_⟩
      refine ⟨_, rfl, _, rfl, _, rfl, l, _, _, _, rfl, rfl, SqL.of hl', ints_last es e, _, rfl, l, _, rfl, .inl (SqL.of hl'), a, _, _, rfl, hSm.seq hS, e, es.length + 1, rfl, (by rw [hsz]), ?_⟩
      refine ⟨_, rfl, _, rfl, _, rfl, l, _, _, _, rfl, rfl, SqL.of hl', ints_last es e, rfl, _, rfl, ?_⟩
      obtain ⟨f, hf⟩ : ∃ f, 5 - es.length = f + 1 := ⟨4 - es.length, by omega⟩
      refine ite2 (fun h => ?_) (fun h => ?_)
      · have he : partEnd ns e (es.length + 1) = e := by
          have := of_decide_eq_true h
          have := V.int.inj this
          omega
        refine ⟨_, rfl, k H' l hSm hl ?_⟩
        rw [← heq, hf, endsFrom, if_pos he]
        exact hl'
      · have he : ¬ partEnd ns e (es.length + 1) = e := fun q => h (decide_eq_true (by rw [q]))
        refine ⟨_, rfl, tyV_list (SqL.of hl'), _, rfl, l, _, _, rfl, rfl, hl', (by rw [hsz]; exact small1000 (by omega)), ?_⟩
        refine ⟨5 - (es ++ [e]).length, by rw [List.length_append, List.length_singleton]; omega, es ++ [e], partEnd ns e (es.length + 1), _, rfl, rfl, ?_, ?_, by rw [List.length_append, List.length_singleton]; omega, ?_⟩
        · rw [upd_same, ints_snoc (es ++ [e])]
        · exact fun b o q => by rw [upd_ne (ne_of_none q hl)]; exact hSm b o q
        · rw [← heq, hf, endsFrom, if_neg he, List.length_append, List.length_singleton, show 5 - (es.length + 1) = f by omega]
    · have h5 : es.length = 5 := by
        have : ¬ ((vN (es ++ [e])).length : Int) < 6 := fun q => h (decide_eq_true q)
        rw [hsz] at this
        omega
      refine ⟨_, rfl, k H' l hSm hl ?_⟩
      rw [← heq, h5, Nat.sub_self, endsFrom]
      exact hl'
theorem sc_may_follow : FnScope ["colours", "colour"] ["colours", "colour"] (defScope s_may_follow) := ⟨rfl, rfl, rfl, by decide +kernel, rfl, by decide +kernel, by decide +kernel⟩
theorem ok_may (T : Txt K mg CD CN CW) : Ok P w K mg base 1 "may_follow" ["colours", "colour"] (spMay K) := by
  refine T.f_may_follow.ok sc_may_follow (fun _ _ _ _ _ _ us hl => match us, hl with | [_, _], _ => rfl) (fun vs H Q E h => ?_) (fun f cdv A outer s0 H vs Q E hr h => ?_)
  · obtain ⟨a, c, rfl, _⟩ := h
    rfl
  · obtain ⟨a, c, rfl, cs, hS, k⟩ := h
    refine ⟨_, pss_cons (ps_if (pt_w (pw_or (pt_cmpR op_eq (pv 1) (pe_gi rfl T.c_NO_COLOUR) (nomark _)) (pw_or1 (pt_cmpR op_eq (pe_callB (len_ints cs) (by rfl) T.b_len PySem.boot_len (pa_cons (pv 0) pa_nil)) (pe_gi rfl T.c_MOST_LINES) (nomark _))))) (pss_one (ps_ret pe_bl)) pss_nil)
      (pss_cons (ps_if (pt_w (pw_and (pt_cmpR op_gt (pe_callB (len_ints cs) (by rfl) T.b_len PySem.boot_len (pa_cons (pv 0) pa_nil)) pe_int (nomark _)) (pw_and1 (pt_cmpR op_lt (pv 1) (pe_ix (ix_ints cs) (pv 0) (pe_un un_neg pe_int) (fun _ _ => rfl)) (nomark _))))) (pss_one (ps_ret pe_bl)) pss_nil)
      (pss_one (ps_ret (pe_cmpR op_lt (pe_bm PySem.F.plainAttrs_list PySem.F.slot_list_count PySem.F.type_list_count mt_countI (pv 0) (pa_cons (pv 1) pa_nil)) (pe_gi rfl T.c_MOST_OF_ONE_COLOUR) (nomark _))))), ?_⟩
    have e0 : start ["colours", "colour"] [V.ref a, V.int c] = [some (V.ref a), some (V.int c)] := rfl
    rw [e0]
    simp only [tSeq, tNext, tIfS, tTest, tB, tChain, tOp, tUn, rU, rI0, rI, rEq, rNe, scal, tVar, tC, tRet, tAsg, gName, tAug, ipI, tAnd, tOr, tNot, tCall, tCons, tNil, tLst, tCB, tBM, tDrop, rLenI, rIxI, List.getElem?_cons_zero, List.getElem?_cons_succ, List.set_cons_zero, List.set_cons_succ, Option.some.injEq, V.int.injEq, V.bl.injEq, V.ref.injEq, List.cons.injEq, List.append_nil, exists_eq_left, exists_eq_left', exists_and_left, and_true, true_and, and_self, decide_eq_true_eq, Bool.false_eq_true, if_true, if_false, reduceIte, cx_K, cx_nox, hS]
    unfold mayFollow at k
    have cnt : Q (.bl (decide ((cs.count c : Int) < 6))) H → (tyV K "list" (V.ref a) H ∧ rCountI K (V.ref a) [V.int c] H fun x H1 => ∃ i, x = V.int i ∧ Q (V.bl (decide (i < 6))) H1) :=
      fun q => ⟨tyV_list hS, a, c, cs, rfl, rfl, hS, _, rfl, q⟩
    by_cases h1 : c = -1
    · rw [if_pos (Or.inl h1)] at k
      rw [if_pos h1]
      exact k
    · rw [if_neg h1]
      by_cases h2 : cs.length = 256
      · rw [if_pos (Or.inr h2)] at k
        rw [if_pos (by omega)]
        exact k
      · rw [if_neg (by rintro (q | q); exact h1 q; exact h2 q)] at k
        rw [if_neg (by omega)]
        by_cases h3 : 0 < cs.length
        · rw [if_pos (by omega)]
          obtain ⟨v, hv⟩ : ∃ v, cs.getLast? = some v := by
            cases q : cs.getLast? with
            | none =>
              rw [List.getLast?_eq_none_iff] at q
              rw [q] at h3
              exact absurd h3 (Nat.lt_irrefl _)
            | some v => exact ⟨v, rfl⟩
          refine ⟨v, atI_last' hv, ?_⟩
          have e : cs.getLastD 0 = v := by rw [List.getLastD_eq_getLast?, hv]; rfl
          rw [e] at k
          by_cases h4 : c < v
          · rw [if_pos ⟨h3, h4⟩] at k
            rw [if_pos h4]
            exact k
          · rw [if_neg (fun q => h4 q.2)] at k
            rw [if_neg h4]
            exact cnt k
        · rw [if_neg (fun q => h3 q.1)] at k
          rw [if_neg (by omega)]
          exact cnt k
theorem sc_judge : FnScope ["b", "colours", "start", "colour", "ends"] ["b"] (defScope s_judge) := ⟨rfl, rfl, rfl, by decide +kernel, rfl, by decide +kernel, by decide +kernel⟩
def WJudge (ns : List Int) (a c : Addr) (H : Hp) : Nat → L2.St → Hp → Prop := fun m σ H' => ∃ (st : Nat) (l : List Rg.Dyeing) (v3 v4 : Option V), m = ns.length - st ∧
  σ = [some (V.ref a), some (V.ref c), some (V.int st), v3, v4] ∧ H' c = some (.lst ((cols l).map V.int)) ∧ Same H H' ∧ Told ns st l
theorem ok_judge {f0 : Addr} {fd : FuncData} (T : Txt K mg CD CN CW) (F : Fun K "judge" "judge" s_judge f0 fd) : FnOk P w K mg base CX0 4 f0 fd ["b"] (spJudge K) := by
  have CC : Ok P w K mg base 1 "colour_number" ["byte"] spCol := ok_col T
  have CM : Ok P w K mg base 1 "may_follow" ["colours", "colour"] (spMay K) := ok_may T
  have CL : ∀ ns, Ok P w K mg base 3 "line_ends" ["text", "start"] (spLine K ns) := fun ns => ok_line T ns
  refine F.ok sc_judge (fun vs H Q E h => ?_) (fun cdv A outer s0 H vs Q E hr h => ?_)
  · obtain ⟨a, ns, rfl, _⟩ := h
    rfl
  · obtain ⟨a, ns, rfl, hS, hB, k⟩ := h
    have hr1 : Room 1 _ := hr.mono (by decide)
    refine ⟨_, pss_cons (ps_if (pt_cmpR op_gt (pe_callB (len_ints ns) (by rfl) T.b_len PySem.boot_len (pa_cons (pv 0) pa_nil)) (pe_gi rfl T.c_MOST_BOOK_BYTES) (nomark _)) (pss_one (ps_ret (pe_lst (pa_cons (pe_gi rfl T.c_TOO_LONG) pa_nil)))) pss_nil)
      (pss_cons (ps_set (i := 1) sc_judge.nd rfl (Or.inl rfl) (pe_lst pa_nil))
      (pss_cons (ps_set (i := 2) sc_judge.nd rfl (Or.inl rfl) pe_int)
      (pss_cons (ps_while PassesOwn.never (pt_cmpR op_lt (pv 2) (pe_callB (len_ints ns) (by rfl) T.b_len PySem.boot_len (pa_cons (pv 0) pa_nil)) (nomark _))
        (pss_cons (ps_set (i := 3) sc_judge.nd rfl (Or.inl rfl) (pe_fn CC hr1 rfl (pa_cons (pe_ix (ix_ints ns) (pv 0) (pv 2) (fun _ _ => rfl)) pa_nil)))
        (pss_cons (ps_if (pt_not (pt_val (pe_fn CM hr1 rfl (pa_cons (pv 1) (pa_cons (pv 3) pa_nil))))) (pss_one (ps_ret (pe_lst (pa_cons (pe_gi rfl T.c_AT_FAULT) (pa_cons (pv 2) pa_nil))))) pss_nil)
        (pss_cons (ps_set (i := 4) sc_judge.nd rfl (Or.inl rfl) (pe_fn (CL ns) hr rfl (pa_cons (pv 0) (pa_cons (pv 2) pa_nil))))
        (pss_cons (ps_if (pt_cmpR op_lt (pe_callB call_len_seq (by rfl) T.b_len PySem.boot_len (pa_cons (pv 4) pa_nil)) (pe_gi rfl T.c_LINE_PARTS) (nomark _)) (pss_one (ps_ret (pe_lst (pa_cons (pe_gi rfl T.c_AT_FAULT) (pa_cons (pe_ix ix_list (pv 4) (pe_un un_neg pe_int) (fun _ _ => rfl)) pa_nil))))) pss_nil)
        (pss_cons (ps_expr (pe_bm PySem.F.plainAttrs_list PySem.F.slot_list_append PySem.F.type_list_append mt_append (pv 1) (pa_cons (pv 3) pa_nil)))
        (pss_one (ps_set (i := 2) sc_judge.nd rfl (Or.inl rfl) (pe_ix ix_list (pv 4) (pe_un un_neg pe_int) (fun _ _ => rfl))))))))))
      (pss_one (ps_ret (pe_lst (pa_cons (pe_callB call_len_seq (by rfl) T.b_len PySem.boot_len (pa_cons (pv 1) pa_nil)) pa_nil))))))), ?_⟩
    have je := judge_eq ns
    refine ⟨_, rfl, _, rfl, hS, _, _, rfl, rfl, _, rfl, ?_⟩
    refine ite2 (fun h => ?_) (fun h => ?_)
    · have h1 := of_decide_eq_true h
      rw [if_pos (by omega)] at je
      refine ⟨(by show 1 ≤ sizeLine; decide), fun p hp => k _ p (same_new hp) ?_⟩
      rw [upd_same, je]
      rfl
    · have h1 : ¬ (4096 : Int) < ns.length := fun q => h (decide_eq_true q)
      rw [if_neg (by omega)] at je
      refine ⟨Nat.zero_le _, fun c hc => ?_⟩
      have s1 : Same H (upd H c (.lst [])) := fun b o e => by
        rw [upd_ne (ne_of_none e hc)]
        exact e
      refine ⟨WJudge ns a c H, ⟨ns.length, 0, [], none, none, rfl, rfl, upd_same, s1, Told.start ns⟩, ?_⟩
      rintro m σ H1 ⟨st, l, v3, v4, rfl, rfl, hc1, s2, hT⟩
      refine ⟨_, rfl, _, rfl, _, rfl, s2.seq hS, _, _, rfl, rfl, _, rfl, ?_⟩
      refine ite2 (fun h => ?_) (fun h => ?_)
      · have h2 : st < ns.length := by
          have := of_decide_eq_true h
          omega
        refine ⟨fun σ' H'' => ∃ m', m' < ns.length - st ∧ WJudge ns a c H m' σ' H'', fun _ _ q => q, ?_⟩
        have hx : ns[st]? = some ns[st] := List.getElem?_eq_getElem h2
        obtain ⟨t1, t2, t3⟩ := hT.turn hB hx
        refine ⟨_, rfl, _, rfl, _, _, rfl, rfl, s2.seq hS, ns[st], (by rw [atI_eq]; exact hx), _, rfl, ?_⟩
        generalize ns[st] = x at *
        refine ⟨_, rfl, _, rfl, c, _, rfl, cols l, SqL.of hc1, _, rfl, ?_⟩
        cases hm : mayFollow (cols l) (colNo x) with
        | false =>
          refine ⟨_, rfl, (by show 2 ≤ sizeLine; decide), fun p hp => k _ p (s2.trans (same_new hp)) ?_⟩
          rw [t1 hm] at je
          rw [upd_same, je]
          rfl
        | true =>
          obtain ⟨es, e, h3, h4, h5, h6⟩ := lineEnds_last ns st
          refine ⟨_, rfl, _, rfl, a, _, rfl, s2.seq hS, st, rfl, fun H2 el s3 hel1 hel => ?_⟩
          rw [h3] at hel
          have hsz : (vN (es ++ [e])).length = es.length + 1 := by rw [ints_len, List.length_append]; rfl
          refine ⟨_, rfl, el, _, rfl, .inl (SqL.of hel), _, _, rfl, rfl, _, rfl, ?_⟩
          refine ite2 (fun h => ?_) (fun h => ?_)
          · have h7 : es.length < 5 := by
              have := of_decide_eq_true h
              rw [hsz] at this
              omega
            refine ⟨_, rfl, _, rfl, el, _, _, _, rfl, rfl, SqL.of hel, ints_last es e, (by show 2 ≤ sizeLine; decide), fun p hp => k _ p ((s2.trans s3).trans (same_new hp)) ?_⟩
            rw [t2 hm (h5.mp h7)] at je
            rw [upd_same, je, h4]
            rfl
          · have h7 : ¬ es.length < 5 := fun q => h (decide_eq_true (by rw [hsz]; omega))
            obtain ⟨z, hz⟩ : ∃ z, (lineAt (ns.drop (st + 1))).2 = some z := by
              cases q : (lineAt (ns.drop (st + 1))).2 with
              | none => exact absurd (h5.mpr q) h7
              | some z => exact ⟨z, rfl⟩
            obtain ⟨d, hd, hT'⟩ := t3 hm z hz
            have hc2 := s3 _ _ hc1
            have hne : el ≠ c := fun q => by
              rw [q, hc1] at hel1
              cases hel1
            have hlen : (cols l).length ≤ 256 := by rw [cols_length]; exact hT.few
            refine ⟨_, rfl, tyV_list (SqL.of hc2), _, rfl, c, _, _, rfl, rfl, hc2, (by rw [List.length_map]; exact small1000 (by omega)), ?_⟩
            refine ⟨_, rfl, _, rfl, el, _, _, _, rfl, rfl, SqL.of (by rw [upd_ne hne]; exact hel), ints_last es e, ?_⟩
            have hlt : st < st + 1 + (lineAt (ns.drop (st + 1))).1 := by omega
            have hle := hT'.le
            refine ⟨ns.length - (st + 1 + (lineAt (ns.drop (st + 1))).1), by omega, _, d :: l, _, _, rfl, by rw [h4]; rfl, ?_, ?_, hT'⟩
            · rw [upd_same, cols_cons, hd, List.map_append]
              rfl
            · exact fun b o q => by rw [upd_ne (ne_of_none q hc)]; exact s3 _ _ (s2 b o q)
      · have h2 : ¬ st < ns.length := fun q => h (decide_eq_true (by omega))
        refine ⟨_, rfl, c, _, rfl, .inl (SqL.of hc1), (by show 1 ≤ sizeLine; decide), fun p hp => k _ p (s2.trans (same_new hp)) ?_⟩
        rw [hT.stop h2] at je
        rw [upd_same, je, List.length_map, cols_length]
        simp
theorem ok_judge' (T : Txt K mg CD CN CW) : Ok P w K mg base 4 "judge" ["b"] (spJudge K) :=
  Ok.of T.f_judge (fun _ _ _ _ _ _ us hl => match us, hl with | [_], _ => rfl) fun f fd F => ok_judge T F
end

end Wj

set_option Elab.async false
set_option linter.all false
set_option maxRecDepth 100000
set_option maxHeartbeats 2000000
namespace Wj
open PySem PySem.Spec PyProof.Rows L2 Wl Wd
/-! ### lists of objects -/
theorem paired_snoc {α β : Type} {F : α → β → Prop} {x : α} {y : β} : ∀ {l : List α} {m : List β}, Paired F l m → F x y → Paired F (l ++ [x]) (m ++ [y])
  | _, _, .nil, h => .cons h .nil
  | _, _, .cons r t, h => .cons r (paired_snoc t h)
theorem paired_get {α β : Type} {F : α → β → Prop} {y : β} : ∀ {l : List α} {m : List β} {i : Nat}, Paired F l m → m[i]? = some y → ∃ x, l[i]? = some x ∧ F x y
  | _, _, _, .nil, h => by simp at h
  | _, _, 0, .cons r t, h => by
    have e : _ = y := Option.some.inj h
    subst e
    exact ⟨_, rfl, r⟩
  | _, _, i + 1, .cons r t, h => paired_get (i := i) t h
theorem paired_get' {α β : Type} {F : α → β → Prop} {x : α} : ∀ {l : List α} {m : List β} {i : Nat}, Paired F l m → l[i]? = some x → ∃ y, m[i]? = some y ∧ F x y
  | _, _, _, .nil, h => by simp at h
  | _, _, 0, .cons r t, h => by
    have e : _ = x := Option.some.inj h
    subst e
    exact ⟨_, rfl, r⟩
  | _, _, i + 1, .cons r t, h => paired_get' (i := i) t h
theorem paired_map {α β : Type} {F G : α → β → Prop} {l : List α} {m : List β} (r : Paired F l m) (f : ∀ a b, F a b → G a b) : Paired G l m := L2.Paired.mapP r f
/-- the list at l holds objects of these data -/
def LstOf {α : Type} (D : Hp → Addr → α → Prop) (H : Hp) (l : Addr) (xs : List α) : Prop := ∃ ps : List Addr, H l = some (.lst (ps.map V.ref)) ∧ Paired (D H) ps xs
/-- a list of whole numbers -/
def RowAt (H : Hp) (p : Addr) (r : List Int) : Prop := H p = some (.lst (r.map V.int))
theorem RowAt.same {H H' : Hp} {p : Addr} {r : List Int} (s : Same H H') (h : RowAt H p r) : RowAt H' p r := s _ _ h
theorem LstOf.same {α : Type} {D : Hp → Addr → α → Prop} (mono : ∀ {H H' p x}, Same H H' → D H p x → D H' p x) {H H' : Hp} {l : Addr} {xs : List α} (s : Same H H') (h : LstOf D H l xs) : LstOf D H' l xs := by
  obtain ⟨ps, h1, h2⟩ := h
  exact ⟨ps, s _ _ h1, paired_map h2 fun _ _ => mono s⟩
theorem LstOf.get {α : Type} {D : Hp → Addr → α → Prop} {H : Hp} {l : Addr} {xs : List α} {i : Nat} {x : α} (h : LstOf D H l xs) (hx : xs[i]? = some x) : ∃ (vs : List V) (p : Addr), H l = some (.lst vs) ∧ vs.length = xs.length ∧ vs[i]? = some (.ref p) ∧ D H p x := by
  obtain ⟨ps, h1, h2⟩ := h
  obtain ⟨p, h3, h4⟩ := paired_get h2 hx
  exact ⟨_, p, h1, by rw [List.length_map]; exact h2.length, by rw [List.getElem?_map, h3]; rfl, h4⟩
/-! ### promises -/
def spRows (K : PySem.W.Frag) : Sp := fun vs H Q _ => ∃ (a : Addr) (t : List Int), vs = [V.ref a] ∧ SqL K H a (t.map V.int) ∧ t.length ≤ 70000 ∧ ∀ (H' : Hp) (l : Addr) (R : List (List Int)), Cut t R → Same H H' → H l = none → LstOf RowAt H' l R → Q (.ref l) H'
def rowOk (w : Int) (r : List Int) : Prop := (r.length : Int) = w ∧ ∀ x ∈ r, colNo x ≠ -1
def spIsRow (K : PySem.W.Frag) : Sp := fun vs H Q _ => ∃ (a : Addr) (w : Int) (r : List Int), vs = [V.ref a, V.int w] ∧ SqL K H a (r.map V.int) ∧ r.length ≤ 70000 ∧ ∀ (H' : Hp) (z : Bool), Same H H' → (z = true ↔ rowOk w r) → Q (.bl z) H'
def spIsChart (K : PySem.W.Frag) : Sp := fun vs H Q _ => ∃ (a : Addr) (t : List Int), vs = [V.ref a] ∧ SqL K H a (t.map V.int) ∧ t.length ≤ 70000 ∧ ∀ (H' : Hp) (z : Bool), Same H H' → (z = true ↔ Right t) → Q (.bl z) H'
def spTexts (K : PySem.W.Frag) : Sp := fun vs H Q _ => ∃ (a c : Addr) (t b : List Int), vs = [V.ref a, V.ref c] ∧ SqL K H a (t.map V.int) ∧ SqL K H c (b.map V.int) ∧ Byt t ∧ Byt b ∧ ∀ H' : Hp, Same H H' → Q (.int (refT t b)) H'
def spRef (K : PySem.W.Frag) : Sp := fun vs H Q _ => ∃ (c : Int) (a d : Addr) (t b : List Int), vs = [V.int c, V.ref a, V.ref d] ∧ SqL K H a (t.map V.int) ∧ SqL K H d (b.map V.int) ∧ Byt t ∧ Byt b ∧ ∀ H' : Hp, Same H H' → Q (.int (refC c t b)) H'
def spNeeds (K : PySem.W.Frag) : Sp := fun vs H Q _ => ∃ (c : Int) (a : Addr) (t : List Int), vs = [V.int c, V.ref a] ∧ SqL K H a (t.map V.int) ∧ 0 ≤ c ∧ Byt t ∧ ∀ (H' : Hp) (p : Addr), Same H H' → H' p = some (.lst ((PyWqbbck.needs c t).map V.int)) → Q (.ref p) H'
section
variable {P : Program} {w : World} {K : PySem.W.Frag} {mg : Str → Option Value} {base : Heap} {CD CN CW : Addr}
theorem sc_chart_rows : FnScope ["t", "rows", "start", "place", "byte"] ["t"] (defScope s_chart_rows) := ⟨rfl, rfl, rfl, by decide +kernel, rfl, by decide +kernel, by decide +kernel⟩
theorem cut_ints {t : List Int} {s i : Nat} (h : s ≤ i) (hi : i ≤ t.length) : cutV (t.map V.int) (some (s : Int)) (some (i : Int)) = ((t.drop s).take (i - s)).map V.int := by
  unfold cutV
  rw [HT.sIx_nat, HT.sIx_nat, List.length_map, Nat.min_eq_left hi, Nat.min_eq_left (by omega), List.map_take, List.map_drop]
theorem ok_rows (T : Txt K mg CD CN CW) : Ok P w K mg base 1 "chart_rows" ["t"] (spRows K) := by
  refine T.f_chart_rows.ok sc_chart_rows (fun _ _ _ _ _ _ us hl => match us, hl with | [_], _ => rfl) (fun vs H Q E h => ?_) (fun f cdv A outer s0 H vs Q E hr h => ?_)
  · obtain ⟨a, t, rfl, _⟩ := h
    rfl
  · obtain ⟨a, t, rfl, hS, hlen, k⟩ := h
    refine ⟨_, ((pss_cons (ps_set (i := 1) sc_chart_rows.nd rfl (Or.inl rfl) (pe_lst pa_nil))
      (pss_cons (ps_set (i := 2) sc_chart_rows.nd rfl (Or.inl rfl) pe_int)
      (pss_cons (ps_for PassesOwn.never rfl (pi_enum rfl T.b_enumerate (pa_cons (pv 0) pa_nil)) (pg_tup rfl (pgs_cons (pg_name (i := 3) sc_chart_rows.nd rfl (Or.inl rfl)) (pgs_cons (pg_name (i := 4) sc_chart_rows.nd rfl (Or.inl rfl)) pgs_nil)))
      (pss_one (ps_if (pt_cmpR op_eq (pv 4) (pe_gi rfl T.c_LINE_END) (nomark _)) (pss_cons (ps_expr (pe_bm PySem.F.plainAttrs_list PySem.F.slot_list_append PySem.F.type_list_append mt_append (pv 1) (pa_cons (pe_slice sl_list (pv 0) (po_some (pv 2)) (po_some (pv 3))) pa_nil)))
      (pss_one (ps_set (i := 2) sc_chart_rows.nd rfl (Or.inl rfl) (pe_op op_add (pv 3) pe_int)))) pss_nil)))
      (pss_one (ps_ret (pv 1))))))), ?_⟩
    refine ⟨Nat.zero_le _, fun l hl => ?_⟩
    have s1 : Same H (upd H l (.lst [])) := same_new hl
    refine ⟨_, rfl, a, _, rfl, s1.seq hS, ?_⟩
    refine for_enum (xs := t.map V.int) (fun i σ H' => ∃ (s : Nat) (R : List (List Int)) (ps : List Addr) (v3 v4 : Option V), σ = [some (V.ref a), some (V.ref l), some (V.int s), v3, v4] ∧ Same H H' ∧ H' l = some (.lst (ps.map V.ref)) ∧ Paired (RowAt (off l H')) ps R ∧ Cutting t i s R)
      ⟨0, [], [], none, none, rfl, s1, upd_same, .nil, Cutting.start t⟩ (fun i σ H' _ h => by obtain ⟨_, _, _, _, _, _, s2, _⟩ := h; exact s2.seq hS) ?_ ?_
    · rintro i x σ H1 T0 hx ⟨s, R, ps, v3, v4, rfl, s2, hl1, hp, hC⟩ hT
      rw [List.getElem?_map] at hx
      obtain ⟨b, hb, rfl⟩ := Option.map_eq_some_iff.mp hx
      have hi : i < t.length := (List.getElem?_eq_some_iff.mp hb).1
      have s3 : Same H1 (upd H1 T0 (.tup [V.int (i : Nat), V.int b])) := same_new hT
      refine ⟨T0, _, rfl, SqT.of upd_same, rfl, _, _, rfl, _, _, rfl, rfl, ?_⟩
      refine ⟨_, rfl, rfl, _, rfl, ?_⟩
      refine ite2 (fun h => ?_) (fun h => ?_)
      · have hb10 : b = 10 := by
          have := of_decide_eq_true h
          exact V.int.inj this
        subst hb10
        have hl2 := s3 _ _ hl1
        refine ⟨_, rfl, tyV_list (SqL.of hl2), ?_⟩
        refine ⟨_, rfl, _, rfl, _, rfl, _, rfl, _, rfl, a, _, rfl, (s2.trans s3).seq hS, fun p hp0 => ?_⟩
        rw [cut_ints hC.le (by omega)]
        have hpl : p ≠ l := fun q => by rw [q, hl2] at hp0; cases hp0
        have s4 : Same H1 (upd (upd H1 T0 (.tup [V.int (i : Nat), V.int 10])) p (.lst (((t.drop s).take (i - s)).map V.int))) := s3.trans (same_new hp0)
        have hlp := hp.length
        refine ⟨l, _, _, rfl, rfl, (by rw [upd_ne hpl.symm]; exact hl2), small (by rw [List.length_map, hlp]; have := hC.few; omega), ?_⟩
        refine ⟨_, rfl, _, _, rfl, rfl, ?_⟩
        refine ⟨i + 1, R ++ [(t.drop s).take (i - s)], ps ++ [p], _, _, rfl, same_upd hl (s2.trans s4), ?_, ?_, hC.row hb⟩
        · rw [upd_same, List.map_append]
          rfl
        · rw [off_upd]
          refine paired_snoc (paired_map hp fun _ _ => RowAt.same (Same.off s4)) ?_
          unfold RowAt
          rw [off_at hpl, upd_same]
      · have hb10 : ¬ b = 10 := fun q => h (decide_eq_true (by rw [q]))
        exact ⟨s, R, ps, _, _, rfl, s2.trans s3, s3 _ _ hl1, paired_map hp fun _ _ => RowAt.same (Same.off s3), hC.on hb hb10⟩
    · rintro σ H1 ⟨s, R, ps, v3, v4, rfl, s2, hl1, hp, hC⟩
      rw [List.length_map] at hC
      refine ⟨_, rfl, k H1 l R hC.done s2 hl ⟨ps, hl1, paired_map hp fun _ _ => RowAt.same (off_same _ _)⟩⟩
theorem sc_is_chart_row : FnScope ["row", "width", "byte"] ["row", "width"] (defScope s_is_chart_row) := ⟨rfl, rfl, rfl, by decide +kernel, rfl, by decide +kernel, by decide +kernel⟩
theorem all_bls (r : List Int) : ((r.map fun x => !decide (V.int (colNo x) = V.int (-1))).all id = true) ↔ ∀ x ∈ r, colNo x ≠ -1 := by
  rw [List.all_eq_true]
  constructor
  · intro h x hx q
    have := h _ (List.mem_map.mpr ⟨x, hx, rfl⟩)
    rw [decide_eq_true (by rw [q])] at this
    cases this
  · intro h y hy
    obtain ⟨x, hx, rfl⟩ := List.mem_map.mp hy
    rw [decide_eq_false (fun q => h x hx (V.int.inj q))]
    rfl
theorem take_map_next {α β : Type} {f : α → β} {l : List α} {i : Nat} {x : α} (h : l[i]? = some x) : (l.take (i + 1)).map f = (l.take i).map f ++ [f x] := by
  rw [List.take_add_one, h, List.map_append]
  rfl
theorem ok_isRow (T : Txt K mg CD CN CW) : Ok P w K mg base 2 "is_chart_row" ["row", "width"] (spIsRow K) := by
  have C_colour_number : Ok P w K mg base 1 "colour_number" ["byte"] spCol := ok_col T
  refine T.f_is_chart_row.ok sc_is_chart_row (fun _ _ _ _ _ _ us hl => match us, hl with | [_, _], _ => rfl) (fun vs H Q E h => ?_) (fun f cdv A outer s0 H vs Q E hr h => ?_)
  · obtain ⟨a, wd, r, rfl, _⟩ := h
    rfl
  · obtain ⟨a, wd, r, rfl, hS, hlen, k⟩ := h
    refine ⟨_, ((pss_one (ps_ret (pe_and (pe_cmpR op_eq (pe_callB (len_ints r) (by rfl) T.b_len PySem.boot_len (pa_cons (pv 0) pa_nil)) (pv 1) (nomark _)) (pe_one (pe_callB (cr_all rfl) (by rfl) T.b_all boot_all (pa_cons (pe_lc rfl sc_is_chart_row.nd (pi_list (pv 0)) (own := [("byte", 2)]) (blk_ok ["row", "width", "byte"] (defScope s_is_chart_row) rfl (by decide +kernel) (by decide +kernel) (by decide +kernel) (by decide +kernel)) (fun _ _ _ _ _ => (pg_name (i := 2) sc_is_chart_row.nd rfl (Or.inl rfl))) (fun _ _ _ _ _ => pts_nil) (fun _ _ _ _ _ => (pe_cmpR op_ne (pe_fn C_colour_number hr rfl (pa_cons (pv 2) pa_nil)) (pe_gi rfl T.c_NO_COLOUR) (nomark _)))) pa_nil))))))), ?_⟩
    refine ⟨_, rfl, _, rfl, hS, _, rfl, rfl, _, rfl, ?_⟩
    refine ite2 (fun h => ?_) (fun h => ?_)
    · have h1 : (r.length : Int) = wd := V.int.inj (of_decide_eq_true h)
      refine ⟨_, rfl, a, rfl, ⟨_, hS⟩, ?_⟩
      intro D hD
      refine lcl0 (xs := r.map V.int) (fun i acc _ => acc = (r.take i).map fun x => V.bl (!decide (V.int (colNo x) = V.int (-1)))) hD hS rfl ?_ ?_
      · intro i x acc H1 hx s1 hH hP
        rw [List.getElem?_map] at hx
        obtain ⟨b, hb, rfl⟩ := Option.map_eq_some_iff.mp hx
        refine ⟨rfl, ?_⟩
        refine ⟨_, rfl, b, rfl, rfl, ?_⟩
        refine LcN.put hD s1 hH (Same.refl _) ?_ ?_
        · rw [hP, List.length_map, List.length_take]
          omega
        · rw [hP]
          exact (take_map_next hb).symm
      · intro acc H1 s1 hH hP
        rw [List.length_map, List.take_length] at hP
        refine ⟨D, r.map fun x => !decide (V.int (colNo x) = V.int (-1)), rfl, SqL.of (by rw [hH, hP, List.map_map]; rfl), k H1 _ s1 ?_⟩
        rw [all_bls]
        exact ⟨fun q => ⟨h1, q⟩, fun q => q.2⟩
    · refine k H false (Same.refl _) ⟨fun q => (by cases q), fun q => absurd (decide_eq_true (by rw [q.1])) h⟩
theorem sc_is_chart : FnScope ["t", "rows", "width", "row"] ["t"] (defScope s_is_chart) := ⟨rfl, rfl, rfl, by decide +kernel, rfl, by decide +kernel, by decide +kernel⟩
theorem flat_len : ∀ R : List (List Int), R.length ≤ (flat R).length
  | [] => Nat.le_refl _
  | r :: R => by
    rw [flat_cons, List.length_append, List.length_cons, List.length_cons]
    have := flat_len R
    omega
theorem row_len : ∀ {R : List (List Int)} {q : List Int}, q ∈ R → q.length ≤ (flat R).length
  | r :: R, q, h => by
    rw [flat_cons, List.length_append, List.length_cons]
    rcases List.mem_cons.mp h with e | e
    · rw [e]
      omega
    · have := row_len e
      omega
theorem ok_isChart (T : Txt K mg CD CN CW) : Ok P w K mg base 3 "is_chart" ["t"] (spIsChart K) := by
  have C_chart_rows : Ok P w K mg base 2 "chart_rows" ["t"] (spRows K) := (ok_rows T).mono (by decide)
  have C_is_chart_row : Ok P w K mg base 2 "is_chart_row" ["row", "width"] (spIsRow K) := ok_isRow T
  refine T.f_is_chart.ok sc_is_chart (fun _ _ _ _ _ _ us hl => match us, hl with | [_], _ => rfl) (fun vs H Q E h => ?_) (fun f cdv A outer s0 H vs Q E hr h => ?_)
  · obtain ⟨a, t, rfl, _⟩ := h
    rfl
  · obtain ⟨a, t, rfl, hS, hlen, k⟩ := h
    refine ⟨_, ((pss_cons (ps_if (pt_w (pw_or (pt_cmpR op_eq (pe_callB (len_ints t) (by rfl) T.b_len PySem.boot_len (pa_cons (pv 0) pa_nil)) pe_int (nomark _)) (pw_or1 (pt_cmpR op_ne (pe_ix (ix_ints t) (pv 0) (pe_un un_neg pe_int) (fun _ _ => rfl)) (pe_gi rfl T.c_LINE_END) (nomark _))))) (pss_one (ps_ret pe_bl)) pss_nil)
      (pss_cons (ps_set (i := 1) sc_is_chart.nd rfl (Or.inl rfl) (pe_fn C_chart_rows hr rfl (pa_cons (pv 0) pa_nil)))
      (pss_cons (ps_set (i := 2) sc_is_chart.nd rfl (Or.inr rfl) (pe_callB call_len_seq (by rfl) T.b_len PySem.boot_len (pa_cons (pe_ix ix_list (pv 1) pe_int (fun _ _ => rfl)) pa_nil)))
      (pss_cons (ps_if (pt_w (pw_or (pt_cmpR op_lt (pv 2) pe_int (nomark _)) (pw_or (pt_cmpR op_gt (pv 2) (pe_gi rfl T.c_MOST_WIDTH) (nomark _)) (pw_or1 (pt_cmpR op_gt (pe_callB call_len_seq (by rfl) T.b_len PySem.boot_len (pa_cons (pv 1) pa_nil)) (pe_gi rfl T.c_MOST_HEIGHT) (nomark _)))))) (pss_one (ps_ret pe_bl)) pss_nil)
      (pss_cons (ps_if (pt_cmpR op_gt (pe_op op_mul (pv 2) (pe_callB call_len_seq (by rfl) T.b_len PySem.boot_len (pa_cons (pv 1) pa_nil))) (pe_gi rfl T.c_MOST_CHART_KNOTS) (nomark _)) (pss_one (ps_ret pe_bl)) pss_nil)
      (pss_one (ps_ret (pe_callB (cr_all rfl) (by rfl) T.b_all boot_all (pa_cons (pe_lc rfl sc_is_chart.nd (pi_list (pv 1)) (own := [("row", 3)]) (blk_ok ["t", "rows", "width", "row"] (defScope s_is_chart) rfl (by decide +kernel) (by decide +kernel) (by decide +kernel) (by decide +kernel)) (fun _ _ _ _ _ => (pg_name (i := 3) sc_is_chart.nd rfl (Or.inl rfl))) (fun _ _ _ _ _ => pts_nil) (fun _ _ _ _ _ => (pe_fn C_is_chart_row hr rfl (pa_cons (pv 3) (pa_cons (pv 2) pa_nil))))) pa_nil)))))))))), ?_⟩
    have no : ¬ t.getLast? = some 10 → ¬ Right t := fun q hR => by
      obtain ⟨wd, R, h1, rfl⟩ := hR
      exact q (flat_last h1)
    have lastN : ∀ x, t.getLast? = some x → ¬ x = 10 → ¬ Right t := fun x hx q => no (by rw [hx]; exact fun z => q (Option.some.inj z))
    refine ⟨_, rfl, _, rfl, hS, rfl, _, rfl, ?_⟩
    refine ite2 (fun h => ?_) (fun h => ?_)
    · have h0 : t.length = 0 := by
        have := V.int.inj (of_decide_eq_true h)
        omega
      refine k H false (Same.refl _) ⟨fun q => (by cases q), fun q => absurd q (no ?_)⟩
      rw [List.length_eq_zero_iff.mp h0]
      simp
    · have h0 : 0 < t.length := by
        rcases Nat.eq_zero_or_pos t.length with q | q
        · exact absurd (decide_eq_true (by rw [q]; rfl)) h
        · exact q
      obtain ⟨x, hx⟩ : ∃ x, t.getLast? = some x := by
        cases q : t.getLast? with
        | none =>
          rw [List.getLast?_eq_none_iff] at q
          rw [q] at h0
          exact absurd h0 (Nat.lt_irrefl _)
        | some v => exact ⟨v, rfl⟩
      refine ⟨_, rfl, _, rfl, a, _, rfl, rfl, hS, x, atI_last' hx, rfl, _, rfl, ?_⟩
      refine ite2 (fun h => ?_) (fun h => ?_)
      · have h1 : ¬ x = 10 := fun q => by
          rw [q] at h
          rw [decide_eq_true rfl] at h
          cases h
        exact k H false (Same.refl _) ⟨fun q => (by cases q), fun q => absurd q (lastN x hx h1)⟩
      · have h1 : x = 10 := by
          by_cases q : x = 10
          · exact q
          · exact absurd (by rw [decide_eq_false (fun z => q (V.int.inj z))]; rfl) h
        subst h1
        refine ⟨_, rfl, a, t, rfl, hS, hlen, fun H1 l R hC s1 hl hL => ?_⟩
        have hfl := hC.flat hx
        have key := right_iff' hC
        obtain ⟨r, S, rfl⟩ : ∃ r S, R = r :: S := by
          cases R with
          | nil =>
            rw [hfl] at h0
            exact absurd h0 (Nat.lt_irrefl _)
          | cons r S => exact ⟨r, S, rfl⟩
        have few : (r :: S).length ≤ t.length := by
          rw [hfl]
          exact flat_len _
        have rlen : ∀ q ∈ r :: S, q.length ≤ t.length := fun q hq => by
          rw [hfl]
          exact row_len hq
        obtain ⟨vs, p, h2, h3, h4, h5⟩ := hL.get (i := 0) rfl
        refine ⟨_, rfl, l, _, _, _, rfl, rfl, SqL.of h2, (at_of rfl h4), p, _, rfl, .inl (SqL.of h5), ?_⟩
        rw [List.length_map]
        have nope : (1 ≤ r.length → r.length ≤ 512 → (r :: S).length ≤ 512 → ¬ r.length * (r :: S).length ≤ 65536) → ∀ H', Same H H' → Q (.bl false) H' := fun q H' sH => k H' false sH ⟨fun q => (by cases q), fun z => by
          obtain ⟨_, r', S', e, g1, g2, g3, g4, _⟩ := key.mp z
          obtain ⟨rfl, rfl⟩ := List.cons.inj e
          exact absurd g4 (q g1 g2 g3)⟩
        refine ⟨_, rfl, _, _, rfl, rfl, _, rfl, ?_⟩
        refine ite2 (fun h => ?_) (fun h => ?_)
        · have := of_decide_eq_true h
          exact nope (fun _ => by omega) H1 s1
        · have g1 : ¬ (r.length : Int) < 1 := fun q => h (decide_eq_true q)
          refine ⟨_, rfl, _, _, rfl, rfl, _, rfl, ?_⟩
          refine ite2 (fun h => ?_) (fun h => ?_)
          · have := of_decide_eq_true h
            exact nope (fun _ => by omega) H1 s1
          · have g2 : ¬ (512 : Int) < (r.length : Int) := fun q => h (decide_eq_true q)
            refine ⟨_, rfl, l, _, rfl, .inl (SqL.of h2), _, _, rfl, rfl, _, rfl, ?_⟩
            rw [h3]
            refine ite2 (fun h => ?_) (fun h => ?_)
            · have := of_decide_eq_true h
              exact nope (fun _ _ => by omega) H1 s1
            · have g3 : ¬ (512 : Int) < ((r :: S).length : Int) := fun q => h (decide_eq_true q)
              refine ⟨_, rfl, _, rfl, l, _, rfl, .inl (SqL.of h2), _, _, rfl, rfl, .inl ⟨by omega, by omega⟩, _, _, rfl, rfl, _, rfl, ?_⟩
              rw [h3]
              have em : (r.length : Int) * ((r :: S).length : Int) = ((r.length * (r :: S).length : Nat) : Int) := (Int.natCast_mul _ _).symm
              rw [em]
              refine ite2 (fun h => ?_) (fun h => ?_)
              · have := of_decide_eq_true h
                exact nope (fun _ _ _ => by omega) H1 s1
              · have g4 : ¬ (65536 : Int) < ((r.length * (r :: S).length : Nat) : Int) := fun q => h (decide_eq_true q)
                obtain ⟨ps, hl0, hp⟩ := hL
                refine ⟨_, rfl, l, rfl, ⟨_, SqL.of hl0⟩, ?_⟩
                intro D hD
                refine lcl0 (xs := ps.map V.ref) (fun i acc _ => ∃ zs : List Bool, acc = zs.map V.bl ∧ Paired (fun (z : Bool) q => z = true ↔ rowOk (r.length : Int) q) zs ((r :: S).take i)) hD (SqL.of hl0) ⟨[], rfl, .nil⟩ ?_ ?_
                · rintro i x acc H2 hx s2 hH ⟨zs, rfl, hz⟩
                  rw [List.getElem?_map] at hx
                  obtain ⟨p', hp', rfl⟩ := Option.map_eq_some_iff.mp hx
                  obtain ⟨q, hq, hq2⟩ := paired_get' hp hp'
                  refine ⟨rfl, ?_⟩
                  refine ⟨_, rfl, _, rfl, p', _, q, rfl, SqL.of (s2 _ _ hq2), Nat.le_trans (rlen q (List.mem_of_getElem? hq)) hlen, fun H3 z s3 hz3 => ?_⟩
                  refine LcN.put hD s2 hH s3 ?_ ?_
                  · rw [List.length_map, hz.length, List.length_take]
                    omega
                  · refine ⟨zs ++ [z], by rw [List.map_append]; rfl, ?_⟩
                    rw [List.take_add_one, hq]
                    exact paired_snoc hz hz3
                · rintro acc H2 s2 hH ⟨zs, rfl, hz⟩
                  rw [List.length_map, show ps.length = (r :: S).length from hp.length, List.take_length] at hz
                  refine ⟨D, zs, rfl, SqL.of hH, k H2 _ (s1.trans s2) ?_⟩
                  rw [List.all_eq_true, key]
                  constructor
                  · intro g5
                    refine ⟨hx, r, S, rfl, by omega, by omega, by omega, by omega, fun q hq => ?_⟩
                    obtain ⟨i, hi⟩ := List.getElem?_of_mem hq
                    obtain ⟨z, hz1, hz2⟩ := paired_get hz hi
                    obtain ⟨g6, g7⟩ := hz2.mp (g5 z (List.mem_of_getElem? hz1))
                    exact ⟨by omega, g7⟩
                  · rintro ⟨_, r', S', e, _, _, _, _, g5⟩ z hzm
                    obtain ⟨rfl, rfl⟩ := List.cons.inj e
                    obtain ⟨i, hi⟩ := List.getElem?_of_mem hzm
                    obtain ⟨q, hq1, hq2⟩ := paired_get' hz hi
                    obtain ⟨g6, g7⟩ := g5 q (List.mem_of_getElem? hq1)
                    exact hq2.mpr ⟨by omega, g7⟩
theorem sc_texts_refusal : FnScope ["t", "b"] ["t", "b"] (defScope s_texts_refusal) := ⟨rfl, rfl, rfl, by decide +kernel, rfl, by decide +kernel, by decide +kernel⟩
theorem ok_texts (T : Txt K mg CD CN CW) : Ok P w K mg base 5 "texts_refusal" ["t", "b"] (spTexts K) := by
  have C_is_chart : Ok P w K mg base 4 "is_chart" ["t"] (spIsChart K) := (ok_isChart T).mono (by decide)
  have C_judge : Ok P w K mg base 4 "judge" ["b"] (spJudge K) := ok_judge' T
  refine T.f_texts_refusal.ok sc_texts_refusal (fun _ _ _ _ _ _ us hl => match us, hl with | [_, _], _ => rfl) (fun vs H Q E h => ?_) (fun f cdv A outer s0 H vs Q E hr h => ?_)
  · obtain ⟨a, c, t, b, rfl, _⟩ := h
    rfl
  · obtain ⟨a, c, t, b, rfl, hS, hB, bt, bb, k⟩ := h
    refine ⟨_, ((pss_cons (ps_if (pt_w (pw_or (pt_cmpR op_gt (pe_callB (len_ints t) (by rfl) T.b_len PySem.boot_len (pa_cons (pv 0) pa_nil)) (pe_gi rfl T.c_MOST_CHART_BYTES) (nomark _)) (pw_or1 (pt_cmpR op_gt (pe_callB (len_ints b) (by rfl) T.b_len PySem.boot_len (pa_cons (pv 1) pa_nil)) (pe_gi rfl T.c_MOST_BOOK_BYTES) (nomark _))))) (pss_one (ps_ret (pe_gi rfl T.c_TOO_LONG))) pss_nil)
      (pss_cons (ps_if (pt_w (pw_or (pt_not (pt_val (pe_fn C_is_chart hr rfl (pa_cons (pv 0) pa_nil)))) (pw_or1 (pt_cmpR op_eq (pe_ix ix_list (pe_fn C_judge hr rfl (pa_cons (pv 1) pa_nil)) pe_int (fun _ _ => rfl)) (pe_gi rfl T.c_AT_FAULT) (nomark _))))) (pss_one (ps_ret (pe_gi rfl T.c_AT_FAULT))) pss_nil)
      (pss_one (ps_ret (pe_gi rfl T.c_NOT_REFUSED)))))), ?_⟩
    refine ⟨_, rfl, _, rfl, hS, _, _, rfl, rfl, _, rfl, ?_⟩
    refine ite2 (fun h => ?_) (fun h => ?_)
    · have h1 := of_decide_eq_true h
      have := k H (Same.refl _)
      rw [refT_long (Or.inl (by omega))] at this
      exact this
    · have h1 : ¬ (66048 : Int) < (t.length : Int) := fun q => h (decide_eq_true q)
      refine ⟨_, rfl, _, rfl, hB, _, _, rfl, rfl, _, rfl, ?_⟩
      refine ite2 (fun h => ?_) (fun h => ?_)
      · have h2 := of_decide_eq_true h
        have := k H (Same.refl _)
        rw [refT_long (Or.inr (by omega))] at this
        exact this
      · have h2 : ¬ (4096 : Int) < (b.length : Int) := fun q => h (decide_eq_true q)
        have h3 : ¬ (66048 < t.length ∨ 4096 < b.length) := by omega
        refine ⟨_, rfl, a, t, rfl, hS, by omega, fun H1 z s1 hz => ⟨_, rfl, ?_⟩⟩
        cases z with
        | false =>
          have : ¬ Right t := fun q => by
            have := hz.mpr q
            cases this
          have e := k H1 s1
          rw [refT_chart h3 ((right_none bt).mpr this)] at e
          exact e
        | true =>
          have hR := hz.mp rfl
          obtain ⟨cc, hcc⟩ : ∃ cc, Rg.chartOf (t.map u8) = some cc := by
            cases q : Rg.chartOf (t.map u8) with
            | none => exact absurd hR ((right_none bt).mp q)
            | some cc => exact ⟨cc, rfl⟩
          obtain ⟨x, r, hj, _⟩ := judge_head (b := b) (by omega)
          refine ⟨_, rfl, c, b, rfl, s1.seq hB, bb, fun H2 p s2 hp => ?_⟩
          refine ⟨p, _, _, _, rfl, rfl, SqL.of hp, at_of (j := 0) rfl (by rw [hj]; rfl), rfl, _, rfl, ?_⟩
          have e := k H2 (s1.trans s2)
          rw [refT_book h3 hcc hj] at e
          refine ite2 (fun h => ?_) (fun h => ?_)
          · rw [if_pos (V.int.inj (of_decide_eq_true h))] at e
            exact e
          · rw [if_neg (fun q => h (decide_eq_true (by rw [q])))] at e
            exact e
theorem sc_refusal : FnScope ["colour", "t", "b", "refused"] ["colour", "t", "b"] (defScope s_refusal) := ⟨rfl, rfl, rfl, by decide +kernel, rfl, by decide +kernel, by decide +kernel⟩
theorem ok_ref (T : Txt K mg CD CN CW) : Ok P w K mg base 6 "refusal" ["colour", "t", "b"] (spRef K) := by
  have C_texts_refusal : Ok P w K mg base 5 "texts_refusal" ["t", "b"] (spTexts K) := ok_texts T
  have C_colour_number : Ok P w K mg base 5 "colour_number" ["byte"] spCol := (ok_col T).mono (by decide)
  refine T.f_refusal.ok sc_refusal (fun _ _ _ _ _ _ us hl => match us, hl with | [_, _, _], _ => rfl) (fun vs H Q E h => ?_) (fun f cdv A outer s0 H vs Q E hr h => ?_)
  · obtain ⟨c, a, d, t, b, rfl, _⟩ := h
    rfl
  · obtain ⟨c, a, d, t, b, rfl, hS, hB, bt, bb, k⟩ := h
    refine ⟨_, ((pss_cons (ps_set (i := 3) sc_refusal.nd rfl (Or.inl rfl) (pe_fn C_texts_refusal hr rfl (pa_cons (pv 1) (pa_cons (pv 2) pa_nil))))
      (pss_cons (ps_if (pt_w (pw_and (pt_cmpR op_eq (pv 3) (pe_gi rfl T.c_NOT_REFUSED) (nomark _)) (pw_and1 (pt_cmpR op_eq (pe_fn C_colour_number hr rfl (pa_cons (pv 0) pa_nil)) (pe_gi rfl T.c_NO_COLOUR) (nomark _))))) (pss_one (ps_ret (pe_gi rfl T.c_NO_COLOUR))) pss_nil)
      (pss_one (ps_ret (pv 3)))))), ?_⟩
    refine ⟨_, rfl, _, rfl, a, d, t, b, rfl, hS, hB, bt, bb, fun H1 s1 => ?_⟩
    have e := k H1 s1
    unfold refC at e
    refine ⟨_, rfl, rfl, _, rfl, ?_⟩
    refine ite2 (fun h => ?_) (fun h => ?_)
    · have h1 := V.int.inj (of_decide_eq_true h)
      refine ⟨_, rfl, c, rfl, rfl, _, rfl, ?_⟩
      refine ite2 (fun h => ?_) (fun h => ?_)
      · rw [if_pos ⟨h1, V.int.inj (of_decide_eq_true h)⟩] at e
        exact e
      · rw [if_neg (fun q => h (decide_eq_true (by rw [q.2])))] at e
        exact ⟨_, rfl, e⟩
    · rw [if_neg (fun q => h (decide_eq_true (by rw [q.1])))] at e
      exact ⟨_, rfl, e⟩
end

end Wj

set_option Elab.async false
set_option linter.all false
set_option maxRecDepth 100000
set_option maxHeartbeats 2000000
namespace Wj
open PySem PySem.Spec PyProof.Rows L2 Wl Wd
/-! ### objects -/
def DyeAt (C : Addr) (H : Hp) (p : Addr) (d : Rg.Dyeing) : Prop := ∃ dx, H p = some (.ins C dx [("shade", .int d.shade), ("knots", .int d.knots)])
theorem DyeAt.same {C : Addr} {H H' : Hp} {p : Addr} {d : Rg.Dyeing} (s : Same H H') (h : DyeAt C H p d) : DyeAt C H' p d := by
  obtain ⟨dx, h⟩ := h
  exact ⟨dx, s _ _ h⟩
section
variable {P : Program} {w : World} {K : PySem.W.Frag} {mg : Str → Option Value} {base : Heap} {CD CN CW : Addr}
theorem sc_Dyeing : FnScope ["self", "shade", "knots"] ["self", "shade", "knots"] (defScope s_Dyeing) := ⟨rfl, rfl, rfl, by decide +kernel, rfl, by decide +kernel, by decide +kernel⟩
theorem new_dyeing (T : Txt K mg CD CN CW) : OkC P w K mg base 1 "Dyeing" CD ["self", "shade", "knots"] (sp2 CD "shade" "knots") := by
  obtain ⟨f, fd, M, F⟩ := T.k_Dyeing.ex
  refine ⟨f, fd, T.k_Dyeing.mgC, M, F.binds (fun _ _ _ _ _ _ us hl => match us, hl with | [_, _, _], _ => rfl), F.ok sc_Dyeing (fun vs H Q E h => ?_) (fun cdv A outer s0 H vs Q E hr h => ?_)⟩
  · obtain ⟨p, dx, a, b, rfl, _⟩ := h
    rfl
  · obtain ⟨p, dx, a, b, rfl, hp, k⟩ := h
    refine ⟨_, ((pss_cons (ps_fld (pv 0) (pv 1) rfl)
      (pss_one (ps_fld (pv 0) (pv 2) rfl)))), ?_⟩
    refine ⟨_, rfl, _, rfl, p, CD, dx, [], rfl, hp, T.k_Dyeing.cl, T.k_Dyeing.no _ (by simp), (by show 0 < 1000; decide), ?_⟩
    refine ⟨_, rfl, _, rfl, p, CD, dx, _, rfl, upd_same, T.k_Dyeing.cl, T.k_Dyeing.no _ (by simp), (by show 1 < 1000; decide), ?_⟩
    refine k _ ?_ fun q o e hq => by rw [upd_ne hq, upd_ne hq]; exact e
    rw [upd_same]
    rfl
/-! ### a line's numbers -/
def spPnum (K : PySem.W.Frag) : Sp := fun vs H Q _ => ∃ (a e : Addr) (t : List Int) (es : List Nat) (p i j : Nat), vs = [V.ref a, V.ref e, V.int (p + 1 : Nat)] ∧ SqL K H a (t.map V.int) ∧ SqL K H e (vN es) ∧ es[p]? = some i ∧ es[p + 1]? = some j ∧ i ≤ j ∧ j ≤ t.length ∧
  ∀ H' : Hp, Same H H' → Q (.int (valOf 0 ((t.drop i).take (j - i)))) H'
theorem sc_part_number : FnScope ["text", "ends", "part", "value", "digit"] ["text", "ends", "part"] (defScope s_part_number) := ⟨rfl, rfl, rfl, by decide +kernel, rfl, by decide +kernel, by decide +kernel⟩
theorem vN_at {es : List Nat} {i n : Nat} (h : es[i]? = some n) : (vN es)[i]? = some (V.int (n : Int)) := by
  unfold vN
  rw [List.getElem?_map, h]
  rfl
theorem ok_pnum (T : Txt K mg CD CN CW) : Ok P w K mg base 1 "part_number" ["text", "ends", "part"] (spPnum K) := by
  refine T.f_part_number.ok sc_part_number (fun _ _ _ _ _ _ us hl => match us, hl with | [_, _, _], _ => rfl) (fun vs H Q E h => ?_) (fun f cdv A outer s0 H vs Q E hr h => ?_)
  · obtain ⟨a, e, t, es, p, i, j, rfl, _⟩ := h
    rfl
  · obtain ⟨a, e, t, es, p, i, j, rfl, hS, hE, hi, hj, hij, hjt, k⟩ := h
    refine ⟨_, ((pss_cons (ps_set (i := 3) sc_part_number.nd rfl (Or.inl rfl) pe_int)
      (pss_cons (ps_for PassesOwn.never rfl (pi_list (pe_slice sl_list (pv 0) (po_some (pe_ix ix_list (pv 1) (pe_op op_sub (pv 2) pe_int) (fun _ _ => rfl))) (po_some (pe_ix ix_list (pv 1) (pv 2) (fun _ _ => rfl))))) (pg_name (i := 4) sc_part_number.nd rfl (Or.inl rfl))
      (pss_one (ps_set (i := 3) sc_part_number.nd rfl (Or.inl rfl) (pe_op op_sub (pe_op op_add (pe_op op_mul (pv 3) pe_int) (pv 4)) (pe_gi rfl T.c_ZERO)))))
      (pss_one (ps_ret (pv 3)))))), ?_⟩
    have e1 : ((p + 1 : Nat) : Int) - 1 = (p : Int) := by omega
    refine ⟨_, rfl, _, rfl, _, rfl, _, _, rfl, rfl, e, _, _, _, rfl, rfl, hE, at_of e1 (vN_at hi), _, rfl, _, rfl, _, rfl, e, _, _, _, rfl, rfl, hE, at_of rfl (vN_at hj), _, rfl, a, _, rfl, hS, fun q hq => ?_⟩
    rw [cut_ints hij hjt]
    have s1 : Same H (upd H q (.lst (((t.drop i).take (j - i)).map V.int))) := same_new hq
    refine ⟨q, rfl, ⟨_, SqL.of upd_same⟩, ?_⟩
    refine for_list (xs := ((t.drop i).take (j - i)).map V.int) (fun n σ H' => ∃ v4 : Option V, σ = [some (V.ref a), some (V.ref e), some (V.int (p + 1 : Nat)), some (V.int (valOf 0 (((t.drop i).take (j - i)).take n))), v4] ∧ H' = upd H q (.lst (((t.drop i).take (j - i)).map V.int)))
      ⟨none, rfl, rfl⟩ (fun n σ H' _ h => by obtain ⟨_, _, rfl⟩ := h; exact SqL.of upd_same) ?_ ?_
    · rintro n x σ H' hx ⟨v4, rfl, rfl⟩
      rw [List.getElem?_map] at hx
      obtain ⟨y, hy, rfl⟩ := Option.map_eq_some_iff.mp hx
      refine ⟨_, rfl, _, _, rfl, rfl, .inr ⟨by decide, by decide⟩, _, rfl, _, _, rfl, rfl, _, _, rfl, rfl, ?_⟩
      have e2 : valOf 0 (((t.drop i).take (j - i)).take (n + 1)) = valOf 0 (((t.drop i).take (j - i)).take n) * 10 + y - 48 := by
        rw [List.take_add_one, hy]
        exact valOf_snoc _ _ _
      exact ⟨some (V.int y), by rw [e2]; rfl, rfl⟩
    · rintro σ H' ⟨v4, rfl, rfl⟩
      refine ⟨_, rfl, ?_⟩
      rw [List.length_map, List.take_length]
      exact k _ s1
/-! ### the book's dyeings by their colours -/
/-- the dict at a: for each colour's byte the list of its dyeings, H0 the heap ahead -/
structure BookAt (C : Addr) (H0 H : Hp) (kvs : List (Key × V)) (l : List Rg.Dyeing) : Prop where
  no : ∀ x : Int, valV kvs (Sum.inl x) = none → ofB l x = []
  yes : ∀ (x : Int) (v : V), valV kvs (Sum.inl x) = some v → ∃ p, v = .ref p ∧ H0 p = none ∧ LstOf (DyeAt C) H p (ofB l x)
  apart : ∀ (x y : Int) (v : V), valV kvs (Sum.inl x) = some v → valV kvs (Sum.inl y) = some v → x = y
def spBook (K : PySem.W.Frag) (C : Addr) : Sp := fun vs H Q _ => ∃ (a : Addr) (b : List Int) (d : Rg.Book), vs = [V.ref a] ∧ SqL K H a (b.map V.int) ∧ Byt b ∧ RugG.bookIn (b.map u8) = .ok d ∧
  ∀ (H' : Hp) (p : Addr) (kvs : List (Key × V)), Same H H' → H' p = some (.dK kvs) → BookAt C H H' kvs d → Q (.ref p) H'
theorem dyes_keep {C : Addr} {H H' : Hp} {p : Addr} {xs : List Rg.Dyeing} (ok : Addr → Prop) (h : LstOf (DyeAt C) H p xs) (hp : ok p) (hi : ∀ b dx fs, H b = some (.ins C dx fs) → ok b) (k : ∀ b o, H b = some o → ok b → H' b = some o) : LstOf (DyeAt C) H' p xs := by
  obtain ⟨ps, h1, h2⟩ := h
  refine ⟨ps, k _ _ h1 hp, paired_map h2 fun q d hd => ?_⟩
  obtain ⟨dx, hd⟩ := hd
  exact ⟨dx, k _ _ hd (hi _ _ _ hd)⟩
theorem sc_book_dyeings : FnScope ["b", "dyeings", "start", "ends", "dyeing"] ["b"] (defScope s_book_dyeings) := ⟨rfl, rfl, rfl, by decide +kernel, rfl, by decide +kernel, by decide +kernel⟩
def WBook (C : Addr) (b : List Int) (d : Rg.Book) (a q : Addr) (H : Hp) : Nat → L2.St → Hp → Prop := fun m σ H' => ∃ (s : Nat) (l : List Rg.Dyeing) (kvs : List (Key × V)) (v3 v4 : Option V), m = b.length - s ∧
  σ = [some (V.ref a), some (V.ref q), some (V.int s), v3, v4] ∧ H' q = some (.dK kvs) ∧ Same H H' ∧ kvs.length ≤ l.length ∧ BookAt C H H' kvs l.reverse ∧ Reading b d s l
theorem ok_book (T : Txt K mg CD CN CW) : Ok P w K mg base 4 "book_dyeings" ["b"] (spBook K CD) := by
  have C_line_ends : ∀ ns, Ok P w K mg base 3 "line_ends" ["text", "start"] (spLine K ns) := fun ns => ok_line T ns
  have C_part_number : Ok P w K mg base 3 "part_number" ["text", "ends", "part"] (spPnum K) := (ok_pnum T).mono (by decide)
  have M_Dyeing : OkC P w K mg base 2 "Dyeing" CD ["self", "shade", "knots"] (sp2 CD "shade" "knots") := (new_dyeing T).mono (by decide)
  refine T.f_book_dyeings.ok sc_book_dyeings (fun _ _ _ _ _ _ us hl => match us, hl with | [_], _ => rfl) (fun vs H Q E h => ?_) (fun f cdv A outer s0 H vs Q E hr h => ?_)
  · obtain ⟨a, b, d, rfl, _⟩ := h
    rfl
  · obtain ⟨a, b, d, rfl, hS, hB, hd, k⟩ := h
    refine ⟨_, ((pss_cons (ps_set (i := 1) sc_book_dyeings.nd rfl (Or.inl rfl) pe_dnewK)
      (pss_cons (ps_set (i := 2) sc_book_dyeings.nd rfl (Or.inl rfl) pe_int)
      (pss_cons (ps_while PassesOwn.never (pt_cmpR op_lt (pv 2) (pe_callB (len_ints b) (by rfl) T.b_len PySem.boot_len (pa_cons (pv 0) pa_nil)) (nomark _))
      (pss_cons (ps_set (i := 3) sc_book_dyeings.nd rfl (Or.inl rfl) (pe_fn (C_line_ends b) hr rfl (pa_cons (pv 0) (pa_cons (pv 2) pa_nil))))
      (pss_cons (ps_set (i := 4) sc_book_dyeings.nd rfl (Or.inl rfl) (pe_new2 M_Dyeing hr rfl (pa_cons (pe_fn C_part_number hr rfl (pa_cons (pv 0) (pa_cons (pv 3) (pa_cons (pe_gi rfl T.c_SHADE_PART) pa_nil)))) (pa_cons (pe_fn C_part_number hr rfl (pa_cons (pv 0) (pa_cons (pv 3) (pa_cons (pe_gi rfl T.c_KNOTS_PART) pa_nil)))) pa_nil))))
      (pss_cons (ps_expr (pe_bm PySem.F.plainAttrs_list PySem.F.slot_list_append PySem.F.type_list_append mt_append (pe_dsetd (pv 1) (pe_ix (ix_ints b) (pv 0) (pv 2) (fun _ _ => rfl)) (pe_lst pa_nil) ⟨rfl, rfl, rfl, rfl⟩) (pa_cons (pv 4) pa_nil)))
      (pss_one (ps_set (i := 2) sc_book_dyeings.nd rfl (Or.inl rfl) (pe_ix ix_list (pv 3) (pe_un un_neg pe_int) (fun _ _ => rfl))))))))
      (pss_one (ps_ret (pv 1))))))), ?_⟩
    intro q hq
    have s1 : Same H (upd H q (.dK [])) := same_new hq
    refine ⟨WBook CD b d a q H, ⟨b.length, 0, [], [], none, none, rfl, rfl, upd_same, s1, Nat.le_refl _, ⟨fun x _ => rfl, fun x v h => (by cases h), fun x y v h => (by cases h)⟩, Reading.start hd⟩, ?_⟩
    rintro m σ H1 ⟨s, l, kvs, v3, v4, rfl, rfl, hq1, s2, hlen, hBk, hR⟩
    refine ⟨_, rfl, _, rfl, _, rfl, s2.seq hS, _, _, rfl, rfl, _, rfl, ?_⟩
    refine ite2 (fun h => ?_) (fun h => ?_)
    · have h2 : s < b.length := by
        have := of_decide_eq_true h
        omega
      have hx : b[s]? = some b[s] := List.getElem?_eq_getElem h2
      obtain ⟨hc, z, hz, hR'⟩ := hR.turn hB hx
      obtain ⟨n, m, e1, e2, e3, e4, g1, g2, g3⟩ := line_whole hz
      generalize b[s] = x at *
      refine ⟨fun σ' H'' => ∃ m', m' < b.length - s ∧ WBook CD b d a q H m' σ' H'', fun _ _ q => q, ?_⟩
      refine ⟨_, rfl, _, rfl, a, _, rfl, s2.seq hS, s, rfl, fun H2 el s3 hel1 hel => ?_⟩
      rw [e1] at hel
      have s4 := s2.trans s3
      refine ⟨_, rfl, _, rfl, a, el, b, _, 1, s + 2, s + 2 + n, rfl, s4.seq hS, SqL.of hel, rfl, rfl, by omega, by omega, fun H3 s5 => ?_⟩
      refine ⟨_, rfl, _, rfl, a, el, b, _, 3, s + 3 + n, s + 3 + n + m, rfl, (s4.trans s5).seq hS, SqL.of (s5 _ _ hel), rfl, rfl, by omega, by omega, fun H4 s6 => ?_⟩
      refine ⟨_, _, rfl, fun H5 dy dx hdy1 s7 hdy => ?_⟩
      have s8 : Same H1 H5 := ((s3.trans s5).trans s6).trans s7
      have hD : DyeAt CD H5 dy ⟨(colNo x).toNat, z.1.toNat, z.2.toNat⟩ := by
        refine ⟨dx, ?_⟩
        rw [hdy]
        have a1 : valOf 0 ((b.drop (s + 2)).take (s + 2 + n - (s + 2))) = ((z.1.toNat : Nat) : Int) := by
          rw [show s + 2 + n - (s + 2) = n by omega, ← e2]
          omega
        have a2 : valOf 0 ((b.drop (s + 3 + n)).take (s + 3 + n + m - (s + 3 + n))) = ((z.2.toNat : Nat) : Int) := by
          rw [show s + 3 + n + m - (s + 3 + n) = m by omega, ← e3]
          omega
        rw [a1, a2]
      refine ⟨_, rfl, q, rfl, .inl ⟨_, .inl (s8 _ _ hq1)⟩, _, rfl, _, rfl, a, _, rfl, rfl, (s2.trans s8).seq hS, x, (by rw [atI_eq]; exact hx), Nat.zero_le _, fun e he => ?_⟩
      have s9 : Same H5 (upd H5 e (.lst [])) := same_new he
      have hq5 := s9 _ _ (s8 _ _ hq1)
      have hfew := hR.few
      have s10 := s8.trans s9
      have hkey : ∀ y : Int, y ≠ x → ¬ ((((colNo x).toNat : Nat) : Int) = colNo y) := fun y hy q => hy (colNo_inj hc (by rw [← q]; exact (col_back hc).symm)).symm
      refine ⟨kvs, Sum.inl x, hq5, rfl, small (by omega), fun v hv => ?_, fun hv => ?_⟩
      · obtain ⟨p, rfl, hp0, hL⟩ := hBk.yes x v hv
        have hL0 := hL
        obtain ⟨ps, hp1, hps⟩ := hL0
        have hp6 := s10 _ _ hp1
        have hpl : ps.length ≤ 256 := by
          have e0 : ps.length = (ofB l.reverse x).length := hps.length
          have e5 : (ofB l.reverse x).length ≤ l.reverse.length := List.length_filter_le _ _
          rw [List.length_reverse] at e5
          omega
        refine ⟨tyV_list (SqL.of hp6), _, rfl, p, _, _, rfl, rfl, hp6, small (by rw [List.length_map]; omega), ?_⟩
        have hne : el ≠ p := fun q => by rw [q, hp1] at hel1; cases hel1
        have hel6 : upd (upd H5 e (.lst [])) p (.lst (ps.map V.ref ++ [V.ref dy])) el = some (.lst (vN [s + 1, s + 2, s + 2 + n, s + 3 + n, s + 3 + n + m, s + 4 + n + m])) := by
          rw [upd_ne hne]
          exact s9 _ _ (s7 _ _ (s6 _ _ (s5 _ _ hel)))
        refine ⟨_, rfl, _, rfl, el, _, _, _, rfl, rfl, SqL.of hel6, ints_last [s + 1, s + 2, s + 2 + n, s + 3 + n, s + 3 + n + m] (s + 4 + n + m), ?_⟩
        have keep : ∀ b o, H1 b = some o → b ≠ p → upd (upd H5 e (.lst [])) p (.lst (ps.map V.ref ++ [V.ref dy])) b = some o := fun b o h1 h2 => by
          rw [upd_ne h2]
          exact s10 _ _ h1
        have ins : ∀ b dx fs, H1 b = some (.ins CD dx fs) → b ≠ p := fun b dx fs h1 => ne_of h1 hp1 (by intro z; cases z)
        have hdy6 : DyeAt CD (upd (upd H5 e (.lst [])) p (.lst (ps.map V.ref ++ [V.ref dy]))) dy ⟨(colNo x).toNat, z.1.toNat, z.2.toNat⟩ := by
          obtain ⟨dx', hD⟩ := hD
          exact ⟨dx', by rw [upd_ne (ne_of hD (s8 _ _ hp1) (by intro z; cases z))]; exact s9 _ _ hD⟩
        have hle := hR'.le
        refine ⟨b.length - (s + 4 + n + m), by omega, s + 4 + n + m, ⟨(colNo x).toNat, z.1.toNat, z.2.toNat⟩ :: l, kvs, _, _, rfl, rfl, keep _ _ hq1 (ne_of hq1 hp1 (by intro z; cases z)), same_upd hp0 (s2.trans s10), by rw [List.length_cons]; omega, ?_, by rw [e4]; exact hR'⟩
        refine ⟨fun y hy => ?_, fun y v' hy => ?_, hBk.apart⟩
        · have hyx : y ≠ x := fun q => by rw [q, hv] at hy; cases hy
          rw [ofB_snoc, if_neg (hkey y hyx), List.append_nil]
          exact hBk.no y hy
        · by_cases hyx : y = x
          · subst hyx
            rw [hv] at hy
            cases hy
            refine ⟨p, rfl, hp0, ps ++ [dy], by rw [upd_same, List.map_append]; rfl, ?_⟩
            rw [ofB_snoc, if_pos (col_back hc)]
            refine paired_snoc (paired_map hps fun q d hd => ?_) hdy6
            obtain ⟨dx', hd⟩ := hd
            exact ⟨dx', keep _ _ hd (ins _ _ _ hd)⟩
          · obtain ⟨p', rfl, hp0', hL'⟩ := hBk.yes y v' hy
            have hpp : p' ≠ p := fun q => by
              subst q
              exact hyx (hBk.apart y x _ hy hv)
            refine ⟨p', rfl, hp0', ?_⟩
            rw [ofB_snoc, if_neg (hkey y hyx), List.append_nil]
            exact dyes_keep (fun b => b ≠ p) hL' hpp ins keep
      · have heq : e ≠ q := fun z => by
          rw [z, s8 _ _ hq1] at he
          cases he
        have he6 : upd (upd H5 e (.lst [])) q (.dK (putK kvs (Sum.inl x) (V.ref e))) e = some (.lst []) := by rw [upd_ne heq, upd_same]
        refine ⟨tyV_list (SqL.of he6), _, rfl, e, _, _, rfl, rfl, he6, small (by decide), ?_⟩
        have he1 : H1 e = none := s8.free he
        have he0 : H e = none := s2.free he1
        have hne : el ≠ e := fun z => by
          have := s7 _ _ (s6 _ _ (s5 _ _ hel))
          rw [z, he] at this
          cases this
        have hnq : el ≠ q := fun z => by
          rw [z, hq1] at hel1
          cases hel1
        have hel6 : upd (upd (upd H5 e (.lst [])) q (.dK (putK kvs (Sum.inl x) (V.ref e)))) e (.lst [V.ref dy]) el = some (.lst (vN [s + 1, s + 2, s + 2 + n, s + 3 + n, s + 3 + n + m, s + 4 + n + m])) := by
          rw [upd_ne hne, upd_ne hnq]
          exact s9 _ _ (s7 _ _ (s6 _ _ (s5 _ _ hel)))
        refine ⟨_, rfl, _, rfl, el, _, _, _, rfl, rfl, SqL.of hel6, ints_last [s + 1, s + 2, s + 2 + n, s + 3 + n, s + 3 + n + m] (s + 4 + n + m), ?_⟩
        have keep : ∀ b o, H1 b = some o → b ≠ q → upd (upd (upd H5 e (.lst [])) q (.dK (putK kvs (Sum.inl x) (V.ref e)))) e (.lst [V.ref dy]) b = some o := fun b o h1 h2 => by
          rw [upd_ne (ne_of_none h1 he1), upd_ne h2]
          exact s10 _ _ h1
        have ins : ∀ b dx fs, H1 b = some (.ins CD dx fs) → b ≠ q := fun b dx fs h1 => ne_of h1 hq1 (by intro z; cases z)
        have hdy6 : DyeAt CD (upd (upd (upd H5 e (.lst [])) q (.dK (putK kvs (Sum.inl x) (V.ref e)))) e (.lst [V.ref dy])) dy ⟨(colNo x).toNat, z.1.toNat, z.2.toNat⟩ := by
          obtain ⟨dx', hD⟩ := hD
          exact ⟨dx', by rw [upd_ne (ne_of_none hD he), upd_ne (ne_of hD (s8 _ _ hq1) (by intro z; cases z))]; exact s9 _ _ hD⟩
        have hle := hR'.le
        have hq6 : upd (upd (upd H5 e (.lst [])) q (.dK (putK kvs (Sum.inl x) (V.ref e)))) e (.lst [V.ref dy]) q = some (.dK (putK kvs (Sum.inl x) (V.ref e))) := by rw [upd_ne heq.symm, upd_same]
        have hlp := length_putK kvs (Sum.inl x) (V.ref e)
        refine ⟨b.length - (s + 4 + n + m), by omega, s + 4 + n + m, ⟨(colNo x).toNat, z.1.toNat, z.2.toNat⟩ :: l, _, _, _, rfl, rfl, hq6, same_upd he0 (same_upd hq (s2.trans s10)), by rw [List.length_cons]; omega, ?_, by rw [e4]; exact hR'⟩
        refine ⟨fun y hy => ?_, fun y v' hy => ?_, fun y y' v' hy hy' => ?_⟩
        · rw [valV_put] at hy
          by_cases hyx : y = x
          · rw [if_pos (by rw [hyx])] at hy
            cases hy
          · rw [if_neg (fun q => hyx (Sum.inl.inj q))] at hy
            rw [ofB_snoc, if_neg (hkey y hyx), List.append_nil]
            exact hBk.no y hy
        · rw [valV_put] at hy
          by_cases hyx : y = x
          · rw [if_pos (by rw [hyx])] at hy
            cases hy
            subst hyx
            refine ⟨e, rfl, he0, [dy], upd_same, ?_⟩
            rw [ofB_snoc, if_pos (col_back hc), hBk.no y hv]
            exact .cons hdy6 .nil
          · rw [if_neg (fun q => hyx (Sum.inl.inj q))] at hy
            obtain ⟨p', rfl, hp0', hL'⟩ := hBk.yes y v' hy
            refine ⟨p', rfl, hp0', ?_⟩
            rw [ofB_snoc, if_neg (hkey y hyx), List.append_nil]
            have hp' := hL'
            obtain ⟨ps', hp1', _⟩ := hp'
            exact dyes_keep (fun b => b ≠ q) hL' (ne_of hp1' hq1 (by intro z; cases z)) ins keep
        · rw [valV_put] at hy hy'
          have new : ∀ y v', valV kvs (Sum.inl y) = some v' → v' ≠ V.ref e := fun y v' hy q => by
            obtain ⟨p', rfl, _, ps', hp1', _⟩ := hBk.yes y v' hy
            injection q with q
            rw [q, he1] at hp1'
            cases hp1'
          by_cases h1 : y = x
          · by_cases h2 : y' = x
            · rw [h1, h2]
            · rw [if_neg (fun q => h2 (Sum.inl.inj q))] at hy'
              rw [if_pos (by rw [h1])] at hy
              exact absurd (Option.some.inj hy).symm (new _ _ hy')
          · rw [if_neg (fun q => h1 (Sum.inl.inj q))] at hy
            by_cases h2 : y' = x
            · rw [if_pos (by rw [h2])] at hy'
              exact absurd (Option.some.inj hy').symm (new _ _ hy)
            · rw [if_neg (fun q => h2 (Sum.inl.inj q))] at hy'
              exact hBk.apart y y' v' hy hy'
    · have h2 : ¬ s < b.length := fun q => h (decide_eq_true (by omega))
      refine ⟨_, rfl, k H1 q kvs s2 hq1 ?_⟩
      rw [hR.stop h2]
      exact hBk
end

end Wj

set_option Elab.async false
set_option linter.all false
set_option maxRecDepth 100000
set_option maxHeartbeats 2000000
namespace Wj
open PySem PySem.Spec PyProof.Rows L2 Wl Wd
/-! ### rows in need -/
def NeedAt (C : Addr) (H : Hp) (p : Addr) (x : Nat × Nat) : Prop := ∃ dx, H p = some (.ins C dx [("row", .int x.1), ("knots", .int x.2)])
theorem NeedAt.same {C : Addr} {H H' : Hp} {p : Addr} {d : Nat × Nat} (s : Same H H') (h : NeedAt C H p d) : NeedAt C H' p d := by
  obtain ⟨dx, h⟩ := h
  exact ⟨dx, s _ _ h⟩
theorem lk_row (a b : V) : List.lookup ("row" : Str) [(("row" : Str), a), ("knots", b)] = some a := by rfl
theorem lk_knots (a b : V) : List.lookup ("knots" : Str) [(("row" : Str), a), ("knots", b)] = some b := by rfl
theorem lk_shade (a b : V) : List.lookup ("shade" : Str) [(("shade" : Str), a), ("knots", b)] = some a := by rfl
theorem lk_dknots (a b : V) : List.lookup ("knots" : Str) [(("shade" : Str), a), ("knots", b)] = some b := by rfl
theorem lk_change (a b c : V) : List.lookup ("change" : Str) [(("change" : Str), a), ("numbers", b), ("ends", c)] = some a := by rfl
theorem lk_numbers (a b c : V) : List.lookup ("numbers" : Str) [(("change" : Str), a), ("numbers", b), ("ends", c)] = some b := by rfl
theorem lk_ends (a b c : V) : List.lookup ("ends" : Str) [(("change" : Str), a), ("numbers", b), ("ends", c)] = some c := by rfl
theorem inV_ints (c : Int) : ∀ r : List Int, inV (V.int c) (r.map V.int) = decide (0 < r.count c)
  | [] => by simp [inV]
  | x :: r => by
    have ih := inV_ints c r
    unfold inV at ih ⊢
    rw [List.map_cons, List.any_cons, ih, List.count_cons]
    by_cases h : x = c
    · subst h
      simp [eqV]
    · simp [eqV, h]
theorem flat_ints : ∀ r : List Int, (r.map V.int).all flatV = true
  | [] => rfl
  | x :: r => by
    rw [List.map_cons, List.all_cons, flat_ints r]
    rfl
section
variable {P : Program} {w : World} {K : PySem.W.Frag} {mg : Str → Option Value} {base : Heap} {CD CN CW : Addr}
theorem sc_Need : FnScope ["self", "row", "knots"] ["self", "row", "knots"] (defScope s_Need) := ⟨rfl, rfl, rfl, by decide +kernel, rfl, by decide +kernel, by decide +kernel⟩
theorem new_need (T : Txt K mg CD CN CW) : OkC P w K mg base 1 "Need" CN ["self", "row", "knots"] (sp2 CN "row" "knots") := by
  obtain ⟨f, fd, M, F⟩ := T.k_Need.ex
  refine ⟨f, fd, T.k_Need.mgC, M, F.binds (fun _ _ _ _ _ _ us hl => match us, hl with | [_, _, _], _ => rfl), F.ok sc_Need (fun vs H Q E h => ?_) (fun cdv A outer s0 H vs Q E hr h => ?_)⟩
  · obtain ⟨p, dx, a, b, rfl, _⟩ := h
    rfl
  · obtain ⟨p, dx, a, b, rfl, hp, k⟩ := h
    refine ⟨_, ((pss_cons (ps_fld (pv 0) (pv 1) rfl)
      (pss_one (ps_fld (pv 0) (pv 2) rfl)))), ?_⟩
    refine ⟨_, rfl, _, rfl, p, CN, dx, [], rfl, hp, T.k_Need.cl, T.k_Need.no _ (by simp), (by show 0 < 1000; decide), ?_⟩
    refine ⟨_, rfl, _, rfl, p, CN, dx, _, rfl, upd_same, T.k_Need.cl, T.k_Need.no _ (by simp), (by show 1 < 1000; decide), ?_⟩
    refine k _ ?_ fun q o e hq => by rw [upd_ne hq, upd_ne hq]; exact e
    rw [upd_same]
    rfl
def spInNeed (C : Addr) : Sp := fun vs H Q _ => ∃ (c : Int) (a : Addr) (R : List (List Int)), vs = [V.int c, V.ref a] ∧ LstOf RowAt H a R ∧ R.length ≤ 70000 ∧
  ∀ (H' : Hp) (l : Addr), Same H H' → H l = none → LstOf (NeedAt C) H' l (nd (R.map fun r => r.count c)) → Q (.ref l) H'
theorem sc_rows_in_need : FnScope ["colour", "rows", "y", "row"] ["colour", "rows"] (defScope s_rows_in_need) := ⟨rfl, rfl, rfl, by decide +kernel, rfl, by decide +kernel, by decide +kernel⟩
theorem ok_inNeed (T : Txt K mg CD CN CW) : Ok P w K mg base 3 "rows_in_need" ["colour", "rows"] (spInNeed CN) := by
  have M_Need : OkC P w K mg base 1 "Need" CN ["self", "row", "knots"] (sp2 CN "row" "knots") := new_need T
  refine T.f_rows_in_need.ok sc_rows_in_need (fun _ _ _ _ _ _ us hl => match us, hl with | [_, _], _ => rfl) (fun vs H Q E h => ?_) (fun f cdv A outer s0 H vs Q E hr h => ?_)
  · obtain ⟨c, a, R, rfl, _⟩ := h
    rfl
  · obtain ⟨c, a, R, rfl, hL, hlen, k⟩ := h
    obtain ⟨ps, ha, hps⟩ := hL
    refine ⟨_, ((pss_one (ps_ret (pe_lc rfl sc_rows_in_need.nd (pi_enum rfl T.b_enumerate (pa_cons (pv 1) pa_nil)) (own := [("y", 2), ("row", 3)]) (blk_ok ["colour", "rows", "y", "row"] (defScope s_rows_in_need) rfl (by decide +kernel) (by decide +kernel) (by decide +kernel) (by decide +kernel)) (fun _ _ _ _ _ => (pg_tupK (K := K) (n := 2) rfl rfl (pgs_cons (pg_name (i := 2) sc_rows_in_need.nd rfl (Or.inl rfl)) (pgs_cons (pg_name (i := 3) sc_rows_in_need.nd rfl (Or.inl rfl)) pgs_nil)))) (fun _ _ _ _ _ => (pts_one (pt_cmpR (op_inK (K := K) rfl) (pv 0) (pv 3) (by with_unfolding_all rfl)))) (fun _ _ _ _ _ => (pe_new2 M_Need hr rfl (pa_cons (pv 2) (pa_cons (pe_bmK (K := K) rfl PySem.F.plainAttrs_list PySem.F.slot_list_count PySem.F.type_list_count (mt_countK (K := K) rfl) (pv 3) (pa_cons (pv 0) pa_nil)) pa_nil)))))))), ?_⟩
    refine ⟨_, rfl, a, _, rfl, SqL.of ha, fun D hD => ?_⟩
    refine lce (xs := ps.map V.ref) (fun i acc H' => ∃ qs : List Addr, acc = qs.map V.ref ∧ Paired (NeedAt CN H') qs (nd ((R.take i).map fun r => r.count c))) hD (SqL.of ha) ⟨[], rfl, .nil⟩ ?_ ?_
    · rintro i x acc H1 T0 hx s1 hH ⟨qs, rfl, hqs⟩ hT
      rw [List.getElem?_map] at hx
      obtain ⟨p, hp, rfl⟩ := Option.map_eq_some_iff.mp hx
      obtain ⟨r, hr0, hr1⟩ := paired_get' hps hp
      have hi : i < R.length := (List.getElem?_eq_some_iff.mp hr0).1
      have s2 : Same H1 (upd H1 T0 (.tup [V.int (i : Nat), V.ref p])) := same_new hT
      have hr2 : SqL K (upd H1 T0 (.tup [V.int (i : Nat), V.ref p])) p (r.map V.int) := SqL.of (s2 _ _ (s1 _ _ hr1))
      have hsn := nd_snoc' ((R.take i).map fun r => r.count c) (r.count c)
      rw [← take_map_next (f := fun r : List Int => r.count c) hr0, List.length_map, List.length_take, Nat.min_eq_left (by omega)] at hsn
      refine ⟨T0, _, rfl, SqT.of upd_same, rfl, _, _, rfl, _, _, rfl, rfl, rfl, ?_⟩
      refine ⟨_, rfl, _, rfl, p, _, rfl, .inl hr2, rfl, flat_ints r, _, rfl, ?_⟩
      show if inV (V.int c) (r.map V.int) = true then _ else _
      rw [inV_ints]
      refine ite2 (fun h => ?_) (fun h => ?_)
      · have h1 := of_decide_eq_true h
        rw [if_pos h1] at hsn
        refine ⟨_, rfl, _, rfl, tyV_list hr2, _, rfl, p, c, r, rfl, rfl, hr2, _, _, rfl, fun H2 y dx hy s3 hy2 => ?_⟩
        have hyD : y ≠ D := fun q => by rw [q, s2 _ _ hH] at hy; cases hy
        have hql : qs.length ≤ 70000 := by
          have e1 : qs.length = _ := hqs.length
          have e2 := nd_len ((R.take i).map fun r => r.count c)
          rw [List.length_map, List.length_take] at e2
          omega
        refine LcN.put hD s1 hH (s2.trans s3) (by rw [List.length_map]; omega) ?_
        refine ⟨qs ++ [y], by rw [List.map_append]; rfl, ?_⟩
        rw [hsn]
        refine paired_snoc (paired_map hqs fun _ _ => NeedAt.same (Same.off (s2.trans s3))) ⟨dx, ?_⟩
        rw [off_at hyD, hy2]
      · have h1 : ¬ 0 < r.count c := fun q => h (decide_eq_true q)
        rw [if_neg h1, List.append_nil] at hsn
        refine LcN.skip s1 hH s2 ⟨qs, rfl, ?_⟩
        rw [hsn]
        exact paired_map hqs fun _ _ => NeedAt.same (Same.off s2)
    · rintro acc H1 s1 hH ⟨qs, rfl, hqs⟩
      rw [List.length_map, show ps.length = R.length from hps.length, List.take_length] at hqs
      exact k H1 D s1 hD ⟨qs, hH, paired_map hqs fun _ _ => NeedAt.same (off_same _ _)⟩
end

end Wj

set_option Elab.async false
set_option linter.all false
set_option maxRecDepth 100000
set_option maxHeartbeats 2000000
namespace Wj
open PySem PySem.Spec PyProof.Rows L2 Wl Wd
/-! ### where a dyeing's rows end -/
def spEnds (C : Addr) : Sp := fun vs H Q _ => ∃ (a : Addr) (h : Nat) (W : List (Nat × Nat)), vs = [V.ref a, V.int (h : Int)] ∧ LstOf (NeedAt C) H a W ∧ W.length ≤ 70000 ∧
  ∀ (H' : Hp) (l : Addr), Same H H' → H l = none → H' l = some (.lst (vN ((List.range W.length).map (endK h W)))) → Q (.ref l) H'
section
variable {P : Program} {w : World} {K : PySem.W.Frag} {mg : Str → Option Value} {base : Heap} {CD CN CW : Addr}
theorem sc_ends_from_each : FnScope ["wanted", "knots", "ends", "end", "spare", "start", "need"] ["wanted", "knots"] (defScope s_ends_from_each) := ⟨rfl, rfl, rfl, by decide +kernel, rfl, by decide +kernel, by decide +kernel⟩
theorem sum_next {W : List (Nat × Nat)} {s e : Nat} {x : Nat × Nat} (hse : s ≤ e) (hx : W[e]? = some x) : sumN ((W.drop s).take (e + 1 - s)) = sumN ((W.drop s).take (e - s)) + x.2 := by
  have e1 : (W.drop s).take (e + 1 - s) = (W.drop s).take (e - s) ++ [x] := by
    rw [show e + 1 - s = (e - s) + 1 by omega, List.take_add_one, List.getElem?_drop, show s + (e - s) = e by omega, hx]
    rfl
  rw [e1, sumN_append, sumN_cons]
  rfl
theorem sum_drop {W : List (Nat × Nat)} {s e : Nat} {x : Nat × Nat} (hse : s < e) (hx : W[s]? = some x) : sumN ((W.drop s).take (e - s)) = x.2 + sumN ((W.drop (s + 1)).take (e - (s + 1))) := by
  have hs : s < W.length := (List.getElem?_eq_some_iff.mp hx).1
  have e0 : W[s] = x := by
    rw [List.getElem?_eq_getElem hs] at hx
    exact Option.some.inj hx
  rw [List.drop_eq_getElem_cons hs, show e - s = (e - (s + 1)) + 1 by omega, List.take_succ_cons, sumN_cons, e0]
/-- the inner loop: from the place i to e, sp knots to spare -/
def WEnds (a l : Addr) (v6 : V) (h i : Nat) (W : List (Nat × Nat)) (H : Hp) : Nat → L2.St → Hp → Prop := fun m σ H' => ∃ (e : Nat) (sp : Int), m = W.length - e ∧ H' = H ∧
  σ = [some (V.ref a), some (V.int (h : Int)), some (V.ref l), some (V.int e), some (V.int sp), some (V.int (i : Nat)), some v6] ∧ i ≤ e ∧ e ≤ W.length ∧ 0 ≤ sp ∧ sp + (sumN ((W.drop i).take (e - i)) : Int) = (h : Int)
theorem ok_ends (T : Txt K mg CD CN CW) : Ok P w K mg base 1 "ends_from_each" ["wanted", "knots"] (spEnds CN) := by
  refine T.f_ends_from_each.ok sc_ends_from_each (fun _ _ _ _ _ _ us hl => match us, hl with | [_, _], _ => rfl) (fun vs H Q E h => ?_) (fun f cdv A outer s0 H vs Q E hr h => ?_)
  · obtain ⟨a, h, W, rfl, _⟩ := h
    rfl
  · obtain ⟨a, h, W, rfl, hL, hlen, k⟩ := h
    refine ⟨_, ((pss_cons (ps_set (i := 2) sc_ends_from_each.nd rfl (Or.inl rfl) (pe_lst pa_nil))
      (pss_cons (ps_set (i := 3) sc_ends_from_each.nd rfl (Or.inl rfl) pe_int)
      (pss_cons (ps_set (i := 4) sc_ends_from_each.nd rfl (Or.inl rfl) (pv 1))
      (pss_cons (ps_for PassesOwn.never rfl (pi_enum rfl T.b_enumerate (pa_cons (pv 0) pa_nil)) (pg_tup rfl (pgs_cons (pg_name (i := 5) sc_ends_from_each.nd rfl (Or.inl rfl)) (pgs_cons (pg_name (i := 6) sc_ends_from_each.nd rfl (Or.inl rfl)) pgs_nil)))
      (pss_cons (ps_while PassesOwn.never (pt_w (pw_and (pt_cmpR op_lt (pv 3) (pe_callB call_len_seq (by rfl) T.b_len PySem.boot_len (pa_cons (pv 0) pa_nil)) (nomark _)) (pw_and1 (pt_cmpR op_le (pe_fld (pe_ix ix_list (pv 0) (pv 3) (fun _ _ => rfl)) rfl) (pv 4) (nomark _)))))
      (pss_cons (ps_aug (i := 4) sc_ends_from_each.nd rfl (Or.inl rfl) (pe_fld (pe_ix ix_list (pv 0) (pv 3) (fun _ _ => rfl)) rfl) ip_sub)
      (pss_one (ps_aug (i := 3) sc_ends_from_each.nd rfl (Or.inl rfl) pe_int ip_add))))
      (pss_cons (ps_expr (pe_bm PySem.F.plainAttrs_list PySem.F.slot_list_append PySem.F.type_list_append mt_append (pv 2) (pa_cons (pv 3) pa_nil)))
      (pss_one (ps_if (pt_cmpR op_gt (pv 3) (pv 5) (nomark _)) (pss_one (ps_aug (i := 4) sc_ends_from_each.nd rfl (Or.inl rfl) (pe_fld (pv 6) rfl) ip_add)) (pss_one (ps_set (i := 3) sc_ends_from_each.nd rfl (Or.inl rfl) (pe_op op_add (pv 5) pe_int))))))))
      (pss_one (ps_ret (pv 2)))))))), ?_⟩
    have hL0 := hL
    obtain ⟨ps, ha, hps⟩ := hL0
    have hpl : ps.length = W.length := hps.length
    refine ⟨Nat.zero_le _, fun l hl => ?_⟩
    have s1 : Same H (upd H l (.lst [])) := same_new hl
    refine ⟨_, rfl, _, rfl, a, _, rfl, s1.seq (SqL.of ha), ?_⟩
    refine for_enum (xs := ps.map V.ref) (fun i σ H' => ∃ (e : Nat) (sp : Int) (v5 v6 : Option V), σ = [some (V.ref a), some (V.int (h : Int)), some (V.ref l), some (V.int e), some (V.int sp), v5, v6] ∧ Same H H' ∧
        H' l = some (.lst (vN ((List.range i).map (endK h W)))) ∧ i ≤ e ∧ e ≤ W.length ∧ 0 ≤ sp ∧ sp + (sumN ((W.drop i).take (e - i)) : Int) = (h : Int))
      ⟨0, (h : Int), none, none, rfl, s1, upd_same, Nat.le_refl _, Nat.zero_le _, Int.natCast_nonneg _, by simp [sumN]⟩ (fun i σ H' _ h => by obtain ⟨_, _, _, _, _, s2, _⟩ := h; exact s2.seq (SqL.of ha)) ?_ ?_
    · rintro i x σ H1 T0 hx ⟨e, sp, v5, v6, rfl, s2, hl1, hie, heW, hsp, hsum⟩ hT
      rw [List.getElem?_map] at hx
      obtain ⟨p, hp, rfl⟩ := Option.map_eq_some_iff.mp hx
      obtain ⟨y, hy, hy1⟩ := paired_get' hps hp
      have hiW : i < W.length := (List.getElem?_eq_some_iff.mp hy).1
      have s3 : Same H1 (upd H1 T0 (.tup [V.int (i : Nat), V.ref p])) := same_new hT
      have s4 := s2.trans s3
      refine ⟨T0, _, rfl, SqT.of upd_same, rfl, _, _, rfl, _, _, rfl, rfl, ?_⟩
      generalize hH2 : upd H1 T0 (.tup [V.int (i : Nat), V.ref p]) = H2 at s3 s4 ⊢
      refine ⟨WEnds a l (V.ref p) h i W H2, ⟨W.length - e, e, sp, rfl, rfl, rfl, hie, heW, hsp, hsum⟩, ?_⟩
      rintro m σ H3 ⟨e, sp, rfl, rfl, rfl, hie, heW, hsp, hsum⟩
      have haH := s4 _ _ ha
      -- behind the inner loop
      have fin : (∀ x, W[e]? = some x → sp < (x.2 : Int)) → endK h W i = e := fun q => by
        unfold endK
        rw [takes_is h (W.drop i) 0 (e - i) (by rw [List.length_drop]; omega) (by omega) fun x hx => ?_]
        · omega
        · rw [List.getElem?_drop, show i + (e - i) = e by omega] at hx
          have := q x hx
          omega
      refine ⟨_, rfl, _, rfl, a, _, rfl, .inl (SqL.of haH), _, _, rfl, rfl, _, rfl, ?_⟩
      rw [List.length_map, hpl]
      refine ite2 (fun g => ?go) (fun g => ?no)
      case' go =>
        have g1 : e < W.length := by
          have := of_decide_eq_true g
          omega
        have hxe : W[e]? = some W[e] := List.getElem?_eq_getElem g1
        obtain ⟨pe, hpe, dxe, hpe1⟩ := paired_get hps hxe
        refine ⟨_, rfl, _, rfl, a, _, _, _, rfl, rfl, SqL.of haH, at_of rfl (by rw [List.getElem?_map, hpe]; rfl), pe, CN, dxe, _, _, rfl, s4 _ _ hpe1, T.k_Need.cl, T.k_Need.no _ (by simp), lk_knots _ _, _, rfl, _, _, rfl, rfl, _, rfl, ?_⟩
        refine ite2 (fun g => ?on) (fun g => ?out)
        case' on =>
          have g2 : ((W[e].2 : Nat) : Int) ≤ sp := of_decide_eq_true g
          refine ⟨fun σ' H'' => ∃ m', m' < W.length - e ∧ WEnds a l (V.ref p) h i W H3 m' σ' H'', fun _ _ q => q, ?_⟩
          refine ⟨_, rfl, _, rfl, _, rfl, a, _, _, _, rfl, rfl, SqL.of haH, at_of rfl (by rw [List.getElem?_map, hpe]; rfl), pe, CN, dxe, _, _, rfl, s4 _ _ hpe1, T.k_Need.cl, T.k_Need.no _ (by simp), lk_knots _ _, _, _, rfl, rfl, ?_⟩
          refine ⟨_, rfl, _, _, rfl, rfl, ?_⟩
          have e2 := sum_next hie hxe
          exact ⟨W.length - (e + 1), by omega, e + 1, sp - (W[e].2 : Int), rfl, rfl, rfl, by omega, by omega, by omega, by omega⟩
        have he : endK h W i = e := fin fun x hx => by
          rw [hxe] at hx
          cases hx
          have : ¬ ((W[e].2 : Nat) : Int) ≤ sp := fun q => g (decide_eq_true q)
          omega
      case' no =>
        have g1 : ¬ e < W.length := fun q => g (decide_eq_true (by omega))
        have he : endK h W i = e := fin fun x hx => by
          rw [List.getElem?_eq_none (by omega)] at hx
          cases hx
      all_goals
        have hl3 := s3 _ _ hl1
        refine ⟨_, rfl, tyV_list (SqL.of hl3), _, rfl, l, _, _, rfl, rfl, hl3, small (by rw [ints_len, List.length_map, List.length_range]; omega), ?_⟩
        have hl4 : upd H3 l (.lst (vN ((List.range i).map (endK h W)) ++ [V.int (e : Int)])) l = some (.lst (vN ((List.range (i + 1)).map (endK h W)))) := by
          rw [upd_same, List.range_succ, List.map_append, List.map_singleton, he, ints_snoc]
        have s5 : Same H (upd H3 l (.lst (vN ((List.range i).map (endK h W)) ++ [V.int (e : Int)]))) := same_upd hl s4
        refine ⟨_, rfl, _, rfl, _, _, rfl, rfl, _, rfl, ?_⟩
        refine ite2 (fun g => ?_) (fun g => ?_)
        · have g3 : i < e := by
            have := of_decide_eq_true g
            omega
          obtain ⟨dx, hy1⟩ := hy1
          refine ⟨_, rfl, _, rfl, p, CN, dx, _, _, rfl, s5 _ _ hy1, T.k_Need.cl, T.k_Need.no _ (by simp), lk_knots _ _, _, _, rfl, rfl, ?_⟩
          have e2 := sum_drop g3 hy
          exact ⟨e, sp + (y.2 : Int), _, _, rfl, s5, hl4, by omega, heW, by omega, by omega⟩
        · have g3 : e = i := by
            have : ¬ (i : Int) < (e : Int) := fun q => g (decide_eq_true q)
            omega
          subst g3
          refine ⟨_, rfl, _, _, rfl, rfl, ?_⟩
          refine ⟨e + 1, sp, _, _, rfl, s5, hl4, by omega, by omega, hsp, ?_⟩
          rw [Nat.sub_self, List.take_zero] at hsum ⊢
          exact hsum
    · rintro σ H1 ⟨e, sp, v5, v6, rfl, s2, hl1, _⟩
      rw [List.length_map, hpl] at hl1
      exact ⟨_, rfl, k H1 l s2 hl hl1⟩
end

end Wj

set_option Elab.async false
set_option linter.all false
set_option maxRecDepth 100000
set_option maxHeartbeats 2000000
namespace Wj
open PySem PySem.Spec PyProof.Rows L2 Wl Wd
/-! ### ways -/
def NatsAt (H : Hp) (p : Addr) (r : List Nat) : Prop := H p = some (.lst (vN r))
theorem NatsAt.same {H H' : Hp} {p : Addr} {r : List Nat} (s : Same H H') (h : NatsAt H p r) : NatsAt H' p r := s _ _ h
def WayAt (C : Addr) (l : List Rg.Dyeing) (W : List (Nat × Nat)) (H : Hp) (p : Addr) (u : List Nat) : Prop := ∃ dx ln le, H p = some (.ins C dx [("change", .int (Rg.wayCost l u : Nat)), ("numbers", .ref ln), ("ends", .ref le)]) ∧
  H ln = some (.lst (vN u)) ∧ H le = some (.lst (vN (endsR l W 0 u)))
theorem WayAt.same {C : Addr} {l : List Rg.Dyeing} {W : List (Nat × Nat)} {H H' : Hp} {p : Addr} {u : List Nat} (s : Same H H') (h : WayAt C l W H p u) : WayAt C l W H' p u := by
  obtain ⟨dx, ln, le, h1, h2, h3⟩ := h
  exact ⟨dx, ln, le, s _ _ h1, s _ _ h2, s _ _ h3⟩
theorem needs_same {C : Addr} {H H' : Hp} {a : Addr} {W : List (Nat × Nat)} (s : Same H H') (h : LstOf (NeedAt C) H a W) : LstOf (NeedAt C) H' a W := LstOf.same (D := NeedAt C) (fun s h => NeedAt.same s h) s h
theorem dyes_same {C : Addr} {H H' : Hp} {a : Addr} {l : List Rg.Dyeing} (s : Same H H') (h : LstOf (DyeAt C) H a l) : LstOf (DyeAt C) H' a l := LstOf.same (D := DyeAt C) (fun s h => DyeAt.same s h) s h
theorem nats_same {H H' : Hp} {a : Addr} {r : List (List Nat)} (s : Same H H') (h : LstOf NatsAt H a r) : LstOf NatsAt H' a r := LstOf.same (D := NatsAt) (fun s h => NatsAt.same s h) s h
theorem rows_same {H H' : Hp} {a : Addr} {r : List (List Int)} (s : Same H H') (h : LstOf RowAt H a r) : LstOf RowAt H' a r := LstOf.same (D := RowAt) (fun s h => RowAt.same s h) s h
open Classical in
/-- a part of the heap -/
noncomputable def sel (p : Addr → Prop) (H : Hp) : Hp := fun b => if p b then H b else none
theorem sel_at {p : Addr → Prop} {H : Hp} {b : Addr} (h : p b) : sel p H b = H b := if_pos h
theorem sel_some {p : Addr → Prop} {H : Hp} {b : Addr} {o : HO} (h : sel p H b = some o) : p b ∧ H b = some o := by
  unfold sel at h
  by_cases q : p b
  · rw [if_pos q] at h
    exact ⟨q, h⟩
  · rw [if_neg q] at h
    cases h
theorem sel_same (p : Addr → Prop) (H : Hp) : Same (sel p H) H := fun b o h => (sel_some h).2
theorem sel_mono {p r : Addr → Prop} {H H' : Hp} (s : Same H H') (h : ∀ b, p b → r b) : Same (sel p H) (sel r H') := fun b o e => by
  obtain ⟨h1, h2⟩ := sel_some e
  rw [sel_at (h b h1)]
  exact s _ _ h2
theorem sel_upd {p : Addr → Prop} {H : Hp} {D : Addr} {o : HO} (h : ¬ p D) : sel p (upd H D o) = sel p H := by
  funext b
  unfold sel
  by_cases q : p b
  · rw [if_pos q, if_pos q]
    exact upd_ne (fun z => h (by rw [← z]; exact q))
  · rw [if_neg q, if_neg q]
section
variable {P : Program} {w : World} {K : PySem.W.Frag} {mg : Str → Option Value} {base : Heap} {CD CN CW : Addr}
theorem sc_Way : FnScope ["self", "change", "numbers", "ends"] ["self", "change", "numbers", "ends"] (defScope s_Way) := ⟨rfl, rfl, rfl, by decide +kernel, rfl, by decide +kernel, by decide +kernel⟩
theorem new_way (T : Txt K mg CD CN CW) : OkC P w K mg base 1 "Way" CW ["self", "change", "numbers", "ends"] (sp3 CW "change" "numbers" "ends") := by
  obtain ⟨f, fd, M, F⟩ := T.k_Way.ex
  refine ⟨f, fd, T.k_Way.mgC, M, F.binds (fun _ _ _ _ _ _ us hl => match us, hl with | [_, _, _, _], _ => rfl), F.ok sc_Way (fun vs H Q E h => ?_) (fun cdv A outer s0 H vs Q E hr h => ?_)⟩
  · obtain ⟨p, dx, a, b, c, rfl, _⟩ := h
    rfl
  · obtain ⟨p, dx, a, b, c, rfl, hp, k⟩ := h
    refine ⟨_, ((pss_cons (ps_fld (pv 0) (pv 1) rfl)
      (pss_cons (ps_fld (pv 0) (pv 2) rfl)
      (pss_one (ps_fld (pv 0) (pv 3) rfl))))), ?_⟩
    refine ⟨_, rfl, _, rfl, p, CW, dx, [], rfl, hp, T.k_Way.cl, T.k_Way.no _ (by simp), (by show 0 < 1000; decide), ?_⟩
    refine ⟨_, rfl, _, rfl, p, CW, dx, _, rfl, upd_same, T.k_Way.cl, T.k_Way.no _ (by simp), (by show 1 < 1000; decide), ?_⟩
    refine ⟨_, rfl, _, rfl, p, CW, dx, _, rfl, upd_same, T.k_Way.cl, T.k_Way.no _ (by simp), (by show 2 < 1000; decide), ?_⟩
    refine k _ ?_ fun q o e hq => by rw [upd_ne hq, upd_ne hq, upd_ne hq]; exact e
    rw [upd_same]
    rfl
def spRank (C : Addr) : Sp := fun vs H Q _ => ∃ (p : Addr) (l : List Rg.Dyeing) (W : List (Nat × Nat)) (u : List Nat), vs = [V.ref p] ∧ WayAt C l W H p u ∧ ∀ (H' : Hp) (t : Addr), Same H H' → KeyAt H' t ⟨(Rg.wayCost l u : Nat), (u.length : Nat), intsN u⟩ → Q (.ref t) H'
theorem sc_rank : FnScope ["way"] ["way"] (defScope s_rank) := ⟨rfl, rfl, rfl, by decide +kernel, rfl, by decide +kernel, by decide +kernel⟩
theorem ok_rank (T : Txt K mg CD CN CW) : Ok P w K mg base 1 "rank" ["way"] (spRank CW) := by
  refine T.f_rank.ok sc_rank (fun _ _ _ _ _ _ us hl => match us, hl with | [_], _ => rfl) (fun vs H Q E h => ?_) (fun f cdv A outer s0 H vs Q E hr h => ?_)
  · obtain ⟨p, l, W, u, rfl, _⟩ := h
    rfl
  · obtain ⟨p, l, W, u, rfl, ⟨dx, ln, le, h1, h2, h3⟩, k⟩ := h
    refine ⟨_, ((pss_one (ps_ret (pe_tup (pa_cons (pe_fld (pv 0) rfl) (pa_cons (pe_callB call_len_seq (by rfl) T.b_len PySem.boot_len (pa_cons (pe_fld (pv 0) rfl) pa_nil)) (pa_cons (pe_fld (pv 0) rfl) pa_nil))))))), ?_⟩
    refine ⟨_, rfl, p, CW, dx, _, _, rfl, h1, T.k_Way.cl, T.k_Way.no _ (by simp), lk_change _ _ _, ?_⟩
    refine ⟨_, rfl, p, CW, dx, _, _, rfl, h1, T.k_Way.cl, T.k_Way.no _ (by simp), lk_numbers _ _ _, ln, _, rfl, .inl (SqL.of h2), ?_⟩
    refine ⟨_, rfl, p, CW, dx, _, _, rfl, h1, T.k_Way.cl, T.k_Way.no _ (by simp), lk_numbers _ _ _, (by show 3 ≤ sizeLine; decide), fun t ht => ?_⟩
    refine k _ t (same_new ht) ⟨ln, ?_, ?_⟩
    · rw [upd_same, ints_len]
    · rw [upd_ne (ne_of_none h2 ht), h2]
      unfold intsN vN
      rw [List.map_map]
      rfl
def spLonger (CD CW : Addr) : Sp := fun vs H Q _ => ∃ (p a e : Addr) (l : List Rg.Dyeing) (W : List (Nat × Nat)) (u : List Nat), vs = [V.ref p, V.ref a, V.ref e] ∧ WayAt CW l W H p u ∧ LstOf (DyeAt CD) H a l ∧
  LstOf NatsAt H e (l.map fun d => (List.range W.length).map (endK d.knots W)) ∧ lastR l W 0 u < W.length ∧ l.length ≤ 6 ∧ u.length ≤ 6 ∧ (∀ k ∈ u, k < l.length) ∧
  ∀ (H' : Hp) (q : Addr), Same H H' → H q = none → (∃ qs : List Addr, H' q = some (.lst (qs.map V.ref)) ∧ Paired (WayAt CW l W (sel (fun b => H b = none) H')) qs (longer l W u)) → Q (.ref q) H'
theorem sc_longer_ways : FnScope ["way", "dyeings", "ends", "place", "longer", "number", "dyeing", "end", "change"] ["way", "dyeings", "ends"] (defScope s_longer_ways) := ⟨rfl, rfl, rfl, by decide +kernel, rfl, by decide +kernel, by decide +kernel⟩
theorem inV_nats (c : Nat) : ∀ r : List Nat, inV (V.int (c : Int)) (vN r) = decide (c ∈ r)
  | [] => by simp [inV, vN]
  | x :: r => by
    have ih := inV_nats c r
    unfold inV vN at ih ⊢
    rw [List.map_cons, List.any_cons, ih]
    by_cases h : x = c
    · subst h
      simp [eqV]
    · have h2 : ¬ ((x : Int) = (c : Int)) := fun q => h (by omega)
      have h3 : ¬ c = x := fun q => h q.symm
      simp [eqV, h2, h3]
theorem flat_nats : ∀ r : List Nat, (vN r).all flatV = true
  | [] => rfl
  | x :: r => by
    have ih := flat_nats r
    unfold vN at ih ⊢
    rw [List.map_cons, List.all_cons, ih]
    rfl
/-- longer, up to the i-th dyeing -/
def longTo (l : List Rg.Dyeing) (W : List (Nat × Nat)) (u : List Nat) (i : Nat) : List (List Nat) := ((List.range i).filter fun k => decide (k ∉ u ∧ lastR l W 0 u < stepE l W (lastR l W 0 u) k)).map fun k => u ++ [k]
theorem longTo_next (l : List Rg.Dyeing) (W : List (Nat × Nat)) (u : List Nat) (i : Nat) : longTo l W u (i + 1) = longTo l W u i ++ if i ∉ u ∧ lastR l W 0 u < stepE l W (lastR l W 0 u) i then [u ++ [i]] else [] := by
  unfold longTo
  rw [List.range_succ, List.filter_append, List.map_append]
  congr 1
  by_cases h : i ∉ u ∧ lastR l W 0 u < stepE l W (lastR l W 0 u) i
  · rw [if_pos h, List.filter_cons_of_pos (by simpa using h)]
    rfl
  · rw [if_neg h, List.filter_cons_of_neg (by simpa using h)]
    rfl
theorem longTo_len (l : List Rg.Dyeing) (W : List (Nat × Nat)) (u : List Nat) (i : Nat) : (longTo l W u i).length ≤ i := by
  unfold longTo
  rw [List.length_map]
  exact Nat.le_trans (List.length_filter_le _ _) (by rw [List.length_range]; exact Nat.le_refl _)
theorem cost_one (l : List Rg.Dyeing) (k : Nat) : Rg.wayCost l [k] = 0 := rfl
theorem shade_at {l : List Rg.Dyeing} {k : Nat} {d : Rg.Dyeing} (h : l[k]? = some d) : shadeOf l k = d.shade := by
  unfold shadeOf
  rw [h]
  rfl
theorem knots_at {l : List Rg.Dyeing} {k : Nat} {d : Rg.Dyeing} (h : l[k]? = some d) : knotsOf l k = d.knots := by
  unfold knotsOf
  rw [h]
  rfl
theorem nats_last {r : List Nat} {n : Nat} (h : r.getLast? = some n) : atI (vN r) (-1) = some (V.int (n : Int)) := by
  obtain ⟨ys, rfl⟩ := List.getLast?_eq_some_iff.mp h
  exact ints_last ys n
theorem ok_longer (T : Txt K mg CD CN CW) : Ok P w K mg base 3 "longer_ways" ["way", "dyeings", "ends"] (spLonger CD CW) := by
  have M_Way : OkC P w K mg base 1 "Way" CW ["self", "change", "numbers", "ends"] (sp3 CW "change" "numbers" "ends") := new_way T
  refine T.f_longer_ways.ok sc_longer_ways (fun _ _ _ _ _ _ us hl => match us, hl with | [_, _, _], _ => rfl) (fun vs H Q E h => ?_) (fun f cdv A outer s0 H vs Q E hr h => ?_)
  · obtain ⟨p, a, e, l, W, u, rfl, _⟩ := h
    rfl
  · obtain ⟨p, a, e, l, W, u, rfl, ⟨dx, ln, le, h1, h2, h3⟩, hL, hE, hlast, hl6, hu6, hul, k⟩ := h
    refine ⟨_, ((pss_cons (ps_set (i := 3) sc_longer_ways.nd rfl (Or.inl rfl) (pe_ix ix_list (pe_fld (pv 0) rfl) (pe_un un_neg pe_int) (fun _ _ => rfl)))
      (pss_cons (ps_set (i := 4) sc_longer_ways.nd rfl (Or.inl rfl) (pe_lst pa_nil))
      (pss_cons (ps_for PassesOwn.never rfl (pi_enum rfl T.b_enumerate (pa_cons (pv 1) pa_nil)) (pg_tup rfl (pgs_cons (pg_name (i := 5) sc_longer_ways.nd rfl (Or.inl rfl)) (pgs_cons (pg_name (i := 6) sc_longer_ways.nd rfl (Or.inl rfl)) pgs_nil)))
      (pss_cons (ps_set (i := 7) sc_longer_ways.nd rfl (Or.inl rfl) (pe_ix ix_list (pe_ix ix_list (pv 2) (pv 5) (fun _ _ => rfl)) (pv 3) (fun _ _ => rfl)))
      (pss_one (ps_if (pt_w (pw_and (pt_cmpR op_notIn_seq (pv 5) (pe_fld (pv 0) rfl) (by with_unfolding_all rfl)) (pw_and1 (pt_cmpR op_gt (pv 7) (pv 3) (nomark _))))) (pss_cons (ps_set (i := 8) sc_longer_ways.nd rfl (Or.inl rfl) (pe_fld (pv 0) rfl))
      (pss_cons (ps_if (pt_cmpR op_gt (pe_callB call_len_seq (by rfl) T.b_len PySem.boot_len (pa_cons (pe_fld (pv 0) rfl) pa_nil)) pe_int (nomark _)) (pss_one (ps_aug (i := 8) sc_longer_ways.nd rfl (Or.inl rfl) (pe_callB call_abs (by rfl) T.b_abs boot_abs (pa_cons (pe_op op_sub (pe_fld (pv 6) rfl) (pe_fld (pe_ix ix_list (pv 1) (pe_ix ix_list (pe_fld (pv 0) rfl) (pe_un un_neg pe_int) (fun _ _ => rfl)) (fun _ _ => rfl)) rfl)) pa_nil)) ip_add)) pss_nil)
      (pss_one (ps_expr (pe_bm PySem.F.plainAttrs_list PySem.F.slot_list_append PySem.F.type_list_append mt_append (pv 4) (pa_cons (pe_new3 M_Way hr rfl (pa_cons (pv 8) (pa_cons (pe_op op_cat (pe_fld (pv 0) rfl) (pe_lst (pa_cons (pv 5) pa_nil))) (pa_cons (pe_op op_cat (pe_fld (pv 0) rfl) (pe_lst (pa_cons (pv 7) pa_nil))) pa_nil)))) pa_nil)))))) pss_nil))))
      (pss_one (ps_ret (pv 4))))))), ?_⟩
    have hW := T.k_Way.cl
    obtain ⟨ps, ha, hps⟩ := hL
    have hpl : ps.length = l.length := hps.length
    refine ⟨_, rfl, p, CW, dx, _, _, rfl, h1, hW, T.k_Way.no _ (by simp), lk_ends _ _ _, _, rfl, le, _, _, _, rfl, rfl, SqL.of h3, nats_last (endsR_last l W u 0), ?_⟩
    refine ⟨Nat.zero_le _, fun q hq => ?_⟩
    have s1 : Same H (upd H q (.lst [])) := same_new hq
    refine ⟨_, rfl, a, _, rfl, s1.seq (SqL.of ha), ?_⟩
    refine for_enum (xs := ps.map V.ref) (fun i σ H' => ∃ (qs : List Addr) (v5 v6 v7 v8 : Option V), σ = [some (V.ref p), some (V.ref a), some (V.ref e), some (V.int (lastR l W 0 u : Nat)), some (V.ref q), v5, v6, v7, v8] ∧ Same H H' ∧
        H' q = some (.lst (qs.map V.ref)) ∧ Paired (WayAt CW l W (sel (fun b => H b = none ∧ b ≠ q) H')) qs (longTo l W u i))
      ⟨[], none, none, none, none, rfl, s1, upd_same, .nil⟩ (fun i σ H' _ h => by obtain ⟨_, _, _, _, _, _, s2, _⟩ := h; exact s2.seq (SqL.of ha)) ?_ ?_
    · rintro i x σ H1 T0 hx ⟨qs, v5, v6, v7, v8, rfl, s2, hq1, hqs⟩ hT
      rw [List.getElem?_map] at hx
      obtain ⟨pd, hp, rfl⟩ := Option.map_eq_some_iff.mp hx
      obtain ⟨d, hd, dxd, hd1⟩ := paired_get' hps hp
      have hil : i < l.length := (List.getElem?_eq_some_iff.mp hd).1
      have s3 : Same H1 (upd H1 T0 (.tup [V.int (i : Nat), V.ref pd])) := same_new hT
      have s4 := s2.trans s3
      refine ⟨T0, _, rfl, SqT.of upd_same, rfl, _, _, rfl, _, _, rfl, rfl, ?_⟩
      generalize hH2 : upd H1 T0 (.tup [V.int (i : Nat), V.ref pd]) = H2 at s3 s4 ⊢
      -- end = ends[number][place]
      obtain ⟨vs, pe, g1, g2, g3, g4⟩ := hE.get (i := i) (x := (List.range W.length).map (endK d.knots W)) (by rw [List.getElem?_map, hd]; rfl)
      have g5 : (vN ((List.range W.length).map (endK d.knots W)))[lastR l W 0 u]? = some (V.int (stepE l W (lastR l W 0 u) i : Nat)) := vN_at (by
        rw [List.getElem?_map, List.getElem?_range hlast]
        unfold stepE
        rw [knots_at hd]
        rfl)
      refine ⟨_, rfl, _, rfl, e, _, _, _, rfl, rfl, SqL.of (s4 _ _ g1), at_of rfl g3, _, rfl, pe, _, _, _, rfl, rfl, SqL.of (s4 _ _ g4), at_of rfl g5, ?_⟩
      have nx := longTo_next l W u i
      refine ⟨_, rfl, _, rfl, p, CW, dx, _, _, rfl, s4 _ _ h1, hW, T.k_Way.no _ (by simp), lk_numbers _ _ _, ln, _, rfl, .inl (SqL.of (s4 _ _ h2)), rfl, flat_nats u, _, rfl, ?_⟩
      have hq2 := s3 _ _ hq1
      have skip : (¬ (i ∉ u ∧ lastR l W 0 u < stepE l W (lastR l W 0 u) i)) → Paired (WayAt CW l W (sel (fun b => H b = none ∧ b ≠ q) H2)) qs (longTo l W u (i + 1)) := fun g => by
        rw [nx, if_neg g, List.append_nil]
        exact paired_map hqs fun _ _ => WayAt.same (sel_mono s3 fun _ z => z)
      show if (!inV (V.int (i : Nat)) (vN u)) = true then _ else _
      rw [inV_nats]
      refine ite2 (fun g => ?_) (fun g => ?_)
      · have g6 : i ∉ u := fun z => by
          rw [decide_eq_true z] at g
          cases g
        refine ⟨_, rfl, _, rfl, _, _, rfl, rfl, _, rfl, ?_⟩
        refine ite2 (fun g => ?_) (fun g => ?_)
        · have g7 : lastR l W 0 u < stepE l W (lastR l W 0 u) i := by
            have := of_decide_eq_true g
            omega
          rw [if_pos ⟨g6, g7⟩] at nx
          refine ⟨_, rfl, p, CW, dx, _, _, rfl, s4 _ _ h1, hW, T.k_Way.no _ (by simp), lk_change _ _ _, ?_⟩
          refine ⟨_, rfl, p, CW, dx, _, _, rfl, s4 _ _ h1, hW, T.k_Way.no _ (by simp), lk_numbers _ _ _, ln, _, rfl, .inl (SqL.of (s4 _ _ h2)), _, _, rfl, rfl, _, rfl, ?_⟩
          rw [ints_len]
          refine ite2 (fun g => ?yes) (fun g => ?no)
          case' yes =>
            have g8 : 0 < u.length := by
              have := of_decide_eq_true g
              omega
            obtain ⟨u', x0, hu0⟩ : ∃ u' x0, u = u' ++ [x0] := ⟨u.dropLast, u.getLast (fun z => by rw [z] at g8; simp at g8), (List.dropLast_concat_getLast _).symm⟩
            have hx0 : x0 < l.length := hul x0 (by rw [hu0]; simp)
            have hd0 : l[x0]? = some l[x0] := List.getElem?_eq_getElem hx0
            obtain ⟨p0, hp0, dx0, hp01⟩ := paired_get hps hd0
            have hlst : u.getLast? = some x0 := by rw [hu0, List.getLast?_concat]
            refine ⟨_, rfl, _, rfl, pd, CD, dxd, _, _, rfl, s4 _ _ hd1, T.k_Dyeing.cl, T.k_Dyeing.no _ (by simp), lk_shade _ _, _, rfl, _, rfl, p, CW, dx, _, _, rfl, s4 _ _ h1, hW, T.k_Way.no _ (by simp), lk_numbers _ _ _, _, rfl, ln, _, _, _, rfl, rfl, SqL.of (s4 _ _ h2), nats_last hlst,
              a, _, _, _, rfl, rfl, SqL.of (s4 _ _ ha), at_of rfl (by rw [List.getElem?_map, hp0]; rfl), p0, CD, dx0, _, _, rfl, s4 _ _ hp01, T.k_Dyeing.cl, T.k_Dyeing.no _ (by simp), lk_shade _ _, _, _, rfl, rfl, _, rfl, _, _, rfl, rfl, ?_⟩
            have hc : ((Rg.wayCost l u : Nat) : Int) + (if (d.shade : Int) - (l[x0].shade : Int) < 0 then -((d.shade : Int) - (l[x0].shade : Int)) else (d.shade : Int) - (l[x0].shade : Int)) = ((Rg.wayCost l (u ++ [i]) : Nat) : Int) := by
              have e1 := cost_snoc l u' x0 i
              rw [← hu0, shade_at hd0, shade_at hd] at e1
              rw [e1]
              unfold Rg.apartBy
              split <;> split <;> omega
          case' no =>
            have hu0 : u = [] := by
              have : ¬ (0 : Int) < ((u.length : Nat) : Int) := fun z => g (decide_eq_true z)
              exact List.length_eq_zero_iff.mp (by omega)
            have hc : ((Rg.wayCost l u : Nat) : Int) = ((Rg.wayCost l (u ++ [i]) : Nat) : Int) := by
              rw [hu0]
              rfl
          all_goals
            refine ⟨_, rfl, tyV_list (SqL.of hq2), _, rfl, _, rfl, p, CW, dx, _, _, rfl, s4 _ _ h1, hW, T.k_Way.no _ (by simp), lk_numbers _ _ _, _, rfl, (by show 1 ≤ sizeLine; decide), fun n1 hn1 => ?_⟩
            have t1 := same_new (o := .lst [V.int (i : Nat)]) hn1
            refine ⟨ln, n1, _, _, rfl, rfl, t1 _ _ (s4 _ _ h2), upd_same, (by rw [ints_len]; show u.length + 1 ≤ sizeLine; rw [sizeLine_eq]; omega), fun n2 hn2 => ?_⟩
            have t2 := same_new (o := .lst (vN u ++ [V.int (i : Nat)])) hn2
            have t12 := t1.trans t2
            refine ⟨_, rfl, p, CW, dx, _, _, rfl, t12 _ _ (s4 _ _ h1), hW, T.k_Way.no _ (by simp), lk_ends _ _ _, _, rfl, (by show 1 ≤ sizeLine; decide), fun e1 he1 => ?_⟩
            have t3 := same_new (o := .lst [V.int (stepE l W (lastR l W 0 u) i : Nat)]) he1
            have t13 := t12.trans t3
            refine ⟨le, e1, _, _, rfl, rfl, t13 _ _ (s4 _ _ h3), upd_same, (by rw [ints_len, endsR_len]; show u.length + 1 + 1 ≤ sizeLine; rw [sizeLine_eq]; omega), fun e2 he2 => ?_⟩
            have t4 := same_new (o := .lst (vN (endsR l W 0 u) ++ [V.int (stepE l W (lastR l W 0 u) i : Nat)])) he2
            refine ⟨_, _, _, rfl, fun H5 y dy hy s5 hy2 => ?_⟩
            have t5 := (t13.trans t4).trans s5
            have hq5 := t5 _ _ hq2
            have qlen : qs.length ≤ 6 := by
              have z1 : qs.length = _ := hqs.length
              have z2 := longTo_len l W u i
              omega
            refine ⟨q, _, _, rfl, rfl, hq5, small (by rw [List.length_map]; omega), ?_⟩
            refine ⟨qs ++ [y], _, _, _, _, rfl, same_upd hq (s4.trans t5), by rw [upd_same, List.map_append]; rfl, ?_⟩
            rw [sel_upd (fun z => z.2 rfl), nx]
            have yq : y ≠ q := fun z => by
              rw [z, t4 _ _ (t13 _ _ hq2)] at hy
              cases hy
            have nq : n2 ≠ q := fun z => by
              rw [z, t1 _ _ hq2] at hn2
              cases hn2
            have eq0 : e2 ≠ q := fun z => by
              rw [z, t13 _ _ hq2] at he2
              cases he2
            refine paired_snoc (paired_map hqs fun _ _ => WayAt.same (sel_mono (s3.trans t5) fun _ z => z)) ⟨dy, n2, e2, ?_, ?_, ?_⟩
            · rw [sel_at ⟨((s4.trans t13).trans t4).free hy, yq⟩, ← hc]
              exact hy2
            · rw [sel_at ⟨(s4.trans t1).free hn2, nq⟩, ints_snoc]
              exact s5 _ _ (t4 _ _ (t3 _ _ upd_same))
            · rw [sel_at ⟨(s4.trans t13).free he2, eq0⟩, endsR_snoc, ints_snoc]
              exact s5 _ _ upd_same
        · exact ⟨qs, _, _, _, _, rfl, s4, hq2, skip fun z => g (decide_eq_true (by have := z.2; omega))⟩
      · refine ⟨qs, _, _, _, _, rfl, s4, hq2, skip fun z => g ?_⟩
        rw [decide_eq_false z.1]
        rfl
    · rintro σ H1 ⟨qs, v5, v6, v7, v8, rfl, s2, hq1, hqs⟩
      rw [List.length_map, hpl] at hqs
      exact ⟨_, rfl, k H1 q s2 hq ⟨qs, hq1, paired_map hqs fun _ _ => WayAt.same (sel_mono (Same.refl _) fun _ z => z.1)⟩⟩
end

end Wj

set_option Elab.async false
set_option linter.all false
set_option maxRecDepth 100000
set_option maxHeartbeats 2000000
namespace Wj
open PySem PySem.Spec PyProof.Rows L2 Wl Wd
/-! ### the way that's told -/
def keyOf (l : List Rg.Dyeing) (u : List Nat) : Key3 := ⟨(Rg.wayCost l u : Nat), (u.length : Nat), intsN u⟩
theorem lex_sooner : ∀ {a b : List Nat}, a.length = b.length → HT.lexLt (intsN a) (intsN b) = Rg.sooner a b
  | [], [], _ => rfl
  | [], _ :: _, h => by simp at h
  | _ :: _, [], h => by simp at h
  | x :: a, y :: b, h => by
    have ih := lex_sooner (a := a) (b := b) (by simpa using h)
    show HT.lexLt ((x : Int) :: intsN a) ((y : Int) :: intsN b) = (decide (x < y) || (x == y && Rg.sooner a b))
    rw [HT.lexLt_cons, ih]
    by_cases e : x = y
    · subst e
      simp
    · rw [if_neg (by omega)]
      have e2 : (x == y) = false := by simpa using e
      rw [e2, Bool.false_and, Bool.or_false]
      by_cases g : x < y
      · rw [decide_eq_true g, decide_eq_true (by omega)]
      · rw [decide_eq_false g, decide_eq_false (by omega)]
theorem intsN_inj : ∀ {a b : List Nat}, intsN a = intsN b → a = b
  | [], [], _ => rfl
  | [], _ :: _, h => by simp [intsN] at h
  | _ :: _, [], h => by simp [intsN] at h
  | x :: a, y :: b, h => by
    obtain ⟨h1, h2⟩ := List.cons.inj (show (x : Int) :: intsN a = (y : Int) :: intsN b from h)
    rw [intsN_inj h2, show x = y by omega]
theorem key_before (l : List Rg.Dyeing) (u v : List Nat) : (keyOf l u).lt (keyOf l v) = Rg.wayBefore l u v := by
  rw [Bool.eq_iff_iff, before_iff]
  show (if ((Rg.wayCost l u : Nat) : Int) = ((Rg.wayCost l v : Nat) : Int) then (if ((u.length : Nat) : Int) = ((v.length : Nat) : Int) then (if intsN u = intsN v then false else HT.lexLt (intsN u) (intsN v)) else decide (((u.length : Nat) : Int) < ((v.length : Nat) : Int))) else decide (((Rg.wayCost l u : Nat) : Int) < ((Rg.wayCost l v : Nat) : Int))) = true ↔ _
  by_cases h1 : Rg.wayCost l u = Rg.wayCost l v
  · rw [if_pos (by omega)]
    by_cases h2 : u.length = v.length
    · rw [if_pos (by omega)]
      by_cases h3 : u = v
      · subst h3
        rw [if_pos rfl, sooner_irr]
        simp
      · rw [if_neg (fun q => h3 (intsN_inj q)), lex_sooner h2]
        constructor
        · intro q
          exact Or.inr ⟨h1, Or.inr ⟨h2, q⟩⟩
        · rintro (q | ⟨_, q | ⟨_, q⟩⟩)
          · omega
          · omega
          · exact q
    · rw [if_neg (by omega), decide_eq_true_eq]
      constructor
      · intro q
        exact Or.inr ⟨h1, Or.inl (by omega)⟩
      · rintro (q | ⟨_, q | ⟨q, _⟩⟩)
        · omega
        · omega
        · exact absurd q h2
  · rw [if_neg (by omega), decide_eq_true_eq]
    constructor
    · intro q
      exact Or.inl (by omega)
    · rintro (q | ⟨q, _⟩)
      · omega
      · exact absurd q h1
def spTold (CD CN CW : Addr) : Sp := fun vs H Q _ => ∃ (a b : Addr) (l : List Rg.Dyeing) (W : List (Nat × Nat)), vs = [V.ref a, V.ref b] ∧ LstOf (NeedAt CN) H a W ∧ LstOf (DyeAt CD) H b l ∧ W.length ≤ 70000 ∧ l.length ≤ 6 ∧
  (Rg.bestWay l W = none → ∀ H' : Hp, Same H H' → Q .non H') ∧ ∀ u, Rg.bestWay l W = some u → ∀ (H' : Hp) (p : Addr), Same H H' → WayAt CW l W H' p u → Q (.ref p) H'
section
variable {P : Program} {w : World} {K : PySem.W.Frag} {mg : Str → Option Value} {base : Heap} {CD CN CW : Addr}
theorem sc_told_way : FnScope ["wanted", "dyeings", "ends", "dyeing", "begun", "going", "unfinished", "way"] ["wanted", "dyeings"] (defScope s_told_way) := ⟨rfl, rfl, rfl, by decide +kernel, rfl, by decide +kernel, by decide +kernel⟩
theorem lv_pow {l : List Rg.Dyeing} {W : List (Nat × Nat)} (hl : l.length ≤ 6) : ∀ (B : List (List Nat)), (B.flatMap (longer l W)).length ≤ 6 * B.length
  | [] => Nat.le_refl _
  | u :: B => by
    rw [List.flatMap_cons, List.length_append, List.length_cons]
    have h1 := lv_pow (W := W) hl B
    have h2 := longer_len l W u
    omega
theorem paired_append {α β : Type} {F : α → β → Prop} : ∀ {l l' : List α} {m m' : List β}, Paired F l m → Paired F l' m' → Paired F (l ++ l') (m ++ m')
  | _, _, _, _, .nil, h => h
  | _, _, _, _, .cons r t, h => .cons r (paired_append t h)
theorem take_filter_next {α : Type} {f : α → Bool} {l : List α} {i : Nat} {x : α} (h : l[i]? = some x) : (l.take (i + 1)).filter f = (l.take i).filter f ++ if f x = true then [x] else [] := by
  rw [List.take_add_one, h, List.filter_append]
  congr 1
  show List.filter f [x] = _
  by_cases q : f x = true
  · rw [if_pos q, List.filter_cons_of_pos q]
    rfl
  · rw [if_neg q, List.filter_cons_of_neg q]
    rfl
/-- the loop: n the level, B begun, G going; H2 the heap ahead of going's list at gA -/
def WTold (CW : Addr) (l : List Rg.Dyeing) (W : List (Nat × Nat)) (a b e gA : Addr) (H2 : Hp) : Nat → L2.St → Hp → Prop := fun m σ H' => ∃ (n : Nat) (B G : List (List Nat)) (bA : Addr) (pB pG : List Addr) (v6 v7 : Option V), m = 8 - n ∧
  σ = [some (V.ref a), some (V.ref b), some (V.ref e), none, some (V.ref bA), some (V.ref gA), v6, v7] ∧ Same H2 H' ∧ bA ≠ gA ∧ H' gA = some (.lst (pG.map V.ref)) ∧ H' bA = some (.lst (pB.map V.ref)) ∧
  Paired (WayAt CW l W (off gA H')) pG G ∧ Paired (WayAt CW l W (off gA H')) pB B ∧ (∀ u, u ∈ B ↔ Lv l W n u) ∧ (∀ u, u ∈ G ↔ u.length < n ∧ Goes l W u) ∧ n ≤ 7 ∧ B.length ≤ 6 ^ n ∧ G.length ≤ n * 300000
theorem ok_told (T : Txt K mg CD CN CW) : Ok P w K mg base 4 "told_way" ["wanted", "dyeings"] (spTold CD CN CW) := by
  have C_ends_from_each : Ok P w K mg base 3 "ends_from_each" ["wanted", "knots"] (spEnds CN) := (ok_ends T).mono (by decide)
  have C_longer_ways : Ok P w K mg base 3 "longer_ways" ["way", "dyeings", "ends"] (spLonger CD CW) := ok_longer T
  have C_rank : Ok P w K mg base 2 "rank" ["way"] (spRank CW) := (ok_rank T).mono (by decide)
  have M_Way : OkC P w K mg base 2 "Way" CW ["self", "change", "numbers", "ends"] (sp3 CW "change" "numbers" "ends") := (new_way T).mono (by decide)
  refine T.f_told_way.ok sc_told_way (fun _ _ _ _ _ _ us hl => match us, hl with | [_, _], _ => rfl) (fun vs H Q E h => ?_) (fun f cdv A outer s0 H vs Q E hr h => ?_)
  · obtain ⟨a, b, l, W, rfl, _⟩ := h
    rfl
  · obtain ⟨a, b, l, W, rfl, hA, hB, hW, hl6, kN, kS⟩ := h
    refine ⟨_, ((pss_cons (ps_setLc (i := 2) rfl sc_told_way.nd rfl rfl rfl (pi_list (pv 1)) (own := [("dyeing", 3)]) (blk_ok ["wanted", "dyeings", "ends", "dyeing", "begun", "going", "unfinished", "way"] (defScope s_told_way) rfl (by decide +kernel) (by decide +kernel) (by decide +kernel) (by decide +kernel)) (fun _ _ _ _ _ => (pg_name (i := 3) sc_told_way.nd rfl (Or.inl rfl))) (fun _ _ _ _ _ => pts_nil) (fun _ _ _ _ _ => (pe_fn C_ends_from_each hr rfl (pa_cons (pv 0) (pa_cons (pe_fldK (K := K) rfl (pv 3) rfl) pa_nil)))))
      (pss_cons (ps_set (i := 4) sc_told_way.nd rfl (Or.inl rfl) (pe_lst (pa_cons (pe_new3 M_Way hr rfl (pa_cons pe_int (pa_cons (pe_lst pa_nil) (pa_cons (pe_lst (pa_cons pe_int pa_nil)) pa_nil)))) pa_nil)))
      (pss_cons (ps_set (i := 5) sc_told_way.nd rfl (Or.inl rfl) (pe_lst pa_nil))
      (pss_cons (ps_while PassesOwn.never (pt_cmpR op_gt (pe_callB call_len_seq (by rfl) T.b_len PySem.boot_len (pa_cons (pv 4) pa_nil)) pe_int (nomark _))
      (pss_cons (ps_expr (pe_bm PySem.F.plainAttrs_list PySem.F.slot_list_extend PySem.F.type_list_extend mt_extend (pv 5) (pa_cons (pe_lc rfl sc_told_way.nd (pi_list (pv 4)) (own := [("way", 7)]) (blk_ok ["wanted", "dyeings", "ends", "dyeing", "begun", "going", "unfinished", "way"] (defScope s_told_way) rfl (by decide +kernel) (by decide +kernel) (by decide +kernel) (by decide +kernel)) (fun _ _ _ _ _ => (pg_name (i := 7) sc_told_way.nd rfl (Or.inl rfl))) (fun _ _ _ _ _ => (pts_one (pt_cmpR op_eq (pe_ix (ix_listK (K := K) rfl) (pe_fldK (K := K) rfl (pv 7) rfl) (pe_un un_neg pe_int) (fun _ _ => rfl)) (pe_callB (call_lenK (K := K) rfl) (by rfl) T.b_len PySem.boot_len (pa_cons (pv 0) pa_nil)) (nomark _)))) (fun _ _ _ _ _ => (pv 7))) pa_nil)))
      (pss_cons (ps_setLc (i := 6) rfl sc_told_way.nd rfl rfl rfl (pi_list (pv 4)) (own := [("way", 7)]) (blk_ok ["wanted", "dyeings", "ends", "dyeing", "begun", "going", "unfinished", "way"] (defScope s_told_way) rfl (by decide +kernel) (by decide +kernel) (by decide +kernel) (by decide +kernel)) (fun _ _ _ _ _ => (pg_name (i := 7) sc_told_way.nd rfl (Or.inl rfl))) (fun _ _ _ _ _ => (pts_one (pt_cmpR op_lt (pe_ix (ix_listK (K := K) rfl) (pe_fldK (K := K) rfl (pv 7) rfl) (pe_un un_neg pe_int) (fun _ _ => rfl)) (pe_callB (call_lenK (K := K) rfl) (by rfl) T.b_len PySem.boot_len (pa_cons (pv 0) pa_nil)) (nomark _)))) (fun _ _ _ _ _ => (pv 7)))
      (pss_cons (ps_set (i := 4) sc_told_way.nd rfl (Or.inl rfl) (pe_lst pa_nil))
      (pss_one (ps_for PassesOwn.never rfl (pi_list (pv 6)) (pg_name (i := 7) sc_told_way.nd rfl (Or.inl rfl))
      (pss_one (ps_expr (pe_bm PySem.F.plainAttrs_list PySem.F.slot_list_extend PySem.F.type_list_extend mt_extend (pv 4) (pa_cons (pe_fn C_longer_ways hr rfl (pa_cons (pv 7) (pa_cons (pv 1) (pa_cons (pv 2) pa_nil)))) pa_nil))))))))))
      (pss_one (ps_ret (pe_min C_rank hr rfl T.b_min rfl (pv 5))))))))), ?_⟩
    have hB0 := hB
    obtain ⟨ps, hb, hps⟩ := hB0
    have hpl : ps.length = l.length := hps.length
    -- ends
    refine ⟨_, rfl, b, rfl, ⟨_, SqL.of hb⟩, fun e he => ?_⟩
    refine lcl0 (xs := ps.map V.ref) (fun i acc H' => ∃ qs : List Addr, acc = qs.map V.ref ∧ Paired (NatsAt H') qs ((l.take i).map fun d => (List.range W.length).map (endK d.knots W))) he (SqL.of hb) ⟨[], rfl, .nil⟩ ?_ ?_
    · rintro i x acc H1 hx s1 hH ⟨qs, rfl, hqs⟩
      rw [List.getElem?_map] at hx
      obtain ⟨pd, hp, rfl⟩ := Option.map_eq_some_iff.mp hx
      obtain ⟨d, hd, dxd, hd1⟩ := paired_get' hps hp
      have hil : i < l.length := (List.getElem?_eq_some_iff.mp hd).1
      refine ⟨rfl, ?_⟩
      refine ⟨_, rfl, _, rfl, pd, CD, dxd, _, _, rfl, s1 _ _ hd1, T.k_Dyeing.cl, T.k_Dyeing.no _ (by simp), lk_dknots _ _, a, d.knots, W, rfl, needs_same s1 hA, hW, fun H2 y s2 hy hy2 => ?_⟩
      have hql : qs.length ≤ 6 := by
        have e1 : qs.length = _ := hqs.length
        rw [List.length_map, List.length_take] at e1
        omega
      have hyD : y ≠ e := fun q => by rw [q, hH] at hy; cases hy
      refine LcN.put he s1 hH s2 (by rw [List.length_map]; omega) ⟨qs ++ [y], by rw [List.map_append]; rfl, ?_⟩
      rw [take_map_next hd]
      refine paired_snoc (paired_map hqs fun _ _ => NatsAt.same (Same.off s2)) ?_
      unfold NatsAt
      rw [off_at hyD]
      exact hy2
    · rintro acc H1 s1 hH ⟨es, rfl, hes⟩
      rw [List.length_map, hpl, List.take_length] at hes
      have hE1 : LstOf NatsAt H1 e (l.map fun d => (List.range W.length).map (endK d.knots W)) := ⟨es, hH, paired_map hes fun _ _ => NatsAt.same (off_same _ _)⟩
      -- begun, going
      refine ⟨Nat.zero_le _, fun n1 hn1 => ⟨(by show 1 ≤ sizeLine; decide), fun e1 he1 => ⟨_, _, _, rfl, fun H2 y dy hy s2 hy2 => ⟨(by show 1 ≤ sizeLine; decide), fun b0 hb0 => ⟨Nat.zero_le _, fun gA hg => ?_⟩⟩⟩⟩⟩
      have hy3 : upd H2 b0 (.lst [V.ref y]) y = some (.ins CW dy [("change", .int 0), ("numbers", .ref n1), ("ends", .ref e1)]) := same_new hb0 _ _ hy2
      have t1 : Same H (upd H2 b0 (.lst [V.ref y])) := (((s1.trans (same_new hn1)).trans (same_new he1)).trans s2).trans (same_new hb0)
      have t2 : Same H1 (upd H2 b0 (.lst [V.ref y])) := (((same_new hn1).trans (same_new he1)).trans s2).trans (same_new hb0)
      have hw0 : WayAt CW l W (upd H2 b0 (.lst [V.ref y])) y [] := ⟨dy, n1, e1, hy3, same_new hb0 _ _ (s2 _ _ (same_new he1 _ _ upd_same)), same_new hb0 _ _ (s2 _ _ upd_same)⟩
      have hb3 : upd H2 b0 (.lst [V.ref y]) b0 = some (.lst [V.ref y]) := upd_same
      generalize upd H2 b0 (.lst [V.ref y]) = H3 at hg hy3 t1 t2 hw0 hb3 ⊢
      have hbg0 : b0 ≠ gA := ne_of_none hb3 hg
      refine ⟨WTold CW l W a b e gA H3, ⟨8, 0, [[]], [], b0, [y], [], none, none, rfl, rfl, same_new hg, hbg0, upd_same, same_new hg _ _ hb3, .nil, .cons (by rw [off_upd, off_free hg]; exact hw0) .nil, lv_zero l W, fun u => ⟨fun q => (by cases q), fun q => absurd q.1 (Nat.not_lt_zero _)⟩, by omega, by decide, by decide⟩, ?_⟩
      rintro m σ H4 ⟨n, B, G, bA, pB, pG, v6, v7, rfl, rfl, s3, hbg, hgA, hbA, hG, hBp, mB, mG, hn, lB, lG⟩
      have hBl : pB.length = B.length := hBp.length
      have hGl : pG.length = G.length := hG.length
      have hA3 := needs_same (t1.trans s3) hA
      obtain ⟨pa, ha4, hpa⟩ := hA3
      have hpa0 : pa.length = W.length := hpa.length
      have o4 : Same (off gA H4) H4 := off_same _ _
      refine ⟨_, rfl, bA, _, rfl, .inl (SqL.of hbA), _, _, rfl, rfl, _, rfl, ?_⟩
      rw [List.length_map, hBl]
      refine ite2 (fun g => ?_) (fun g => ?_)
      · have g1 : 0 < B.length := by
          have := of_decide_eq_true g
          omega
        have hn6 : n ≤ 6 := by
          have := lv_few l W ((mB B[0]).mp (List.getElem_mem g1))
          omega
        have hpw : 6 ^ n ≤ 46656 := Nat.le_trans (Nat.pow_le_pow_right (by decide) hn6) (by decide)
        refine ⟨fun σ' H'' => ∃ m', m' < 8 - n ∧ WTold CW l W a b e gA H3 m' σ' H'', fun _ _ q => q, ?_⟩
        -- going.extend(..)
        refine ⟨_, rfl, tyV_list (SqL.of hgA), _, rfl, bA, rfl, ⟨_, SqL.of hbA⟩, fun D1 hD1 => ?_⟩
        refine lcl (xs := pB.map V.ref) (fun i acc _ => ∃ qs : List Addr, acc = qs.map V.ref ∧ Paired (WayAt CW l W (off gA H4)) qs ((B.take i).filter fun u => decide (lastR l W 0 u = W.length))) hD1 (SqL.of hbA) ⟨[], rfl, .nil⟩ ?_ ?_
        · rintro i x acc H5 hx s5 hH ⟨qs, rfl, hqs⟩
          rw [List.getElem?_map] at hx
          obtain ⟨p, hp, rfl⟩ := Option.map_eq_some_iff.mp hx
          obtain ⟨u, hu, hw⟩ := paired_get' hBp hp
          obtain ⟨dx, ln, le, h1, h2, h3⟩ := hw.same (o4.trans s5)
          have nx := take_filter_next (f := fun u => decide (lastR l W 0 u = W.length)) hu
          have hql : qs.length ≤ 46656 := by
            have e1 : qs.length = _ := hqs.length
            have e2 : ((B.take i).filter fun u => decide (lastR l W 0 u = W.length)).length ≤ (B.take i).length := List.length_filter_le _ _
            rw [List.length_take] at e2
            omega
          refine ⟨rfl, ?_⟩
          refine ⟨_, rfl, p, CW, dx, _, _, rfl, h1, T.k_Way.cl, T.k_Way.no _ (by simp), lk_ends _ _ _, _, rfl, le, _, _, _, rfl, rfl, SqL.of h3, nats_last (endsR_last l W u 0), _, rfl, a, _, rfl, .inl (SqL.of (s5 _ _ ha4)), rfl, _, rfl, ?_⟩
          rw [List.length_map, hpa0]
          refine ite2 (fun g => ?_) (fun g => ?_)
          · have g2 : lastR l W 0 u = W.length := by
              have := V.int.inj (of_decide_eq_true g)
              omega
            rw [if_pos (decide_eq_true g2)] at nx
            refine ⟨_, rfl, LcN.put hD1 s5 hH (Same.refl _) (by rw [List.length_map]; omega) ⟨qs ++ [p], by rw [List.map_append]; rfl, ?_⟩⟩
            rw [nx]
            exact paired_snoc hqs hw
          · have g2 : ¬ lastR l W 0 u = W.length := fun q => g (decide_eq_true (by rw [q]))
            rw [if_neg (by simpa using g2), List.append_nil] at nx
            refine LcN.skip s5 hH (Same.refl _) ⟨qs, rfl, ?_⟩
            rw [nx]
            exact hqs
        · rintro acc H5 s5 hH5 ⟨qs, rfl, hqs⟩
          rw [List.length_map, hBl, List.take_length] at hqs
          have hqsl : qs.length ≤ 46656 := by
            have e1 : qs.length = _ := hqs.length
            have e2 : (B.filter fun u => decide (lastR l W 0 u = W.length)).length ≤ B.length := List.length_filter_le _ _
            omega
          have hg5 := s5 _ _ hgA
          refine ⟨gA, D1, _, _, rfl, rfl, hg5, hH5, (by rw [List.length_map, List.length_map, sizeLine_eq]; omega), ?_⟩
          have s6 : Same (off gA H4) (upd H5 gA (.lst (pG.map V.ref ++ qs.map V.ref))) := fun c o h => by
            have hc : c ≠ gA := fun q => by
              unfold off at h
              rw [if_pos q] at h
              cases h
            rw [upd_ne hc]
            exact s5 _ _ (o4 _ _ h)
          have hg6 : upd H5 gA (.lst (pG.map V.ref ++ qs.map V.ref)) gA = some (.lst ((pG ++ qs).map V.ref)) := by rw [upd_same, List.map_append]
          have u6 : Same H3 (upd H5 gA (.lst (pG.map V.ref ++ qs.map V.ref))) := same_upd hg (s3.trans s5)
          generalize upd H5 gA (.lst (pG.map V.ref ++ qs.map V.ref)) = H6 at s6 hg6 u6 ⊢
          have hbA6 : H6 bA = some (.lst (pB.map V.ref)) := s6 _ _ (by rw [off_at hbg]; exact hbA)
          have ha6 : H6 a = some (.lst (pa.map V.ref)) := by
            obtain ⟨pa', z1, _⟩ := needs_same (t1.trans u6) hA
            have z2 := needs_same t1 hA
            obtain ⟨pa2, z3, _⟩ := z2
            have z4 := s3 _ _ z3
            rw [ha4] at z4
            rw [u6 _ _ z3]
            exact z4.symm
          -- unfinished
          refine ⟨_, rfl, bA, rfl, ⟨_, SqL.of hbA6⟩, fun D2 hD2 => ?_⟩
          refine lcl (xs := pB.map V.ref) (fun i acc _ => ∃ qs : List Addr, acc = qs.map V.ref ∧ Paired (WayAt CW l W (off gA H4)) qs ((B.take i).filter fun u => decide (lastR l W 0 u < W.length))) hD2 (SqL.of hbA6) ⟨[], rfl, .nil⟩ ?_ ?_
          · rintro i x acc H7 hx s7 hH ⟨qs, rfl, hqs⟩
            rw [List.getElem?_map] at hx
            obtain ⟨p, hp, rfl⟩ := Option.map_eq_some_iff.mp hx
            obtain ⟨u, hu, hw⟩ := paired_get' hBp hp
            obtain ⟨dx, ln, le, h1, h2, h3⟩ := hw.same (s6.trans s7)
            have nx := take_filter_next (f := fun u => decide (lastR l W 0 u < W.length)) hu
            have hql : qs.length ≤ 46656 := by
              have e1 : qs.length = _ := hqs.length
              have e2 : ((B.take i).filter fun u => decide (lastR l W 0 u < W.length)).length ≤ (B.take i).length := List.length_filter_le _ _
              rw [List.length_take] at e2
              omega
            refine ⟨rfl, ?_⟩
            refine ⟨_, rfl, p, CW, dx, _, _, rfl, h1, T.k_Way.cl, T.k_Way.no _ (by simp), lk_ends _ _ _, _, rfl, le, _, _, _, rfl, rfl, SqL.of h3, nats_last (endsR_last l W u 0), _, rfl, a, _, rfl, .inl (SqL.of (s7 _ _ ha6)), _, _, rfl, rfl, _, rfl, ?_⟩
            rw [List.length_map, hpa0]
            refine ite2 (fun g => ?_) (fun g => ?_)
            · have g2 : lastR l W 0 u < W.length := by
                have := of_decide_eq_true g
                omega
              rw [if_pos (decide_eq_true g2)] at nx
              refine ⟨_, rfl, LcN.put hD2 s7 hH (Same.refl _) (by rw [List.length_map]; omega) ⟨qs ++ [p], by rw [List.map_append]; rfl, ?_⟩⟩
              rw [nx]
              exact paired_snoc hqs hw
            · have g2 : ¬ lastR l W 0 u < W.length := fun q => g (decide_eq_true (by omega))
              rw [if_neg (by simpa using g2), List.append_nil] at nx
              refine LcN.skip s7 hH (Same.refl _) ⟨qs, rfl, ?_⟩
              rw [nx]
              exact hqs
          · rintro acc H7 s7 hH7 ⟨us, rfl, hus⟩
            rw [List.length_map, hBl, List.take_length] at hus
            -- begun = []
            refine ⟨Nat.zero_le _, fun b2 hb2 => ?_⟩
            have hg7 := s7 _ _ hg6
            have hbg2 : b2 ≠ gA := fun q => by rw [q, hg7] at hb2; cases hb2
            have hD7 : Same H7 (upd H7 b2 (.lst [])) := same_new hb2
            refine ⟨_, rfl, D2, rfl, ⟨_, SqL.of (hD7 _ _ hH7)⟩, ?_⟩
            refine for_list (xs := us.map V.ref) (fun i σ H' => ∃ (qs2 : List Addr) (v6 : Option V), σ = [some (V.ref a), some (V.ref b), some (V.ref e), none, some (V.ref b2), some (V.ref gA), some (V.ref D2), v6] ∧ Same H7 H' ∧ H' b2 = some (.lst (qs2.map V.ref)) ∧
                Paired (WayAt CW l W (sel (fun c => c ≠ gA ∧ c ≠ b2) H')) qs2 (((B.filter fun u => decide (lastR l W 0 u < W.length)).take i).flatMap (longer l W)))
              ⟨[], _, rfl, hD7, upd_same, .nil⟩ (fun i σ H' _ h => by obtain ⟨_, _, _, s8, _⟩ := h; exact SqL.of (s8 _ _ hH7)) ?_ ?_
            · rintro i x σ H8 hx ⟨qs2, v6, rfl, s8, hb8, hqs2⟩
              rw [List.getElem?_map] at hx
              obtain ⟨p, hp, rfl⟩ := Option.map_eq_some_iff.mp hx
              obtain ⟨u, hu, hw⟩ := paired_get' hus hp
              have humem := List.mem_of_getElem? hu
              rw [List.mem_filter, decide_eq_true_eq, mB] at humem
              obtain ⟨⟨w1, w2, w3, w4⟩, w5⟩ := humem
              have s9 : Same H3 H8 := (u6.trans s7).trans s8
              have hul : us.length ≤ 46656 := by
                have e1 : us.length = _ := hus.length
                have e2 : (B.filter fun u => decide (lastR l W 0 u < W.length)).length ≤ B.length := List.length_filter_le _ _
                omega
              have hil : i < us.length := (List.getElem?_eq_some_iff.mp hp).1
              refine ⟨_, rfl, tyV_list (SqL.of hb8), _, rfl, _, rfl, _, rfl, p, b, e, l, W, u, rfl, hw.same ((s6.trans s7).trans s8), dyes_same (t1.trans s9) hB, nats_same (t2.trans s9) hE1, w5, hl6, by omega, w3, fun H9 q sq hq hz => ?_⟩
              obtain ⟨qs3, hq9, hqs3⟩ := hz
              have hb9 := sq _ _ hb8
              have len2 : qs2.length ≤ 6 * i := by
                have e1 : qs2.length = _ := hqs2.length
                have e2 := lv_pow (W := W) hl6 ((B.filter fun u => decide (lastR l W 0 u < W.length)).take i)
                rw [List.length_take] at e2
                omega
              have len3 : qs3.length ≤ 6 := by
                have e1 : qs3.length = _ := hqs3.length
                have e2 := longer_len l W u
                omega
              refine ⟨b2, q, _, _, rfl, rfl, hb9, hq9, (by rw [List.length_map, List.length_map, sizeLine_eq]; omega), ?_⟩
              refine ⟨qs2 ++ qs3, _, rfl, same_upd hb2 (s8.trans sq), by rw [upd_same, List.map_append], ?_⟩
              rw [sel_upd (fun z => z.2 rfl), List.take_add_one, hu, List.flatMap_append]
              refine paired_append (paired_map hqs2 fun _ _ => WayAt.same (sel_mono sq fun _ z => z)) ?_
              show Paired _ qs3 ([u].flatMap (longer l W))
              rw [List.flatMap_cons, List.flatMap_nil, List.append_nil]
              refine paired_map hqs3 fun _ _ => WayAt.same (sel_mono (Same.refl _) fun c hc => ⟨fun z => ?_, fun z => ?_⟩)
              · rw [z, s8 _ _ hg7] at hc
                cases hc
              · rw [z, hb8] at hc
                cases hc
            · rintro σ H8 ⟨qs2, v6, rfl, s8, hb8, hqs2⟩
              rw [List.length_map, show us.length = (B.filter fun u => decide (lastR l W 0 u < W.length)).length from hus.length, List.take_length] at hqs2
              have s9 : Same H3 H8 := (u6.trans s7).trans s8
              have e2 := lv_pow (W := W) hl6 (B.filter fun u => decide (lastR l W 0 u < W.length))
              have e3 : (B.filter fun u => decide (lastR l W 0 u < W.length)).length ≤ B.length := List.length_filter_le _ _
              have e4 : (B.filter fun u => decide (lastR l W 0 u = W.length)).length ≤ B.length := List.length_filter_le _ _
              have o8 : Same (off gA H4) (off gA H8) := fun c o h => by
                have hc : c ≠ gA := fun q => by
                  unfold off at h
                  rw [if_pos q] at h
                  cases h
                rw [off_at hc]
                exact s8 _ _ (s7 _ _ (s6 _ _ h))
              refine ⟨8 - (n + 1), by omega, n + 1, _, G ++ B.filter (fun u => decide (lastR l W 0 u = W.length)), b2, qs2, pG ++ qs, _, _, rfl, rfl, s9, hbg2, s8 _ _ hg7, hb8, ?_, ?_, lv_next l W mB, going_next l W mB mG, by omega, ?_, ?_⟩
              · exact paired_append (paired_map hG fun _ _ => WayAt.same o8) (paired_map hqs fun _ _ => WayAt.same o8)
              · refine paired_map hqs2 fun _ _ => WayAt.same fun c o h => ?_
                obtain ⟨⟨z1, _⟩, z3⟩ := sel_some h
                rw [off_at z1]
                exact z3
              · rw [Nat.pow_succ]
                omega
              · rw [List.length_append]
                omega
      · have g1 : B = [] := by
          have : ¬ (0 : Int) < ((B.length : Nat) : Int) := fun q => g (decide_eq_true q)
          exact List.length_eq_zero_iff.mp (by omega)
        have hall := going_all l W (m := n) (fun u hu => by
          have := (mB u).mpr hu
          rw [g1] at this
          cases this) mG
        have hsame : Same H H4 := t1.trans s3
        refine ⟨_, rfl, gA, _, fun i => keyOf l (G.getD i []), rfl, SqL.of hgA, fun i z H5 hz s5 => ?_, fun x y z => ?_, fun hx => ?_, fun i z H5 hz s5 best => ?_⟩
        · rw [List.getElem?_map] at hz
          obtain ⟨p, hp, rfl⟩ := Option.map_eq_some_iff.mp hz
          obtain ⟨u, hu, hw⟩ := paired_get' hG hp
          refine ⟨p, l, W, u, rfl, hw.same (o4.trans s5), fun H6 t s6 hk => ⟨t, rfl, s6, ?_⟩⟩
          have e0 : G.getD i [] = u := by rw [List.getD_eq_getElem?_getD, hu]; rfl
          show KeyAt H6 t (keyOf l (G.getD i []))
          rw [e0]
          exact hk
        · show (keyOf l (G.getD x [])).lt (keyOf l (G.getD y [])) = true → (keyOf l (G.getD y [])).lt (keyOf l (G.getD z [])) = true → (keyOf l (G.getD x [])).lt (keyOf l (G.getD z [])) = true
          rw [key_before, key_before, key_before]
          exact before_trans
        · have e0 : G = [] := by
            have : (pG.map V.ref).length = 0 := by rw [hx]; rfl
            rw [List.length_map, hGl] at this
            exact List.length_eq_zero_iff.mp this
          refine kN (best_no l W fun u hu => ?_) H4 hsame
          have := (hall u).mpr hu
          rw [e0] at this
          cases this
        · rw [List.getElem?_map] at hz
          obtain ⟨p, hp, rfl⟩ := Option.map_eq_some_iff.mp hz
          obtain ⟨u, hu, hw⟩ := paired_get' hG hp
          have e0 : G.getD i [] = u := by rw [List.getD_eq_getElem?_getD, hu]; rfl
          refine kS u (best_of l W ((hall u).mp (List.mem_of_getElem? hu)) fun v hv => ?_) H5 p (hsame.trans s5) (hw.same (o4.trans s5))
          obtain ⟨j, hj⟩ := List.getElem?_of_mem ((hall v).mpr hv)
          have hjl : j < (pG.map V.ref).length := by
            rw [List.length_map, hGl]
            exact (List.getElem?_eq_some_iff.mp hj).1
          have : (keyOf l (G.getD j [])).lt (keyOf l (G.getD i [])) = false := best j hjl
          rw [key_before, e0, List.getD_eq_getElem?_getD, hj] at this
          exact this
end

end Wj

set_option Elab.async false
set_option linter.all false
set_option maxRecDepth 100000
set_option maxHeartbeats 2000000
namespace Wj
open PySem PySem.Spec PyProof.Rows L2 Wl Wd
/-! ### what is made of the way -/
def spTell (CD CN CW : Addr) (ans : List Rg.Dyeing → List (Nat × Nat) → List Nat → List Int) : Sp := fun vs H Q _ => ∃ (p a b : Addr) (l : List Rg.Dyeing) (W : List (Nat × Nat)) (u : List Nat), vs = [V.ref p, V.ref a, V.ref b] ∧ WayAt CW l W H p u ∧ LstOf (NeedAt CN) H a W ∧
  LstOf (DyeAt CD) H b l ∧ Goes l W u ∧ W.length ≤ 70000 ∧ l.length ≤ 6 ∧ ∀ (H' : Hp) (q : Addr), Same H H' → H' q = some (.lst ((ans l W u).map V.int)) → Q (.ref q) H'
theorem paired_drop {α β : Type} {F : α → β → Prop} : ∀ {l : List α} {m : List β} (i : Nat), Paired F l m → Paired F (l.drop i) (m.drop i)
  | _, _, 0, h => h
  | _, _, _ + 1, .nil => .nil
  | _, _, i + 1, .cons _ t => paired_drop i t
theorem paired_take {α β : Type} {F : α → β → Prop} : ∀ {l : List α} {m : List β} (i : Nat), Paired F l m → Paired F (l.take i) (m.take i)
  | _, _, 0, _ => .nil
  | _, _, _ + 1, .nil => .nil
  | _, _, i + 1, .cons r t => .cons r (paired_take i t)
theorem cut_refs {ps : List Addr} {s i : Nat} (h : s ≤ i) (hi : i ≤ ps.length) : cutV (ps.map V.ref) (some (s : Int)) (some (i : Int)) = ((ps.drop s).take (i - s)).map V.ref := by
  unfold cutV
  rw [HT.sIx_nat, HT.sIx_nat, List.length_map, Nat.min_eq_left hi, Nat.min_eq_left (by omega), List.map_take, List.map_drop]
section
variable {P : Program} {w : World} {K : PySem.W.Frag} {mg : Str → Option Value} {base : Heap} {CD CN CW : Addr}
theorem sc_tell_cost : FnScope ["way", "wanted", "dyeings"] ["way", "wanted", "dyeings"] (defScope s_tell_cost) := ⟨rfl, rfl, rfl, by decide +kernel, rfl, by decide +kernel, by decide +kernel⟩
theorem ok_tellCost (T : Txt K mg CD CN CW) : Ok P w K mg base 2 "tell_cost" ["way", "wanted", "dyeings"] (spTell CD CN CW ansCost) := by
  refine T.f_tell_cost.ok sc_tell_cost (fun _ _ _ _ _ _ us hl => match us, hl with | [_, _, _], _ => rfl) (fun vs H Q E h => ?_) (fun f cdv A outer s0 H vs Q E hr h => ?_)
  · obtain ⟨p, a, b, l, W, u, rfl, _⟩ := h
    rfl
  · obtain ⟨p, a, b, l, W, u, rfl, ⟨dx, ln, le, h1, h2, h3⟩, hA, hB, hG, hW, hl6, k⟩ := h
    refine ⟨_, ((pss_one (ps_ret (pe_lst (pa_cons (pe_fld (pv 0) rfl) pa_nil))))), ?_⟩
    refine ⟨_, rfl, p, CW, dx, _, _, rfl, h1, T.k_Way.cl, T.k_Way.no _ (by simp), lk_change _ _ _, (by show 1 ≤ sizeLine; decide), fun q hq => k _ q (same_new hq) ?_⟩
    rw [upd_same]
    rfl
/-! ### the call as a whole -/
def spAns (K : PySem.W.Frag) (ans : List Rg.Dyeing → List (Nat × Nat) → List Nat → List Int) (f : Addr) : Sp := fun vs H Q _ => ∃ (c : Int) (a d : Addr) (t b : List Int), vs = [V.int c, V.ref a, V.ref d, V.ref f] ∧ SqL K H a (t.map V.int) ∧ SqL K H d (b.map V.int) ∧ 0 ≤ c ∧ Byt t ∧ Byt b ∧
  ∀ (H' : Hp) (q : Addr), Same H H' → H' q = some (.lst ((whole ans c t b).map V.int)) → Q (.ref q) H'
theorem sc_answer_of_way : FnScope ["colour", "t", "b", "tell", "refused", "wanted", "dyeings", "way"] ["colour", "t", "b", "tell"] (defScope s_answer_of_way) := ⟨rfl, rfl, rfl, by decide +kernel, rfl, by decide +kernel, by decide +kernel⟩
theorem ok_answer (T : Txt K mg CD CN CW) {x : Str} {f0 : Addr} {ans : List Rg.Dyeing → List (Nat × Nat) → List Nat → List Int} (C_tell : Ok P w K mg base 6 x ["way", "wanted", "dyeings"] (spTell CD CN CW ans)) (hf : mg x = some (.ref f0)) :
    Ok P w K mg base 7 "answer_of_way" ["colour", "t", "b", "tell"] (spAns K ans f0) := by
  have C_refusal : Ok P w K mg base 6 "refusal" ["colour", "t", "b"] (spRef K) := ok_ref T
  have C_chart_rows : Ok P w K mg base 6 "chart_rows" ["t"] (spRows K) := (ok_rows T).mono (by decide)
  have C_rows_in_need : Ok P w K mg base 6 "rows_in_need" ["colour", "rows"] (spInNeed CN) := (ok_inNeed T).mono (by decide)
  have C_book_dyeings : Ok P w K mg base 6 "book_dyeings" ["b"] (spBook K CD) := (ok_book T).mono (by decide)
  have C_told_way : Ok P w K mg base 6 "told_way" ["wanted", "dyeings"] (spTold CD CN CW) := (ok_told T).mono (by decide)
  refine T.f_answer_of_way.ok sc_answer_of_way (fun _ _ _ _ _ _ us hl => match us, hl with | [_, _, _, _], _ => rfl) (fun vs H Q E h => ?_) (fun f cdv A outer s0 H vs Q E hr h => ?_)
  · obtain ⟨c, a, d, t, b, rfl, _⟩ := h
    rfl
  · obtain ⟨c, a, d, t, b, rfl, hS, hB, hc, bt, bb, k⟩ := h
    refine ⟨_, ((pss_cons (ps_set (i := 4) sc_answer_of_way.nd rfl (Or.inl rfl) (pe_fn C_refusal hr rfl (pa_cons (pv 0) (pa_cons (pv 1) (pa_cons (pv 2) pa_nil)))))
      (pss_cons (ps_if (pt_cmpR op_ne (pv 4) (pe_gi rfl T.c_NOT_REFUSED) (nomark _)) (pss_one (ps_ret (pe_lst (pa_cons (pv 4) pa_nil)))) pss_nil)
      (pss_cons (ps_set (i := 5) sc_answer_of_way.nd rfl (Or.inl rfl) (pe_fn C_rows_in_need hr rfl (pa_cons (pv 0) (pa_cons (pe_fn C_chart_rows hr rfl (pa_cons (pv 1) pa_nil)) pa_nil))))
      (pss_cons (ps_set (i := 6) sc_answer_of_way.nd rfl (Or.inl rfl) (pe_dget2 (hu_of hr) (pe_fn C_book_dyeings hr rfl (pa_cons (pv 2) pa_nil)) (pv 0) (pe_lst pa_nil) ⟨rfl, rfl, rfl, rfl⟩))
      (pss_cons (ps_set (i := 7) sc_answer_of_way.nd rfl (Or.inl rfl) (pe_fn C_told_way hr rfl (pa_cons (pv 5) (pa_cons (pv 6) pa_nil))))
      (pss_cons (ps_if (pt_cmpR op_isN (pv 7) pe_non (nomark _)) (pss_one (ps_ret (pe_lst (pa_cons (pe_gi rfl T.c_NO_WAY) pa_nil)))) pss_nil)
      (pss_one (ps_ret (pe_callV (i := 3) C_tell hf hr rfl (Or.inl rfl) (pa_cons (pv 7) (pa_cons (pv 5) (pa_cons (pv 6) pa_nil))))))))))))), ?_⟩
    refine ⟨_, rfl, _, rfl, _, rfl, c, a, d, t, b, rfl, hS, hB, bt, bb, fun H1 s1 => ?_⟩
    refine ⟨_, rfl, rfl, _, rfl, ?_⟩
    refine ite2 (fun h => ?_) (fun h => ?_)
    · have h1 : ¬ refC c t b = 0 := fun q => by
        rw [q, decide_eq_true rfl] at h
        cases h
      refine ⟨_, rfl, (by show 1 ≤ sizeLine; decide), fun p hp => k _ p (s1.trans (same_new hp)) ?_⟩
      unfold whole
      rw [upd_same, if_neg h1]
      rfl
    · have h1 : refC c t b = 0 := by
        by_cases q : refC c t b = 0
        · exact q
        · exact absurd (by rw [decide_eq_false (fun z => q (V.int.inj z))]; rfl) h
      obtain ⟨h2, h3, h4, h5, bk, h6⟩ := whole_ok bt h1
      refine ⟨_, rfl, _, rfl, a, t, rfl, s1.seq hS, by omega, fun H2 lr R hC s2 hlr hR => ?_⟩
      obtain ⟨wd, hW, hfl, hch⟩ := h5.rows hC
      have hR5 := hW.high.2
      refine ⟨c, lr, R, rfl, hR, by omega, fun H3 lw s3 hlw hLW => ?_⟩
      have s13 := (s1.trans s2).trans s3
      refine ⟨_, rfl, d, b, bk, rfl, s13.seq hB, bb, h6, fun H4 pd kvs s4 hpd hBk => ?_⟩
      refine ⟨pd, rfl, .inl ⟨_, .inl hpd⟩, _, rfl, Nat.zero_le _, fun z hz => ?_⟩
      have s5 := same_new (o := .lst []) hz
      refine ⟨_, DGet.k (k := Sum.inl c) (s5 _ _ hpd), ?_⟩
      -- the dyeings of the colour
      have hdy : ∃ p, (valV kvs (Sum.inl c)).getD (V.ref z) = V.ref p ∧ LstOf (DyeAt CD) (upd H4 z (.lst [])) p (ofB bk c) := by
        cases q : valV kvs (Sum.inl c) with
        | none =>
          rw [hBk.no c q]
          exact ⟨z, rfl, [], upd_same, .nil⟩
        | some v =>
          obtain ⟨p, rfl, _, hL⟩ := hBk.yes c v q
          exact ⟨p, rfl, dyes_same s5 hL⟩
      obtain ⟨p, hp, hL⟩ := hdy
      rw [hp]
      have s35 : Same H3 (upd H4 z (.lst [])) := s4.trans s5
      have six := ofB_six h6 bb c
      rw [ofB_colour bk h2] at hL six
      have hLW5 := needs_same s35 hLW
      have hndl := nd_len (R.map fun r => r.count c)
      rw [List.length_map] at hndl
      have hwh : whole ans c t b = match Rg.bestWay (Rg.ofColour bk (colNo c).toNat) (nd (R.map fun r => r.count c)) with
          | none => [-5]
          | some u => ans (Rg.ofColour bk (colNo c).toNat) (nd (R.map fun r => r.count c)) u := by
        unfold whole
        rw [if_pos h1, hch, h6, ← needy_eq hW h2] <;> rfl
      refine ⟨_, rfl, _, rfl, lw, p, _, _, rfl, hLW5, hL, by omega, six, fun hn H6 s6 => ?_, fun u hu H6 pw s6 hw => ?_⟩
      · rw [hn] at hwh
        refine ⟨_, rfl, rfl, _, rfl, ?_⟩
        rw [decide_eq_true rfl]
        refine iteT ?_
        refine ⟨(by show 1 ≤ sizeLine; decide), fun q hq => k _ q (((s13.trans s35).trans s6).trans (same_new hq)) ?_⟩
        rw [upd_same, hwh]
        rfl
      · rw [hu] at hwh
        refine ⟨_, rfl, rfl, _, rfl, ?_⟩
        rw [decide_eq_false (fun q => by cases q)]
        refine ite2 (fun q => absurd q Bool.false_ne_true) (fun _ => ?_)
        refine ⟨rfl, _, rfl, _, rfl, _, rfl, pw, lw, p, _, _, u, rfl, hw, needs_same s6 hLW5, dyes_same s6 hL, best_goes hu, by omega, six, fun H7 q s7 hq => k H7 q (((s13.trans s35).trans s6).trans s7) ?_⟩
        rw [hwh]
        exact hq
def spCost (K : PySem.W.Frag) : Sp := fun vs H Q _ => ∃ (c : Int) (a d : Addr) (t b : List Int), vs = [V.int c, V.ref a, V.ref d] ∧ SqL K H a (t.map V.int) ∧ SqL K H d (b.map V.int) ∧ 0 ≤ c ∧ Byt t ∧ Byt b ∧
  ∀ (H' : Hp) (q : Addr), Same H H' → H' q = some (.lst ((PyWqbbck.cost c t b).map V.int)) → Q (.ref q) H'
theorem sc_cost : FnScope ["colour", "t", "b"] ["colour", "t", "b"] (defScope s_cost) := ⟨rfl, rfl, rfl, by decide +kernel, rfl, by decide +kernel, by decide +kernel⟩
theorem ok_cost {f0 : Addr} {fd : FuncData} (T : Txt K mg CD CN CW) (F : Fun K "cost" "cost" s_cost f0 fd) : FnOk P w K mg base CX0 8 f0 fd ["colour", "t", "b"] (spCost K) := by
  have CT : Ok P w K mg base 6 "tell_cost" ["way", "wanted", "dyeings"] (spTell CD CN CW ansCost) := (ok_tellCost T).mono (by decide)
  obtain ⟨fT, hfT⟩ : ∃ f, mg "tell_cost" = some (.ref f) := by
    obtain ⟨f, _, h, _⟩ := CT.ex
    exact ⟨f, h⟩
  have C_answer_of_way : Ok P w K mg base 7 "answer_of_way" ["colour", "t", "b", "tell"] (spAns K ansCost fT) := ok_answer T CT hfT
  refine F.ok sc_cost (fun vs H Q E h => ?_) (fun cdv A outer s0 H vs Q E hr h => ?_)
  · obtain ⟨c, a, d, t, b, rfl, _⟩ := h
    rfl
  · obtain ⟨c, a, d, t, b, rfl, hS, hB, hc, bt, bb, k⟩ := h
    refine ⟨_, ((pss_one (ps_ret (pe_fn C_answer_of_way hr rfl (pa_cons (pv 0) (pa_cons (pv 1) (pa_cons (pv 2) (pa_cons (pe_glob (v := V.ref fT) rfl hfT rfl) pa_nil)))))))), ?_⟩
    refine ⟨_, rfl, _, rfl, _, rfl, c, a, d, t, b, rfl, hS, hB, hc, bt, bb, fun H' q s hq => k H' q s ?_⟩
    rw [cost_whole c hc]
    exact hq
end

end Wj

set_option Elab.async false
set_option linter.all false
set_option maxRecDepth 100000
set_option maxHeartbeats 2000000
open PySem PySem.W PyProof.Rows
set_option maxRecDepth 100000 in
set_option maxHeartbeats 0 in
theorem PySem.Challenge.cw_wooldyes_s04_cost_holds : PySem.Challenge.rw_wooldyes_s04_cost.Holds := by
  w_on; k_headS; (case hw => exact ⟨[.int 0, .list [], .list []], by decide +kernel, by decide +kernel⟩)
  k_fillS
  refine L2.walk_specK (r := PySem.Challenge.rw_wooldyes_s04_cost) (k := 8) (CX := L2.CX0) (ps := ["colour", "t", "b"]) (sp := Wj.spCost) (by decide +kernel) rfl rfl ⟨rfl, by decide, by decide⟩ (fun w h Y => PySem.W.kIn_of Y) ?F ?S (fun _ _ _ _ z => z)
  case F =>
    intro w mg fa h Y KX G hmg
    have T := by
      refine' Wj.txt_mk KX G ?u_abs ?u_all ?u_enumerate ?u_len ?u_min ?a0 ?a1 ?a2 ?a3 ?a4 ?a5 ?a6 ?a7 ?a8 ?a9 ?a10 ?a11 ?a12 ?a13 ?a14 ?a15 ?a16 ?a17 ?a18 ?a19 ?a20 ?a21 ?a22 ?a23 ?b0 ?l0 ?c0 ?k0 ?b1 ?l1 ?c1 ?k1 ?b2 ?l2 ?c2 ?k2 ?b3 ?l3 ?c3 ?k3 ?b4 ?l4 ?c4 ?k4 ?b5 ?l5 ?c5 ?k5 ?b6 ?l6 ?c6 ?k6 ?b7 ?l7 ?c7 ?k7 ?b8 ?l8 ?c8 ?k8 ?b9 ?l9 ?c9 ?k9 ?b10 ?l10 ?c10 ?k10 ?b11 ?l11 ?c11 ?k11 ?b12 ?l12 ?c12 ?k12 ?b13 ?l13 ?c13 ?k13 ?b14 ?l14 ?c14 ?k14 ?b15 ?l15 ?c15 ?k15 ?b16 ?l16 ?c16 ?k16 ?b17 ?l17 ?c17 ?k17 ?b18 ?l18 ?c18 ?k18 ?b19 ?l19 ?c19 ?k19 ?b20 ?l20 ?c20 ?k20 ?b21 ?l21 ?c21 ?k21 ?d0 ?e0 ?i0 ?m0 ?n0 ?o0 ?p0 ?q0 ?r0 ?v0 ?w0 ?x0 ?z0_shade ?z0_knots ?d1 ?e1 ?i1 ?m1 ?n1 ?o1 ?p1 ?q1 ?r1 ?v1 ?w1 ?x1 ?z1_row ?z1_knots ?d2 ?e2 ?i2 ?m2 ?n2 ?o2 ?p2 ?q2 ?r2 ?v2 ?w2 ?x2 ?z2_change ?z2_numbers ?z2_ends
      (case u_abs => k_is); (case u_all => k_is); (case u_enumerate => k_is); (case u_len => k_is); (case u_min => k_is); (case a0 => k_is); (case a1 => k_is); (case a2 => k_is); (case a3 => k_is); (case a4 => k_is); (case a5 => k_is); (case a6 => k_is); (case a7 => k_is); (case a8 => k_is); (case a9 => k_is); (case a10 => k_is); (case a11 => k_is); (case a12 => k_is); (case a13 => k_is); (case a14 => k_is); (case a15 => k_is); (case a16 => k_is); (case a17 => k_is); (case a18 => k_is); (case a19 => k_is); (case a20 => k_is); (case a21 => k_is); (case a22 => k_is); (case a23 => k_is); (case b0 => k_is); (case l0 => k_is); (case c0 => k_is); (case k0 => k_is); (case b1 => k_is); (case l1 => k_is); (case c1 => k_is); (case k1 => k_is); (case b2 => k_is); (case l2 => k_is); (case c2 => k_is); (case k2 => k_is); (case b3 => k_is); (case l3 => k_is); (case c3 => k_is); (case k3 => k_is); (case b4 => k_is); (case l4 => k_is); (case c4 => k_is); (case k4 => k_is); (case b5 => k_is); (case l5 => k_is); (case c5 => k_is); (case k5 => k_is); (case b6 => k_is); (case l6 => k_is); (case c6 => k_is); (case k6 => k_is); (case b7 => k_is); (case l7 => k_is); (case c7 => k_is); (case k7 => k_is); (case b8 => k_is); (case l8 => k_is); (case c8 => k_is); (case k8 => k_is); (case b9 => k_is); (case l9 => k_is); (case c9 => k_is); (case k9 => k_is); (case b10 => k_is); (case l10 => k_is); (case c10 => k_is); (case k10 => k_is); (case b11 => k_is); (case l11 => k_is); (case c11 => k_is); (case k11 => k_is); (case b12 => k_is); (case l12 => k_is); (case c12 => k_is); (case k12 => k_is); (case b13 => k_is); (case l13 => k_is); (case c13 => k_is); (case k13 => k_is); (case b14 => k_is); (case l14 => k_is); (case c14 => k_is); (case k14 => k_is); (case b15 => k_is); (case l15 => k_is); (case c15 => k_is); (case k15 => k_is); (case b16 => k_is); (case l16 => k_is); (case c16 => k_is); (case k16 => k_is); (case b17 => k_is); (case l17 => k_is); (case c17 => k_is); (case k17 => k_is); (case b18 => k_is); (case l18 => k_is); (case c18 => k_is); (case k18 => k_is); (case b19 => k_is); (case l19 => k_is); (case c19 => k_is); (case k19 => k_is); (case b20 => k_is); (case l20 => k_is); (case c20 => k_is); (case k20 => k_is); (case b21 => k_is); (case l21 => k_is); (case c21 => k_is); (case k21 => k_is); (case d0 => k_is); (case e0 => k_is); (case i0 => k_is); (case m0 => k_is); (case n0 => k_is); (case o0 => k_is); (case p0 => k_is); (case q0 => k_is); (case r0 => k_is); (case v0 => k_is); (case w0 => k_is); (case x0 => k_is); (case z0_shade => k_is); (case z0_knots => k_is); (case d1 => k_is); (case e1 => k_is); (case i1 => k_is); (case m1 => k_is); (case n1 => k_is); (case o1 => k_is); (case p1 => k_is); (case q1 => k_is); (case r1 => k_is); (case v1 => k_is); (case w1 => k_is); (case x1 => k_is); (case z1_row => k_is); (case z1_knots => k_is); (case d2 => k_is); (case e2 => k_is); (case i2 => k_is); (case m2 => k_is); (case n2 => k_is); (case o2 => k_is); (case p2 => k_is); (case q2 => k_is); (case r2 => k_is); (case v2 => k_is); (case w2 => k_is); (case x2 => k_is); (case z2_change => k_is); (case z2_numbers => k_is); (case z2_ends => k_is)
    obtain ⟨f, fd, hm, F⟩ := T.f_cost.ex
    have e := hmg.symm.trans hm
    cases e
    exact ⟨fd, F.bindsTo fun _ _ _ _ _ _ us hl => match us, hl with | [_, _, _], _ => rfl, fun base _ _ => Wj.ok_cost T F⟩
  case S =>
    intro K H xs a hO hwi hask hx
    cases hx with
    | cons h0 g0 =>
      cases g0 with
      | cons h1 g1 =>
        cases g1 with
        | cons h2 g2 =>
          cases g2
          cases h0
          cases h1 with
          | lst hs1 ha1 =>
            have e1 := L2.ints_dw a.2.1 _ ha1
            subst e1
            cases h2 with
            | lst hs2 ha2 =>
              have e2 := L2.ints_dw a.2.2.1 _ ha2
              subst e2
              have q : (Codec.inInt 0 4294967295 a.1 && ((Codec.inLen 0 66500 a.2.1 && a.2.1.all (Codec.inInt 0 255)) && ((Codec.inLen 0 5000 a.2.2.1 && a.2.2.1.all (Codec.inInt 0 255)) && true))) = true := hwi
              simp only [Bool.and_eq_true] at q
              exact ⟨a.1, _, _, a.2.1, a.2.2.1, rfl, hs1, hs2, (Codec.inInt_iff.mp q.1).1, (fun x hx => Codec.inInt_iff.mp (List.all_eq_true.mp q.2.1.2 x hx)), (fun x hx => Codec.inInt_iff.mp (List.all_eq_true.mp q.2.2.1.2 x hx)), fun H' p _ hp => .lst (L2.SqL.of hp) (L2.dw_ints _)⟩


import PyProof.Rows.All
import Wide.All
import OpenK.AllK
import Wide.FinOn
import PyProof.EqAt
import PyProof.EqKinds
import PyProof.TupleCall
import KE.BitLaws
import PyKcz8
import PyFlatLaws
import Open.SpecLaws
import KE.OsHead
import KE.OsGo
import PySem.Challenge.RW_wishesalike_s01_answers
section
set_option Elab.async false
set_option linter.all false
set_option maxRecDepth 100000
/-! THE HAND LAYER, for ints, bools, texts, own classes, lists, tuples, dicts, comprehensions, walks over dicts, enumerate, zip, reversed, texts, calls, loops. Paste it whole ahead of your own text; what your proof does not reach may be deleted. -/
namespace L2
open PySem PySem.Spec PyProof.Rows

/-- a key: an int or a str -/
abbrev Key := Sum Int Str
def keyIs : Key → Value → Bool
  | .inl k, v => Value.isInt k v
  | .inr x, v => Value.isStrOf x v
def keyH (w : World) : Key → Int
  | .inl k => hashInt k
  | .inr x => hashStr w x
theorem keyIs_shape : ∀ {k : Key} {v : Value}, keyIs k v = true → (∃ i t, k = Sum.inl i ∧ v = Value.int i t) ∨ (∃ x t, k = Sum.inr x ∧ v = Value.str x t)
  | .inl i, v, h => by
    obtain ⟨t, e⟩ := Value.isInt_shape (k := i) (v := v) h
    exact .inl ⟨i, t, rfl, e⟩
  | .inr x, v, h => by
    obtain ⟨t, e⟩ := Value.isStrOf_shape (x := x) (v := v) h
    exact .inr ⟨x, t, rfl, e⟩
theorem keyIs_int (i : Int) (t : Tok) : keyIs (.inl i) (.int i t) = true := by simp [keyIs, Value.isInt]
theorem keyIs_str (x : Str) (t : Tok) : keyIs (.inr x) (.str x t) = true := by simp [keyIs, Value.isStrOf]
theorem key_ll (a b : Int) : decide ((Sum.inl a : Key) = Sum.inl b) = (a == b) := by
  by_cases e : a = b
  · subst e; simp
  · have h : ¬ (Sum.inl a : Key) = Sum.inl b := fun q => e (Sum.inl.inj q)
    rw [decide_eq_false h]
    exact (beq_eq_false_iff_ne.mpr e).symm
theorem key_rr (a b : Str) : decide ((Sum.inr a : Key) = Sum.inr b) = decide (a = b) := by
  by_cases e : a = b
  · subst e; simp
  · have h : ¬ (Sum.inr a : Key) = Sum.inr b := fun q => e (Sum.inr.inj q)
    rw [decide_eq_false h, decide_eq_false e]
theorem key_lr (a : Int) (b : Str) : decide ((Sum.inl a : Key) = Sum.inr b) = false := decide_eq_false (fun q => nomatch q)
theorem key_rl (a : Str) (b : Int) : decide ((Sum.inr a : Key) = Sum.inl b) = false := decide_eq_false (fun q => nomatch q)

def mixKind (prog : Program) (w : World) : PySem.KeyKind prog w Key where
  is := keyIs
  hash := keyH w
  inj := fun v a b ha hb => by
    rcases keyIs_shape ha with ⟨i, t, rfl, rfl⟩ | ⟨x, t, rfl, rfl⟩
    · rcases keyIs_shape hb with ⟨j, u, rfl, e⟩ | ⟨y, u, rfl, e⟩
      · injection e with e1 _; rw [e1]
      · exact nomatch e
    · rcases keyIs_shape hb with ⟨j, u, rfl, e⟩ | ⟨y, u, rfl, e⟩
      · exact nomatch e
      · injection e with e1 _; rw [e1]
  byValue := fun k v h => by
    rcases keyIs_shape h with ⟨i, t, rfl, rfl⟩ | ⟨x, t, rfl, rfl⟩ <;> rfl
  pyHash := fun hv h => by
    rcases keyIs_shape hv with ⟨i, t, rfl, rfl⟩ | ⟨x, t, rfl, rfl⟩
    · exact wpAny_pyHash_int h
    · exact wpAny_pyHash_str h
  eqBool := fun hu hv h => by
    rcases keyIs_shape hu with ⟨i, t, rfl, rfl⟩ | ⟨x, t, rfl, rfl⟩
    · rcases keyIs_shape hv with ⟨j, u, rfl, rfl⟩ | ⟨y, u, rfl, rfl⟩
      · rw [key_ll] at h; exact wpAny_eqBool_int h
      · rw [key_lr] at h; exact SeqAt.EqAt.int_str i t y u _ _ _ _ h
    · rcases keyIs_shape hv with ⟨j, u, rfl, rfl⟩ | ⟨y, u, rfl, rfl⟩
      · rw [key_rl] at h; exact SeqAt.EqAt.str_int x t j u _ _ _ _ h
      · rw [key_rr] at h; exact wpAny_eqBool_str h
  «strs» := fun k x t v h => by
    rcases keyIs_shape h with ⟨i, u, rfl, e⟩ | ⟨y, u, rfl, e⟩
    · exact nomatch e
    · injection e with e1 _
      subst e1
      cases v <;> rfl

theorem mixKind_int (prog : Program) (w : World) (i : Int) (t : Tok) : (mixKind prog w).is (.inl i) (.int i t) = true := keyIs_int i t
theorem mixKind_str (prog : Program) (w : World) (x : Str) (t : Tok) : (mixKind prog w).is (.inr x) (.str x t) = true := keyIs_str x t
end L2

namespace L2
open PySem PySem.Spec PyProof.Rows

/-- a value, without the heap -/
inductive V where
  | non | bl (b : Bool) | int (i : Int) | str (x : Str) | byt (b : Array UInt8) | flt (b : UInt64) | ref (a : Addr) | ty (n : String)
  deriving DecidableEq

def RelV : V → Value → Prop
  | .non, u => u = Value.none
  | .bl b, u => u = Value.bool b
  | .int i, u => ∃ t, u = Value.int i t
  | .str x, u => ∃ t, u = Value.str x t
  | .byt b, u => ∃ t, u = Value.bytes b t
  | .flt b, u => ∃ t, u = Value.float b t
  | .ref a, u => u = Value.ref a
  | .ty n, u => u = Value.type n

abbrev Vals : List V → List Value → Prop := Paired RelV
theorem Vals.length {xs : List V} {us : List Value} (r : Vals xs us) : xs.length = us.length := Paired.length r
theorem Vals.get : ∀ {xs : List V} {us : List Value} {i : Nat} {x : V}, Vals xs us → xs[i]? = some x → ∃ u, us[i]? = some u ∧ RelV x u
  | _, _, _, _, .nil, e => by simp at e
  | _, _, 0, _, .cons r _, e => by simp at e; subst e; exact ⟨_, rfl, r⟩
  | _, _, i + 1, x, .cons _ t, e => by
    obtain ⟨u, h1, h2⟩ := Vals.get (i := i) (x := x) t (by simpa using e)
    exact ⟨u, by simpa using h1, h2⟩
theorem Vals.append : ∀ {xs ys : List V} {us ws : List Value}, Vals xs us → Vals ys ws → Vals (xs ++ ys) (us ++ ws)
  | _, _, _, _, .nil, s => s
  | _, _, _, _, .cons r t, s => .cons r (Vals.append t s)
theorem Vals.take : ∀ {xs : List V} {us : List Value} (n : Nat), Vals xs us → Vals (xs.take n) (us.take n)
  | _, _, 0, _ => .nil
  | _, _, _ + 1, .nil => .nil
  | _, _, n + 1, .cons r t => .cons r (Vals.take n t)
theorem Vals.drop : ∀ {xs : List V} {us : List Value} (n : Nat), Vals xs us → Vals (xs.drop n) (us.drop n)
  | _, _, 0, r => r
  | _, _, _ + 1, .nil => .nil
  | _, _, n + 1, .cons _ t => Vals.drop n t
def RelO : Option V → Option Value → Prop
  | some v, some u => RelV v u
  | none, none => True
  | _, _ => False
def KV {κ : Type} : List (κ × V) → List (κ × Value) → Prop := Paired fun (p : κ × V) (q : κ × Value) => p.1 = q.1 ∧ RelV p.2 q.2

/-- a key of a dict (00_mix): an int or a text -/
def kV : Key → V
  | .inl i => .int i
  | .inr x => .str x

/-- what stands at a tracked address -/
inductive HO where
  /-- a list -/
  | lst (xs : List V)
  /-- a tuple (never changes) -/
  | tup (xs : List V)
  /-- a dict whose keys are ints and texts; one whose keys are tuples of ints and texts (the empty one is both) -/
  | dK (kvs : List (Key × V)) | dT (kvs : List (List Key × V))
  /-- a set of ints: its members, its size -/
  | set (S : Int → Bool) (n : Nat)
  /-- an instance of the class at C, its dict at dx, its attributes -/
  | ins (C dx : Addr) (fs : List (Str × V))
  /-- the dict of the instance at x -/
  | own (x : Addr)
  /-- the dict of an exception -/
  | xd (fs : List (Str × V))
  /-- a bound method, f of x -/
  | met (f x : Addr)
  /-- a range object lo, lo + 1, .. below hi -/
  | rng (lo hi : Int)
  /-- a thing that is known to the object (the script; a dict while a loop walks it): read, never written while it is so -/
  | frz (o : Obj) (u : HO)
  /-- a code object's table -/
  | tbl (ps : Array Value)
  /-- any other thing, by what is true of its one object (a def of one's own: SetO a S n := HO.ext fun h => ..) -/
  | ext (φ : Heap → Prop)

abbrev Hp := Addr → Option HO
def upd (H : Hp) (a : Addr) (o : HO) : Hp := fun b => if b = a then some o else H b
theorem upd_same {H : Hp} {a : Addr} {o : HO} : upd H a o a = some o := by unfold upd; rw [if_pos rfl]
theorem upd_ne {H : Hp} {a b : Addr} {o : HO} (h : b ≠ a) : upd H a o b = H b := by unfold upd; rw [if_neg h]
/-- two objects of different content stand apart -/
theorem ne_of {H : Hp} {a b : Addr} {o u : HO} (h : H a = some o) (h' : H b = some u) (d : o ≠ u) : a ≠ b := by
  intro e; subst e; rw [h] at h'; exact d (Option.some.inj h')
theorem ne_of_none {H : Hp} {a b : Addr} {o : HO} (h : H a = some o) (h' : H b = none) : a ≠ b := by
  intro e; subst e; rw [h] at h'; cases h'

section
variable (P : Program) (w : World)
def ObjOk (H : Hp) (h : Heap) (a : Addr) : HO → Prop
  | .lst xs => xs.length ≤ sizeLine ∧ ∃ (its : List Value) (n : Nat), Vals xs its ∧ h.get? a = some { cls := .type "list", data := .seq its.toArray n }
  | .tup xs => xs.length ≤ sizeLine ∧ ∃ its : List Value, Vals xs its ∧ IsTup h a its.toArray
  | .dK kvs => kvs.length ≤ sizeLine ∧ (a == sysModules) = false ∧ ∃ vs, KV kvs vs ∧ h.DictOf (mixKind P w) a vs
  | .dT kvs => kvs.length ≤ sizeLine ∧ (a == sysModules) = false ∧ ∃ xs : List (List Key × Addr × Value),
      Paired (fun (p : List Key × V) (q : List Key × Addr × Value) => p.1 = q.1 ∧ H q.2.1 = some (.tup (p.1.map kV)) ∧ RelV p.2 q.2.2) kvs xs ∧
      ∃ o es ep, h.get? a = some o ∧ o.ExactDict ∧ o.data = .dict es ep ∧ es.toList = xs.map (entryOfKey (tupleKind (mixKind P w))) ∧ (xs.map (·.1)).Nodup
  | .set S n => h.SetOf (intKind P w) a S n
  | .ins C dx fs => H dx = some (.own a) ∧ fs.length ≤ 1000 ∧ dx ≠ a ∧ h.get? a = some (PySem.W.instObj C dx) ∧
      ∃ mA, h.Ns1 dx mA ∧ (∀ f, RelO (fs.lookup f) (mA f)) ∧ PySem.Within mA (fs.map (·.1))
  | .own _ => ∃ o, h.get? a = some o
  | .xd fs => ∃ mA, h.Ns1 a mA ∧ ∀ f, RelO (fs.lookup f) (mA f)
  | .rng lo hi => ∃ t u v, h.get? a = some { cls := .type "range", data := .fields #[.int lo t, .int hi u, .int 1 v] }
  | .frz o u => h.get? a = some o ∧ ObjOk H h a u
  | .tbl ps => h.get? a = some { cls := .none, data := .fields ps }
  | .met f x => h.get? a = some (PySem.W.methodObj (.ref f) (.ref x))
  | .ext φ => φ h ∧ (∃ o, h.get? a = some o) ∧ ∀ h1 h2 : Heap, φ h1 → (∀ o, h1.get? a = some o → h2.get? a = some o) → φ h2
/-- the abstract heap is held -/
def HOk (H : Hp) (h : Heap) : Prop := ∀ a o, H a = some o → ObjOk P w H h a o
end

section
variable {P : Program} {w : World} {H H' : Hp} {h h' : Heap} {a : Addr} {o : HO}
theorem ObjOk.lt (x : ObjOk P w H h a o) : a < h.objs.size := by
  cases o with
  | lst xs => obtain ⟨_, _, _, _, e⟩ := x; exact Heap.lt_size e
  | tup xs => obtain ⟨_, _, _, p⟩ := x; exact p.lt
  | dK kvs => obtain ⟨_, _, _, _, o, _, _, e, _⟩ := x; exact Heap.lt_size e
  | dT kvs => obtain ⟨_, _, _, _, o, _, _, e, _⟩ := x; exact Heap.lt_size e
  | set S n => obtain ⟨o, _, _, _, e, _⟩ := x; exact Heap.lt_size e
  | ins C dx fs => obtain ⟨_, _, _, e, _⟩ := x; exact Heap.lt_size e
  | own y => obtain ⟨_, e⟩ := x; exact Heap.lt_size e
  | xd fs => obtain ⟨_, ⟨_, _, _, e, _⟩, _⟩ := x; exact Heap.lt_size e
  | rng lo hi => obtain ⟨_, _, _, e⟩ := x; exact Heap.lt_size e
  | frz ob u => obtain ⟨e, _⟩ := x; exact Heap.lt_size e
  | tbl ps => exact Heap.lt_size (show h.get? a = some _ from x)
  | met f y => exact Heap.lt_size (show h.get? a = some _ from x)
  | ext φ => obtain ⟨_, ⟨_, e⟩, _⟩ := x; exact Heap.lt_size e
theorem Paired.mapP {α β : Type} {F G : α → β → Prop} : ∀ {l₁ : List α} {l₂ : List β}, Paired F l₁ l₂ → (∀ a b, F a b → G a b) → Paired G l₁ l₂
  | _, _, .nil, _ => .nil
  | _, _, .cons r t, f => .cons (f _ _ r) (Paired.mapP t f)
/-- what an object's description leans on: its own object, its own dict, the tuples -/
theorem ObjOk.stay (x : ObjOk P w H h a o) (k : ∀ b u, (b = a ∨ H b = some (.own a)) → h.get? b = some u → h'.get? b = some u)
    (ho : ∀ b, H b = some (.own a) → H' b = some (.own a)) (ht : ∀ b xs, H b = some (.tup xs) → H' b = some (.tup xs)) : ObjOk P w H' h' a o := by
  induction o with
  | lst xs => obtain ⟨z, its, n, r, e⟩ := x; exact ⟨z, its, n, r, k _ _ (.inl rfl) e⟩
  | tup xs => obtain ⟨z, its, r, ob, e, c⟩ := x; exact ⟨z, its, r, ob, k _ _ (.inl rfl) e, c⟩
  | dK kvs => obtain ⟨z, y, vs, r, ob, es, ep, e, c⟩ := x; exact ⟨z, y, vs, r, ob, es, ep, k _ _ (.inl rfl) e, c⟩
  | dT kvs =>
    obtain ⟨z, y, xs, r, ob, es, ep, e, c⟩ := x
    exact ⟨z, y, xs, Paired.mapP r fun p q z => ⟨z.1, ht _ _ z.2.1, z.2.2⟩, ob, es, ep, k _ _ (.inl rfl) e, c⟩
  | set S n => obtain ⟨ob, es, ep, t, e, c⟩ := x; exact ⟨ob, es, ep, t, k _ _ (.inl rfl) e, c⟩
  | ins C dx fs =>
    obtain ⟨d, z, ne, e, mA, ⟨od, es, ep, e2, c⟩, r⟩ := x
    exact ⟨ho _ d, z, ne, k _ _ (.inl rfl) e, mA, ⟨od, es, ep, k _ _ (.inr d) e2, c⟩, r⟩
  | own y => obtain ⟨ob, e⟩ := x; exact ⟨ob, k _ _ (.inl rfl) e⟩
  | xd fs => obtain ⟨mA, ⟨od, es, ep, e, c⟩, r⟩ := x; exact ⟨mA, ⟨od, es, ep, k _ _ (.inl rfl) e, c⟩, r⟩
  | rng lo hi => obtain ⟨t, u, v, e⟩ := x; exact ⟨t, u, v, k _ _ (.inl rfl) e⟩
  | frz ob u ih => obtain ⟨e, q⟩ := x; exact ⟨k _ _ (.inl rfl) e, ih q⟩
  | tbl ps =>
    have e : h.get? a = some { cls := .none, data := .fields ps } := x
    show h'.get? a = some { cls := .none, data := .fields ps }
    exact k a _ (.inl rfl) e
  | met f y =>
    have e : h.get? a = some (PySem.W.methodObj (.ref f) (.ref y)) := x
    show h'.get? a = some (PySem.W.methodObj (.ref f) (.ref y))
    exact k a _ (.inl rfl) e
  | ext φ => obtain ⟨p, ⟨o, e⟩, st⟩ := x; exact ⟨st _ _ p fun o q => k _ _ (.inl rfl) q, ⟨o, k _ _ (.inl rfl) e⟩, st⟩
theorem HOk.lt (x : HOk P w H h) (e : H a = some o) : a < h.objs.size := (x a o e).lt
theorem HOk.fresh (x : HOk P w H h) (e : h.objs.size ≤ a) : H a = none := by
  cases q : H a with
  | none => rfl
  | some u => exact absurd (Nat.lt_of_lt_of_le (x.lt q) e) (Nat.lt_irrefl _)
/-- every object of the heap is kept -/
theorem HOk.kept (x : HOk P w H h) (k : ∀ b u, h.get? b = some u → h'.get? b = some u) : HOk P w H h' := fun a o e =>
  (x a o e).stay (fun b u _ q => k b u q) (fun _ q => q) fun _ _ q => q
/-- a new object is laid and tracked -/
theorem HOk.laid (x : HOk P w H h) (k : ∀ b u, h.get? b = some u → h'.get? b = some u) (hp : h.objs.size ≤ a) (new : ObjOk P w (upd H a o) h' a o) : HOk P w (upd H a o) h' := fun b u e => by
  have hn := x.fresh hp
  by_cases hb : b = a
  · subst hb; rw [upd_same] at e; cases e; exact new
  · rw [upd_ne hb] at e
    exact (x b u e).stay (fun c v _ q => k c v q) (fun c q => by rw [upd_ne (ne_of_none q hn)]; exact q) fun c xs q => by rw [upd_ne (ne_of_none q hn)]; exact q
end

/-- what may be read as u: it is u, or a known u -/
def Rd (H : Hp) (a : Addr) (u : HO) : Prop := H a = some u ∨ ∃ o, H a = some (.frz o u)
theorem Rd.ok {P : Program} {w : World} {H : Hp} {h : Heap} {a : Addr} {u : HO} (r : Rd H a u) (x : HOk P w H h) : ObjOk P w H h a u := by
  rcases r with r | ⟨o, r⟩
  · exact x a u r
  · obtain ⟨_, q⟩ := x a _ r
    exact q
/-- what may be written -/
def Mut : Option HO → Prop
  | some (.lst _) => True
  | some (.dK _) => True
  | some (.dT _) => True
  | some (.set _ _) => True
  | some (.ins _ _ _) => True
  | some (.ext _) => True
  | _ => False
section
variable {P : Program} {w : World} {H : Hp} {h h' : Heap} {x e : Addr} {o' : HO}
/-- the object at e is changed: x itself, or the dict of the instance x -/
theorem HOk.write (ok : HOk P w H h) (mu : Mut (H x)) (he : e = x ∨ H e = some (.own x)) (k : ∀ b u, b ≠ e → h.get? b = some u → h'.get? b = some u) (heo : ∃ u, h'.get? e = some u)
    (new : ObjOk P w (upd H x o') h' x o') : HOk P w (upd H x o') h' := fun b u q => by
  have nown : ∀ c y, H c = some (.own y) → c ≠ x := fun c y r z => by subst z; rw [r] at mu; exact mu
  have ntup : ∀ c xs, H c = some (.tup xs) → c ≠ x := fun c xs r z => by subst z; rw [r] at mu; exact mu
  by_cases hb : b = x
  · subst hb; rw [upd_same] at q; cases q; exact new
  · rw [upd_ne hb] at q
    by_cases hbe : b = e
    · have q' : H b = some (.own x) := by
        rcases he with z | z
        · exact absurd (hbe.trans z) hb
        · rw [hbe]; exact z
      rw [q] at q'; cases q'
      obtain ⟨v, hv⟩ := heo
      exact ⟨v, by rw [hbe]; exact hv⟩
    · refine (ok b u q).stay (fun c v hc r => k c v ?_ r) (fun c r => by rw [upd_ne (nown c b r)]; exact r) fun c xs r => by rw [upd_ne (ntup c xs r)]; exact r
      rcases hc with rfl | hc
      · exact hbe
      · rintro rfl
        rcases he with z | z
        · exact nown c b hc z
        · rw [hc] at z; cases z; exact hb rfl
end

/-! ### kept unless tracked; of the frames at fs (the callers') the slots may change (an exception that passes writes there); of the records at ex (iterators) nothing is said -/
structure Un (fs ex : List Addr) (H H' : Hp) (h h' : Heap) : Prop where
  keep : ∀ b o, h.get? b = some o → H b = none → b ∉ fs → b ∉ ex → h'.get? b = some o
  slot : ∀ b o, h.get? b = some o → H b = none → b ∈ fs → b ∉ ex → ∃ sl, h'.get? b = some { o with slots := sl }
  free : ∀ b o, h.get? b = some o → H b = none → b ∉ ex → H' b = none
  there : ∀ b o, h.get? b = some o → b ∉ ex → ∃ o', h'.get? b = some o'
  tups : ∀ b xs, H b = some (.tup xs) → H' b = some (.tup xs)
  frzs : ∀ b o u, H b = some (.frz o u) → H' b = some (.frz o u)
  tbls : ∀ b ps, H b = some (.tbl ps) → ∃ more, H' b = some (.tbl (ps ++ more))
section
variable {fs fs' ex ex' : List Addr} {H H1 H2 : Hp} {h h1 h2 h' : Heap} {a x e : Addr} {o : HO}
theorem Un.any (u : Un fs ex H H1 h h1) {b : Addr} {ob : Obj} (q : h.get? b = some ob) (n : H b = none) (hx : b ∉ ex) : ∃ sl, h1.get? b = some { ob with slots := sl } := by
  by_cases hb : b ∈ fs
  · exact u.slot b ob q n hb hx
  · exact ⟨ob.slots, u.keep b ob q n hb hx⟩
theorem Un.kept (k : ∀ b u, h.get? b = some u → h'.get? b = some u) : Un fs ex H H h h' :=
  ⟨fun b ob q _ _ _ => k b ob q, fun b ob q _ _ _ => ⟨ob.slots, k b ob q⟩, fun _ _ _ n _ => n, fun b ob q _ => ⟨ob, k b ob q⟩, fun _ _ q => q, fun _ _ _ q => q, fun _ ps q => ⟨#[], by rw [q]; simp⟩⟩
theorem Un.refl : Un fs ex H H h h := Un.kept fun _ _ q => q
theorem Un.laid (k : ∀ b u, h.get? b = some u → h'.get? b = some u) (hp : h.objs.size ≤ a) (hn : H a = none) : Un fs ex H (upd H a o) h h' where
  keep := fun b u q _ _ _ => k b u q
  slot := fun b u q _ _ _ => ⟨u.slots, k b u q⟩
  free := fun b u q n _ => by rw [upd_ne (Nat.ne_of_lt (Nat.lt_of_lt_of_le (Heap.lt_size q) hp))]; exact n
  there := fun b u q _ => ⟨u, k b u q⟩
  tups := fun b xs q => by rw [upd_ne (ne_of_none q hn)]; exact q
  frzs := fun b u xs q => by rw [upd_ne (ne_of_none q hn)]; exact q
  tbls := fun b ps q => ⟨#[], by rw [upd_ne (ne_of_none q hn), q]; simp⟩
theorem Un.write (mu : Mut (H x)) (he : e = x ∨ H e = some (.own x)) (k : ∀ b u, b ≠ e → h.get? b = some u → h'.get? b = some u) (heo : ∃ u, h'.get? e = some u) : Un fs ex H (upd H x o) h h' := by
  have hx : ∀ b, H b = none → b ≠ x := fun b n z => by subst z; rw [n] at mu; exact mu
  have hb : ∀ b, H b = none → b ≠ e := fun b n z => by
    subst z
    rcases he with r | r
    · exact hx b n r
    · rw [n] at r; cases r
  have hm : ∀ b u, H b = some u → ¬ Mut (some u) → b ≠ x := fun b u q nm z => by subst z; rw [q] at mu; exact nm mu
  refine ⟨fun b u q n _ _ => k b u (hb b n) q, fun b u q n _ _ => ⟨u.slots, k b u (hb b n) q⟩, fun b u q n _ => by rw [upd_ne (hx b n)]; exact n, fun b u q _ => ?_,
    fun b xs q => by rw [upd_ne (hm b _ q fun z => z)]; exact q, fun b u xs q => by rw [upd_ne (hm b _ q fun z => z)]; exact q, fun b ps q => ⟨#[], by rw [upd_ne (hm b _ q fun z => z), q]; simp⟩⟩
  by_cases hbe : b = e
  · subst hbe; exact heo
  · exact ⟨u, k b u hbe q⟩
end

/-! ### the heap without what is tracked -/
def trk (h : Heap) (H : Hp) : List Addr := (List.range h.objs.size).filter fun a => (H a).isSome
def hidT (h : Heap) (H : Hp) : Heap := PySem.W.hideAll h (trk h H)
theorem hidT_size (h : Heap) (H : Hp) : (hidT h H).objs.size = h.objs.size := PySem.W.hideAll_size _ _
theorem hidT_get {h : Heap} {H : Hp} {b : Addr} {o : Obj} (e : h.get? b = some o) (n : H b = none) : (hidT h H).get? b = some o :=
  PySem.W.hideAll_get _ e fun hm => by
    have q : (H b).isSome = true := (List.mem_filter.mp hm).2
    rw [n] at q; simp at q
theorem of_hidT {h : Heap} {H : Hp} {b : Addr} {o : Obj} (e : (hidT h H).get? b = some o) : h.get? b = some o ∧ H b = none := by
  have e' : h.get? b = some o := PySem.W.of_hideAll (trk h H) e
  refine ⟨e', ?_⟩
  cases q : H b with
  | none => rfl
  | some x =>
    have hm : b ∈ trk h H := List.mem_filter.mpr ⟨List.mem_range.mpr (Heap.lt_size e'), by simp [q]⟩
    have z : (hidT h H).get? b = none := PySem.W.hideAll_none (trk h H) hm
    rw [z] at e; cases e

/-! ### OpenK's ledger, filled with every new object but one -/
def allNews (g h : Heap) (L : Addr) : List (Addr × Obj) := (List.range h.objs.size).filterMap fun a => if a = L ∨ (g.get? a).isSome = true then none else (h.get? a).map fun o => (a, o)
def rest (g h : Heap) (L d : Addr) : List (Addr × Obj) := (allNews g h L).filter fun p => decide (p.1 ≠ d)
end L2

namespace L2
open PySem PySem.Spec PyProof.Rows

/-- the module's facts, over the base: the heap at the law's entry without what is tracked there -/
structure Mod (K : PySem.W.Frag) (mg : Str → Option Value) (base : Heap) : Prop where
  kin : K.In base
  glob : base.Ns mainGlobals mg
  blt : ∃ mb, base.Ns builtinsNs mb ∧ ∀ x : Str, x ≠ "__name__" → mb x = bootBuiltins x
  nolimit : base.NoLimit

/-- the context: a def's body (or a comprehension's block) running. base: fixed through the whole law; s₀, H₀: the entry; outer: the frames whose slots others may change (a def's callers); stack: all frames that run;
   ex: iterators that were made ahead of the entry and are walked here (a comprehension's); fn: the names whose cells were made at the entry (a def: all; a comprehension's block: its own); calm: not within an except suite; pn: pins that every state bears; xe: what is wanted of an exception that leaves the code -/
structure Cx where
  prog : Program
  w : World
  K : PySem.W.Frag
  mg : Str → Option Value
  base : Heap
  A : Around
  N : List Str
  s_0 : Shared
  H_0 : Hp
  env : Env
  outer : List Env
  stack : List Env
  ex : List Addr
  fn : Str → Bool
  calm : Bool
  pn : List (Addr × Obj)
  xe : Value → Shared → Prop
/-- the callers' frames -/
def frs (l : List Env) : List Addr := l.filterMap (·.frame)
abbrev Cx.fs (X : Cx) : List Addr := frs X.outer

def Vis (sc : Scope) (x : Str) : Prop := sc.names.lookup x = some .local ∨ sc.names.lookup x = some .cell ∨ sc.names.lookup x = some .free
def Loc (sc : Scope) (x : Str) : Prop := sc.names.lookup x = some .local ∨ sc.names.lookup x = some .cell
def Look (env : Env) (h : Heap) (m : Str → Option Value) (x : Str) (u : Value) : Prop :=
  (env.kindOf x = some .local ∧ m x = some u) ∨ ((env.kindOf x = some .cell ∨ env.kindOf x = some .free) ∧ ∃ c, env.cells.lookup x = some c ∧ h.IsCell c (some u))

structure Cx.Ok (X : Cx) : Prop where
  mod : Mod X.K X.mg X.base
  kind : X.env.scope.kind = .function
  glob : X.env.globals = mainGlobals
  blt : X.env.builtins = builtinsNs
  above : X.s_0.heap.objs.size ≤ X.env.locals
  inj : ∀ x y c, X.env.cells.lookup x = some c → X.env.cells.lookup y = some c → x = y
  has : ∀ x, (X.env.kindOf x = some .cell ∨ X.env.kindOf x = some .free) → ∃ c, X.env.cells.lookup x = some c
  cab : ∀ x c, X.fn x = true → X.env.cells.lookup x = some c → X.s_0.heap.objs.size ≤ c
  hd : X.calm = true → X.A.handled = none
  frames : X.A.frames = some X.stack
  stk : X.stack = X.outer ∨ (X.stack = X.env :: X.outer ∧ X.env.frame = some X.env.locals)
  exf : ∀ b ∈ X.ex, b ≠ X.env.locals ∧ ∀ x c, X.env.cells.lookup x = some c → c ≠ b
  bs : ∀ b o, X.base.get? b = some o → X.s_0.heap.get? b = some o ∧ X.H_0 b = none
  bsz : X.base.objs.size ≤ X.s_0.heap.objs.size
  noex : ∀ b o, X.base.get? b = some o → b ∉ X.ex
  exfs : ∀ b ∈ X.ex, b ∉ X.fs
  funs : X.s_0.heap.FunFrames X.base X.outer
  frf : ∀ b ∈ X.fs, X.H_0 b = none

structure Inv (X : Cx) (pins : List (Addr × Obj)) (σ : List (Option V)) (H : Hp) (s : Shared) : Prop where
  ok : X.Ok
  os : s.os = X.s_0.os
  bare : AllBare s.gens
  base : Un X.fs X.ex X.H_0 H X.s_0.heap s.heap
  loc : ∃ m, s.heap.Ns X.env.locals m ∧ ∀ (i : Nat) (x : Str) (v : V), X.N[i]? = some x → σ[i]? = some (some v) → Vis X.env.scope x → ∃ u, RelV v u ∧ Look X.env s.heap m x u
  cell : ∀ x c, X.env.cells.lookup x = some c → ∃ v, s.heap.IsCell c v
  free : H X.env.locals = none
  freeC : ∀ x c, X.env.cells.lookup x = some c → H c = none
  pin : ∀ p ∈ X.pn ++ pins, s.heap.get? p.1 = some p.2 ∧ H p.1 = none ∧ p.1 ≠ X.env.locals ∧ p.1 ∉ X.fs ∧ ∀ v, p.2.data ≠ .cell v
  hok : HOk X.prog X.w H s.heap
  len : σ.length = X.N.length

section
variable {X : Cx} {pins : List (Addr × Obj)} {σ : List (Option V)} {H H' : Hp} {s : Shared} {h' : Heap}

theorem Cx.Ok.nofr (ok : X.Ok) {b : Addr} {o : Obj} (e : X.base.get? b = some o) : b ∉ X.fs := fun hb => by
  have := (ok.funs.mem hb).1
  rw [e] at this; cases this
theorem Inv.bs (I : Inv X pins σ H s) : ∀ b o, X.base.get? b = some o → s.heap.get? b = some o ∧ H b = none := fun b o e =>
  ⟨I.base.keep b o (I.ok.bs b o e).1 (I.ok.bs b o e).2 (I.ok.nofr e) (I.ok.noex b o e), I.base.free b o (I.ok.bs b o e).1 (I.ok.bs b o e).2 (I.ok.noex b o e)⟩
theorem Inv.bk (I : Inv X pins σ H s) : ∀ b o, X.base.get? b = some o → s.heap.get? b = some o := fun b o e => (I.bs b o e).1
theorem Inv.mod (I : Inv X pins σ H s) : Mod X.K X.mg X.base := I.ok.mod
theorem Inv.kIn (I : Inv X pins σ H s) : X.K.In s.heap := I.ok.mod.kin.keeps I.bk
/-- the frame over the base: for OpenK's rules (K.In X.base is I.mod.kin) -/
theorem Inv.fr (I : Inv X pins σ H s) : ∃ m, Fr X.base X.env.locals s.heap m :=
  let ⟨m, hn, _⟩ := I.loc
  ⟨m, hn, I.bk, Nat.le_trans I.ok.bsz I.ok.above⟩
theorem Inv.lt (I : Inv X pins σ H s) : X.env.locals < s.heap.objs.size := let ⟨_, hn, _⟩ := I.loc; hn.lt
theorem Inv.sz (I : Inv X pins σ H s) : X.s_0.heap.objs.size ≤ s.heap.objs.size := Nat.le_trans I.ok.above (Nat.le_of_lt I.lt)
theorem Inv.nofs (I : Inv X pins σ H s) {a : Addr} (h : s.heap.objs.size ≤ a) : a ∉ X.fs := fun hb => by
  obtain ⟨_, o, ho, _⟩ := I.ok.funs.mem hb
  exact absurd (Nat.lt_of_lt_of_le (Heap.lt_size ho) (Nat.le_trans I.sz h)) (Nat.lt_irrefl _)
theorem Inv.cne (I : Inv X pins σ H s) : ∀ x c, X.env.cells.lookup x = some c → c ≠ X.env.locals := fun x c e z => by
  obtain ⟨v, o, ho, hd⟩ := I.cell x c e
  obtain ⟨m, ⟨o', es, ep, ho', hd', _⟩, _⟩ := I.loc
  rw [z, ho'] at ho; cases ho; rw [hd'] at hd; cases hd
theorem Inv.funs (I : Inv X pins σ H s) : s.heap.FunFrames X.base X.outer := by
  have all : ∀ (l : List Env), (∀ b ∈ frs l, b ∈ X.fs) → X.s_0.heap.FunFrames X.base l → s.heap.FunFrames X.base l := by
    intro l
    induction l with
    | nil => intro _ _; trivial
    | cons env r ih =>
      intro hs hl
      obtain ⟨hk, ⟨L, o, hf, hn, ho, hd⟩, hr⟩ := hl
      have hL : L ∈ X.fs := hs L (by unfold frs; rw [List.filterMap_cons, hf]; exact List.mem_cons_self)
      obtain ⟨sl, e⟩ := I.base.slot L o ho (I.ok.frf L hL) hL fun z => I.ok.exfs L z hL
      exact ⟨hk, ⟨L, _, hf, hn, e, hd⟩, ih (fun b hb => hs b (by unfold frs; rw [List.filterMap_cons, hf]; exact List.mem_cons_of_mem _ hb)) hr⟩
  exact all X.outer (fun _ hb => hb) I.ok.funs

/-- the frames that run, for a call -/
theorem Inv.stack (I : Inv X pins σ H s) : s.heap.FunFrames X.base X.stack := by
  rcases I.ok.stk with e | ⟨e, hf⟩
  · rw [e]; exact I.funs
  · rw [e]
    obtain ⟨m, hn, _⟩ := I.loc
    refine .cons (by rw [I.ok.kind]; decide) hf hn ?_ I.funs
    exact Heap.get?_none_of_le (Nat.le_trans I.ok.bsz I.ok.above)
theorem Inv.stkSub (I : Inv X pins σ H s) : ∀ b ∈ frs X.stack, b ∈ X.env.locals :: X.fs := fun b hb => by
  rcases I.ok.stk with e | ⟨e, hf⟩
  · rw [e] at hb; exact List.mem_cons_of_mem _ hb
  · rw [e] at hb
    unfold frs at hb
    rw [List.filterMap_cons, hf] at hb
    exact hb
theorem Inv.stkFree (I : Inv X pins σ H s) : ∀ b ∈ frs X.stack, H b = none := fun b hb => by
  rcases List.mem_cons.mp (I.stkSub b hb) with e | hb
  · rw [e]; exact I.free
  · obtain ⟨_, o, ho, _⟩ := I.ok.funs.mem hb
    exact I.base.free b o ho (I.ok.frf b hb) fun z => I.ok.exfs b z hb

/-- THE STEP: the untracked objects but the frame and the records at ch are kept (the callers' frames up to slots), the frame's map is kept, the new abstract heap is held -/
theorem Inv.step {g' : Array GenState} {t' : Nat} {d' : Drawn} {ch : List Addr} (I : Inv X pins σ H s)
    (hch : ∀ b ∈ ch, (b ∈ X.ex ∨ X.s_0.heap.objs.size ≤ b) ∧ b ≠ X.env.locals ∧ (∀ x c, X.env.cells.lookup x = some c → c ≠ b) ∧ ∀ p ∈ X.pn ++ pins, p.1 ≠ b)
    (keep : ∀ b o, b ≠ X.env.locals → b ∉ X.fs → b ∉ ch → s.heap.get? b = some o → H b = none → h'.get? b = some o)
    (slot : ∀ b o, b ≠ X.env.locals → b ∈ X.fs → b ∉ ch → s.heap.get? b = some o → H b = none → ∃ sl, h'.get? b = some { o with slots := sl }) (free : ∀ b o, b ∉ ch → s.heap.get? b = some o → H b = none → H' b = none)
    (there : ∀ b o, b ∉ ch → s.heap.get? b = some o → ∃ o', h'.get? b = some o')
    (tups : ∀ b xs, H b = some (.tup xs) → H' b = some (.tup xs)) (frzs : ∀ b o u, H b = some (.frz o u) → H' b = some (.frz o u)) (tbls : ∀ b ps, H b = some (.tbl ps) → ∃ more, H' b = some (.tbl (ps ++ more)))
    (ns : ∀ m, s.heap.Ns X.env.locals m → h'.Ns X.env.locals m) (hok : HOk X.prog X.w H' h') (hg : AllBare g') :
    Inv X pins σ H' { s with heap := h', gens := g', drawn := d', toks := t' } := by
  have neL : ∀ b o, X.s_0.heap.get? b = some o → b ≠ X.env.locals := fun b o e => Nat.ne_of_lt (Nat.lt_of_lt_of_le (Heap.lt_size e) I.ok.above)
  have neC : ∀ b o, X.s_0.heap.get? b = some o → b ∉ X.ex → b ∉ ch := fun b o e hx hb => by
    rcases (hch b hb).1 with z | z
    · exact hx z
    · exact absurd (Nat.lt_of_lt_of_le (Heap.lt_size e) z) (Nat.lt_irrefl _)
  have cellK : ∀ x c, X.env.cells.lookup x = some c → ∀ v, s.heap.IsCell c v → h'.IsCell c v := fun x c e v ⟨o, ho, hd⟩ => by
    have nch : c ∉ ch := fun z => (hch c z).2.2.1 x c e rfl
    by_cases hc : c ∈ X.fs
    · obtain ⟨sl, q⟩ := slot c o (I.cne x c e) hc nch ho (I.freeC x c e)
      exact ⟨_, q, hd⟩
    · exact ⟨o, keep c o (I.cne x c e) hc nch ho (I.freeC x c e), hd⟩
  refine ⟨I.ok, I.os, hg, ⟨fun b o e n hb hx => ?_, fun b o e n hb hx => ?_, fun b o e n hx => ?_, fun b o e hx => ?_, fun b xs e => tups b xs (I.base.tups b xs e), fun b o xs e => frzs b o xs (I.base.frzs b o xs e), fun b ps e => ?_⟩, ?_, fun x c e => ?_, ?_, fun x c e => ?_, fun p hp => ?_, hok, I.len⟩
  · exact keep b o (neL b o e) hb (neC b o e hx) (I.base.keep b o e n hb hx) (I.base.free b o e n hx)
  · obtain ⟨sl, e1⟩ := I.base.slot b o e n hb hx
    obtain ⟨sl', e2⟩ := slot b _ (neL b o e) hb (neC b o e hx) e1 (I.base.free b o e n hx)
    exact ⟨sl', e2⟩
  · obtain ⟨o', e1⟩ := I.base.there b o e hx
    exact free b o' (neC b o e hx) e1 (I.base.free b o e n hx)
  · obtain ⟨o', e1⟩ := I.base.there b o e hx
    exact there b o' (neC b o e hx) e1
  · obtain ⟨m1, e1⟩ := I.base.tbls b ps e
    obtain ⟨m2, e2⟩ := tbls b _ e1
    exact ⟨m1 ++ m2, by rw [e2, Array.append_assoc]⟩
  · obtain ⟨m, hn, hl⟩ := I.loc
    refine ⟨m, ns m hn, fun i x v e1 e2 e3 => ?_⟩
    obtain ⟨u, r, l⟩ := hl i x v e1 e2 e3
    refine ⟨u, r, ?_⟩
    rcases l with l | ⟨k, c, e, z⟩
    · exact .inl l
    · exact .inr ⟨k, c, e, cellK x c e _ z⟩
  · obtain ⟨v, z⟩ := I.cell x c e
    exact ⟨v, cellK x c e v z⟩
  · obtain ⟨m, ⟨o, _, _, ho, _⟩, _⟩ := I.loc
    exact free _ o (fun z => (hch _ z).2.1 rfl) ho I.free
  · obtain ⟨v, o, ho, hd⟩ := I.cell x c e
    exact free c o (fun z => (hch c z).2.2.1 x c e rfl) ho (I.freeC x c e)
  · obtain ⟨e, n, ne, nf, d⟩ := I.pin p hp
    have nch : p.1 ∉ ch := fun z => (hch p.1 z).2.2.2 p hp rfl
    exact ⟨keep p.1 p.2 ne nf nch e n, free p.1 p.2 nch e n, ne, nf, d⟩
/-- .. where the frame's own object is kept too -/
theorem Inv.un {t' : Nat} (I : Inv X pins σ H s) (u : Un X.fs [] H H' s.heap h') (hok : HOk X.prog X.w H' h') : Inv X pins σ H' { s with heap := h', toks := t' } := by
  obtain ⟨m, ⟨o, es, ep, ho, r⟩, _⟩ := id I.loc
  obtain ⟨sl, hL⟩ := u.any ho I.free (by simp)
  exact I.step (g' := s.gens) (d' := s.drawn) (ch := []) (fun _ z => nomatch z) (fun b o _ hb _ e n => u.keep b o e n hb (by simp)) (fun b o _ hb _ e n => u.slot b o e n hb (by simp)) (fun b o _ e n => u.free b o e n (by simp)) (fun b o _ e => u.there b o e (by simp)) u.tups u.frzs u.tbls (fun m' hm => by
    obtain ⟨o', es', ep', ho', r'⟩ := hm
    rw [ho] at ho'; cases ho'
    exact ⟨_, es', ep', hL, r'⟩) hok I.bare
/-- behind a call (or a comprehension's block): the slots of this frame may have changed too, the records at ch may have turned -/
theorem Inv.call {g' : Array GenState} {t' : Nat} {d' : Drawn} {ch : List Addr} (I : Inv X pins σ H s) (u : Un (frs X.stack) ch H H' s.heap h') (hok : HOk X.prog X.w H' h') (hg : AllBare g')
    (hch : ∀ b ∈ ch, (b ∈ X.ex ∨ X.s_0.heap.objs.size ≤ b) ∧ b ≠ X.env.locals ∧ (∀ x c, X.env.cells.lookup x = some c → c ≠ b) ∧ ∀ p ∈ X.pn ++ pins, p.1 ≠ b) :
    Inv X pins σ H' { s with heap := h', gens := g', drawn := d', toks := t' } := by
  obtain ⟨m, ⟨o, es, ep, ho, r⟩, _⟩ := id I.loc
  obtain ⟨sl, hL⟩ := u.any ho I.free fun z => (hch _ z).2.1 rfl
  exact I.step (ch := ch) hch (fun b o hL hb hc e n => u.keep b o e n (fun z => (List.mem_cons.mp (I.stkSub b z)).elim hL hb) hc) (fun b o _ _ hc e n => u.any e n hc) (fun b o hc e n => u.free b o e n hc) (fun b o hc e => u.there b o e hc) u.tups u.frzs u.tbls (fun m' hm => by
    obtain ⟨o', es', ep', ho', r'⟩ := hm
    rw [ho] at ho'; cases ho'
    exact ⟨_, es', ep', hL, r'⟩) hok hg
/-- an untracked record of ours (an iterator) has turned -/
theorem Inv.turned {t' : Nat} {it : Addr} (I : Inv X pins σ H s) (k : ∀ b o, b ≠ it → s.heap.get? b = some o → h'.get? b = some o) (hn : H it = none) (hL : it ≠ X.env.locals)
    (h1 : it ∈ X.ex ∨ X.s_0.heap.objs.size ≤ it) (h2 : ∀ x c, X.env.cells.lookup x = some c → c ≠ it) (h3 : ∀ p ∈ X.pn ++ pins, p.1 ≠ it) : Inv X pins σ H { s with heap := h', toks := t' } := by
  have nit : ∀ b u, H b = some u → b ≠ it := fun b u e z => by rw [z, hn] at e; cases e
  refine I.step (g' := s.gens) (d' := s.drawn) (ch := [it]) (fun b hb => ?_) (fun b o _ _ hc e _ => k b o (fun z => hc (by simp [z])) e) (fun b o _ _ hc e _ => ⟨o.slots, k b o (fun z => hc (by simp [z])) e⟩) (fun _ _ _ _ n => n)
    (fun b o hc e => ⟨o, k b o (fun z => hc (by simp [z])) e⟩) (fun _ _ e => e) (fun _ _ _ e => e) (fun b ps e => ⟨#[], by rw [e]; simp⟩) (fun m hm => ?_) (fun b u e => ?_) I.bare
  · have e : b = it := by simpa using hb
    subst e
    exact ⟨h1, hL, h2, h3⟩
  · obtain ⟨o, es, ep, ho, r⟩ := hm
    exact ⟨o, es, ep, k _ o (Ne.symm hL) ho, r⟩
  · refine (I.hok b u e).stay (fun c v hc q => k c v ?_ q) (fun _ q => q) fun _ _ q => q
    rcases hc with z | z
    · rw [z]; exact nit b u e
    · exact nit c _ z
theorem Inv.tok (I : Inv X pins σ H s) (t : Nat) : Inv X pins σ H { s with toks := t } := I.un (h' := s.heap) (t' := t) Un.refl I.hok
/-- all objects kept -/
theorem Inv.kept {t' : Nat} (I : Inv X pins σ H s) (k : ∀ b u, s.heap.get? b = some u → h'.get? b = some u) : Inv X pins σ H { s with heap := h', toks := t' } := I.un (Un.kept k) (I.hok.kept k)
/-- a new object laid and tracked -/
theorem Inv.laid {a : Addr} {o : HO} {t' : Nat} (I : Inv X pins σ H s) (k : ∀ b u, s.heap.get? b = some u → h'.get? b = some u) (hp : s.heap.objs.size ≤ a) (new : ObjOk X.prog X.w (upd H a o) h' a o) :
    Inv X pins σ (upd H a o) { s with heap := h', toks := t' } := I.un (Un.laid k hp (I.hok.fresh hp)) (I.hok.laid k hp new)
/-- an object written -/
theorem Inv.write {x e : Addr} {o : HO} {t' : Nat} (I : Inv X pins σ H s) (mu : Mut (H x)) (he : e = x ∨ H e = some (.own x)) (k : ∀ b u, b ≠ e → s.heap.get? b = some u → h'.get? b = some u) (heo : ∃ u, h'.get? e = some u)
    (new : ObjOk X.prog X.w (upd H x o) h' x o) : Inv X pins σ (upd H x o) { s with heap := h', toks := t' } := I.un (Un.write mu he k heo) (I.hok.write mu he k heo new)
/-- forgetting slots, pins -/
theorem Inv.weak {σ' : List (Option V)} (I : Inv X pins σ H s) (hl : σ'.length = σ.length) (w : ∀ (i : Nat) v, σ'[i]? = some (some v) → σ[i]? = some (some v)) : Inv X pins σ' H s :=
  ⟨I.ok, I.os, I.bare, I.base, let ⟨m, hn, hl'⟩ := I.loc; ⟨m, hn, fun i x v e1 e2 e3 => hl' i x v e1 (w i v e2) e3⟩, I.cell, I.free, I.freeC, I.pin, I.hok, hl.trans I.len⟩
theorem Inv.pins_of {pins' : List (Addr × Obj)} (I : Inv X pins σ H s) (h : ∀ p ∈ pins', s.heap.get? p.1 = some p.2 ∧ H p.1 = none ∧ p.1 ≠ X.env.locals ∧ p.1 ∉ X.fs ∧ ∀ v, p.2.data ≠ .cell v) : Inv X pins' σ H s :=
  ⟨I.ok, I.os, I.bare, I.base, I.loc, I.cell, I.free, I.freeC, fun p hp => (List.mem_append.mp hp).elim (fun z => I.pin p (List.mem_append_left _ z)) (h p), I.hok, I.len⟩

theorem nodup_ix {N : List Str} (hN : N.Nodup) {i j : Nat} {x : Str} (a : N[i]? = some x) (b : N[j]? = some x) : i = j := by
  obtain ⟨h1, e1⟩ := List.getElem?_eq_some_iff.mp a
  obtain ⟨h2, e2⟩ := List.getElem?_eq_some_iff.mp b
  exact (List.getElem_inj hN).mp (e1.trans e2.symm)

/-- a name is stored; what changed -/
theorem store_ok2 {M : Model} {A : Around} {E : Value → Shared → Prop} {i : Nat} {x : Str} {v : V} {u : Value} {Q : Unit → Shared → Prop} (I : Inv X pins σ H s) (hN : X.N.Nodup) (hi : X.N[i]? = some x) (hx : Loc X.env.scope x) (r : RelV v u)
    (h : ∀ s', Inv X pins (σ.set i (some v)) H s' → (∃ a, Heap.SameBut a s.heap s'.heap ∧ (a = X.env.locals ∨ X.env.cells.lookup x = some a)) → Q () s') (hf : X.fn x = true ∨ X.env.scope.names.lookup x = some .local := by first | exact .inl rfl | exact .inr rfl | assumption) : wpAny M A (storeName X.env x u) Q E s := by
  obtain ⟨m, hn, hl⟩ := id I.loc
  have hcls : (X.env.scope.kind == .class || (X.env.scope.kind == .module && X.env.locals != X.env.globals)) = false := by rw [I.ok.kind]; rfl
  have hiσ : i < σ.length := by rw [I.len]; exact (List.getElem?_eq_some_iff.mp hi).1
  have cne := I.cne
  have tracked : ∀ {a : Addr} {h' : Heap}, (∃ o, s.heap.get? a = some o ∧ H a = none) → Heap.SameBut a s.heap h' → HOk X.prog X.w H h' := fun {a h'} ha hs b ob e => by
    obtain ⟨_, _, hfree⟩ := ha
    refine (I.hok b ob e).stay (fun c w' hc q => (hs.2 c ?_).trans q) (fun _ q => q) fun _ _ q => q
    rintro rfl
    rcases hc with rfl | hc
    · rw [hfree] at e; cases e
    · rw [hfree] at hc; cases hc
  rcases hx with hk | hk
  · refine wpAny_storeName_local hk hn (fun h' hn' hs => ?_) hcls
    obtain ⟨oL, _, _, hoL, _⟩ := id hn
    refine h _ ⟨I.ok, I.os, I.bare, ⟨fun b o e n hb hx => ?_, fun b o e n hb hx => ?_, I.base.free, fun b o e hx => ?_, I.base.tups, I.base.frzs, I.base.tbls⟩, ⟨_, hn', fun j y v' e1 e2 e3 => ?_⟩, fun y c e => ?_, I.free, I.freeC, fun p hp => ?_, tracked ⟨oL, hoL, I.free⟩ hs, by simpa using I.len⟩ ⟨_, hs, .inl rfl⟩
    · exact (hs.2 b (Nat.ne_of_lt (Nat.lt_of_lt_of_le (Heap.lt_size e) I.ok.above))).trans (I.base.keep b o e n hb hx)
    · obtain ⟨sl, e1⟩ := I.base.slot b o e n hb hx
      exact ⟨sl, (hs.2 b (Nat.ne_of_lt (Nat.lt_of_lt_of_le (Heap.lt_size e) I.ok.above))).trans e1⟩
    · obtain ⟨o', e1⟩ := I.base.there b o e hx
      exact ⟨o', (hs.2 b (Nat.ne_of_lt (Nat.lt_of_lt_of_le (Heap.lt_size e) I.ok.above))).trans e1⟩
    · by_cases hj : j = i
      · subst hj
        rw [hi] at e1; cases e1
        rw [List.getElem?_set_self hiσ] at e2
        cases e2
        exact ⟨u, r, .inl ⟨hk, by simp⟩⟩
      · rw [List.getElem?_set_ne (Ne.symm hj)] at e2
        obtain ⟨u', r', q⟩ := hl j y v' e1 e2 e3
        refine ⟨u', r', ?_⟩
        rcases q with ⟨k, e⟩ | ⟨k, c, e, z⟩
        · refine .inl ⟨k, ?_⟩
          have : y ≠ x := fun e => hj (nodup_ix hN e1 (e ▸ hi))
          simp [this, e]
        · exact .inr ⟨k, c, e, z.sameBut hs (cne y c e)⟩
    · obtain ⟨w', z⟩ := I.cell y c e
      exact ⟨w', z.sameBut hs (cne y c e)⟩
    · obtain ⟨e, n, ne, nf, d⟩ := I.pin p hp
      exact ⟨(hs.2 p.1 ne).trans e, n, ne, nf, d⟩
  · have hfn : X.fn x = true := by
      rcases hf with z | z
      · exact z
      · rw [z] at hk; cases hk
    obtain ⟨c, hc⟩ := I.ok.has x (.inl hk)
    obtain ⟨w', z⟩ := I.cell x c hc
    refine wpAny_storeName_cell I.ok.kind hk hc z (fun h' hc' hs => ?_)
    obtain ⟨oc, hoc, hocd⟩ := id z
    refine h { s with heap := h' } ⟨I.ok, I.os, I.bare, ⟨fun b o e n hb hx => ?_, fun b o e n hb hx => ?_, I.base.free, fun b o e hx => ?_, I.base.tups, I.base.frzs, I.base.tbls⟩, ⟨m, hn.sameBut hs (Ne.symm (cne x c hc)), fun j y v' e1 e2 e3 => ?_⟩, fun y c' e => ?_, I.free, I.freeC, fun p hp => ?_, tracked ⟨oc, hoc, I.freeC x c hc⟩ hs, by simpa using I.len⟩ ⟨c, hs, .inr hc⟩
    · exact (hs.2 b (Nat.ne_of_lt (Nat.lt_of_lt_of_le (Heap.lt_size e) (I.ok.cab x c hfn hc)))).trans (I.base.keep b o e n hb hx)
    · obtain ⟨sl, e1⟩ := I.base.slot b o e n hb hx
      exact ⟨sl, (hs.2 b (Nat.ne_of_lt (Nat.lt_of_lt_of_le (Heap.lt_size e) (I.ok.cab x c hfn hc)))).trans e1⟩
    · obtain ⟨o', e1⟩ := I.base.there b o e hx
      exact ⟨o', (hs.2 b (Nat.ne_of_lt (Nat.lt_of_lt_of_le (Heap.lt_size e) (I.ok.cab x c hfn hc)))).trans e1⟩
    · by_cases hj : j = i
      · subst hj
        rw [hi] at e1; cases e1
        rw [List.getElem?_set_self hiσ] at e2
        cases e2
        exact ⟨u, r, .inr ⟨.inl hk, c, hc, hc'⟩⟩
      · rw [List.getElem?_set_ne (Ne.symm hj)] at e2
        obtain ⟨u', r', q⟩ := hl j y v' e1 e2 e3
        refine ⟨u', r', ?_⟩
        rcases q with q | ⟨k, c', e, z'⟩
        · exact .inl q
        · refine .inr ⟨k, c', e, z'.sameBut hs ?_⟩
          rintro rfl
          exact hj (nodup_ix hN e1 (I.ok.inj _ _ _ e hc ▸ hi))
    · by_cases hcc : c' = c
      · subst hcc; exact ⟨_, hc'⟩
      · obtain ⟨w2, z2⟩ := I.cell y c' e
        exact ⟨w2, z2.sameBut hs hcc⟩
    · obtain ⟨e, n, ne, nf, d⟩ := I.pin p hp
      refine ⟨(hs.2 p.1 ?_).trans e, n, ne, nf, d⟩
      intro q
      rw [q, hoc] at e
      have q' : oc = p.2 := Option.some.inj e
      exact d w' (by rw [← q']; exact hocd)
theorem store_ok {M : Model} {A : Around} {E : Value → Shared → Prop} {i : Nat} {x : Str} {v : V} {u : Value} {Q : Unit → Shared → Prop} (I : Inv X pins σ H s) (hN : X.N.Nodup) (hi : X.N[i]? = some x) (hx : Loc X.env.scope x) (r : RelV v u)
    (h : ∀ s', Inv X pins (σ.set i (some v)) H s' → Q () s') (hf : X.fn x = true ∨ X.env.scope.names.lookup x = some .local := by first | exact .inl rfl | exact .inr rfl | assumption) : wpAny M A (storeName X.env x u) Q E s :=
  store_ok2 I hN hi hx r (fun s' I' _ => h s' I') hf
/-- behind a call or a block, the state as it is -/
theorem Inv.call' {s' : Shared} {ch : List Addr} (I : Inv X pins σ H s) (ho : s'.os = s.os) (u : Un (frs X.stack) ch H H' s.heap s'.heap) (hok : HOk X.prog X.w H' s'.heap) (hg : AllBare s'.gens)
    (hch : ∀ b ∈ ch, (b ∈ X.ex ∨ X.s_0.heap.objs.size ≤ b) ∧ b ≠ X.env.locals ∧ (∀ x c, X.env.cells.lookup x = some c → c ≠ b) ∧ ∀ p ∈ X.pn ++ pins, p.1 ≠ b) : Inv X pins σ H' s' := by
  obtain ⟨h', g', d', t', o'⟩ := s'
  have e : o' = s.os := ho
  subst e
  exact I.call (g' := g') (t' := t') (d' := d') u hok hg hch
end

/-! ### the judgements -/
/-- an exception: its class, its own dict's address (where it has one), the abstract heap behind it -/
abbrev XK := Value → Option Addr → Hp → Prop
abbrev St := List (Option V)
abbrev VK := V → Hp → Prop
/-- an expression's reading; a test's; an argument list's -/
abbrev TE := St → Hp → VK → Prop
abbrev TT := St → Hp → (Bool → Hp → Prop) → Prop
abbrev TA := St → Hp → (List V → Hp → Prop) → Prop
/-- what is wanted behind a statement -/
structure Ends where
  nx : St → Hp → Prop
  rt : VK
  bk : St → Hp → Prop := fun _ _ => False
  ct : St → Hp → Prop := fun _ _ => False
abbrev TS := Ends → St → Hp → Prop

def EP (X : Cx) (pins : List (Addr × Obj)) (σ : St) (Q : VK) (u : Value) (s' : Shared) : Prop := ∃ v H', Inv X pins σ H' s' ∧ RelV v u ∧ Q v H'
def TP (X : Cx) (pins : List (Addr × Obj)) (σ : St) (Q : Bool → Hp → Prop) (b : Bool) (s' : Shared) : Prop := ∃ H', Inv X pins σ H' s' ∧ Q b H'
def AP (X : Cx) (pins : List (Addr × Obj)) (σ : St) (Q : List V → Hp → Prop) (us : List Value) (s' : Shared) : Prop := ∃ vs H', Inv X pins σ H' s' ∧ Vals vs us ∧ Q vs H'
def SP (X : Cx) (pins : List (Addr × Obj)) (D : Ends) (f : Flow) (s' : Shared) : Prop :=
  match f with
  | .next => ∃ σ' H', Inv X pins σ' H' s' ∧ D.nx σ' H'
  | .brk => ∃ σ' H', Inv X pins σ' H' s' ∧ D.bk σ' H'
  | .cont => ∃ σ' H', Inv X pins σ' H' s' ∧ D.ct σ' H'
  | .ret u => ∃ v σ' H', Inv X pins σ' H' s' ∧ RelV v u ∧ D.rt v H'

def PE (X : Cx) (e : Expr) (t : TE) : Prop :=
  ∀ (pins : List (Addr × Obj)) (s : Shared) (σ : St) (H : Hp) (Q : VK), Inv X pins σ H s → t σ H Q → wpAny (model X.prog X.w) X.A (eval e X.env) (EP X pins σ Q) X.xe s
def PT (X : Cx) (e : Expr) (t : TT) : Prop :=
  ∀ (pins : List (Addr × Obj)) (s : Shared) (σ : St) (H : Hp) (Q : Bool → Hp → Prop), Inv X pins σ H s → t σ H Q → wpAny (model X.prog X.w) X.A (isTrue e X.env (eval e X.env)) (TP X pins σ Q) X.xe s
/-- a test whatever its 'whole' is (and, or) -/
def PW (X : Cx) (e : Expr) (t : TT) : Prop :=
  ∀ (whole : Sem Value) (pins : List (Addr × Obj)) (s : Shared) (σ : St) (H : Hp) (Q : Bool → Hp → Prop), Inv X pins σ H s → t σ H Q → wpAny (model X.prog X.w) X.A (isTrue e X.env whole) (TP X pins σ Q) X.xe s
theorem PW.pt {X : Cx} {e : Expr} {t : TT} (h : PW X e t) : PT X e t := h _
/-- an argument list (no star), from the left -/
def PA (X : Cx) (es : List Expr) (t : TA) : Prop :=
  ∀ (pos : Pos) (pins : List (Addr × Obj)) (s : Shared) (σ : St) (H : Hp) (Q : List V → Hp → Prop), Inv X pins σ H s → t σ H Q → wpAny (model X.prog X.w) X.A (spliced (backTo pos (starEach es X.env))) (AP X pins σ Q) X.xe s
def PS (X : Cx) (st : Stmt) (t : TS) : Prop :=
  ∀ (pins : List (Addr × Obj)) (s : Shared) (σ : St) (H : Hp) (D : Ends), Inv X pins σ H s → t D σ H → wpAny (model X.prog X.w) X.A (exec st X.env) (SP X pins D) X.xe s
def PSs (X : Cx) (st : List Stmt) (t : TS) : Prop :=
  ∀ (pins : List (Addr × Obj)) (s : Shared) (σ : St) (H : Hp) (D : Ends), Inv X pins σ H s → t D σ H → wpAny (model X.prog X.w) X.A (execs st X.env) (SP X pins D) X.xe s
/-- weaken the end -/
theorem thn {α : Type} {t : Sem α} {Q Q' : α → Shared → Prop} {M : Model} {A : Around} {E : Value → Shared → Prop} {s : Shared} (h : wpAny M A t Q E s) (hQ : ∀ a s, Q a s → Q' a s) : wpAny M A t Q' E s := wpAny_mono h hQ fun _ _ x => x
end L2

namespace L2
open PySem PySem.Spec PyProof.Rows
section
variable {X : Cx}

/-- two expressions in a row -/
theorem bin {a b : Expr} {ta tb : TE} (ha : PE X a ta) (hb : PE X b tb) {pins : List (Addr × Obj)} {s : Shared} {σ : St} {H : Hp} {R : V → V → Hp → Prop} (I : Inv X pins σ H s) (h : ta σ H fun x H1 => tb σ H1 fun y H2 => R x y H2)
    {α : Type} {Q : α → Shared → Prop} {f : Value → Value → Sem α}
    (hf : ∀ v u s2 x y H2, Inv X pins σ H2 s2 → RelV x v → RelV y u → R x y H2 → wpAny (model X.prog X.w) X.A (f v u) Q X.xe s2) :
    wpAny (model X.prog X.w) X.A (eval a X.env) (fun v s₁ => wpAny (model X.prog X.w) X.A (eval b X.env) (fun u s₂ => wpAny (model X.prog X.w) X.A (f v u) Q X.xe s₂) X.xe s₁) X.xe s := by
  refine thn (ha pins s σ H _ I h) fun v s1 ⟨x, H1, I1, r1, q1⟩ => ?_
  refine thn (hb pins s1 σ H1 _ I1 q1) fun u s2 ⟨y, H2, I2, r2, q2⟩ => ?_
  exact hf v u s2 x y H2 I2 r1 r2 q2

/-! ### names and constants -/
def tVar (i : Nat) : TE := fun σ H Q => ∃ v, σ[i]? = some (some v) ∧ Q v H
def tC (v : V) : TE := fun _ H Q => Q v H
theorem pe_var {i : Nat} {x : Str} {pos : Pos} (hN : X.N[i]? = some x) (hv : Vis X.env.scope x) (hd : (x == ("__debug__" : Str)) = false := by decide) (hcd : (x == ("__classdict__" : Str)) = false := by decide) : PE X (.Name x pos) (tVar i) := by
  intro pins s σ H Q I h
  obtain ⟨v, e, h⟩ := h
  obtain ⟨m, hn, hl⟩ := I.loc
  obtain ⟨u, r, l⟩ := hl i x v hN e hv
  have fin : EP X pins σ Q u s := ⟨v, H, I, r, h⟩
  rcases l with ⟨hk, hm⟩ | ⟨hk, c, hc, hcell⟩
  · exact wpAny_Name (wpAny_loadName_local I.ok.kind hk hn hm fin) hd
  · rcases hk with hk | hk
    · exact wpAny_Name (wpAny_loadName_cell I.ok.kind hk hc hcell fin) hd
    · exact wpAny_Name (wpAny_loadName_free I.ok.kind hk hc hcell fin hcd) hd
theorem pe_int {i j pos} : PE X (.Constant (.int i) j pos) (tC (.int i)) := fun _ _ _ H _ I h => wpAny_Constant_int ⟨.int i, H, I.tok _, ⟨_, rfl⟩, h⟩
theorem pe_bl {b j pos} : PE X (.Constant (.bool b) j pos) (tC (.bl b)) := fun _ _ _ H _ I h => Constant_bool ⟨.bl b, H, I, rfl, h⟩
/-- a global name of the def -/
def Gl (X : Cx) (x : Str) : Prop := X.env.kindOf x = some .globalImplicit
theorem ld_glob {E : Value → Shared → Prop} {pins : List (Addr × Obj)} {s : Shared} {σ : St} {H : Hp} {x : Str} {u : Value} {pos : Pos} {Q : Value → Shared → Prop} (I : Inv X pins σ H s) (hg : Gl X x) (hm : X.mg x = some u) (h : Q u s)
    (hd : (x == ("__debug__" : Str)) = false := by decide) : wpAny (model X.prog X.w) X.A (eval (.Name x pos) X.env) Q E s :=
  Calls.Name_function_global I.ok.kind hg (Calls.loadGlobal_global (by rw [I.ok.glob]; exact I.mod.glob.keeps I.bk) hm h) hd
theorem ld_blt {E : Value → Shared → Prop} {pins : List (Addr × Obj)} {s : Shared} {σ : St} {H : Hp} {x : Str} {u : Value} {pos : Pos} {Q : Value → Shared → Prop} (I : Inv X pins σ H s) (hg : Gl X x) (hm : X.mg x = none) (hv : bootBuiltins x = some u) (h : Q u s)
    (hn : x ≠ "__name__" := by decide) (hd : (x == ("__debug__" : Str)) = false := by decide) : wpAny (model X.prog X.w) X.A (eval (.Name x pos) X.env) Q E s := by
  obtain ⟨mb, h1, h2⟩ := I.mod.blt
  exact Calls.Name_function_global I.ok.kind hg (Calls.loadGlobal_builtin (by rw [I.ok.glob]; exact I.mod.glob.keeps I.bk) hm (by rw [I.ok.blt]; exact h1.keeps I.bk) ((h2 x hn).trans hv) h) hd
/-- a module's constant, a class, a function, as a value -/
theorem pe_glob {x : Str} {v : V} {u : Value} {pos : Pos} (hg : Gl X x) (hm : X.mg x = some u) (r : RelV v u) (hd : (x == ("__debug__" : Str)) = false := by decide) : PE X (.Name x pos) (tC v) :=
  fun _ _ _ H _ I h => ld_glob I hg hm ⟨v, H, I, r, h⟩ hd
/-! ### arithmetic -/
/-- two ints -/
def t2I (ta tb : TE) (k : Int → Int → Hp → Prop) : St → Hp → Prop := fun σ H => ta σ H fun x H1 => tb σ H1 fun y H2 => ∃ i j, x = .int i ∧ y = .int j ∧ k i j H2
def tAdd (ta tb : TE) : TE := fun σ H Q => t2I ta tb (fun i j H2 => Q (.int (i + j)) H2) σ H
def tSub (ta tb : TE) : TE := fun σ H Q => t2I ta tb (fun i j H2 => Q (.int (i - j)) H2) σ H
/-- the left factor below 2^64 -/
def tMul (ta tb : TE) : TE := fun σ H Q => t2I ta tb (fun i j H2 => (-(2 ^ 64) < i ∧ i < 2 ^ 64) ∧ Q (.int (i * j)) H2) σ H
variable {a b : Expr} {ta tb : TE} {pos : Pos}
/-! ### comparisons -/
def PC (X : Cx) (op : CmpOp) (a b : Expr) (t : TE) : Prop :=
  ∀ (pins : List (Addr × Obj)) (s : Shared) (σ : St) (H : Hp) (Q : VK), Inv X pins σ H s → t σ H Q →
    wpAny (model X.prog X.w) X.A (eval a X.env) (fun v s₁ => wpAny (model X.prog X.w) X.A (eval b X.env) (fun u s₂ => wpAny (model X.prog X.w) X.A (compareOp op v u) (EP X pins σ Q) X.xe s₂) X.xe s₁) X.xe s
def tCmp (p : Int → Int → Bool) (ta tb : TE) : TE := fun σ H Q => t2I ta tb (fun i j H2 => Q (.bl (p i j)) H2) σ H
abbrev tLt : TE → TE → TE := tCmp fun i j => decide (i < j)
abbrev tLe : TE → TE → TE := tCmp fun i j => decide (i ≤ j)
abbrev tGt : TE → TE → TE := tCmp fun i j => decide (j < i)
abbrev tGe : TE → TE → TE := tCmp fun i j => decide (j ≤ i)
abbrev tEqI : TE → TE → TE := tCmp fun i j => decide (i = j)
abbrev tNeI : TE → TE → TE := tCmp fun i j => !decide (i = j)
/-- is None -/
def tIsN (ta : TE) : TE := fun σ H Q => ta σ H fun x H1 => Q (.bl (decide (x = .non))) H1
def tNotN (ta : TE) : TE := fun σ H Q => ta σ H fun x H1 => Q (.bl (!decide (x = .non))) H1
/-- a comparison as a value, as a test -/
def tB (t : TE) : TT := fun σ H Q => t σ H fun x H1 => ∃ c, x = .bl c ∧ Q c H1
theorem pe_cmp {op : CmpOp} {t : TE} (h : PC X op a b t) (h1 : behindInMarks op b = false := by first | exact nobehind _ (by decide) (by decide) | rfl) : PE X (.Compare a [op] [b] pos) t := fun pins s σ H Q I hw => wpAny_Compare1 (h pins s σ H Q I hw) h1
theorem pt_cmp {op : CmpOp} {t : TE} (h : PC X op a b t) (h1 : behindInMarks op b = false := by first | exact nobehind _ (by decide) (by decide) | rfl) : PT X (.Compare a [op] [b] pos) (tB t) := by
  intro pins s σ H Q I hw
  refine wpAny_isTrue_Compare1 (thn (h pins s σ H _ I hw) fun v s1 h1 => thn h1 fun u s2 h2 => thn h2 fun c s3 ⟨x, H1, I1, r1, q1⟩ => ?_) h1
  obtain ⟨d, rfl, q⟩ := q1
  cases r1
  exact wpAny_truthy_bool ⟨H1, I1, q⟩
/-- an expression whose value is a bool, as a test -/
theorem pt_val {e : Expr} {t : TE} (h : PE X e t) (he : ∀ whole, isTrue e X.env whole = (do let v ← whole; standAt e.pos; holding [v] (truthy v)) := by intro _; rfl) : PT X e (tB t) := by
  intro pins s σ H Q I hw
  refine isTrue_plain (thn (h pins s σ H _ I hw) fun v s1 ⟨x, H1, I1, r1, q1⟩ => ?_) (he _)
  obtain ⟨d, rfl, q⟩ := q1
  cases r1
  exact wpAny_truthy_bool ⟨H1, I1, q⟩

/-! ### and, or, not -/
variable {tA tB' : TT} {rest : List Expr}
def tAnd (t u : TT) : TT := fun σ H Q => t σ H fun c H1 => if c = true then u σ H1 Q else Q false H1
def tOr (t u : TT) : TT := fun σ H Q => t σ H fun c H1 => if c = true then Q true H1 else u σ H1 Q
def tNot (t : TT) : TT := fun σ H Q => t σ H fun c H1 => Q (!c) H1
theorem pw_and1 (ha : PT X a tA) : PW X (.BoolOp .And [a] pos) tA := by
  intro wh pins s σ H Q I h
  refine isTrue_and (thn (ha pins s σ H Q I h) fun c s1 e => ?_)
  cases c with
  | true => exact isTrue_and_nil e
  | false => exact e
theorem pw_or1 (ha : PT X a tA) : PW X (.BoolOp .Or [a] pos) tA := by
  intro wh pins s σ H Q I h
  refine isTrue_or (thn (ha pins s σ H Q I h) fun c s1 e => ?_)
  cases c with
  | false => exact isTrue_or_nil e
  | true => exact e
theorem pw_and (ha : PT X a tA) (hb : PW X (.BoolOp .And (b :: rest) pos) tB') : PW X (.BoolOp .And (a :: b :: rest) pos) (tAnd tA tB') := by
  intro wh pins s σ H Q I h
  refine isTrue_and (thn (ha pins s σ H _ I h) fun c s1 ⟨H1, I1, q1⟩ => ?_)
  cases c with
  | true => exact hb wh pins s1 σ H1 Q I1 q1
  | false => exact ⟨H1, I1, q1⟩
theorem pw_or (ha : PT X a tA) (hb : PW X (.BoolOp .Or (b :: rest) pos) tB') : PW X (.BoolOp .Or (a :: b :: rest) pos) (tOr tA tB') := by
  intro wh pins s σ H Q I h
  refine isTrue_or (thn (ha pins s σ H _ I h) fun c s1 ⟨H1, I1, q1⟩ => ?_)
  cases c with
  | true => exact ⟨H1, I1, q1⟩
  | false => exact hb wh pins s1 σ H1 Q I1 q1
theorem pt_not (ha : PT X a tA) : PT X (.UnaryOp .Not a pos) (tNot tA) := by
  intro pins s σ H Q I h
  exact isTrue_not (ha pins s σ H (fun c H1 => Q (!c) H1) I h)
/-- .. as values (bools) -/
def tAndV (ta tb : TE) : TE := fun σ H Q => ta σ H fun x H1 => ∃ c, x = .bl c ∧ if c = true then tb σ H1 Q else Q (.bl false) H1
def tOrV (ta tb : TE) : TE := fun σ H Q => ta σ H fun x H1 => ∃ c, x = .bl c ∧ if c = true then Q (.bl true) H1 else tb σ H1 Q
def tNotV (ta : TE) : TE := fun σ H Q => ta σ H fun x H1 => ∃ c, x = .bl c ∧ Q (.bl (!c)) H1
/-- a if t else b -/
def tIf (t : TT) (ta tb : TE) : TE := fun σ H Q => t σ H fun c H1 => if c = true then ta σ H1 Q else tb σ H1 Q
end
end L2

namespace L2
open PySem PySem.Spec PyProof.Rows

/-! ### a list, a tuple that is read: tracked, frozen, or an object of the module -/
def SqL (K : PySem.W.Frag) (H : Hp) (a : Addr) (xs : List V) : Prop :=
  Rd H a (.lst xs) ∨
    ∃ (o : Obj) (its : Array Value) (n : Nat), K.lookup a = some o ∧ o.cls = .type "list" ∧ o.dict = none ∧ o.data = .seq its n ∧ its.size ≤ sizeLine ∧ Vals xs its.toList
def SqT (K : PySem.W.Frag) (H : Hp) (a : Addr) (xs : List V) : Prop :=
  Rd H a (.tup xs) ∨
    ∃ (o : Obj) (its : Array Value) (n : Nat), K.lookup a = some o ∧ o.cls = .type "tuple" ∧ o.data = .seq its n ∧ its.size ≤ sizeLine ∧ Vals xs its.toList
def absV : Value → Option V
  | .none => some .non
  | .bool b => some (.bl b)
  | .int i _ => some (.int i)
  | .str x _ => some (.str x)
  | .bytes b _ => some (.byt b)
  | .float b _ => some (.flt b)
  | .ref a => some (.ref a)
  | .type n => some (.ty n)
  | _ => none
theorem RelV.abs {x : V} {u : Value} (r : RelV x u) : absV u = some x := by
  cases x with
  | non => cases r; rfl
  | bl _ => cases r; rfl
  | int _ => obtain ⟨t, rfl⟩ := r; rfl
  | str _ => obtain ⟨t, rfl⟩ := r; rfl
  | byt _ => obtain ⟨t, rfl⟩ := r; rfl
  | flt _ => obtain ⟨t, rfl⟩ := r; rfl
  | ref _ => cases r; rfl
  | ty _ => cases r; rfl
theorem RelV.inj {x y : V} {u : Value} (r : RelV x u) (q : RelV y u) : x = y := Option.some.inj (r.abs.symm.trans q.abs)
theorem Vals.inj : ∀ {xs ys : List V} {us : List Value}, Vals xs us → Vals ys us → xs = ys
  | _, _, _, .nil, .nil => rfl
  | _, _, _, .cons r t, .cons r' t' => by rw [r.inj r', Vals.inj t t']
section
variable {X : Cx} {pins : List (Addr × Obj)} {σ : St} {H : Hp} {s : Shared} {a : Addr} {xs ys : List V}
theorem SqL.of {K : PySem.W.Frag} (h : H a = some (.lst xs)) : SqL K H a xs := .inl (.inl h)
theorem SqT.of {K : PySem.W.Frag} (h : H a = some (.tup xs)) : SqT K H a xs := .inl (.inl h)
theorem Inv.list (I : Inv X pins σ H s) (h : SqL X.K H a xs) : ∃ its : List Value, Vals xs its ∧ PlainL s.heap a its.toArray ∧ xs.length ≤ sizeLine := by
  rcases h with h | ⟨o, its, n, hk, hc, hd, hs, hz, r⟩
  · obtain ⟨z, its, n, r, e⟩ := h.ok I.hok
    exact ⟨its, r, ⟨_, n, e, rfl, rfl, rfl⟩, z⟩
  · refine ⟨its.toList, r, ⟨o, n, I.kIn a o hk, hc, hd, by simpa using hs⟩, ?_⟩
    have e := r.length
    simp only [Array.length_toList] at e
    omega
theorem Inv.tuple (I : Inv X pins σ H s) (h : SqT X.K H a xs) : ∃ its : List Value, Vals xs its ∧ IsTup s.heap a its.toArray ∧ xs.length ≤ sizeLine := by
  rcases h with h | ⟨o, its, n, hk, hc, hs, hz, r⟩
  · obtain ⟨z, its, r, p⟩ := h.ok I.hok
    exact ⟨its, r, p, z⟩
  · refine ⟨its.toList, r, ⟨o, I.kIn a o hk, hc, n, by simpa using hs⟩, ?_⟩
    have e := r.length
    simp only [Array.length_toList] at e
    omega
theorem Inv.list_inj (I : Inv X pins σ H s) (h : SqL X.K H a xs) (h' : SqL X.K H a ys) : xs = ys := by
  obtain ⟨its, r, ⟨o, n, e, _, _, d⟩, _⟩ := I.list h
  obtain ⟨its', r', ⟨o', n', e', _, _, d'⟩, _⟩ := I.list h'
  rw [e] at e'; cases e'
  rw [d] at d'
  injection d' with d1 _
  have : its = its' := by simpa using congrArg Array.toList d1
  subst this
  exact r.inj r'
theorem Inv.tuple_inj (I : Inv X pins σ H s) (h : SqT X.K H a xs) (h' : SqT X.K H a ys) : xs = ys := by
  obtain ⟨its, r, ⟨o, e, _, n, d⟩, _⟩ := I.tuple h
  obtain ⟨its', r', ⟨o', e', _, n', d'⟩, _⟩ := I.tuple h'
  rw [e] at e'; cases e'
  rw [d] at d'
  injection d' with d1 _
  have : its = its' := by simpa using congrArg Array.toList d1
  subst this
  exact r.inj r'
end

/-! ### another wish about exceptions -/
abbrev Cx.wish (X : Cx) (E : Value → Shared → Prop) : Cx := { X with xe := E }
/-- no exception leaves -/
abbrev Cx.nox (X : Cx) : Cx := X.wish fun _ _ => False
theorem Cx.Ok.wish {X : Cx} (ok : X.Ok) (E : Value → Shared → Prop) : (X.wish E).Ok :=
  ⟨ok.mod, ok.kind, ok.glob, ok.blt, ok.above, ok.inj, ok.has, ok.cab, ok.hd, ok.frames, ok.stk, ok.exf, ok.bs, ok.bsz, ok.noex, ok.exfs, ok.funs, ok.frf⟩
theorem Cx.Ok.unwish {X : Cx} {E : Value → Shared → Prop} (ok : (X.wish E).Ok) : X.Ok :=
  ⟨ok.mod, ok.kind, ok.glob, ok.blt, ok.above, ok.inj, ok.has, ok.cab, ok.hd, ok.frames, ok.stk, ok.exf, ok.bs, ok.bsz, ok.noex, ok.exfs, ok.funs, ok.frf⟩
section
variable {X : Cx} {pins : List (Addr × Obj)} {σ : St} {H : Hp} {s : Shared} {E : Value → Shared → Prop}
theorem Inv.wish (I : Inv X pins σ H s) (E : Value → Shared → Prop) : Inv (X.wish E) pins σ H s := ⟨I.ok.wish E, I.os, I.bare, I.base, I.loc, I.cell, I.free, I.freeC, I.pin, I.hok, I.len⟩
theorem Inv.unwish (I : Inv (X.wish E) pins σ H s) : Inv X pins σ H s := ⟨I.ok.unwish, I.os, I.bare, I.base, I.loc, I.cell, I.free, I.freeC, I.pin, I.hok, I.len⟩
theorem SP.unwish {D : Ends} {f : Flow} {s' : Shared} (h : SP (X.wish E) pins D f s') : SP X pins D f s' := by
  cases f with
  | next => obtain ⟨σ', H', I, q⟩ := h; exact ⟨σ', H', I.unwish, q⟩
  | brk => obtain ⟨σ', H', I, q⟩ := h; exact ⟨σ', H', I.unwish, q⟩
  | cont => obtain ⟨σ', H', I, q⟩ := h; exact ⟨σ', H', I.unwish, q⟩
  | ret u => obtain ⟨v, σ', H', I, r, q⟩ := h; exact ⟨v, σ', H', I.unwish, r, q⟩
theorem PSs.nox {st : List Stmt} {t : TS} (h : PSs X.nox st t) : PSs X st t := fun pins s σ H D I hw =>
  wpAny_mono (h pins s σ H D (I.wish _) hw) (fun _ _ q => q.unwish) fun _ _ z => False.elim z
end

/-! ### blocks and small statements -/
section
variable {X : Cx} {st : Stmt} {rest : List Stmt} {t u : TS} {e : Expr} {te : TE} {pos : Pos}
def tNext : TS := fun D σ H => D.nx σ H
def tSeq (t u : TS) : TS := fun D σ H => t { D with nx := u D } σ H
theorem pss_nil : PSs X [] tNext := fun _ _ σ H _ I h => wpAny_execs_nil ⟨σ, H, I, h⟩
theorem pss_cons (h1 : PS X st t) (h2 : PSs X rest u) : PSs X (st :: rest) (tSeq t u) := by
  intro pins s σ H D I h
  refine wpAny_execs_cons (thn (h1 pins s σ H { D with nx := u D } I h) fun f s1 q => ?_)
  cases f with
  | next =>
    obtain ⟨σ', H', I', q⟩ := q
    exact h2 pins s1 σ' H' D I' q
  | ret v => exact q
  | brk => exact q
  | cont => exact q
theorem pss_one (h1 : PS X st t) : PSs X [st] t := by
  intro pins s σ H D I h
  refine wpAny_execs_cons (thn (h1 pins s σ H D I h) fun f s1 q => ?_)
  cases f with
  | next => exact wpAny_execs_nil q
  | ret v => exact q
  | brk => exact q
  | cont => exact q
def tBreak : TS := fun D σ H => D.bk σ H
def tCont : TS := fun D σ H => D.ct σ H
/-- in a def's body nothing is shown -/
theorem Inv.quiet {pins : List (Addr × Obj)} {σ : St} {H : Hp} {s : Shared} (I : Inv X pins σ H s) : interactive X.env = false := by simp [interactive, I.ok.kind]
/-- an expression whose value is dropped -/
def tDrop (te : TE) : TS := fun D σ H => te σ H fun _ H1 => D.nx σ H1
theorem ps_expr (he : PE X e te) (hs : swapsWith e none pos.line X.env = pure false := by rfl) : PS X (.Expr e pos) (tDrop te) := by
  intro pins s σ H D I h
  exact wpAny_Expr_any (thn (he pins s σ H _ I h) fun v s1 ⟨x, H1, I1, r1, q1⟩ => ⟨σ, H1, I1, q1⟩) I.quiet hs
def tRet (te : TE) : TS := fun D σ H => te σ H D.rt
theorem ps_ret (he : PE X e te) : PS X (.Return (some e) pos) (tRet te) := by
  intro pins s σ H D I h
  exact wpAny_Return_some (thn (he pins s σ H _ I h) fun v s1 ⟨x, H1, I1, r1, q1⟩ => ⟨x, σ, H1, I1, r1, q1⟩)
def tRetN : TS := fun D _ H => D.rt .non H
def tIfS (c : TT) (t u : TS) : TS := fun D σ H => c σ H fun b H1 => if b = true then t D σ H1 else u D σ H1
theorem ps_if {c : Expr} {a b : List Stmt} {tc : TT} (hc : PT X c tc) (ha : PSs X a t) (hb : PSs X b u) : PS X (.If c a b pos) (tIfS tc t u) := by
  intro pins s σ H D I h
  refine wpAny_If (thn (hc pins s σ H _ I h) fun d s1 ⟨H1, I1, q1⟩ => ?_)
  cases d with
  | true => exact ha pins s1 σ H1 D I1 q1
  | false => exact hb pins s1 σ H1 D I1 q1
/-- code that the proof never comes to -/
def tNever : TS := fun _ _ _ => False
end

/-! ### targets -/
abbrev TG := V → St → Hp → (St → Hp → Prop) → Prop
abbrev TGs := List V → St → Hp → (St → Hp → Prop) → Prop
def PG (X : Cx) (target : Expr) (t : TG) : Prop :=
  ∀ (pins : List (Addr × Obj)) (s : Shared) (σ : St) (H : Hp) (v : V) (u : Value) (Q : St → Hp → Prop), Inv X pins σ H s → RelV v u → t v σ H Q →
    wpAny (model X.prog X.w) X.A (assign target X.env u) (fun _ s' => ∃ σ' H', Inv X pins σ' H' s' ∧ Q σ' H') X.xe s
/-- several targets, one after another -/
def PGs (X : Cx) (ts : List Expr) (t : TGs) : Prop :=
  ∀ (pins : List (Addr × Obj)) (s : Shared) (σ : St) (H : Hp) (vs : List V) (us : List Value) (Q : St → Hp → Prop), Inv X pins σ H s → Vals vs us → t vs σ H Q →
    wpAny (model X.prog X.w) X.A (assignInOrder ((assignEach ts X.env).map (·.2)) us) (fun _ s' => ∃ σ' H', Inv X pins σ' H' s' ∧ Q σ' H') X.xe s
/-- o[i] = v, by values -/
abbrev TSet := V → V → V → Hp → (Hp → Prop) → Prop
def PSet (X : Cx) (t : TSet) : Prop :=
  ∀ (pins : List (Addr × Obj)) (s : Shared) (σ : St) (H : Hp) (o i v : V) (ov iv u : Value) (Q : Hp → Prop), Inv X pins σ H s → RelV o ov → RelV i iv → RelV v u → t o i v H Q →
    wpAny (model X.prog X.w) X.A (setItem ov iv u) (fun _ s' => ∃ H', Inv X pins σ H' s' ∧ Q H') X.xe s
/-- a op= b, by values -/
abbrev TIp := V → V → Hp → VK → Prop
def PIp (X : Cx) (op : Operator) (t : TIp) : Prop :=
  ∀ (pins : List (Addr × Obj)) (s : Shared) (σ : St) (H : Hp) (x y : V) (v u : Value) (Q : VK), Inv X pins σ H s → RelV x v → RelV y u → t x y H Q →
    wpAny (model X.prog X.w) X.A (inplaceOp op v u) (EP X pins σ Q) X.xe s
section
variable {X : Cx} {pos : Pos}
def gName (i : Nat) : TG := fun v σ H Q => Q (σ.set i (some v)) H
theorem pg_name {i : Nat} {x : Str} (hN : X.N.Nodup) (hi : X.N[i]? = some x) (hx : Loc X.env.scope x) (hf : X.fn x = true ∨ X.env.scope.names.lookup x = some .local := by first | exact .inl rfl | exact .inr rfl | assumption) : PG X (.Name x pos) (gName i) := by
  intro pins s σ H v u Q I r h
  exact wpAny_assign_Name (store_ok I hN hi hx r (fun s' I' => ⟨_, H, I', h⟩) hf)
def gNil : TGs := fun vs σ H Q => vs = [] ∧ Q σ H
def gCons (t : TG) (u : TGs) : TGs := fun vs σ H Q => ∃ v r, vs = v :: r ∧ t v σ H fun σ' H' => u r σ' H' Q
theorem pgs_nil : PGs X [] gNil := by
  intro pins s σ H vs us Q I r h
  obtain ⟨e, h⟩ := h
  subst e
  cases r
  exact assignInOrder_nil ⟨σ, H, I, h⟩
theorem pgs_cons {e : Expr} {es : List Expr} {t : TG} {u : TGs} (h1 : PG X e t) (h2 : PGs X es u)
    (hs : (assignEach (e :: es) X.env).map (·.2) = assign e X.env :: (assignEach es X.env).map (·.2) := by rfl) : PGs X (e :: es) (gCons t u) := by
  intro pins s σ H vs us Q I r h
  obtain ⟨v, vr, e1, h⟩ := h
  subst e1
  cases r with
  | cons r rr =>
    rw [hs]
    refine assignInOrder_cons (thn (h1 pins s σ H _ _ _ I r h) fun _ s1 ⟨σ1, H1, I1, q1⟩ => ?_)
    exact h2 pins s1 σ1 H1 _ _ Q I1 rr q1
/-- (a, b, ..) = a tuple of that length -/
def gTup (K : PySem.W.Frag) (n : Nat) (t : TGs) : TG := fun v σ H Q => ∃ a xs, v = .ref a ∧ SqT K H a xs ∧ xs.length = n ∧ t xs σ H Q
theorem pg_tup {es : List Expr} {k : Nat} {t : TGs} {n : Nat} (hc : X.calm = true) (h : PGs X es t)
    (hn : (assignEach es X.env).length = n := by rfl) (hst : (assignEach es X.env).findIdx? (·.1) = none := by rfl) : PG X (.Tuple es k pos) (gTup X.K n t) := by
  intro pins s σ H v u Q I r hw
  obtain ⟨a, xs, e1, hq, hl, hw⟩ := hw
  subst e1
  cases r
  obtain ⟨its, rv, ht, hz⟩ := I.tuple hq
  refine assign_Tuple_tuple (I.ok.hd hc) ht (by simp [hn, ← hl, rv.length]) hst fun h' hx => ?_
  have I1 : Inv X pins σ H { s with heap := h' } := I.kept (t' := s.toks) fun b o e => hx b o (Nat.ne_of_lt (Heap.lt_size e)) e
  exact h pins _ σ H xs _ Q I1 (by simpa using rv) hw
/-- o[i] = .. -/
def gSub (to ti : TE) (t : TSet) : TG := fun v σ H Q => to σ H fun o H1 => ti σ H1 fun i H2 => t o i v H2 fun H3 => Q σ H3
/-- target = value -/
def tAsg (te : TE) (g : TG) : TS := fun D σ H => te σ H fun x H1 => g x σ H1 D.nx
/-- name = value -/
theorem ps_set {i : Nat} {x : Str} {e : Expr} {te : TE} {pos' : Pos} (hN : X.N.Nodup) (hi : X.N[i]? = some x) (hx : Loc X.env.scope x) (he : PE X e te) (hs : swapsWith e (some (.Name x pos')) pos.line X.env = pure false := by rfl) (hf : X.fn x = true ∨ X.env.scope.names.lookup x = some .local := by first | exact .inl rfl | exact .inr rfl | assumption) :
    PS X (.Assign [.Name x pos'] e pos) (tAsg te (gName i)) := by
  intro pins s σ H D I h
  refine wpAny_Assign_Name (thn (he pins s σ H _ I h) fun v s1 ⟨y, H1, I1, r1, q1⟩ => ?_) hs
  exact store_ok I1 hN hi hx r1 (fun s2 I2 => ⟨_, H1, I2, q1⟩) hf
/-- a, b = x, y with plain local names: stored from the right; the pair itself is not tracked (the opening rows as in PyProof/Rows/TupAssign.lean:23) -/
def tPar (i j : Nat) (ta : TA) : TS := fun D σ H => ta σ H fun vs H1 => ∃ v w, vs = [v, w] ∧ D.nx ((σ.set i (some v)).set j (some w)) H1
/-- name op= e -/
def tAug (i : Nat) (te : TE) (ti : TIp) : TS := fun D σ H => ∃ x, σ[i]? = some (some x) ∧ te σ H fun y H1 => ti x y H1 fun z H2 => D.nx (σ.set i (some z)) H2
theorem ps_aug {i : Nat} {x : Str} {e : Expr} {te : TE} {op : Operator} {ti : TIp} {pos' : Pos} (hN : X.N.Nodup) (hi : X.N[i]? = some x) (hx : Loc X.env.scope x) (he : PE X e te) (ho : PIp X op ti) (hf : X.fn x = true ∨ X.env.scope.names.lookup x = some .local := by first | exact .inl rfl | exact .inr rfl | assumption) :
    PS X (.AugAssign (.Name x pos') op e pos) (tAug i te ti) := by
  intro pins s σ H D I h
  obtain ⟨v, e1, h⟩ := h
  obtain ⟨m, hn, hl⟩ := I.loc
  have vis : Vis X.env.scope x := by rcases hx with k | k; exact .inl k; exact .inr (.inl k)
  obtain ⟨u, r, l⟩ := hl i x v hi e1 vis
  refine wpAny_AugAssign_Name ?_
  have go : wpAny (model X.prog X.w) X.A (eval e X.env) (fun w s₂ => wpAny (model X.prog X.w) X.A (inplaceOp op u w) (fun r s₃ => wpAny (model X.prog X.w) X.A (storeName X.env x r) (fun _ => SP X pins D .next) X.xe s₃) X.xe s₂) X.xe s := by
    refine thn (he pins s σ H _ I h) fun w s1 ⟨y, H1, I1, r1, q1⟩ => ?_
    refine thn (ho pins s1 σ H1 v y u w _ I1 r r1 q1) fun z s2 ⟨zv, H2, I2, r2, q2⟩ => ?_
    exact store_ok I2 hN hi hx r2 (fun s3 I3 => ⟨_, H2, I3, q2⟩) hf
  rcases l with ⟨hk, hm⟩ | ⟨hk, c, hc, hcell⟩
  · exact wpAny_loadName_local I.ok.kind hk hn hm go
  · rcases hk with hk | hk
    · exact wpAny_loadName_cell I.ok.kind hk hc hcell go
    · rcases hx with k | k
      · have : X.env.scope.names.lookup x = some .free := hk
        rw [k] at this; cases this
      · have : X.env.scope.names.lookup x = some .free := hk
        rw [k] at this; cases this
/-- o[i] op= e -/
def tAugS (to ti te : TE) (tget : V → V → Hp → VK → Prop) (tip : TIp) (tset : TSet) : TS := fun D σ H => to σ H fun o H1 => ti σ H1 fun i H2 => tget o i H2 fun x H3 => te σ H3 fun y H4 => tip x y H4 fun z H5 => tset o i z H5 fun H6 => D.nx σ H6
/-- o[i], by values -/
def PGet (X : Cx) (t : V → V → Hp → VK → Prop) : Prop :=
  ∀ (pins : List (Addr × Obj)) (s : Shared) (σ : St) (H : Hp) (o i : V) (ov iv : Value) (Q : VK), Inv X pins σ H s → RelV o ov → RelV i iv → t o i H Q →
    wpAny (model X.prog X.w) X.A (getItem ov iv) (EP X pins σ Q) X.xe s
/-- ints -/
def ipI (f : Int → Int → Int) : TIp := fun x y H Q => ∃ i j, x = .int i ∧ y = .int j ∧ Q (.int (f i j)) H
theorem ip_add : PIp X .Add (ipI fun i j => i + j) := by
  intro pins s σ H x y v u Q I r1 r2 h
  obtain ⟨i, j, e1, e2, q⟩ := h
  subst e1; subst e2
  obtain ⟨t, rfl⟩ := r1
  obtain ⟨t', rfl⟩ := r2
  exact iadd_int ⟨.int _, H, I.tok _, ⟨_, rfl⟩, q⟩
end

/-! ### while -/
section
variable {X : Cx} {pos : Pos}
/-- the invariant W with its measure -/
def tWhile (c : TT) (tb : TS) : TS := fun D σ H => ∃ W : Nat → St → Hp → Prop, (∃ m, W m σ H) ∧ ∀ m σ H, W m σ H →
  c σ H fun b H1 => if b = true then ∃ N : St → Hp → Prop, (∀ σ' H', N σ' H' → ∃ m', m' < m ∧ W m' σ' H') ∧ tb { D with nx := N, ct := N, bk := D.nx } σ H1 else D.nx σ H1
theorem ps_while {c : Expr} {body : List Stmt} {tc : TT} {tb : TS} (hp : PassesOwn (model X.prog X.w) X.A X.env X.xe) (hc : PT X c tc) (hb : PSs X body tb) : PS X (.While c body [] pos) (tWhile tc tb) := by
  intro pins s σ H D I h
  obtain ⟨W, ⟨m0, w0⟩, turn⟩ := h
  refine wpAny_While (codeAny_whileLoop (fun n s' => ∃ σ' H', Inv X pins σ' H' s' ∧ W n σ' H') ?_ m0 ⟨σ, H, I, w0⟩)
  rintro n s1 ⟨σ1, H1, I1, w1⟩
  refine wpAny_passesOwn hp (thn (hc pins s1 σ1 H1 _ I1 (turn n σ1 H1 w1)) fun b s2 ⟨H2, I2, q2⟩ => ?_)
  cases b with
  | true =>
    obtain ⟨N, hN, q2⟩ := q2
    rw [if_pos rfl]
    refine wpAny_passesOwn hp (thn (hb pins s2 σ1 H2 _ I2 q2) fun f s3 q3 => ?_)
    cases f with
    | next =>
      obtain ⟨σ3, H3, I3, n3⟩ := q3
      obtain ⟨m', hm, w3⟩ := hN σ3 H3 n3
      exact ⟨m', hm, σ3, H3, I3, w3⟩
    | cont =>
      obtain ⟨σ3, H3, I3, n3⟩ := q3
      obtain ⟨m', hm, w3⟩ := hN σ3 H3 n3
      exact ⟨m', hm, σ3, H3, I3, w3⟩
    | brk => exact q3
    | ret v => exact q3
  | false =>
    rw [if_neg Bool.false_ne_true]
    exact wpAny_execs_nil ⟨σ1, H2, I2, q2⟩
end

/-! ### what a loop or a comprehension walks -/
/-- at turn i: it yields x (the heap may grow), or it stops -/
structure It where
  go : Nat → Hp → Prop
  yld : Nat → Hp → V → Hp → Prop
  stop : Nat → Hp → Prop
/-- the iterator's own objects may turn: they are not the frame's, not pinned, younger than the entry (or a comprehension's own) -/
def FpOk (X : Cx) (pins : List (Addr × Obj)) (H : Hp) (b : Addr) : Prop :=
  H b = none ∧ b ≠ X.env.locals ∧ b ∉ X.fs ∧ (b ∈ X.ex ∨ X.s_0.heap.objs.size ≤ b) ∧ (∀ x c, X.env.cells.lookup x = some c → c ≠ b) ∧ ∀ p ∈ X.pn ++ pins, p.1 ≠ b
theorem Inv.fpOk {X : Cx} {pins : List (Addr × Obj)} {σ : St} {H H' : Hp} {s : Shared} {b : Addr} (I : Inv X pins σ H s) (hb : s.heap.objs.size ≤ b) (hn : H' b = none) : FpOk X pins H' b := by
  refine ⟨hn, Nat.ne_of_gt (Nat.lt_of_lt_of_le I.lt hb), I.nofs hb, .inr (Nat.le_trans I.sz hb), fun x c e z => ?_, fun p hp z => ?_⟩
  · obtain ⟨v, q⟩ := I.cell x c e
    exact absurd (Nat.lt_of_lt_of_le q.lt (by rw [z]; exact hb)) (Nat.lt_irrefl _)
  · exact absurd (Nat.lt_of_lt_of_le (Heap.lt_size (I.pin p hp).1) (by rw [z]; exact hb)) (Nat.lt_irrefl _)
structure Turn (P : Program) (w : World) (K : PySem.W.Frag) (tg : Expr) (J : It) (fp : List Addr) (it : Addr) (tn : Nat → Heap → Prop) : Prop where
  mem : it ∈ fp
  obj : ∀ i h, tn i h → ∀ b ∈ fp, ∃ o, h.get? b = some o ∧ ∀ v, o.data ≠ .cell v
  keep : ∀ i h h', tn i h → (∀ b ∈ fp, ∀ o, h.get? b = some o → h'.get? b = some o) → tn i h'
  item : ∀ (X : Cx), X.prog = P → X.w = w → X.K = K → X.calm = true → ∀ (i : Nat) (pins : List (Addr × Obj)) (s : Shared) (σ : St) (H : Hp) (E : Value → Shared → Prop), Inv X pins σ H s → (∀ b ∈ fp, FpOk X pins H b) → tn i s.heap → J.go i H →
    wpAny (model P w) X.A (pyNext (.ref it)) (fun r s1 => ∃ u, r = some u ∧
      wpAny (model P w) X.A (letOwnedTupleGo tg (.ref it) u) (fun _ s2 => ∃ x H', Inv X pins σ H' s2 ∧ RelV x u ∧ J.yld i H x H' ∧ tn (i + 1) s2.heap ∧ ∀ b ∈ fp, H' b = none) E s1) E s
  done : ∀ (X : Cx), X.prog = P → X.w = w → X.K = K → X.calm = true → ∀ (i : Nat) (pins : List (Addr × Obj)) (s : Shared) (σ : St) (H : Hp) (E : Value → Shared → Prop), Inv X pins σ H s → (∀ b ∈ fp, FpOk X pins H b) → tn i s.heap → J.stop i H →
    wpAny (model P w) X.A (pyNext (.ref it)) (fun r s1 => r = none ∧ Inv X pins σ H s1) E s
  self : ∀ (A : Around) (i : Nat) (s : Shared) (Q : Value → Shared → Prop) (E : Value → Shared → Prop), tn i s.heap → Q (.ref it) s → wpAny (model P w) A (pyIter (.ref it)) Q E s
abbrev TI := St → Hp → (It → Hp → Prop) → Prop
/-- an iterator has come -/
def PIE (X : Cx) (pins : List (Addr × Obj)) (σ : St) (tg : Expr) (R : It → Hp → Prop) (itv : Value) (s2 : Shared) : Prop :=
  ∃ (it : Addr) (fp : List Addr) (tn : Nat → Heap → Prop) (J : It) (H' : Hp), itv = .ref it ∧ Inv X pins σ H' s2 ∧ Turn X.prog X.w X.K tg J fp it tn ∧ tn 0 s2.heap ∧ (∀ b ∈ fp, FpOk X pins H' b) ∧ R J H'
def PI (X : Cx) (tg iter : Expr) (wi : TI) : Prop :=
  ∀ (pins : List (Addr × Obj)) (s : Shared) (σ : St) (H : Hp) (R : It → Hp → Prop), Inv X pins σ H s → wi σ H R →
    wpAny (model X.prog X.w) X.A (eval iter X.env) (fun v s1 => wpAny (model X.prog X.w) X.A (pyIter v) (PIE X pins σ tg R) X.xe s1) X.xe s

/-- the step ahead of the store is nothing for an iterator that keeps no tuple -/
theorem go_of {M : Model} {A : Around} {E : Value → Shared → Prop} {s : Shared} {tg : Expr} {it : Addr} {u : Value} {o : Obj} {n : String} {vs : Array Value} {Q : Unit → Shared → Prop} (ho : s.heap.get? it = some o) (hc : o.cls = .type n) (hd : o.data = .fields vs)
    (hn : ["enumerate", "zip", "dict_itemiterator", "dict_reverseitemiterator", "odict_iterator", "itertools.zip_longest", "itertools.pairwise"].contains n = false) (hQ : Q () s) : wpAny M A (letOwnedTupleGo tg (.ref it) u) Q E s := by
  unfold letOwnedTupleGo
  cases tg <;> first
    | exact wpAny_pure hQ
    | (cases u <;> first
        | exact wpAny_pure hQ
        | (refine wpAny_bind (wpAny_load ho ?_)
           rw [hc, hd]
           show wpAny M A (if (["enumerate", "zip", "dict_itemiterator", "dict_reverseitemiterator", "odict_iterator", "itertools.zip_longest", "itertools.pairwise"].contains n && vs[0]? == some (rawInt _)) = true then _ else _) Q E s
           rw [if_neg (by intro h; rw [hn, Bool.false_and] at h; cases h)]
           exact wpAny_pure hQ))

/-- the list at a, as it stands at each turn (a loop may append to it) -/
def Itl (K : PySem.W.Frag) (a : Addr) : It :=
  ⟨fun i H => ∃ xs x, SqL K H a xs ∧ xs[i]? = some x, fun i H x H' => H' = H ∧ ∀ xs, SqL K H a xs → xs[i]? = some x, fun i H => ∃ xs, SqL K H a xs ∧ xs.length ≤ i⟩
def Itt (K : PySem.W.Frag) (a : Addr) : It :=
  ⟨fun i H => ∃ xs x, SqT K H a xs ∧ xs[i]? = some x, fun i H x H' => H' = H ∧ ∀ xs, SqT K H a xs → xs[i]? = some x, fun i H => ∃ xs, SqT K H a xs ∧ xs.length ≤ i⟩
/-- lo, lo + 1, .. (n of them) -/
def Itr (lo : Int) (n : Nat) : It := ⟨fun i _ => i < n, fun i H x H' => H' = H ∧ x = .int (lo + i), fun i _ => n ≤ i⟩
theorem turn_list {P : Program} {w : World} {K : PySem.W.Frag} {tg : Expr} (a it : Addr) : Turn P w K tg (Itl K a) [it] it (fun i h => h.IsListIter it a i) where
  mem := by simp
  obj := fun i h st b hb => by
    have e : b = it := by simpa using hb
    subst e
    obtain ⟨o, e, c, d⟩ := st
    exact ⟨o, e, fun v z => by rw [d] at z; cases z⟩
  keep := fun i h h' st k => st.at fun o e => k it (by simp) o e
  item := by
    intro X hP hw hK hc i pins s σ H E I hf st hg
    subst hP hw hK
    obtain ⟨xs, x, hq, hx⟩ := hg
    obtain ⟨its, rv, p, hz⟩ := I.list hq
    obtain ⟨u, hu, ru⟩ := rv.get hx
    obtain ⟨f0, f1, f2, f3, f4, f5⟩ := hf it (by simp)
    refine wpAny_pyNext_list_item st p.isList (x := u) (by simpa using hu) fun h' st' sb => ?_
    have I1 : Inv X pins σ H { s with heap := h' } := I.turned (t' := s.toks) (fun b o hb e => (sb.2 b hb).trans e) f0 f1 f3 f4 f5
    obtain ⟨o, e, c, d⟩ := id st'
    exact ⟨u, rfl, go_of (s := { s with heap := h' }) e c d (by decide) ⟨x, H, I1, ru, ⟨rfl, fun ys hy => by rw [I.list_inj hy hq]; exact hx⟩, st', fun b hb => (hf b hb).1⟩⟩
  done := by
    intro X hP hw hK hc i pins s σ H E I hf st hg
    subst hP hw hK
    obtain ⟨xs, hq, hx⟩ := hg
    obtain ⟨its, rv, p, hz⟩ := I.list hq
    obtain ⟨f0, f1, f2, f3, f4, f5⟩ := hf it (by simp)
    have hl := rv.length
    exact wpAny_pyNext_list_end (I.ok.hd hc) st p.isList (by simp; omega) fun h' eb => ⟨rfl, I.turned (t' := s.toks) (fun b o hb e => eb b o hb e) f0 f1 f3 f4 f5⟩
  self := fun _ _ _ _ _ st h => wpAny_pyIter_listiter st h
theorem turn_range {P : Program} {w : World} {K : PySem.W.Frag} {tg : Expr} (it : Addr) (lo : Int) (n : Nat) : Turn P w K tg (Itr lo n) [it] it (fun i h => IsRangeIter h it (lo + (i : Nat) * 1) ((n : Int) - (i : Nat)) 1) where
  mem := by simp
  obj := fun i h st b hb => by
    have e : b = it := by simpa using hb
    subst e
    exact ⟨_, st, fun v z => by
      have z' : Data.fields _ = Data.cell v := z
      cases z'⟩
  keep := fun i h h' st k => k it (by simp) _ st
  item := by
    intro X hP hw hK hc i pins s σ H E I hf st hg
    subst hP hw hK
    obtain ⟨f0, f1, f2, f3, f4, f5⟩ := hf it (by simp)
    have W := Walks.range (prog := X.prog) (w := X.w) (I.ok.hd hc) it lo 1 n
    refine W.item i s _ _ hg st fun v h' tk hv st' kk => ?_
    obtain ⟨t, rfl⟩ := hv
    have I1 : Inv X pins σ H { s with heap := h', toks := tk } := I.turned (fun b o hb e => kk b o (by simpa using hb) e) f0 f1 f3 f4 f5
    refine ⟨_, rfl, go_of (s := { s with heap := h', toks := tk }) (n := "range_iterator") st' rfl rfl (by decide) ⟨.int (lo + i), H, I1, ⟨t, ?_⟩, ⟨rfl, rfl⟩, st', fun b hb => (hf b hb).1⟩⟩
    rw [Int.mul_one]
  done := by
    intro X hP hw hK hc i pins s σ H E I hf st hg
    subst hP hw hK
    obtain ⟨f0, f1, f2, f3, f4, f5⟩ := hf it (by simp)
    exact wpAny_pyNext_range_end (I.ok.hd hc) st (by have : n ≤ i := hg; omega) fun h' eb => ⟨rfl, I.turned (t' := s.toks) (fun b o hb e => eb b o hb e) f0 f1 f3 f4 f5⟩
  self := fun _ _ _ _ _ st h => wpAny_pyIter_rangeiter st h
end L2

namespace L2
open PySem PySem.Spec PyProof.Rows
section
variable {X : Cx} {tg : Expr}
def iList (K : PySem.W.Frag) (tl : TE) : TI := fun σ H R => tl σ H fun x H1 => ∃ a, x = .ref a ∧ (∃ xs, SqL K H1 a xs) ∧ R (Itl K a) H1
def iTup (K : PySem.W.Frag) (tl : TE) : TI := fun σ H R => tl σ H fun x H1 => ∃ a, x = .ref a ∧ (∃ xs, SqT K H1 a xs) ∧ R (Itt K a) H1
theorem pi_list {l : Expr} {tl : TE} (hl : PE X l tl) : PI X tg l (iList X.K tl) := by
  intro pins s σ H R I h
  refine thn (hl pins s σ H _ I h) fun v s1 ⟨x, H1, I1, r1, q1⟩ => ?_
  obtain ⟨a, e, ⟨xs, hq⟩, q⟩ := q1
  subst e
  cases r1
  obtain ⟨its, rv, p, hz⟩ := I1.list hq
  refine wpAny_pyIter_list p.isList ?_
  refine ⟨s1.heap.objs.size, [s1.heap.objs.size], _, _, H1, rfl, I1.kept (t' := s1.toks) fun b o e => Heap.get?_push_of_some _ e, turn_list a _, ⟨_, Heap.get?_push_size _ rfl, rfl, rfl⟩, fun b hb => ?_, q⟩
  have e : b = s1.heap.objs.size := by simpa using hb
  subst e
  exact I1.fpOk (Nat.le_refl _) (I1.hok.fresh (Nat.le_refl _))
/-- a range object just made, walked -/
theorem range_it {pins : List (Addr × Obj)} {σ : St} {H : Hp} {s : Shared} {R : It → Hp → Prop} {E : Value → Shared → Prop} {lo hi : Int} {t u v : Tok} {tk : Nat} (I : Inv X pins σ H s) (h1 : -(2 ^ 62) ≤ lo) (h2 : lo < 2 ^ 62) (h3 : -(2 ^ 62) ≤ hi) (h4 : hi < 2 ^ 62)
    (q : R (Itr lo (hi - lo).toNat) H) : wpAny (model X.prog X.w) X.A (pyIter (.ref s.heap.objs.size)) (PIE X pins σ tg R) E { s with heap := s.heap.push { cls := .type "range", data := .fields #[.int lo t, .int hi u, .int 1 v] }, toks := tk } := by
  refine wpAny_pyIter_range (IsRange.new ..) (small_one h1 h2 h3 h4) ?_
  have I1 : Inv X pins σ H { s with heap := s.heap.push { cls := .type "range", data := .fields #[.int lo t, .int hi u, .int 1 v] }, toks := tk } := I.kept fun b o e => Heap.get?_push_of_some _ e
  refine ⟨(s.heap.push { cls := .type "range", data := .fields #[.int lo t, .int hi u, .int 1 v] }).objs.size, [(s.heap.push { cls := .type "range", data := .fields #[.int lo t, .int hi u, .int 1 v] }).objs.size], _, _, H, rfl,
    I1.kept (t' := tk) fun b o e => Heap.get?_push_of_some _ e, turn_range _ lo (hi - lo).toNat, ?_, fun b hb => ?_, q⟩
  · have e1 : lo + ((0 : Nat) : Int) * 1 = lo := by simp
    have e2 : (((hi - lo).toNat : Nat) : Int) - ((0 : Nat) : Int) = Builtin.Range.rangeSize lo hi 1 := by rw [rangeSize_one]; split <;> omega
    show IsRangeIter _ _ (lo + ((0 : Nat) : Int) * 1) ((((hi - lo).toNat : Nat) : Int) - ((0 : Nat) : Int)) 1
    rw [e1, e2]
    exact Heap.get?_push_size _ rfl
  · have e : b = (s.heap.push { cls := .type "range", data := .fields #[.int lo t, .int hi u, .int 1 v] }).objs.size := by simpa using hb
    subst e
    exact I1.fpOk (Nat.le_refl _) (I1.hok.fresh (Nat.le_refl _))
def iRng1 (ta : TA) : TI := fun σ H R => ta σ H fun vs H1 => ∃ j : Int, vs = [.int j] ∧ -(2 ^ 62) ≤ j ∧ j < 2 ^ 62 ∧ R (Itr 0 j.toNat) H1
def iRng2 (ta : TA) : TI := fun σ H R => ta σ H fun vs H1 => ∃ i j : Int, vs = [.int i, .int j] ∧ (-(2 ^ 62) ≤ i ∧ i < 2 ^ 62 ∧ -(2 ^ 62) ≤ j ∧ j < 2 ^ 62) ∧ R (Itr i (j - i).toNat) H1
theorem pi_range1 {a : Expr} {ta : TA} {p pos : Pos} (hg : Gl X "range") (hm : X.mg "range" = none) (ha : PA X [a] ta) (hs : starEach [a] X.env = [(false, eval a X.env)] := by rfl) : PI X tg (.Call (.Name "range" p) [a] [] pos) (iRng1 ta) := by
  intro pins s σ H R I h
  refine Call_ (ld_blt I hg hm boot_range (PyProof.Rows.callWith_type1 (thn (ha pos pins s σ H _ I h) fun us s1 ⟨vs, H1, I1, r1, q1⟩ => ?_) hs rfl))
  obtain ⟨j, e, q1, q2, q⟩ := q1
  subst e
  cases r1 with
  | cons r rr =>
    cases rr
    obtain ⟨t, rfl⟩ := r
    exact call_range_1 (range_it I1 (by omega) (by omega) q1 q2 (by simpa using q))
/-! ### for -/
/-- W: the invariant by the turn and a measure; N: what the body is to reach -/
def tFor (wi : TI) (g : TG) (tb : TS) : TS := fun D σ H => wi σ H fun J H1 => ∃ W : Nat → Nat → St → Hp → Prop, (∃ m, W 0 m σ H1) ∧ ∀ i m σ H, W i m σ H →
  (J.stop i H ∧ D.nx σ H) ∨ (J.go i H ∧ ∃ N : St → Hp → Prop, (∀ σ' H', N σ' H' → ∃ m', m' < m ∧ W (i + 1) m' σ' H') ∧ ∀ x H', J.yld i H x H' → g x σ H' fun σ2 H2 => tb { D with nx := N, ct := N, bk := D.nx } σ2 H2)
/-- the records at fp as they stand -/
def pinsAt (fp : List Addr) (h : Heap) : List (Addr × Obj) := fp.filterMap fun b => (h.get? b).map fun o => (b, o)
theorem mem_pinsAt {fp : List Addr} {h : Heap} {b : Addr} {o : Obj} (hb : b ∈ fp) (e : h.get? b = some o) : (b, o) ∈ pinsAt fp h := List.mem_filterMap.mpr ⟨b, hb, by rw [e]; rfl⟩
theorem of_pinsAt {fp : List Addr} {h : Heap} {p : Addr × Obj} (hp : p ∈ pinsAt fp h) : p.1 ∈ fp ∧ h.get? p.1 = some p.2 := by
  obtain ⟨b, hb, e⟩ := List.mem_filterMap.mp hp
  cases q : h.get? b with
  | none => rw [q] at e; cases e
  | some o =>
    rw [q] at e
    have e' : (b, o) = p := Option.some.inj e
    subst e'
    exact ⟨hb, q⟩
theorem Inv.pinned {pins : List (Addr × Obj)} {σ : St} {H : Hp} {s : Shared} {fp : List Addr} (I : Inv X pins σ H s) (hf : ∀ b ∈ fp, FpOk X pins H b) (ho : ∀ b ∈ fp, ∃ o, s.heap.get? b = some o ∧ ∀ v, o.data ≠ .cell v) : Inv X (pins ++ pinsAt fp s.heap) σ H s :=
  I.pins_of fun p hp => (List.mem_append.mp hp).elim (fun z => I.pin p (List.mem_append_right _ z)) fun z => by
    obtain ⟨hb, e⟩ := of_pinsAt z
    obtain ⟨f0, f1, f2, _⟩ := hf p.1 hb
    obtain ⟨o, e', d⟩ := ho p.1 hb
    rw [e] at e'; cases e'
    exact ⟨e, f0, f1, f2, d⟩
theorem Inv.unpinned {pins pl : List (Addr × Obj)} {σ : St} {H : Hp} {s : Shared} (I : Inv X (pins ++ pl) σ H s) : Inv X pins σ H s := I.pins_of fun p hp => I.pin p (List.mem_append_right _ (List.mem_append_left _ hp))
theorem ps_for {iter : Expr} {body : List Stmt} {wi : TI} {g : TG} {tb : TS} {pos : Pos} (hp : PassesOwn (model X.prog X.w) X.A X.env X.xe) (hc : X.calm = true) (hi : PI X tg iter wi) (hg : PG X tg g) (hb : PSs X body tb)
    (hs : ∀ x, foldedSetIterable iter X.env x = pure x := by intro _; rfl) : PS X (.For tg iter body [] pos) (tFor wi g tb) := by
  intro pins s σ H D I h
  refine wpAny_For (thn (hi pins s σ H _ I h) fun v s1 h1 => thn h1 fun itv s2 h2 => ?_) hs
  obtain ⟨it, fp, tn, J, H2, e, I2, T, st2, f2, W, ⟨m0, w0⟩, turn⟩ := h2
  subst e
  -- what stays true of the iterator's objects through the loop
  have stat : ∀ {H' : Hp}, (∀ b ∈ fp, H' b = none) → ∀ b ∈ fp, FpOk X pins H' b := fun hn b hb => ⟨hn b hb, (f2 b hb).2⟩
  refine codeAny_forLoop_any (fun n s' => ∃ i σ' H', Inv X pins σ' H' s' ∧ tn i s'.heap ∧ (∀ b ∈ fp, H' b = none) ∧ W i n σ' H') ?_ m0 ⟨0, σ, H2, I2, st2, fun b hb => (f2 b hb).1, w0⟩
  rintro n s3 ⟨i, σ3, H3, I3, st3, fr3, w3⟩
  rcases turn i n σ3 H3 w3 with ⟨stop, qn⟩ | ⟨go, N, hN, step⟩
  · refine wpAny_passesOwn hp (thn (T.done X rfl rfl rfl hc i pins s3 σ3 H3 X.xe I3 (stat fr3) st3 stop) fun r s4 ⟨hr, I4⟩ => ?_)
    subst hr
    exact wpAny_execs_nil ⟨σ3, H3, I4, qn⟩
  · refine wpAny_passesOwn hp (thn (T.item X rfl rfl rfl hc i pins s3 σ3 H3 X.xe I3 (stat fr3) st3 go) fun r s4 ⟨u, hr, h4⟩ => ?_)
    subst hr
    refine wpAny_passesOwn hp (thn h4 fun _ s5 ⟨x, H5, I5, r5, y5, st5, fr5⟩ => ?_)
    have I5' := I5.pinned (stat fr5) (T.obj _ _ st5)
    refine wpAny_passesOwn hp (thn (hg _ s5 σ3 H5 x u _ I5' r5 (step x H5 y5)) fun _ s6 ⟨σ6, H6, I6, q6⟩ => ?_)
    refine wpAny_passesOwn hp (thn (hb _ s6 σ6 H6 _ I6 q6) fun f s7 q7 => ?_)
    have again : ∀ {σ7 : St} {H7 : Hp}, Inv X (pins ++ pinsAt fp s5.heap) σ7 H7 s7 → N σ7 H7 → ∃ m, m < n ∧ ∃ i σ' H', Inv X pins σ' H' s7 ∧ tn i s7.heap ∧ (∀ b ∈ fp, H' b = none) ∧ W i m σ' H' := fun {σ7 H7} I7 n7 => by
      obtain ⟨m', hm, w7⟩ := hN σ7 H7 n7
      refine ⟨m', hm, i + 1, σ7, H7, I7.unpinned, T.keep _ _ _ st5 fun b hb o e => (I7.pin (b, o) (List.mem_append_right _ (List.mem_append_right _ (mem_pinsAt hb e)))).1, fun b hb => ?_, w7⟩
      obtain ⟨o, e, d⟩ := T.obj _ _ st5 b hb
      exact (I7.pin (b, o) (List.mem_append_right _ (List.mem_append_right _ (mem_pinsAt hb e)))).2.1
    cases f with
    | next => obtain ⟨σ7, H7, I7, n7⟩ := q7; exact again I7 n7
    | cont => obtain ⟨σ7, H7, I7, n7⟩ := q7; exact again I7 n7
    | brk => obtain ⟨σ7, H7, I7, q7⟩ := q7; exact ⟨σ7, H7, I7.unpinned, q7⟩
    | ret v => obtain ⟨x7, σ7, H7, I7, r7, q7⟩ := q7; exact ⟨x7, σ7, H7, I7.unpinned, r7, q7⟩
end

/-! ### the forms one uses -/
/-- over a list that the body leaves as it is -/
theorem for_list {K : PySem.W.Frag} {a : Addr} {xs : List V} {g : TG} {tb : TS} {D : Ends} {σ : St} {H : Hp} (Pv : Nat → St → Hp → Prop) (h0 : Pv 0 σ H) (hl : ∀ i σ H, i ≤ xs.length → Pv i σ H → SqL K H a xs)
    (hs : ∀ i x σ H, xs[i]? = some x → Pv i σ H → g x σ H fun σ2 H2 => tb { D with nx := Pv (i + 1), ct := Pv (i + 1), bk := D.nx } σ2 H2) (hd : ∀ σ H, Pv xs.length σ H → D.nx σ H) :
    ∃ W : Nat → Nat → St → Hp → Prop, (∃ m, W 0 m σ H) ∧ ∀ i m σ H, W i m σ H →
      ((Itl K a).stop i H ∧ D.nx σ H) ∨ ((Itl K a).go i H ∧ ∃ N : St → Hp → Prop, (∀ σ' H', N σ' H' → ∃ m', m' < m ∧ W (i + 1) m' σ' H') ∧ ∀ x H', (Itl K a).yld i H x H' → g x σ H' fun σ2 H2 => tb { D with nx := N, ct := N, bk := D.nx } σ2 H2) := by
  refine ⟨fun i m σ H => m = xs.length - i ∧ i ≤ xs.length ∧ Pv i σ H, ⟨xs.length, by simp, Nat.zero_le _, h0⟩, ?_⟩
  rintro i m σ H ⟨rfl, hi, p⟩
  have q := hl i σ H hi p
  by_cases hlt : i < xs.length
  · refine .inr ⟨⟨xs, xs[i], q, by simp [hlt]⟩, Pv (i + 1), fun σ' H' p' => ⟨xs.length - (i + 1), by omega, rfl, hlt, p'⟩, fun x H' y => ?_⟩
    obtain ⟨e, y⟩ := y
    subst e
    exact hs i x σ _ (y xs q) p
  · have e : i = xs.length := by omega
    subst e
    exact .inl ⟨⟨xs, q, Nat.le_refl _⟩, hd σ H p⟩
theorem for_range {lo : Int} {n : Nat} {g : TG} {tb : TS} {D : Ends} {σ : St} {H : Hp} (Pv : Nat → St → Hp → Prop) (h0 : Pv 0 σ H)
    (hs : ∀ i σ H, i < n → Pv i σ H → g (.int (lo + i)) σ H fun σ2 H2 => tb { D with nx := Pv (i + 1), ct := Pv (i + 1), bk := D.nx } σ2 H2) (hd : ∀ σ H, Pv n σ H → D.nx σ H) :
    ∃ W : Nat → Nat → St → Hp → Prop, (∃ m, W 0 m σ H) ∧ ∀ i m σ H, W i m σ H →
      ((Itr lo n).stop i H ∧ D.nx σ H) ∨ ((Itr lo n).go i H ∧ ∃ N : St → Hp → Prop, (∀ σ' H', N σ' H' → ∃ m', m' < m ∧ W (i + 1) m' σ' H') ∧ ∀ x H', (Itr lo n).yld i H x H' → g x σ H' fun σ2 H2 => tb { D with nx := N, ct := N, bk := D.nx } σ2 H2) := by
  refine ⟨fun i m σ H => m = n - i ∧ i ≤ n ∧ Pv i σ H, ⟨n, by simp, Nat.zero_le _, h0⟩, ?_⟩
  rintro i m σ H ⟨rfl, hi, p⟩
  by_cases hlt : i < n
  · refine .inr ⟨hlt, Pv (i + 1), fun σ' H' p' => ⟨n - (i + 1), by omega, rfl, hlt, p'⟩, fun x H' y => ?_⟩
    obtain ⟨e, y⟩ := y
    subst e y
    exact hs i σ _ hlt p
  · have e : i = n := by omega
    subst e
    exact .inl ⟨Nat.le_refl _, hd σ H p⟩
/-- while, by a word and a measure of the state -/
theorem while_by {c : TT} {tb : TS} {D : Ends} {σ : St} {H : Hp} (Pv : St → Hp → Prop) (μ : St → Hp → Nat) (h0 : Pv σ H)
    (hs : ∀ σ H, Pv σ H → c σ H fun b H1 => if b = true then tb { D with nx := fun σ' H' => Pv σ' H' ∧ μ σ' H' < μ σ H, ct := fun σ' H' => Pv σ' H' ∧ μ σ' H' < μ σ H, bk := D.nx } σ H1 else D.nx σ H1)
    (mono : ∀ σ H Q Q', (∀ b H1, Q b H1 → Q' b H1) → c σ H Q → c σ H Q') : tWhile c tb D σ H := by
  refine ⟨fun m σ H => m = μ σ H ∧ Pv σ H, ⟨_, rfl, h0⟩, ?_⟩
  rintro m σ H ⟨rfl, p⟩
  refine mono σ H _ _ (fun b H1 q => ?_) (hs σ H p)
  cases b with
  | true => exact ⟨_, fun σ' H' ⟨p', l⟩ => ⟨_, l, rfl, p'⟩, q⟩
  | false => exact q
end L2

namespace L2
open PySem PySem.Spec PyProof.Rows

abbrev R2 := V → V → Hp → VK → Prop
/-- a two-place operation on values: f is binaryOp op, inplaceOp op or compareOp op -/
def OpR (X : Cx) (f : Value → Value → Sem Value) (r : R2) : Prop :=
  ∀ (pins : List (Addr × Obj)) (s : Shared) (σ : St) (H : Hp) (x y : V) (v u : Value) (Q : VK), Inv X pins σ H s → RelV x v → RelV y u → r x y H Q →
    wpAny (model X.prog X.w) X.A (f v u) (EP X pins σ Q) X.xe s
/-- a one-place operation -/
def UnR (X : Cx) (f : Value → Sem Value) (r : V → Hp → VK → Prop) : Prop :=
  ∀ (pins : List (Addr × Obj)) (s : Shared) (σ : St) (H : Hp) (x : V) (v : Value) (Q : VK), Inv X pins σ H s → RelV x v → r x H Q →
    wpAny (model X.prog X.w) X.A (f v) (EP X pins σ Q) X.xe s
/-- a call of a value that is known (a builtin, a type) with values -/
def CallR (X : Cx) (f : Value) (r : List V → Hp → VK → Prop) : Prop :=
  ∀ (pins : List (Addr × Obj)) (s : Shared) (σ : St) (H : Hp) (xs : List V) (us : List Value) (Q : VK), Inv X pins σ H s → Vals xs us → r xs H Q →
    wpAny (model X.prog X.w) X.A (call f us) (EP X pins σ Q) X.xe s
/-- a value's truth -/
def TruR (X : Cx) (r : V → Hp → (Bool → Hp → Prop) → Prop) : Prop :=
  ∀ (pins : List (Addr × Obj)) (s : Shared) (σ : St) (H : Hp) (x : V) (v : Value) (Q : Bool → Hp → Prop), Inv X pins σ H s → RelV x v → r x H Q →
    wpAny (model X.prog X.w) X.A (truthy v) (TP X pins σ Q) X.xe s

def tOp (r : R2) (ta tb : TE) : TE := fun σ H Q => ta σ H fun x H1 => tb σ H1 fun y H2 => r x y H2 Q
def tUn (r : V → Hp → VK → Prop) (ta : TE) : TE := fun σ H Q => ta σ H fun x H1 => r x H1 Q
/-- ints in, under C, and a value out -/
def rI (C : Int → Int → Prop) (g : Int → Int → V) : R2 := fun x y H Q => ∃ i j, x = .int i ∧ y = .int j ∧ C i j ∧ Q (g i j) H
def rI0 (g : Int → Int → V) : R2 := fun x y H Q => ∃ i j, x = .int i ∧ y = .int j ∧ Q (g i j) H
def rU (g : Int → V) : V → Hp → VK → Prop := fun x H Q => ∃ i, x = .int i ∧ Q (g i) H

section
variable {X : Cx} {a b c : Expr} {ta tb tc : TE} {pos : Pos}

theorem binT (ha : PE X a ta) (hb : PE X b tb) {pins : List (Addr × Obj)} {s : Shared} {σ : St} {H : Hp} {R : V → V → Hp → Prop} (I : Inv X pins σ H s)
    (h : ta σ H fun x H1 => tb σ H1 fun y H2 => R x y H2) {Q : Value → Shared → Prop} {f : Value → Value → Sem Value}
    (hf : ∀ v u s2 x y H2, Inv X pins σ H2 s2 → RelV x v → RelV y u → R x y H2 → wpAny (model X.prog X.w) X.A (f v u) Q X.xe s2) :
    wpAny (model X.prog X.w) X.A (eval a X.env) (fun v s₁ => wpAny (model X.prog X.w) X.A (eval b X.env) (fun u s₂ => wpAny (model X.prog X.w) X.A (f v u) Q X.xe s₂) X.xe s₁) X.xe s := by
  refine thn (ha pins s σ H _ I h) fun v s1 ⟨x, H1, I1, r1, q1⟩ => ?_
  refine thn (hb pins s1 σ H1 _ I1 q1) fun u s2 ⟨y, H2, I2, r2, q2⟩ => ?_
  exact hf v u s2 x y H2 I2 r1 r2 q2

theorem pe_op {op : Operator} {r : R2} (ho : OpR X (binaryOp op) r) (ha : PE X a ta) (hb : PE X b tb) : PE X (.BinOp a op b pos) (tOp r ta tb) := by
  intro pins s σ H Q I h
  exact wpAny_BinOp (binT ha hb I h fun v u s2 x y H2 I2 rx ry q => ho pins s2 σ H2 x y v u Q I2 rx ry q)
/-! ### ints -/
theorem opI {f : Value → Value → Sem Value} {C : Int → Int → Prop} {g : Int → Int → Int}
    (rule : ∀ (i j : Int) (t u : Tok) (s : Shared) (Q : Value → Shared → Prop) (E : Value → Shared → Prop), C i j → Q (.int (g i j) s.toks) { s with toks := s.toks + 1 } → wpAny (model X.prog X.w) X.A (f (.int i t) (.int j u)) Q E s) :
    OpR X f (rI C fun i j => .int (g i j)) := by
  intro pins s σ H x y v u Q I rx ry h
  obtain ⟨i, j, rfl, rfl, hc, q⟩ := h
  obtain ⟨t, rfl⟩ := rx
  obtain ⟨t', rfl⟩ := ry
  exact rule i j t t' s _ _ hc ⟨.int (g i j), H, I.tok _, ⟨_, rfl⟩, q⟩
theorem opI0 {f : Value → Value → Sem Value} {g : Int → Int → Int}
    (rule : ∀ (i j : Int) (t u : Tok) (s : Shared) (Q : Value → Shared → Prop) (E : Value → Shared → Prop), Q (.int (g i j) s.toks) { s with toks := s.toks + 1 } → wpAny (model X.prog X.w) X.A (f (.int i t) (.int j u)) Q E s) :
    OpR X f (rI0 fun i j => .int (g i j)) := by
  intro pins s σ H x y v u Q I rx ry h
  obtain ⟨i, j, rfl, rfl, q⟩ := h
  obtain ⟨t, rfl⟩ := rx
  obtain ⟨t', rfl⟩ := ry
  exact rule i j t t' s _ _ ⟨.int (g i j), H, I.tok _, ⟨_, rfl⟩, q⟩
theorem opB0 {f : Value → Value → Sem Value} {g : Int → Int → Bool}
    (rule : ∀ (i j : Int) (t u : Tok) (s : Shared) (Q : Value → Shared → Prop) (E : Value → Shared → Prop), Q (.bool (g i j)) s → wpAny (model X.prog X.w) X.A (f (.int i t) (.int j u)) Q E s) :
    OpR X f (rI0 fun i j => .bl (g i j)) := by
  intro pins s σ H x y v u Q I rx ry h
  obtain ⟨i, j, rfl, rfl, q⟩ := h
  obtain ⟨t, rfl⟩ := rx
  obtain ⟨t', rfl⟩ := ry
  exact rule i j t t' s _ _ ⟨.bl (g i j), H, I, rfl, q⟩

def CDiv (i j : Int) : Prop := 0 < j ∧ j < 1073741824
def CDivN (i j : Int) : Prop := j ≠ 0 ∧ j.natAbs < 1073741824
def CPow (i j : Int) : Prop := 0 ≤ j ∧ j ≤ 1000000 ∧ i.natAbs < 2 ^ 64
def CMul (i j : Int) : Prop := (-(2 ^ 64) < i ∧ i < 2 ^ 64) ∨ (-(2 ^ 64) < j ∧ j < 2 ^ 64)
theorem two_pow_nn (k : Nat) : (0 : Int) ≤ 2 ^ k := by
  rw [two_pow_cast]
  exact Int.natCast_nonneg _

theorem op_add : OpR X (binaryOp .Add) (rI0 fun i j => .int (i + j)) := opI0 fun _ _ _ _ _ _ _ q => add_int q
theorem op_sub : OpR X (binaryOp .Sub) (rI0 fun i j => .int (i - j)) := opI0 fun _ _ _ _ _ _ _ q => sub_int q
theorem op_shl : OpR X (binaryOp .LShift) (rI CPow fun i j => .int (i * 2 ^ j.toNat)) := opI fun _ _ _ _ _ _ _ hc q => lshift_int_small hc.1 hc.2.1 hc.2.2 q
theorem op_shr : OpR X (binaryOp .RShift) (rI (fun _ j => 0 ≤ j) fun i j => .int (i / 2 ^ j.toNat)) := opI fun i j _ _ _ _ _ hc q =>
  rshift_int hc (by rw [Int.fdiv_eq_ediv_of_nonneg i (two_pow_nn _)]; exact q)
theorem op_and : OpR X (binaryOp .BitAnd) (rI0 fun i j => .int (Builtin.bitAnd i j)) := opI0 fun _ _ _ _ _ _ _ q => and_int q
theorem op_xor : OpR X (binaryOp .BitXor) (rI0 fun i j => .int (Builtin.bitXor i j)) := opI0 fun _ _ _ _ _ _ _ q => xor_int q

/-! ### bools among ints: n += (a < b) -/
end

/-! ### comparisons -/
/-- the scalars that == tells apart as data does -/
def scal : V → V → Bool
  | .non, .non => true | .non, .int _ => true | .int _, .non => true | .non, .bl _ => true | .bl _, .non => true | .non, .str _ => true | .str _, .non => true
  | .int _, .int _ => true | .bl _, .bl _ => true | .str _, .str _ => true | .byt _, .byt _ => true
  | .int _, .str _ => true | .str _, .int _ => true | .bl _, .str _ => true | .str _, .bl _ => true
  | _, _ => false
def rEq : R2 := fun x y H Q => scal x y = true ∧ Q (.bl (decide (x = y))) H
def rNe : R2 := fun x y H Q => scal x y = true ∧ Q (.bl (!decide (x = y))) H

theorem dec_int {i j : Int} : decide (V.int i = V.int j) = (i == j) := by
  rw [Bool.eq_iff_iff]
  simp
theorem dec_bl {i j : Bool} : decide (V.bl i = V.bl j) = (i == j) := by
  rw [Bool.eq_iff_iff]
  simp
theorem dec_str {i j : Str} : decide (V.str i = V.str j) = (i == j) := by
  rw [Bool.eq_iff_iff]
  simp
theorem dec_byt {i j : Array UInt8} : decide (V.byt i = V.byt j) = (i.toList == j.toList) := by
  rw [Bool.eq_iff_iff]
  cases i
  cases j
  simp

section
variable {X : Cx} {a b c : Expr} {ta tb tc : TE} {pos : Pos}
theorem fin_bl {pins : List (Addr × Obj)} {σ : St} {H : Hp} {s : Shared} {Q : VK} {k k' : Bool} (I : Inv X pins σ H s) (q : Q (.bl k) H) (e : k = k') : EP X pins σ Q (.bool k') s := by
  subst e
  exact ⟨.bl k, H, I, rfl, q⟩
theorem op_eq : OpR X (compareOp .Eq) rEq := by
  intro pins s σ H x y v u Q I rx ry h
  obtain ⟨hs, q⟩ := h
  cases x with
  | non =>
    cases rx
    cases y with
    | non => cases ry; exact PySem.EqNone.eq_none_none (fin_bl I q (by simp))
    | bl j => cases ry; exact PySem.EqNone.eq_none_bool (fin_bl I q (by simp))
    | int j => obtain ⟨t', rfl⟩ := ry; exact PySem.EqNone.eq_none_int (fin_bl I q (by simp))
    | str j => obtain ⟨t', rfl⟩ := ry; exact PySem.EqNone.eq_none_str (fin_bl I q (by simp))
    | _ => exact absurd (show false = true from hs) Bool.false_ne_true
  | bl i =>
    cases rx
    cases y with
    | non => cases ry; exact PySem.EqNone.eq_bool_none (fin_bl I q (by simp))
    | bl j => cases ry; exact eq_bool (fin_bl I q dec_bl)
    | str j => obtain ⟨t', rfl⟩ := ry; exact PySem.EqMixed.eq_bool_str (fin_bl I q (by simp))
    | _ => exact absurd (show false = true from hs) Bool.false_ne_true
  | int i =>
    obtain ⟨t, rfl⟩ := rx
    cases y with
    | non => cases ry; exact PySem.EqNone.eq_int_none (fin_bl I q (by simp))
    | int j => obtain ⟨t', rfl⟩ := ry; exact eq_int (fin_bl I q dec_int)
    | str j => obtain ⟨t', rfl⟩ := ry; exact PySem.EqMixed.eq_int_str (fin_bl I q (by simp))
    | _ => exact absurd (show false = true from hs) Bool.false_ne_true
  | str i =>
    obtain ⟨t, rfl⟩ := rx
    cases y with
    | non => cases ry; exact PySem.EqNone.eq_str_none (fin_bl I q (by simp))
    | bl j => cases ry; exact PySem.EqMixed.eq_str_bool (fin_bl I q (by simp))
    | int j => obtain ⟨t', rfl⟩ := ry; exact PySem.EqMixed.eq_str_int (fin_bl I q (by simp))
    | str j => obtain ⟨t', rfl⟩ := ry; exact eq_str (fin_bl I q dec_str)
    | _ => exact absurd (show false = true from hs) Bool.false_ne_true
  | byt i =>
    obtain ⟨t, rfl⟩ := rx
    cases y with
    | byt j => obtain ⟨t', rfl⟩ := ry; exact PySem.W.eq_bytes (fin_bl I q dec_byt)
    | _ => exact absurd (show false = true from hs) Bool.false_ne_true
  | _ => cases y <;> exact absurd (show false = true from hs) Bool.false_ne_true
theorem op_ne : OpR X (compareOp .NotEq) rNe := by
  intro pins s σ H x y v u Q I rx ry h
  obtain ⟨hs, q⟩ := h
  cases x with
  | non =>
    cases rx
    cases y with
    | non => cases ry; exact PySem.EqNone.ne_none_none (fin_bl I q (by simp))
    | bl j => cases ry; exact PySem.EqNone.ne_none_bool (fin_bl I q (by simp))
    | int j => obtain ⟨t', rfl⟩ := ry; exact PySem.EqNone.ne_none_int (fin_bl I q (by simp))
    | str j => obtain ⟨t', rfl⟩ := ry; exact PySem.EqNone.ne_none_str (fin_bl I q (by simp))
    | _ => exact absurd (show false = true from hs) Bool.false_ne_true
  | bl i =>
    cases rx
    cases y with
    | non => cases ry; exact PySem.EqNone.ne_bool_none (fin_bl I q (by simp))
    | bl j => cases ry; exact ne_bool (fin_bl I q (congrArg not dec_bl))
    | str j => obtain ⟨t', rfl⟩ := ry; exact PySem.EqMixed.ne_bool_str (fin_bl I q (by simp))
    | _ => exact absurd (show false = true from hs) Bool.false_ne_true
  | int i =>
    obtain ⟨t, rfl⟩ := rx
    cases y with
    | non => cases ry; exact PySem.EqNone.ne_int_none (fin_bl I q (by simp))
    | int j => obtain ⟨t', rfl⟩ := ry; exact ne_int (fin_bl I q (congrArg not dec_int))
    | str j => obtain ⟨t', rfl⟩ := ry; exact PySem.EqMixed.ne_int_str (fin_bl I q (by simp))
    | _ => exact absurd (show false = true from hs) Bool.false_ne_true
  | str i =>
    obtain ⟨t, rfl⟩ := rx
    cases y with
    | non => cases ry; exact PySem.EqNone.ne_str_none (fin_bl I q (by simp))
    | bl j => cases ry; exact PySem.EqMixed.ne_str_bool (fin_bl I q (by simp))
    | int j => obtain ⟨t', rfl⟩ := ry; exact PySem.EqMixed.ne_str_int (fin_bl I q (by simp))
    | str j => obtain ⟨t', rfl⟩ := ry; exact ne_str (fin_bl I q (congrArg not dec_str))
    | _ => exact absurd (show false = true from hs) Bool.false_ne_true
  | byt i =>
    obtain ⟨t, rfl⟩ := rx
    cases y with
    | byt j => obtain ⟨t', rfl⟩ := ry; exact PySem.W.ne_bytes (fin_bl I q (congrArg not dec_byt))
    | _ => exact absurd (show false = true from hs) Bool.false_ne_true
  | _ => cases y <;> exact absurd (show false = true from hs) Bool.false_ne_true

theorem op_lt : OpR X (compareOp .Lt) (rI0 fun i j => .bl (decide (i < j))) := opB0 fun _ _ _ _ _ _ _ q => lt_int q
theorem op_gt : OpR X (compareOp .Gt) (rI0 fun i j => .bl (decide (j < i))) := opB0 fun _ _ _ _ _ _ _ q => gt_int q
theorem op_ge : OpR X (compareOp .GtE) (rI0 fun i j => .bl (decide (j ≤ i))) := opB0 fun _ _ _ _ _ _ _ q => ge_int q
/-- is, is not of two objects that are tracked lists or instances -/
def isObj : HO → Bool
  | .lst _ => true
  | .ins _ _ _ => true
  | _ => false
theorem nomark (b : Expr) {op : CmpOp} (h : op ≠ .In := by decide) (h2 : op ≠ .NotIn := by decide) : behindInMarks op b = false := by
  have e1 : (op == CmpOp.In) = false := by cases op <;> first | rfl | exact absurd rfl h
  have e2 : (op == CmpOp.NotIn) = false := by cases op <;> first | rfl | exact absurd rfl h2
  cases b <;> simp [behindInMarks, e1, e2]
/-- a comparison as a value; hm: nomark b, or (for in, not in) by with_unfolding_all rfl -/
theorem pe_cmpR {op : CmpOp} {r : R2} (ho : OpR X (compareOp op) r) (ha : PE X a ta) (hb : PE X b tb) (hm : behindInMarks op b = false) : PE X (.Compare a [op] [b] pos) (tOp r ta tb) := by
  intro pins s σ H Q I h
  exact wpAny_Compare1 (binT ha hb I h fun v u s2 x y H2 I2 rx ry q => ho pins s2 σ H2 x y v u Q I2 rx ry q) hm
/-- a reading of a value as a test -/
def tTest (t : TE) : TT := fun σ H Q => t σ H fun x H' => ∃ k, x = .bl k ∧ Q k H'
theorem pt_cmpR {op : CmpOp} {r : R2} (ho : OpR X (compareOp op) r) (ha : PE X a ta) (hb : PE X b tb) (hm : behindInMarks op b = false) : PT X (.Compare a [op] [b] pos) (tTest (tOp r ta tb)) := by
  intro pins s σ H Q I h
  refine wpAny_isTrue_Compare1 (thn (ha pins s σ H _ I h) fun v s1 ⟨x, H1, I1, r1, q1⟩ => thn (hb pins s1 σ H1 _ I1 q1) fun u s2 ⟨y, H2, I2, r2, q2⟩ =>
    thn (ho pins s2 σ H2 x y v u _ I2 r1 r2 q2) fun c s3 ⟨z, H3, I3, r3, k, e, q3⟩ => ?_) hm
  subst e
  cases r3
  exact wpAny_truthy_bool ⟨H3, I3, q3⟩
/-- a op1 b op2 c -/
def tChain (r r' : R2) (ta tb tc : TE) : TE := fun σ H Q => ta σ H fun x H1 => tb σ H1 fun y H2 => r x y H2 fun z H3 => ∃ k, z = .bl k ∧
  (if k = true then tc σ H3 fun w' H4 => r' y w' H4 Q else Q (.bl false) H3)
/-! ### truth -/
/-- a value's truth by the abstract heap -/
def TruV (K : PySem.W.Frag) (x : V) (H : Hp) (k : Bool) : Prop :=
  match x with
  | .non => k = false
  | .bl b => k = b
  | .int i => k = (i != 0)
  | .str y => y.length ≤ sizeLine ∧ k = ((y.length : Int) != 0)
  | .byt y => y.size ≤ sizeLine ∧ k = ((y.size : Int) != 0)
  | .ref p => (∃ xs, SqL K H p xs ∧ k = !xs.isEmpty) ∨ (∃ xs, SqT K H p xs ∧ k = !xs.isEmpty) ∨ ∃ kvs, H p = some (.dK kvs) ∧ k = !kvs.isEmpty
  | _ => False
theorem line63 : (sizeLine : Nat) < 2 ^ 63 := by rw [sizeLine_eq]; decide
/-! ### strs and bytes -/
def PlainIxT (b : Expr) : Prop := ∀ o i, subscripted b false o i = operate [o, i] (getItem o i)
/-! ### scalar builtins, by CallR -/
theorem vals1 {x : V} {us : List Value} (r : Vals [x] us) : ∃ u, us = [u] ∧ RelV x u := by
  cases r with
  | cons r1 r2 => cases r2; exact ⟨_, rfl, r1⟩
/-- len of a str, a bytes, a list, a tuple -/
def LenV (K : PySem.W.Frag) (x : V) (H : Hp) (n : Nat) : Prop :=
  match x with
  | .str y => y.length ≤ sizeLine ∧ n = y.length
  | .byt y => y.size ≤ sizeLine ∧ n = y.size
  | .ref p => (∃ xs, SqL K H p xs ∧ n = xs.length) ∨ ∃ xs, SqT K H p xs ∧ n = xs.length
  | _ => False
end
end L2

namespace L2
open PySem PySem.Spec PyProof.Rows

/-! ### an instance, its attributes a map -/
structure ObjM (h : Heap) (x dx C : Addr) (mA : Str → Option Value) : Prop where
  obj : h.get? x = some (PySem.W.instObj C dx)
  ns : h.Ns1 dx mA
  ne : dx ≠ x

theorem lookIn_ns {h : Heap} {dx : Addr} {mA : Str → Option Value} (n : h.Ns1 dx mA) : ∃ od, h.get? dx = some od ∧ ∀ name, PySem.W.lookIn name od = some (mA name) := by
  obtain ⟨o, es, ep, ho, hd, hk, _, hm⟩ := n
  refine ⟨o, ho, fun name => ?_⟩
  have e := hm name
  unfold nsFind findBy at e
  rw [← Array.find?_toList] at e
  unfold PySem.W.lookIn
  rw [hd]
  dsimp only
  split
  · rename_i y q
    rw [q] at e
    exact congrArg some e
  · rename_i q
    rw [q] at e
    have a : es.toList.any (·.refKey) = false := by
      rw [List.any_eq_false]
      intro y hy
      obtain ⟨z, t, hkey⟩ := hk y (Array.mem_toList_iff.mp hy)
      simp [DictEntry.refKey, hkey]
    have a' : ¬ es.toList.any (·.refKey) = true := by rw [a]; exact Bool.false_ne_true
    rw [if_neg a']
    exact congrArg some e

theorem ObjM.look {h : Heap} {x dx C : Addr} {mA : Str → Option Value} (I : ObjM h x dx C mA) : ∃ od, PySem.W.InstAt h x (PySem.W.instObj C dx) C (some od) ∧ ∀ name, PySem.W.lookIn name od = some (mA name) :=
  let ⟨od, ho, hl⟩ := lookIn_ns I.ns
  ⟨od, ⟨I.obj, rfl, rfl, ho⟩, hl⟩

section
variable {prog : Program} {w : World} {A : Around} {E : Value → Shared → Prop} {s : Shared} {K : PySem.W.Frag} {x dx C f : Addr} {mA : Str → Option Value} {name : Str} {v : Value}

theorem get_map {expr : Bool} {Q : Value → Shared → Prop} (X : K.In s.heap) (I : ObjM s.heap x dx C mA) (hg : PySem.W.plainGet K C name = true) (hh : PySem.W.hasDictIn K C = true)
    (ha : PySem.W.findIn K (.ref C) name = some none) (hv : mA name = some v) (hv' : PySem.W.handedIn v = true) (h : Q v { s with toks := s.toks + 1 }) :
    wpAny (model prog w) A (getAttr (.ref x) name expr) Q E s := by
  obtain ⟨od, J, hl⟩ := I.look
  exact PySem.W.get_value X J (PySem.W.plainGet_of hg).1 (PySem.W.findObj_own hh ha rfl (by rw [hl, hv])) hv' h

theorem get_meth {pl : Sem Bool} {Q : Value × List Value → Shared → Prop} (X : K.In s.heap) (I : ObjM s.heap x dx C mA) (hg : PySem.W.plainGet K C name = true)
    (hf : PySem.W.findIn K (.ref C) name = some (some (.ref f))) (ht : PySem.W.isFn K (.ref f) = true) (hv : mA name = none) (h : Q (.ref f, [.ref x]) s) :
    wpAny (model prog w) A (getMethod (.ref x) name pl) Q E s := by
  obtain ⟨od, J, hl⟩ := I.look
  exact PySem.W.method_fn X J (PySem.W.plainGet_of hg).1 (PySem.W.plainGet_of hg).2 hf (beq_iff_eq.mp ht) (by show (PySem.W.lookIn name od).map (·.isSome) = some false; rw [hl, hv]; rfl) h

theorem set_map {ns : List Str} {Q : Unit → Shared → Prop} (X : K.In s.heap) (I : ObjM s.heap x dx C mA)
    (hs : PySem.W.findIn K (.ref C) "__setattr__" = some (some (.builtin "object.__setattr__"))) (hp : PySem.W.plainOver K C = true) (ht : PySem.W.takerIn K C name = some none) (hh : PySem.W.hasDictIn K C = true)
    (hw : PySem.Within mA ns) (hsz : ns.length ≤ sizeLine)
    (h : ∀ h', ObjM h' x dx C (fun y => if y = name then some v else mA y) → Heap.SameBut dx s.heap h' → Q () { s with heap := h', toks := s.toks + 2 }) :
    wpAny (model prog w) A (setAttr (.ref x) name v) Q E s := by
  obtain ⟨od, J, hl⟩ := I.look
  refine PySem.W.set_plain X J hs (PySem.W.osa_open (s := { s with toks := s.toks + 1 }) (r := none) X J hp ht fun b => ?_)
  obtain ⟨cd, hc, hd'⟩ := PySem.W.any_some hh
  have hx : s.heap.get? x = some ⟨.ref C, some dx, .plain, #[]⟩ := I.obj
  refine wpAny_bind (wpAny_pure (wpAny_bind (wpAny_bind (wpAny_loadPart hx (wpAny_bind (PySem.W.Looks.here (s := { s with toks := s.toks + 1 }) (PySem.W.looks_clsIn X hc) ?_))))))
  rw [hd']
  refine wpAny_pure (a := some dx) (wpAny_bind (wpAny_pure (wpAny_bind ?_)))
  refine wpAny_nsSet1 (s := { s with toks := s.toks + 1 }) I.ns fun h' hn2 hs2 => ?_
  obtain ⟨oD, esD, epD, hoD, hdD, hcD⟩ := hn2.count (PySem.Within.cons name v hw)
  refine wpAny_bind (wpAny_lookBehind hoD (by rw [hdD]; exact pastItsLine_dict (Nat.le_trans hcD (by rw [List.length_cons]; omega))) ?_)
  exact wpAny_pure (h _ ⟨(hs2.2 _ (Ne.symm I.ne)).trans I.obj, hn2, I.ne⟩ hs2)

/-- C(..): the dict at the heap's end, the instance behind it; then its __init__ -/
theorem make_map {R : Result → Shared → Prop} {vs : List Value} {kw : List (Str × Value)} (X : K.In s.heap) (hm : PySem.W.makesIn K C = true)
    (hi : PySem.W.findIn K (.ref C) "__init__" = some (some (.ref f))) (hf : PySem.W.typeIn K (.ref f) = some (.type "function"))
    (h : codeAny (model prog w) (A.under (.builtin "type.__call__" ⟨.ref C :: vs, kw⟩)) (.call (.ref f) ⟨.ref (s.heap.objs.size + 1) :: vs, kw⟩) (PySem.W.InitBack (s.heap.objs.size + 1) R)
      { s with heap := (s.heap.push PySem.W.emptyDict).push (PySem.W.instObj C s.heap.objs.size) }) :
    codeAny (model prog w) A (.call (.ref C) ⟨vs, kw⟩) R s := by
  obtain ⟨hh, g, d, t, os⟩ := s
  exact PySem.W.make_core (PySem.W.makes_of X hm) (PySem.W.looks_findIn X hi) (fun self => PySem.W.bind_fn X self hf) (.inl rfl) h
end

/-! ### the attributes as a list of pairs -/
def putF (f : Str) (v : V) : List (Str × V) → List (Str × V)
  | [] => [(f, v)]
  | (g, x) :: r => if g = f then (g, v) :: r else (g, x) :: putF f v r
theorem lookup_putF (f g : Str) (v : V) : ∀ fs : List (Str × V), (putF f v fs).lookup g = if g = f then some v else fs.lookup g
  | [] => by
    show List.lookup g [(f, v)] = _
    by_cases h : g = f
    · have hb : (g == f) = true := beq_iff_eq.mpr h
      simp only [List.lookup, hb, if_pos h]
    · have hb : (g == f) = false := beq_eq_false_iff_ne.mpr h
      simp only [List.lookup, hb, if_neg h]
  | (k, x) :: r => by
    have ih := lookup_putF f g v r
    rw [show putF f v ((k, x) :: r) = (if k = f then (k, v) :: r else (k, x) :: putF f v r) from rfl]
    by_cases hk : k = f
    · rw [if_pos hk]
      by_cases h : g = k
      · have hb : (g == k) = true := beq_iff_eq.mpr h
        simp only [List.lookup, hb, if_pos (h.trans hk)]
      · have hb : (g == k) = false := beq_eq_false_iff_ne.mpr h
        simp only [List.lookup, hb, if_neg (fun e : g = f => h (e.trans hk.symm))]
    · rw [if_neg hk]
      by_cases h : g = k
      · have hb : (g == k) = true := beq_iff_eq.mpr h
        simp only [List.lookup, hb, if_neg (fun e : g = f => hk (h.symm.trans e))]
      · have hb : (g == k) = false := beq_eq_false_iff_ne.mpr h
        simp only [List.lookup, hb]
        exact ih
theorem keys_putF (f : Str) (v : V) : ∀ fs : List (Str × V), f ∈ (putF f v fs).map (·.1) ∧ ∀ g, g ∈ fs.map (·.1) → g ∈ (putF f v fs).map (·.1)
  | [] => ⟨by simp [putF], fun g h => by simp at h⟩
  | (k, x) :: r => by
    obtain ⟨i1, i2⟩ := keys_putF f v r
    rw [show putF f v ((k, x) :: r) = (if k = f then (k, v) :: r else (k, x) :: putF f v r) from rfl]
    by_cases hk : k = f
    · rw [if_pos hk]
      subst hk
      exact ⟨by simp, fun g h => by simpa using h⟩
    · rw [if_neg hk]
      refine ⟨?_, fun g h => ?_⟩
      · rw [List.map_cons]
        exact List.mem_cons_of_mem _ i1
      · rw [List.map_cons] at h ⊢
        rcases List.mem_cons.mp h with e | e
        · exact List.mem_cons.mpr (.inl e)
        · exact List.mem_cons_of_mem _ (i2 g e)
theorem length_putF (f : Str) (v : V) : ∀ fs : List (Str × V), (putF f v fs).length ≤ fs.length + 1
  | [] => by simp [putF]
  | (k, x) :: r => by
    have ih := length_putF f v r
    rw [show putF f v ((k, x) :: r) = (if k = f then (k, v) :: r else (k, x) :: putF f v r) from rfl]
    by_cases hk : k = f
    · rw [if_pos hk, List.length_cons, List.length_cons]; omega
    · rw [if_neg hk, List.length_cons, List.length_cons]; omega

theorem RelO.some_of {v : V} {o : Option Value} (r : RelO (some v) o) : ∃ u, o = some u ∧ RelV v u := by
  cases o with
  | none => exact (show False from r).elim
  | some u => exact ⟨u, rfl, r⟩
theorem RelO.none_of {o : Option Value} (r : RelO none o) : o = none := by
  cases o with
  | none => rfl
  | some u => exact (show False from r).elim
theorem handed_of {v : V} {u : Value} (r : RelV v u) : PySem.W.handedIn u = true := by
  cases v with
  | non => cases (show u = Value.none from r); rfl
  | bl b => cases (show u = Value.bool b from r); rfl
  | int i => obtain ⟨t, e⟩ := (show ∃ t, u = Value.int i t from r); cases e; rfl
  | str x => obtain ⟨t, e⟩ := (show ∃ t, u = Value.str x t from r); cases e; rfl
  | byt b => obtain ⟨t, e⟩ := (show ∃ t, u = Value.bytes b t from r); cases e; rfl
  | flt b => obtain ⟨t, e⟩ := (show ∃ t, u = Value.float b t from r); cases e; rfl
  | ref a => cases (show u = Value.ref a from r); rfl
  | ty n => cases (show u = Value.type n from r); rfl

section
variable {P : Program} {w : World} {H H' : Hp} {h h' : Heap} {a C dx : Addr} {fs fs' : List (Str × V)}
theorem ins_get (hok : HOk P w H h) (e : H a = some (.ins C dx fs)) : ∃ mA, ObjM h a dx C mA ∧ (∀ f, RelO (fs.lookup f) (mA f)) ∧ PySem.Within mA (fs.map (·.1)) ∧ fs.length ≤ 1000 ∧ H dx = some (.own a) := by
  obtain ⟨d, z, ne, ob, mA, n, r, q⟩ := (show ObjOk P w H h a (.ins C dx fs) from hok a _ e)
  exact ⟨mA, ⟨ob, n, ne⟩, r, q, z, d⟩
end

/-! ### what of the text a class must have -/
structure Cls (K : PySem.W.Frag) (C : Addr) : Prop where
  pg : PySem.W.plainGet K C Str.empty = true
  hd : PySem.W.hasDictIn K C = true
  po : PySem.W.plainOver K C = true
  sa : PySem.W.findIn K (.ref C) "__setattr__" = some (some (.builtin "object.__setattr__"))
theorem Cls.get {K : PySem.W.Frag} {C : Addr} (c : Cls K C) (f : Str) : PySem.W.plainGet K C f = true := c.pg
/-- no class of it has the name -/
def NoAttr (K : PySem.W.Frag) (C : Addr) (f : Str) : Prop := PySem.W.findIn K (.ref C) f = some none
theorem NoAttr.taker {K : PySem.W.Frag} {C : Addr} {f : Str} (n : NoAttr K C f) : PySem.W.takerIn K C f = some none := by
  unfold PySem.W.takerIn
  rw [show PySem.W.findIn K (.ref C) f = some none from n]
  rfl
/-- a constant of the class -/
structure Con (K : PySem.W.Frag) (C : Addr) (f : Str) (v : V) (u : Value) : Prop where
  at_ : PySem.W.findIn K (.ref C) f = some (some u)
  rel : RelV v u
  get : PySem.W.specialIn K u "__get__" = some none
  cp : PySem.W.copiedNames.contains f = false
/-- a method: a plain def of the class or of one above it -/
structure Meth (K : PySem.W.Frag) (C : Addr) (m : Str) (f : Addr) : Prop where
  at_ : PySem.W.findIn K (.ref C) m = some (some (.ref f))
  fn : PySem.W.isFn K (.ref f) = true
  kp : PySem.W.keepIn K (.ref f) = true

section
variable {X : Cx} {pins : List (Addr × Obj)} {σ : St} {H : Hp} {s : Shared} {a C dx : Addr} {fs : List (Str × V)} {f : Str} {v : V} {A : Around} {E : Value → Shared → Prop}

theorem getattr_ok {b : Bool} {Q : Value → Shared → Prop} (I : Inv X pins σ H s) (e : H a = some (.ins C dx fs)) (c : Cls X.K C) (n : NoAttr X.K C f) (l : fs.lookup f = some v)
    (h : ∀ u s', Inv X pins σ H s' → RelV v u → Q u s') : wpAny (model X.prog X.w) A (getAttr (.ref a) f b) Q E s := by
  obtain ⟨mA, O, r, _, _, _⟩ := ins_get I.hok e
  obtain ⟨u, hu, ru⟩ := RelO.some_of (v := v) (o := mA f) (by rw [← l]; exact r f)
  exact get_map I.kIn O (c.get f) c.hd n hu (handed_of ru) (h u _ (I.tok _) ru)

theorem getmeth_ok {m : Str} {g : Addr} {pl : Sem Bool} {Q : Value × List Value → Shared → Prop} (I : Inv X pins σ H s) (e : H a = some (.ins C dx fs)) (c : Cls X.K C) (k : Meth X.K C m g) (l : fs.lookup m = none)
    (h : Q (.ref g, [.ref a]) s) : wpAny (model X.prog X.w) A (getMethod (.ref a) m pl) Q E s := by
  obtain ⟨mA, O, r, _, _, _⟩ := ins_get I.hok e
  have hn : mA m = none := RelO.none_of (by rw [← l]; exact r m)
  exact get_meth I.kIn O (c.get m) k.at_ k.fn hn h

theorem setattr_ok {y : V} {u : Value} {Q : Unit → Shared → Prop} (I : Inv X pins σ H s) (e : H a = some (.ins C dx fs)) (c : Cls X.K C) (n : NoAttr X.K C f) (hl : fs.length < 1000) (ry : RelV y u)
    (h : ∀ s', Inv X pins σ (upd H a (.ins C dx (putF f y fs))) s' → Q () s') : wpAny (model X.prog X.w) A (setAttr (.ref a) f u) Q E s := by
  obtain ⟨mA, O, r, wi, _, ho⟩ := ins_get I.hok e
  have hz : (fs.map (·.1)).length ≤ sizeLine := by rw [List.length_map, sizeLine_eq]; omega
  refine set_map I.kIn O c.sa c.po n.taker c.hd wi hz fun h' O' sb => h _ ?_
  have hd : ∃ o, h'.get? dx = some o := let ⟨o, _, _, e', _⟩ := O'.ns; ⟨o, e'⟩
  refine I.write (x := a) (e := dx) (by rw [e]; exact True.intro) (.inr ho) (fun b q hb z => (sb.2 b hb).trans z) hd ?_
  refine ⟨by rw [upd_ne O.ne]; exact ho, ?_, O.ne, O'.obj, _, O'.ns, fun g => ?_, fun g hg => ?_⟩
  · have := length_putF f y fs; omega
  · show RelO ((putF f y fs).lookup g) (if g = f then some u else mA g)
    rw [lookup_putF]
    by_cases q : g = f
    · rw [if_pos q, if_pos q]; exact ry
    · rw [if_neg q, if_neg q]; exact r g
  · by_cases q : g = f
    · rw [q]; exact (keys_putF f y fs).1
    · refine (keys_putF f y fs).2 g (wi g fun z => hg ?_)
      show (if g = f then some u else mA g) = none
      rw [if_neg q]; exact z

/-- a new instance, tracked, without attributes -/
theorem Inv.made (I : Inv X pins σ H s) : Inv X pins σ (upd (upd H s.heap.objs.size (.own (s.heap.objs.size + 1))) (s.heap.objs.size + 1) (.ins C s.heap.objs.size []))
    { s with heap := (s.heap.push PySem.W.emptyDict).push (PySem.W.instObj C s.heap.objs.size) } := by
  have e1 : (s.heap.push PySem.W.emptyDict).get? s.heap.objs.size = some PySem.W.emptyDict := Heap.get?_push_size s.heap rfl
  have e2 : ((s.heap.push PySem.W.emptyDict).push (PySem.W.instObj C s.heap.objs.size)).get? (s.heap.objs.size + 1) = some (PySem.W.instObj C s.heap.objs.size) := by
    have := Heap.get?_push_size (s.heap.push PySem.W.emptyDict) (o := PySem.W.instObj C s.heap.objs.size) rfl
    rwa [Heap.size_push] at this
  have e3 : (s.heap.push PySem.W.emptyDict).Ns s.heap.objs.size (fun _ => none) := ⟨PySem.W.emptyDict, #[], _, e1, rfl, (fun e he => absurd he (by simp)), fun _ => rfl⟩
  have I1 := I.laid (a := s.heap.objs.size) (o := .own (s.heap.objs.size + 1)) (h' := s.heap.push PySem.W.emptyDict) (t' := s.toks) (fun b u q => Heap.get?_push_of_some _ q) (Nat.le_refl _) ⟨_, e1⟩
  refine I1.laid (a := s.heap.objs.size + 1) (o := .ins C s.heap.objs.size []) (t' := s.toks) (fun b u q => Heap.get?_push_of_some _ q) (Nat.le_of_eq (Heap.size_push _ _)) ?_
  have ne : s.heap.objs.size ≠ s.heap.objs.size + 1 := Nat.ne_of_lt (Nat.lt_succ_self _)
  refine ⟨by rw [upd_ne ne, upd_same], Nat.zero_le _, ne, e2, fun _ => none, (Heap.Ns1.of_empty e3).at fun o q => Heap.get?_push_of_some _ q, fun _ => True.intro, fun y hy => absurd rfl hy⟩

/-- e.f where nothing but the object is asked: through attributeBase (super) and the last hold -/
theorem attr_of {prog : Program} {w : World} {env : Env} {e : Expr} {f : Str} {pos : Pos} {s : Shared} {Q : Value → Shared → Prop} (hb : attributeBase e f env (eval e env) = eval e env)
    (h : wpAny (model prog w) A (eval e env) (fun o s₁ => wpAny (model prog w) A (getAttr o f true) Q E s₁) E s) : wpAny (model prog w) A (eval (.Attribute e f pos) env) Q E s :=
  Attribute_any_ h (by rw [arm_eval_Attribute, hb])
end

/-! ### readings and rules -/
/-- e.f, an attribute of the instance -/
def tFld (K : PySem.W.Frag) (ta : TE) (f : Str) : TE := fun σ H Q => ta σ H fun x H1 => ∃ a C dx fs v, x = .ref a ∧ H1 a = some (.ins C dx fs) ∧ Cls K C ∧ NoAttr K C f ∧ fs.lookup f = some v ∧ Q v H1
/-- e.f, a constant of the class -/
def tCon (K : PySem.W.Frag) (ta : TE) (f : Str) : TE := fun σ H Q => ta σ H fun x H1 => ∃ a C dx fs v u, x = .ref a ∧ H1 a = some (.ins C dx fs) ∧ Cls K C ∧ Con K C f v u ∧ fs.lookup f = none ∧ Q v H1
/-- e.f = value -/
def sFld (K : PySem.W.Frag) (ta tv : TE) (f : Str) : TS := fun D σ H => tv σ H fun y H1 => ta σ H1 fun x H2 => ∃ a C dx fs, x = .ref a ∧ H2 a = some (.ins C dx fs) ∧ Cls K C ∧ NoAttr K C f ∧ fs.length < 1000 ∧
  D.nx σ (upd H2 a (.ins C dx (putF f y fs)))
/-- an augmented operator on two values -/
def InOp (X : Cx) (op : Operator) (rd : V → V → Hp → VK → Prop) : Prop :=
  ∀ (pins : List (Addr × Obj)) (s : Shared) (σ : St) (H : Hp) (x y : V) (u v : Value) (Q : VK), Inv X pins σ H s → RelV x u → RelV y v → rd x y H Q → wpAny (model X.prog X.w) X.A (inplaceOp op u v) (EP X pins σ Q) X.xe s
/-- e.f op= value -/
def sFldAug (K : PySem.W.Frag) (ta tv : TE) (rd : V → V → Hp → VK → Prop) (f : Str) : TS := fun D σ H => ta σ H fun x H1 => ∃ a C dx fs v, x = .ref a ∧ H1 a = some (.ins C dx fs) ∧ Cls K C ∧ NoAttr K C f ∧ fs.lookup f = some v ∧
  tv σ H1 fun y H2 => rd v y H2 fun z H3 => ∃ dx' fs', H3 a = some (.ins C dx' fs') ∧ fs'.length < 1000 ∧ D.nx σ (upd H3 a (.ins C dx' (putF f z fs')))

section
variable {X : Cx} {o e value : Expr} {f : Str} {pos pos' tpos : Pos} {ta tv : TE}
theorem pe_fld (he : PE X e ta) (hb : attributeBase e f X.env (eval e X.env) = eval e X.env) : PE X (.Attribute e f pos) (tFld X.K ta f) := by
  intro pins s σ H Q I h
  refine attr_of hb (thn (he pins s σ H _ I h) fun u s1 ⟨x, H1, I1, rx, a, C, dx, fs, v, ex, ea, c, n, l, q⟩ => ?_)
  subst ex
  obtain rfl : u = Value.ref a := rx
  exact getattr_ok I1 ea c n l fun u' s2 I2 ru => ⟨v, H1, I2, ru, q⟩
theorem ps_fld (ha : PE X o ta) (hv : PE X value tv) (hs : swapsWith value (some (.Attribute o f pos')) pos.line X.env = pure false) : PS X (.Assign [.Attribute o f pos'] value pos) (sFld X.K ta tv f) := by
  intro pins s σ H D I h
  refine plainObj_wpAny_Assign_Attribute (thn (hv pins s σ H _ I h) fun u s1 ⟨y, H1, I1, ry, q⟩ => thn (ha pins s1 σ H1 _ I1 q) fun ov s2 ⟨x, H2, I2, rx, a, C, dx, fs, ex, ea, c, n, l, q2⟩ => ?_) hs
  subst ex
  obtain rfl : ov = Value.ref a := rx
  exact setattr_ok I2 ea c n l ry fun s3 I3 => ⟨σ, _, I3, q2⟩
def rAdd : V → V → Hp → VK → Prop := fun x y H Q => ∃ i j, x = .int i ∧ y = .int j ∧ Q (.int (i + j)) H
def rSub : V → V → Hp → VK → Prop := fun x y H Q => ∃ i j, x = .int i ∧ y = .int j ∧ Q (.int (i - j)) H
/-- what is between an instance and its method: the tree of a method call -/
theorem methcall_of {pl : Sem Bool} {m : Str} {apos : Pos} {args : List Expr} {pins : List (Addr × Obj)} {s : Shared} {σ : St} {H : Hp} {Q : Value → Shared → Prop} {te : TE} (he : PE X e te) (I : Inv X pins σ H s)
    (h : te σ H fun x H1 => ∃ a C dx fs g, x = .ref a ∧ H1 a = some (.ins C dx fs) ∧ Cls X.K C ∧ Meth X.K C m g ∧ fs.lookup m = none ∧
      ∀ s1, Inv X pins σ H1 s1 → wpAny (model X.prog X.w) X.A (callWith pos (.ref g) [.ref a] (backTo pos (starEach args X.env)) (backToKw pos (keywordEach [] X.env))) Q X.xe s1)
    (ht : eval (.Call (.Attribute e m apos) args [] pos) X.env = (do
      let ov ← eval e X.env
      standAt apos.atName
      let (f, first) ← holding [ov] (getMethod ov m pl)
      callWith pos f first (backTo pos (starEach args X.env)) (backToKw pos (keywordEach [] X.env)))) :
    wpAny (model X.prog X.w) X.A (eval (.Call (.Attribute e m apos) args [] pos) X.env) Q X.xe s := by
  refine PySem.W.methodCall_KW (pl := pl) (thn (he pins s σ H _ I h) fun u s1 ⟨x, H1, I1, rx, a, C, dx, fs, g, ex, ea, c, k, l, q⟩ => ?_) ht
  subst ex
  obtain rfl : u = Value.ref a := rx
  exact getmeth_ok I1 ea c k l (q s1 I1)
end

/-! ### isinstance -/
section
variable {X : Cx} {pins : List (Addr × Obj)} {σ : St} {H : Hp} {s : Shared} {A : Around} {E : Value → Shared → Prop} {Q : Value → Shared → Prop} {c : Value} {b : Bool}
/-- the type of a value, as the fragment's deciders take it; for an instance its class -/
inductive TyOf (K : PySem.W.Frag) (H : Hp) : V → Value → Prop where
  | non : TyOf K H .non (.type "NoneType")
  | bl (x : Bool) : TyOf K H (.bl x) (.type "bool")
  | int (i : Int) : TyOf K H (.int i) (.type "int")
  | str (x : Str) : TyOf K H (.str x) (.type "str")
  | flt (x : UInt64) : TyOf K H (.flt x) (.type "float")
  | lst {a : Addr} {xs : List V} (e : H a = some (.lst xs)) : TyOf K H (.ref a) (.type "list")
  | frz {a : Addr} {o : Obj} {xs : List V} (e : H a = some (.frz o (.lst xs))) : TyOf K H (.ref a) (.type "list")
  | tup {a : Addr} {xs : List V} (e : H a = some (.tup xs)) : TyOf K H (.ref a) (.type "tuple")
  | dK {a : Addr} {kvs : List (Key × V)} (e : H a = some (.dK kvs)) : TyOf K H (.ref a) (.type "dict")
  | dT {a : Addr} {kvs : List (List Key × V)} (e : H a = some (.dT kvs)) : TyOf K H (.ref a) (.type "dict")
  | ins {a C dx : Addr} {fs : List (Str × V)} (e : H a = some (.ins C dx fs)) (cl : Cls K C) (ha : PySem.W.findIn K (.ref C) "__class__" = some (some (.builtin "object.__class__")))
      (hn : PySem.W.specialIn K (.builtin "object.__class__") "__get__" = some (some (.builtin "getset_descriptor.__get__"))) (htk : PySem.W.takesIn K (.builtin "object.__class__") = some true)
      (hm : PySem.W.mroIn K C (.type "object") = some true) : TyOf K H (.ref a) (.ref C)
end
end L2

namespace L2
open PySem PySem.Spec PyProof.Rows

/-! ### room -/
structure Room (k : Nat) (A : Around) : Prop where
  hd : A.handled = none
  dp : A.depth + 3 * k + 5 < recursionLimit
  un : A.units + 16 * k + 200 < cLine
theorem Room.mono {j k : Nat} {A : Around} (r : Room k A) (h : j ≤ k) : Room j A := ⟨r.hd, by have := r.dp; omega, by have := r.un; omega⟩
theorem Room.deeper {k : Nat} {A : Around} (r : Room (k + 1) A) (env : Env) : Room k (A.deeper env) :=
  ⟨r.hd, by have := r.dp; show A.depth + 1 + 3 * k + 5 < _; omega, by have := r.un; show A.units + 3 + 16 * k + 200 < _; omega⟩
theorem make_depth {A : Around} {C : Addr} {us : List Value} {kw : List (Str × Value)} : (A.under (.builtin "type.__call__" ⟨.ref C :: us, kw⟩)).depth = A.depth + 1 := by
  first | rfl | simp [Around.under, Code.weight, Code.isCreation, Code.isGuard, Code.isCaller, Code.frames, Code.isFrame, guardIds]
theorem make_units {A : Around} {C : Addr} {us : List Value} {kw : List (Str × Value)} : (A.under (.builtin "type.__call__" ⟨.ref C :: us, kw⟩)).units = A.units + 1 := by
  first | rfl | simp [Around.under, Code.cUnits, Code.frames, Code.isFrame]
theorem Room.make {k : Nat} {A : Around} (r : Room (k + 1) A) (C : Addr) (us : List Value) (kw : List (Str × Value)) : Room k (A.under (.builtin "type.__call__" ⟨.ref C :: us, kw⟩)) :=
  ⟨r.hd, by have := r.dp; rw [make_depth]; omega, by have := r.un; rw [make_units]; omega⟩
theorem Room.depth {k : Nat} {A : Around} (r : Room k A) : A.depth < recursionLimit := by have := r.dp; omega
theorem Room.units {k : Nat} {A : Around} (r : Room k A) : A.units + 64 < cLine := by have := r.un; omega
/-! ### argument lists and displays -/
def tNil : TA := fun _ H Q => Q [] H
def tCons (ta : TE) (tr : TA) : TA := fun σ H Q => ta σ H fun x H1 => tr σ H1 fun xs H2 => Q (x :: xs) H2
section
variable {X : Cx} {e : Expr} {es : List Expr} {te : TE} {t : TA} {pos : Pos}
theorem pa_nil : PA X [] tNil := fun _ _ _ _ H Q I h => Calls.spliced_nil ⟨[], H, I, .nil, h⟩
theorem pa_cons (ha : PE X e te) (hr : PA X es t) (hs : starEach (e :: es) X.env = (false, eval e X.env) :: starEach es X.env := by rfl) : PA X (e :: es) (tCons te t) := by
  intro pos pins s σ H Q I h
  rw [hs]
  show wpAny _ _ (spliced ((false, eval e X.env) :: backTo pos (starEach es X.env))) _ _ s
  refine Calls.spliced_cons (thn (ha pins s σ H _ I h) fun u s1 ⟨x, H1, I1, r1, q1⟩ => ?_)
  exact thn (hr pos pins s1 σ H1 _ I1 q1) fun us s2 ⟨xs, H2, I2, r2, q2⟩ => ⟨x :: xs, H2, I2, .cons r1 r2, q2⟩

/-- a tuple, a list of written items -/
def tTup (t : TA) : TE := fun σ H Q => t σ H fun xs H1 => xs.length ≤ sizeLine ∧ ∀ p, H1 p = none → Q (.ref p) (upd H1 p (.tup xs))
def tLst (t : TA) : TE := fun σ H Q => t σ H fun xs H1 => xs.length ≤ sizeLine ∧ ∀ p, H1 p = none → Q (.ref p) (upd H1 p (.lst xs))
theorem pe_lst (h : PA X es t) : PE X (.List es pos) (tLst t) := by
  intro pins s σ H Q I hq
  refine wpAny_List_spliced (thn (h pos pins s σ H _ I hq) fun us s1 ⟨xs, H1, I1, r, z, q⟩ => ⟨by rw [← r.length]; exact z, ?_⟩)
  have hf : H1 s1.heap.objs.size = none := I1.hok.fresh (Nat.le_refl _)
  refine ⟨.ref s1.heap.objs.size, upd H1 s1.heap.objs.size (.lst xs), I1.laid (t' := s1.toks) (fun b u e => Heap.get?_push_of_some _ e) (Nat.le_refl _) ?_, rfl, q _ hf⟩
  exact ⟨z, us, 0, r, Heap.get?_push_size _ rfl⟩
end

/-! ### what a def promises -/
/-- a def's promise: the bound arguments in the parameters' order, the heap, the wanted end, the wanted exception -/
abbrev Sp := List V → Hp → VK → XK → Prop
/-- how an exception lies behind a call (file 08 gives it): the callers' frames, abstract heap and state ahead of the call, the wish, the exception, the state -/
abbrev CXT := List Env → Hp → Shared → XK → Value → Shared → Prop

/-- the state at a call -/
structure Env0 (P : Program) (w : World) (K : PySem.W.Frag) (mg : Str → Option Value) (base : Heap) (A : Around) (outer : List Env) (s : Shared) (H : Hp) : Prop where
  frames : A.frames = some outer
  mod : Mod K mg base
  bs : ∀ b o, base.get? b = some o → s.heap.get? b = some o ∧ H b = none
  bsz : base.objs.size ≤ s.heap.objs.size
  funs : s.heap.FunFrames base outer
  frf : ∀ b ∈ frs outer, H b = none
  hok : HOk P w H s.heap
  bare : AllBare s.gens
/-- a call's end -/
def CE (outer : List Env) (P : Program) (w : World) (H : Hp) (s : Shared) (Q : VK) (u : Value) (s' : Shared) : Prop :=
  ∃ v H', s'.os = s.os ∧ AllBare s'.gens ∧ Un (frs outer) [] H H' s.heap s'.heap ∧ HOk P w H' s'.heap ∧ RelV v u ∧ Q v H'
def CR (CX : CXT) (outer : List Env) (P : Program) (w : World) (H : Hp) (s : Shared) (Q : VK) (E : XK) (r : Result) (s' : Shared) : Prop :=
  match r with
  | .ok (.ret u) => CE outer P w H s Q u s'
  | .ok _ => False
  | .error e => CX outer H s E e s'
structure FnOk (P : Program) (w : World) (K : PySem.W.Frag) (mg : Str → Option Value) (base : Heap) (CX : CXT) (k : Nat) (f : Addr) (fd : FuncData) (ps : List Str) (sp : Sp) : Prop where
  len : ∀ vs H Q E, sp vs H Q E → vs.length = ps.length
  run : ∀ (A : Around) (outer : List Env) (s : Shared) (H : Hp) (args : Args) (us : List Value) (vs : List V) (Q : VK) (E : XK), Room k A → Env0 P w K mg base A outer s H → BindsTo s fd args (ps.zip us) → Vals vs us → sp vs H Q E →
    codeAny (model P w) A (.call (.ref f) args) (CR CX outer P w H s Q E) s
theorem Env0.make {P : Program} {w : World} {K : PySem.W.Frag} {mg : Str → Option Value} {base : Heap} {A : Around} {outer : List Env} {s : Shared} {H : Hp} (e : Env0 P w K mg base A outer s H) (C : Addr) (us : List Value) (kw : List (Str × Value)) :
    Env0 P w K mg base (A.under (.builtin "type.__call__" ⟨.ref C :: us, kw⟩)) outer s H := ⟨by first | exact e.frames | (simpa [Around.under, Code.envs, Code.isFrame, pushEnvs] using e.frames), e.mod, e.bs, e.bsz, e.funs, e.frf, e.hok, e.bare⟩
section
variable {X : Cx} {pins : List (Addr × Obj)} {σ : St} {H : Hp} {s s' : Shared}
/-- from a body: what a callee wants -/
theorem Inv.env0 (I : Inv X pins σ H s) : Env0 X.prog X.w X.K X.mg X.base X.A X.stack s H :=
  ⟨I.ok.frames, I.ok.mod, I.bs, Nat.le_trans I.ok.bsz I.sz, I.stack, I.stkFree, I.hok, I.bare⟩
/-- behind a call -/
theorem Inv.after {Q : VK} {u : Value} (I : Inv X pins σ H s) (h : CE X.stack X.prog X.w H s Q u s') : EP X pins σ Q u s' := by
  obtain ⟨v, H', os, bare, un, hok, r, q⟩ := h
  obtain ⟨hh, g, d, t, os'⟩ := s'
  obtain rfl : os' = s.os := os
  exact ⟨v, H', I.call (h' := hh) (g' := g) (d' := d) (t' := t) (ch := []) un hok bare (fun b z => absurd z (by simp)), r, q⟩
end

/-! ### calls -/
/-- f(..): the written arguments, then the defaults dvs; E: what is wanted of an exception -/
def tCall (sp : Sp) (dvs : List V) (E : XK) (t : TA) : TE := fun σ H Q => t σ H fun vs H1 => sp (vs ++ dvs) H1 Q E
/-- o.m(..) of an instance of the class at C -/
def tMeth (C : Addr) (m : Str) (sp : Sp) (dvs : List V) (E : XK) (ta : TE) (t : TA) : TE := fun σ H Q => ta σ H fun x H1 => ∃ a dx fs, x = .ref a ∧ H1 a = some (.ins C dx fs) ∧ fs.lookup m = none ∧
  t σ H1 fun vs H2 => sp (x :: (vs ++ dvs)) H2 Q E
/-- C(..): a new instance and its dict, then __init__ -/
def tMake (C : Addr) (sp : Sp) (dvs : List V) (E : XK) (t : TA) : TE := fun σ H Q => t σ H fun vs H1 => ∀ x dx, H1 x = none → H1 dx = none → dx ≠ x →
  sp (.ref x :: (vs ++ dvs)) (upd (upd H1 dx (.own x)) x (.ins C dx [])) (fun v H2 => v = .non ∧ Q (.ref x) H2) E

/-- how the parameters are bound: us the positional arguments, kw the keywords' values by name, ds the defaults that fill up -/
def Binds (K : PySem.W.Frag) (fd : FuncData) (ps : List Str) (ds : List Value) : Prop :=
  ∀ (s : Shared) (us : List Value), K.In s.heap → (us ++ ds).length = ps.length → BindsTo s fd ⟨us, []⟩ (ps.zip (us ++ ds))
/-- every parameter is given -/
theorem Binds.all {K : PySem.W.Frag} {fd : FuncData} {ps : List Str} (h : ∀ us : List Value, us.length = ps.length → bindArgs fd ⟨us, []⟩ = pure (ps.zip us)) : Binds K fd ps [] := fun s us _ hl => by
  rw [List.append_nil] at hl ⊢
  exact .of_eq (h us hl)

/-- an exception of a callee reaches what this body wants of exceptions -/
def Passes (CX : CXT) (X : Cx) (E : XK) : Prop := ∀ (pins : List (Addr × Obj)) (σ : St) (H : Hp) (s : Shared) (e : Value) (s' : Shared), Inv X pins σ H s → CX X.stack H s E e s' → X.xe e s'

section
variable {X : Cx} {CX : CXT} {k : Nat} {f C : Addr} {fd : FuncData} {ps : List Str} {sp : Sp} {dvs : List V} {ds : List Value} {E : XK} {x m : Str} {p pos apos : Pos} {e o : Expr} {es : List Expr} {ta : TE} {t : TA}

/-- the callee runs -/
theorem run_fn {pins : List (Addr × Obj)} {σ : St} {H : Hp} {s : Shared} {Q : VK} {us : List Value} {vs : List V} (F : FnOk X.prog X.w X.K X.mg X.base CX k f fd ps sp) (hr : Room k X.A) (hb : Binds X.K fd ps ds) (hd : Vals dvs ds) (hx : Passes CX X E)
    (I : Inv X pins σ H s) (r : Vals vs us) (h : sp (vs ++ dvs) H Q E) : wpAny (model X.prog X.w) X.A (call (.ref f) us) (EP X pins σ Q) X.xe s := by
  have r2 : Vals (vs ++ dvs) (us ++ ds) := r.append hd
  have hl : (us ++ ds).length = ps.length := by rw [← r2.length]; exact F.len _ _ _ _ h
  refine wpAny_call (codeAny_mono (F.run X.A X.stack s H ⟨us, []⟩ (us ++ ds) (vs ++ dvs) Q E hr I.env0 (hb s us I.kIn hl) r2 h) fun r s' hq => ?_)
  cases r with
  | error e => exact hx pins σ H s e s' I hq
  | ok fl =>
    cases fl with
    | ret u => exact I.after hq
    | next => exact False.elim hq
    | brk => exact False.elim hq
    | cont => exact False.elim hq

theorem pe_call (F : FnOk X.prog X.w X.K X.mg X.base CX k f fd ps sp) (hr : Room k X.A) (hg : Gl X x) (hm : X.mg x = some (.ref f)) (hk : PySem.W.keepIn X.K (.ref f) = true) (hb : Binds X.K fd ps ds) (hd : Vals dvs ds) (hx : Passes CX X E)
    (ha : PA X (e :: es) t) (hdb : (x == ("__debug__" : Str)) = false := by decide) (he : starEach (e :: es) X.env = (false, eval e X.env) :: starEach es X.env := by rfl) (hpl : (backTo pos (starEach es X.env)).any (·.1) = false := by rfl) :
    PE X (.Call (.Name x p) (e :: es) [] pos) (tCall sp dvs E t) := by
  intro pins s σ H Q I h
  refine wpAny_Call_Name_kw (ld_glob I hg hm ?_ hdb)
  refine PySem.W.callWith_K (h₀ := X.base) I.ok.mod.kin hk (thn (ha pos pins s σ H _ I h) fun us s1 ⟨vs, H1, I1, r, q⟩ => ⟨I1.kIn, ?_⟩) he hpl
  exact run_fn F hr hb hd hx I1 r q
/-- o.m(e, ..) -/
theorem pe_meth {pl : Sem Bool} (he : PE X o ta) (c : Cls X.K C) (hm : Meth X.K C m f) (F : FnOk X.prog X.w X.K X.mg X.base CX k f fd ps sp) (hr : Room k X.A) (hb : Binds X.K fd ps ds) (hd : Vals dvs ds) (hx : Passes CX X E) (ha : PA X (e :: es) t)
    (hst : starEach (e :: es) X.env = (false, eval e X.env) :: starEach es X.env := by rfl) (hpl : (backTo pos (starEach es X.env)).any (·.1) = false := by rfl)
    (ht : eval (.Call (.Attribute o m apos) (e :: es) [] pos) X.env = (do
      let ov ← eval o X.env
      standAt apos.atName
      let (f, first) ← holding [ov] (getMethod ov m pl)
      callWith pos f first (backTo pos (starEach (e :: es) X.env)) (backToKw pos (keywordEach [] X.env))) := by rfl) :
    PE X (.Call (.Attribute o m apos) (e :: es) [] pos) (tMeth C m sp dvs E ta t) := by
  intro pins s σ H Q I h
  refine PySem.W.methodCall_KW (pl := pl) (thn (he pins s σ H _ I h) fun u s1 ⟨x, H1, I1, rx, a, dx, fs, ex, ea, l, q⟩ => ?_) ht
  subst ex
  obtain rfl : u = Value.ref a := rx
  refine getmeth_ok I1 ea c hm l ?_
  refine PySem.W.callWith_K (first := [.ref a]) (h₀ := X.base) I.ok.mod.kin hm.kp (thn (ha pos pins s1 σ H1 _ I1 q) fun us s2 ⟨vs, H2, I2, r, q2⟩ => ⟨I2.kIn, ?_⟩) hst hpl
  exact run_fn (us := .ref a :: us) (vs := .ref a :: vs) F hr hb hd hx I2 (.cons rfl r) q2
/-- o.m() -/
theorem pe_meth0 {pl : Sem Bool} (he : PE X o ta) (c : Cls X.K C) (hm : Meth X.K C m f) (F : FnOk X.prog X.w X.K X.mg X.base CX k f fd ps sp) (hr : Room k X.A) (hb : Binds X.K fd ps ds) (hd : Vals dvs ds) (hx : Passes CX X E)
    (ht : eval (.Call (.Attribute o m apos) [] [] pos) X.env = (do
      let ov ← eval o X.env
      standAt apos.atName
      let (f, first) ← holding [ov] (getMethod ov m pl)
      callWith pos f first (backTo pos (starEach [] X.env)) (backToKw pos (keywordEach [] X.env))) := by rfl) :
    PE X (.Call (.Attribute o m apos) [] [] pos) (tMeth C m sp dvs E ta tNil) := by
  intro pins s σ H Q I h
  refine PySem.W.methodCall_KW (pl := pl) (thn (he pins s σ H _ I h) fun u s1 ⟨x, H1, I1, rx, a, dx, fs, ex, ea, l, q⟩ => ?_) ht
  subst ex
  obtain rfl : u = Value.ref a := rx
  refine getmeth_ok I1 ea c hm l ?_
  exact PySem.W.callWith_K0 (first := [.ref a]) I1.kIn hm.kp (run_fn (us := [.ref a]) (vs := [.ref a]) F hr hb hd hx I1 (.cons rfl .nil) q)

/-- what a class must have to be made -/
structure Mk (K : PySem.W.Frag) (C f : Addr) : Prop where
  makes : PySem.W.makesIn K C = true
  init : PySem.W.findIn K (.ref C) "__init__" = some (some (.ref f))
  fn : PySem.W.isFn K (.ref f) = true
  kp : PySem.W.keepIn K (.ref C) = true

theorem run_make {pins : List (Addr × Obj)} {σ : St} {H : Hp} {s : Shared} {Q : VK} {us : List Value} {vs : List V} (M : Mk X.K C f) (F : FnOk X.prog X.w X.K X.mg X.base CX k f fd ps sp) (hr : Room (k + 1) X.A) (hb : Binds X.K fd ps ds) (hd : Vals dvs ds)
    (hx : Passes CX X E) (I : Inv X pins σ H s) (r : Vals vs us)
    (h : ∀ x dx, H x = none → H dx = none → dx ≠ x → sp (.ref x :: (vs ++ dvs)) (upd (upd H dx (.own x)) x (.ins C dx [])) (fun v H2 => v = .non ∧ Q (.ref x) H2) E) :
    wpAny (model X.prog X.w) X.A (call (.ref C) us) (EP X pins σ Q) X.xe s := by
  have hq := h (s.heap.objs.size + 1) s.heap.objs.size (I.hok.fresh (Nat.le_succ _)) (I.hok.fresh (Nat.le_refl _)) (Nat.ne_of_lt (Nat.lt_succ_self _))
  have I2 := Inv.made (C := C) I
  have r2 : Vals (V.ref (s.heap.objs.size + 1) :: (vs ++ dvs)) (Value.ref (s.heap.objs.size + 1) :: (us ++ ds)) := .cons rfl (r.append hd)
  have hl : (Value.ref (s.heap.objs.size + 1) :: us ++ ds).length = ps.length := by
    have e := r2.length
    rw [F.len _ _ _ _ hq] at e
    exact e.symm
  refine wpAny_call (make_map (f := f) I.kIn M.makes M.init (beq_iff_eq.mp M.fn) (codeAny_mono (F.run _ X.stack _ _ ⟨Value.ref (s.heap.objs.size + 1) :: us, []⟩ (Value.ref (s.heap.objs.size + 1) :: (us ++ ds)) _ _ E (hr.make C us [])
    (I2.env0.make C us []) (hb _ (Value.ref (s.heap.objs.size + 1) :: us) I2.kIn hl) r2 hq) fun r s' hq' => ?_))
  cases r with
  | error e => exact hx pins σ _ _ e s' I2 hq'
  | ok fl =>
    cases fl with
    | ret u =>
      obtain ⟨v, H', I3, rv, ev, q3⟩ := I2.after hq'
      subst ev
      exact ⟨rv, ⟨V.ref (s.heap.objs.size + 1), H', I3, rfl, q3⟩⟩
    | next => exact False.elim hq'
    | brk => exact False.elim hq'
    | cont => exact False.elim hq'
theorem pe_make (M : Mk X.K C f) (F : FnOk X.prog X.w X.K X.mg X.base CX k f fd ps sp) (hr : Room (k + 1) X.A) (hg : Gl X x) (hm : X.mg x = some (.ref C)) (hb : Binds X.K fd ps ds) (hd : Vals dvs ds) (hx : Passes CX X E)
    (ha : PA X (e :: es) t) (hdb : (x == ("__debug__" : Str)) = false := by decide) (he : starEach (e :: es) X.env = (false, eval e X.env) :: starEach es X.env := by rfl) (hpl : (backTo pos (starEach es X.env)).any (·.1) = false := by rfl) :
    PE X (.Call (.Name x p) (e :: es) [] pos) (tMake C sp dvs E t) := by
  intro pins s σ H Q I h
  refine wpAny_Call_Name_kw (ld_glob I hg hm ?_ hdb)
  refine PySem.W.callWith_K (h₀ := X.base) I.ok.mod.kin M.kp (thn (ha pos pins s σ H _ I h) fun us s1 ⟨vs, H1, I1, r, q⟩ => ⟨I1.kIn, ?_⟩) he hpl
  exact run_make M F hr hb hd hx I1 r q
theorem pe_make0 (M : Mk X.K C f) (F : FnOk X.prog X.w X.K X.mg X.base CX k f fd ps sp) (hr : Room (k + 1) X.A) (hg : Gl X x) (hm : X.mg x = some (.ref C)) (hb : Binds X.K fd ps ds) (hd : Vals dvs ds) (hx : Passes CX X E)
    (hdb : (x == ("__debug__" : Str)) = false := by decide) : PE X (.Call (.Name x p) [] [] pos) (tMake C sp dvs E tNil) := by
  intro pins s σ H Q I h
  refine wpAny_Call_Name_kw (ld_glob I hg hm ?_ hdb)
  exact PySem.W.callWith_K0 I.kIn M.kp (run_make (us := []) M F hr hb hd hx I .nil h)
end

/-! ### keywords -/
/-- the values of the keywords, from the left -/
def PK (X : Cx) (kws : List Keyword) (t : TA) : Prop :=
  ∀ (pos : Pos) (pins : List (Addr × Obj)) (s : Shared) (σ : St) (H : Hp) (Q : List V → Hp → Prop), Inv X pins σ H s → t σ H Q → wpAny (model X.prog X.w) X.A (evalAll ((backToKw pos (keywordEach kws X.env)).map (·.2))) (AP X pins σ Q) X.xe s
section
variable {X : Cx} {CX : CXT} {k : Nat} {f C : Addr} {fd : FuncData} {ps ks : List Str} {sp : Sp} {E : XK} {x m : Str} {p pos apos kpos : Pos} {e o : Expr} {es : List Expr} {kws : List Keyword} {te ta : TE} {t tk : TA} {nm : Option Str}
/-- how a call with keywords binds: g puts the positional values us and the keywords' values ws (names ks) in the parameters' order, defaults among them -/
structure KBinds (K : PySem.W.Frag) (fd : FuncData) (ps ks : List Str) (g : List Value → List Value → List Value) (gV : List V → List V → List V) : Prop where
  to : ∀ (s : Shared) (us ws : List Value), K.In s.heap → (g us ws).length = ps.length → BindsTo s fd ⟨us, ks.zip ws⟩ (ps.zip (g us ws))
  rel : ∀ {vs : List V} {us : List Value} {zs : List V} {ws : List Value}, Vals vs us → Vals zs ws → Vals (gV vs zs) (g us ws)
def tCallK (sp : Sp) (gV : List V → List V → List V) (E : XK) (t tk : TA) : TE := fun σ H Q => t σ H fun vs H1 => tk σ H1 fun zs H2 => sp (gV vs zs) H2 Q E
variable {g : List Value → List Value → List Value} {gV : List V → List V → List V}
end

/-! ### a def's body keeps its promise -/
/-- names: the parameters first -/
structure FnScope (N P : List Str) (sc : Scope) : Prop where
  kind : sc.kind = .function
  co : sc.isCoroutine = false
  gen : sc.isGenerator = false
  nd : N.Nodup
  pre : N.take P.length = P
  par : ∀ x ∈ P, sc.names.lookup x = some .local ∨ sc.names.lookup x = some .cell
  nofree : ∀ y ∈ sc.names, y.2 ≠ .free

theorem bindL_out {kindOf : Str → Option NameKind} {x : Str} : ∀ {binds : List (Str × Value)} {m : Str → Option Value}, (∀ v, (x, v) ∉ binds) → bindL kindOf binds m x = m x
  | [], _, _ => rfl
  | (n, v) :: r, m, h => by
    unfold bindL
    rw [bindL_out fun w hw => h w (List.mem_cons_of_mem _ hw)]
    split
    · have : x ≠ n := by rintro rfl; exact h v List.mem_cons_self
      simp [this]
    · rfl
theorem bindC_out {kindOf : Str → Option NameKind} {x : Str} : ∀ {binds : List (Str × Value)} {m : Str → Option Value}, (∀ v, (x, v) ∉ binds) → bindC kindOf binds m x = m x
  | [], _, _ => rfl
  | (n, v) :: r, m, h => by
    unfold bindC
    rw [bindC_out fun w hw => h w (List.mem_cons_of_mem _ hw)]
    split
    · rfl
    · have : x ≠ n := by rintro rfl; exact h v List.mem_cons_self
      simp [this]
theorem bindL_get {kindOf : Str → Option NameKind} {x : Str} {v : Value} : ∀ {P : List Str} {vs : List Value} {i : Nat} {m : Str → Option Value}, P.Nodup → P[i]? = some x → vs[i]? = some v → kindOf x = some .local →
    bindL kindOf (P.zip vs) m x = some v
  | [], _, _, _, _, h, _, _ => by simp at h
  | _ :: _, [], _, _, _, _, h, _ => by simp at h
  | p :: P, w :: vs, 0, m, nd, h1, h2, hk => by
    simp at h1 h2; subst h1; subst h2
    show bindL kindOf ((p, w) :: P.zip vs) m p = _
    unfold bindL
    rw [bindL_out fun v hv => (List.nodup_cons.mp nd).1 (List.of_mem_zip hv).1, if_pos hk]
    simp
  | p :: P, w :: vs, i + 1, m, nd, h1, h2, hk => by
    show bindL kindOf ((p, w) :: P.zip vs) m x = _
    unfold bindL
    exact bindL_get (i := i) (List.nodup_cons.mp nd).2 (by simpa using h1) (by simpa using h2) hk
theorem bindC_get {kindOf : Str → Option NameKind} {x : Str} {v : Value} : ∀ {P : List Str} {vs : List Value} {i : Nat} {m : Str → Option Value}, P.Nodup → P[i]? = some x → vs[i]? = some v → kindOf x ≠ some .local →
    bindC kindOf (P.zip vs) m x = some v
  | [], _, _, _, _, h, _, _ => by simp at h
  | _ :: _, [], _, _, _, _, h, _ => by simp at h
  | p :: P, w :: vs, 0, m, nd, h1, h2, hk => by
    simp at h1 h2; subst h1; subst h2
    show bindC kindOf ((p, w) :: P.zip vs) m p = _
    unfold bindC
    rw [bindC_out fun v hv => (List.nodup_cons.mp nd).1 (List.of_mem_zip hv).1, if_neg hk]
    simp
  | p :: P, w :: vs, i + 1, m, nd, h1, h2, hk => by
    show bindC kindOf ((p, w) :: P.zip vs) m x = _
    unfold bindC
    exact bindC_get (i := i) (List.nodup_cons.mp nd).2 (by simpa using h1) (by simpa using h2) hk

/-- the names' values at the entry -/
def start (N : List Str) (vs : List V) : St := vs.map some ++ List.replicate (N.length - vs.length) none

/-- the context of a def's body, at its entry; an exception leaves the frame, then lies as CX says -/
def cxOf (CX : CXT) (P : Program) (w : World) (K : PySem.W.Frag) (mg : Str → Option Value) (base : Heap) (N : List Str) (qual : Str) (scope : Scope) (f : Addr) (cd : Value) (A : Around) (outer : List Env) (s : Shared) (H : Hp) (E : XK) : Cx where
  prog := P
  w := w
  K := K
  mg := mg
  base := base
  A := A.deeper (envOfC qual scope s.heap.objs.size f cd)
  N := N
  s_0 := s
  H_0 := H
  env := envOfC qual scope s.heap.objs.size f cd
  outer := outer
  stack := envOfC qual scope s.heap.objs.size f cd :: outer
  ex := []
  calm := true
  fn := fun _ => true
  pn := []
  xe := fun e s' => wpAny (model P w) (A.deeper (envOfC qual scope s.heap.objs.size f cd)) (leaving (envOfC qual scope s.heap.objs.size f cd) e) (fun _ s'' => CX outer H s E e s'') (fun e' s'' => CX outer H s E e' s'') s'

theorem cell_has {sc : Scope} {n : Nat} {x : Str} (h : sc.names.lookup x = some .cell) : ∃ c, (cellsFrom n sc.names []).lookup x = some c := by
  have q := PySem.W.cellsFrom_some sc.names n [] (.inl h)
  exact Option.isSome_iff_exists.mp q

theorem inv_start {CX : CXT} {P : Program} {w : World} {K : PySem.W.Frag} {mg : Str → Option Value} {base : Heap} {N ps : List Str} {qual : Str} {scope : Scope} {f : Addr} {cd : Value} {A : Around} {outer : List Env} {s s1 : Shared} {H : Hp} {E : XK} {us : List Value} {vs : List V}
    (S : FnScope N ps scope) (hd : A.handled = none) (e0 : Env0 P w K mg base A outer s H) (hl : vs.length = ps.length) (r : Vals vs us)
    (x : InCallC s s.heap.objs.size (bindL (envOfC qual scope s.heap.objs.size f cd).kindOf (ps.zip us) fun _ => none) (cellsFrom (s.heap.objs.size + 1) scope.names []) (bindC (envOfC qual scope s.heap.objs.size f cd).kindOf (ps.zip us) fun _ => none) s1) :
    Inv (cxOf CX P w K mg base N qual scope f cd A outer s H E) [] (start N vs) H s1 := by
  have hpl : ps.length ≤ N.length := by have := congrArg List.length S.pre; rw [List.length_take] at this; omega
  obtain ⟨h1, tk, rfl, hk⟩ := x.done
  have noA : ∀ b : Addr, b ∉ (cxOf CX P w K mg base N qual scope f cd A outer s H E).ex := fun b z => absurd (show b ∈ ([] : List Addr) from z) (by simp)
  refine ⟨⟨e0.mod, S.kind, rfl, rfl, Nat.le_refl _, fun y z c h1 h2 => ?_, fun y hy => ?_, fun y c _ h => ?_, fun _ => hd, Around.frames_deeper e0.frames, .inr ⟨rfl, rfl⟩, fun b z => absurd z (noA b), e0.bs, e0.bsz, fun b _ _ => noA b, fun b z => absurd z (noA b), e0.funs, e0.frf⟩,
    rfl, e0.bare, Un.kept hk, ⟨_, x.toInCall.ns, fun i y v h1 h2 h3 => ?_⟩, fun y c h => ⟨_, x.cell y c h⟩, e0.hok.fresh (Nat.le_refl _), fun y c h => ?_, fun p hp => absurd (show p ∈ ([] : List (Addr × Obj)) from hp) (by simp), e0.hok.kept hk, ?_⟩
  · exact name_of_addr x.apart (PySem.mem_of_lookup h1) (PySem.mem_of_lookup h2)
  · have hy : scope.names.lookup y = some .cell ∨ scope.names.lookup y = some .free := hy
    rcases hy with hy | hy
    · exact cell_has hy
    · exact absurd rfl (S.nofree _ (PySem.mem_of_lookup hy))
  · exact Nat.le_of_lt (x.above y c (PySem.mem_of_lookup h))
  · have hi : i < vs.length := by
      unfold start at h2
      by_cases hi : i < vs.length
      · exact hi
      · rw [List.getElem?_append_right (by simpa using hi)] at h2
        rw [List.getElem?_replicate] at h2
        split at h2 <;> cases h2
    have ha : vs[i]? = some v := by
      unfold start at h2
      rw [List.getElem?_append_left (by simpa using hi), List.getElem?_map] at h2
      cases e : vs[i]? with
      | none => rw [e] at h2; cases h2
      | some a => rw [e] at h2; cases h2; rfl
    obtain ⟨u, hu, rv⟩ := r.get ha
    have hp : ps[i]? = some y := by
      rw [← S.pre, List.getElem?_take_of_lt (by omega)]; exact h1
    have ndP : ps.Nodup := by rw [← S.pre]; exact S.nd.sublist (List.take_sublist _ _)
    refine ⟨u, rv, ?_⟩
    rcases S.par y (List.mem_of_getElem? hp) with k | k
    · exact .inl ⟨k, bindL_get ndP hp hu k⟩
    · obtain ⟨c, e⟩ := cell_has (n := s.heap.objs.size + 1) k
      refine .inr ⟨.inl k, c, e, ?_⟩
      have q := x.cell y c e
      rw [bindC_get ndP hp hu (by show scope.names.lookup y ≠ _; rw [k]; decide)] at q
      exact q
  · exact e0.hok.fresh (Nat.le_of_lt (x.above y c (PySem.mem_of_lookup h)))
  · unfold start
    show _ = N.length
    rw [List.length_append, List.length_map, List.length_replicate]
    omega

/-- THE RULE: a def (or a method) of the text, by its body. The body's reading t is chosen for each entry; it is run at the parameters' values -/
theorem fn_of {CX : CXT} {P : Program} {w : World} {K : PySem.W.Frag} {mg : Str → Option Value} {base : Heap} {k : Nat} {f : Addr} {name qual : Str} {params : Arguments} {body : List Stmt} {scope : Scope} {dV kV doc pm cdv ct oc : Value} {an od : Option Addr}
    {osl : Array (Option Value)} {N ps : List Str} {sp : Sp} (lk : K.lookup f = some ⟨oc, od, .func (PySem.W.fnOf name qual params body scope dV kV doc pm an cdv ct), osl⟩) (hcd : PySem.W.codeIn K cdv qual = true) (S : FnScope N ps scope)
    (len : ∀ vs H Q E, sp vs H Q E → vs.length = ps.length)
    (hbody : ∀ (A : Around) (outer : List Env) (s : Shared) (H : Hp) (vs : List V) (Q : VK) (E : XK), Room k (A.deeper (envOfC qual scope s.heap.objs.size f cdv)) → sp vs H Q E →
      ∃ t, PSs (cxOf CX P w K mg base N qual scope f cdv A outer s H E) body t ∧ t { nx := fun _ H' => Q .non H', rt := Q } (start N vs) H) :
    FnOk P w K mg base CX (k + 1) f (PySem.W.fnOf name qual params body scope dV kV doc pm an cdv ct) ps sp := by
  refine ⟨len, fun A outer s H args us vs Q E hr e0 hb r hsp => ?_⟩
  have hl := len _ _ _ _ hsp
  have KX : K.In s.heap := e0.mod.kin.keeps fun b o e => (e0.bs b o e).1
  have lim : s.heap.NoLimit := e0.mod.nolimit.keeps fun b o e => (e0.bs b o e).1
  have hkind : ∀ y ∈ ps.zip us, scope.names.lookup y.1 = some .local ∨ (scope.names.lookup y.1 = some .cell ∧ ((cellsFrom (s.heap.objs.size + 1) scope.names []).lookup y.1).isSome = true) := fun ⟨n, v⟩ hy => by
    rcases S.par n (List.of_mem_zip hy).1 with q | q
    · exact .inl q
    · exact .inr ⟨q, PySem.W.cellsFrom_some _ _ _ (.inl q)⟩
  refine codeAny_call_function hr.depth (KX _ _ lk) rfl S.co S.gen rfl (PySem.W.codeRec_of KX hcd) (hb _ _ _ _ ?_)
  refine wpAny_newFunctionEnv_cells S.kind hkind fun env he s1 x => ?_
  subst he
  refine ⟨lim.keeps x.toInCall.keep, codeAny_func ?_⟩
  obtain ⟨t, ht, hq⟩ := hbody A outer s H vs Q E (hr.deeper _) hsp
  have I : Inv (cxOf CX P w K mg base N qual scope f cdv A outer s H E) [] (start N vs) H s1 := inv_start S hr.hd e0 hl r x
  refine wpAny_mono (ht [] s1 (start N vs) H _ I hq) (fun fl s' hs => ?_) fun e s' hs => hs
  have fin : ∀ {σ' : St} {H' : Hp} {v : V} {u : Value}, Inv (cxOf CX P w K mg base N qual scope f cdv A outer s H E) [] σ' H' s' → RelV v u → Q v H' → CE outer P w H s Q u s' :=
    fun {σ' H' v u} J rv q => ⟨v, H', J.os, J.bare, J.base, J.hok, rv, q⟩
  cases fl with
  | ret u =>
    obtain ⟨v, σ', H', J, rv, q⟩ := hs
    exact fin J rv q
  | next =>
    obtain ⟨σ', H', J, q⟩ := hs
    exact fin (v := V.non) (u := Value.none) J rfl q
  | brk =>
    obtain ⟨_, _, _, q⟩ := hs
    exact False.elim q
  | cont =>
    obtain ⟨_, _, _, q⟩ := hs
    exact False.elim q
end L2

namespace L2
open PySem PySem.Spec PyProof.Rows
section
variable {X : Cx} {x : Str} {p pos : Pos} {e : Expr} {es : List Expr} {t : TA} {id T : String} {r : List V → Hp → VK → Prop}

def tCB (r : List V → Hp → VK → Prop) (t : TA) : TE := fun σ H Q => t σ H fun vs H1 => r vs H1 Q
/-- f(e, ..), f a built-in function -/
theorem pe_callB (hc : CallR X (.builtin id) r) (hg : Gl X x) (hm : X.mg x = none) (hv : bootBuiltins x = some (.builtin id)) (ha : PA X (e :: es) t) (hn : x ≠ "__name__" := by decide) (hdb : (x == ("__debug__" : Str)) = false := by decide)
    (he : starEach (e :: es) X.env = (false, eval e X.env) :: starEach es X.env := by rfl) (hpl : (backTo pos (starEach es X.env)).any (·.1) = false := by rfl) : PE X (.Call (.Name x p) (e :: es) [] pos) (tCB r t) := by
  intro pins s σ H Q I h
  refine wpAny_Call_Name_kw (ld_blt I hg hm hv ?_ hn hdb)
  exact PyProof.Rows.callWith_builtin1 (thn (ha pos pins s σ H _ I h) fun us s1 ⟨vs, H1, I1, r1, q1⟩ => hc pins s1 σ H1 vs us Q I1 r1 q1) he hpl
/-- T(e, ..), T a built-in type -/
theorem pe_callTy (hc : CallR X (.type T) r) (hg : Gl X x) (hm : X.mg x = none) (hv : bootBuiltins x = some (.type T)) (ha : PA X (e :: es) t) (hn : x ≠ "__name__" := by decide) (hdb : (x == ("__debug__" : Str)) = false := by decide)
    (he : starEach (e :: es) X.env = (false, eval e X.env) :: starEach es X.env := by rfl) (hpl : (backTo pos (starEach es X.env)).any (·.1) = false := by rfl) : PE X (.Call (.Name x p) (e :: es) [] pos) (tCB r t) := by
  intro pins s σ H Q I h
  refine wpAny_Call_Name_kw (ld_blt I hg hm hv ?_ hn hdb)
  exact PyProof.Rows.callWith_type1 (thn (ha pos pins s σ H _ I h) fun us s1 ⟨vs, H1, I1, r1, q1⟩ => hc pins s1 σ H1 vs us Q I1 r1 q1) he hpl
end
end L2

namespace HT
open PySem PyProof.Rows

/-- t < u of tuples of ints -/
def lexLt : List Int → List Int → Bool
  | [], [] => false
  | [], _ :: _ => true
  | _ :: _, [] => false
  | x :: xs, y :: ys => if x = y then lexLt xs ys else decide (x < y)
section
open PySem.SeqAt
open PySem.AutoSeq1 (wpAny_loadPart')
open PySem.MeetsSeq PySem.MeetsSeq2 PySem.MeetsSeq3

end

section
variable {prog : Program} {w : World} {A : Around} {E : Value → Shared → Prop} {s : Shared}

/-! ### t[a:b], not the whole -/
/-- a slice's bound as a place among n (d where it is left out) -/
def sIx (n d : Nat) : Option Int → Nat
  | none => d
  | some v => if v < 0 then (v + (n : Int)).toNat else min v.toNat n
theorem sIx_none (n d : Nat) : sIx n d none = d := rfl
theorem sIx_nat (n d k : Nat) : sIx n d (some (k : Int)) = min k n := by
  show (if (k : Int) < 0 then ((k : Int) + (n : Int)).toNat else min (k : Int).toNat n) = min k n
  rw [if_neg (by omega), Int.toNat_natCast]
end
end HT

namespace L2
open PySem PySem.Spec PyProof.Rows

/-! ### the parts of a slice -/
abbrev TO := St → Hp → (Option Int → Hp → Prop) → Prop
/-- a slice's part (left out, or an int) -/
def PO (X : Cx) (e : Option Expr) (t : TO) : Prop :=
  ∀ (pins : List (Addr × Obj)) (s : Shared) (σ : St) (H : Hp) (Q : Option Int → Hp → Prop), Inv X pins σ H s → t σ H Q →
    wpAny (model X.prog X.w) X.A (evalPart e X.env) (fun u s' => ∃ o H', Inv X pins σ H' s' ∧ IsPart u o ∧ Q o H') X.xe s
def tNoPart : TO := fun _ H Q => Q none H
def tPart (t : TE) : TO := fun σ H Q => t σ H fun x H1 => ∃ i, x = .int i ∧ Q (some i) H1

theorem intsAre_of {ns : List Int} : ∀ {us : List Value}, Vals (ns.map V.int) us → IntsAre us ns := by
  induction ns with
  | nil => intro us r; rw [List.map_nil] at r; cases r; exact .nil
  | cons n ns ih =>
    intro us r
    rw [List.map_cons] at r
    cases r with
    | cons r1 r2 =>
      obtain ⟨t, e⟩ := r1
      subst e
      exact .cons n t (ih r2)

section
variable {X : Cx} {e : Expr} {te : TE} {lo hi : Option Expr} {tl th : TO} {pos p2 : Pos}

theorem po_none : PO X none tNoPart := by
  intro pins s σ H Q I h
  rw [evalPart_none]
  exact wpAny_pure ⟨none, H, I, .none, h⟩
theorem po_some (h : PE X e te) : PO X (some e) (tPart te) := by
  intro pins s σ H Q I hw
  rw [evalPart_some]
  refine thn (h pins s σ H _ I hw) fun u s1 ⟨x, H1, I1, r1, q1⟩ => ?_
  obtain ⟨i, rfl, q⟩ := q1
  obtain ⟨t, rfl⟩ := r1
  exact ⟨some i, H1, I1, .int i t, q⟩

/-- what a slice of a value is, by values: the slice object stands at sl -/
def SlR (X : Cx) (r : V → Option Int → Option Int → Hp → VK → Prop) : Prop :=
  ∀ (pins : List (Addr × Obj)) (s : Shared) (σ : St) (H : Hp) (x : V) (v vl vu : Value) (lo hi : Option Int) (sl : Addr) (Q : VK), Inv X pins σ H s → RelV x v → s.heap.IsSliceOf sl vl vu .none → IsPart vl lo → IsPart vu hi → r x lo hi H Q →
    ∃ T id, typeLookup (.type T) "__getitem__" = pure (some (.builtin id)) ∧ s.TypeIs v T ∧ wpAny (model X.prog X.w) X.A (getItem v (.ref sl)) (EP X pins σ Q) X.xe s
def tSl (r : V → Option Int → Option Int → Hp → VK → Prop) (te : TE) (tl th : TO) : TE := fun σ H Q => te σ H fun x H1 => tl σ H1 fun l H2 => th σ H2 fun u H3 => r x l u H3 Q
/-- a[lo:hi], any a -/
theorem pe_slice {r : V → Option Int → Option Int → Hp → VK → Prop} (hr : SlR X r) (he : PE X e te) (hl : PO X lo tl) (hu : PO X hi th) : PE X (.Subscript e (.Slice lo hi none p2) pos) (tSl r te tl th) := by
  intro pins s σ H Q I h
  refine Subscript_ (thn (he pins s σ H _ I h) fun v s1 ⟨x, H1, I1, r1, q1⟩ => ?_)
  refine wpAny_Slice (thn (hl pins s1 σ H1 _ I1 q1) fun vl s2 ⟨l, H2, I2, pl, q2⟩ => thn (hu pins s2 σ H2 _ I2 q2) fun vu s3 ⟨u, H3, I3, pu, q3⟩ => ?_)
  rw [evalPart_none]
  refine wpAny_pure ?_
  have I4 : Inv X pins σ H3 { s3 with heap := s3.heap.push { cls := .type "slice", data := .fields #[vl, vu, .none] } } := I3.kept (t' := s3.toks) fun b ob q => Heap.get?_push_of_some _ q
  obtain ⟨T, id, hT, ht, hg⟩ := hr pins { s3 with heap := s3.heap.push { cls := .type "slice", data := .fields #[vl, vu, .none] } } σ H3 x v vl vu l u s3.heap.objs.size Q I4 r1 (Heap.IsSliceOf.new ..) pl pu q3
  show wpAny (model X.prog X.w) X.A (subscriptTail e (.Slice lo hi none p2) v (.ref s3.heap.objs.size)) (EP X pins σ Q) X.xe { s3 with heap := s3.heap.push { cls := .type "slice", data := .fields #[vl, vu, .none] } }
  exact tail_any (ops := [.ref s3.heap.objs.size, v]) ht hT hg (by with_unfolding_all rfl)

/-- the items of xs[lo:hi] -/
def cutV (xs : List V) (lo hi : Option Int) : List V := (xs.drop (HT.sIx xs.length 0 lo)).take (HT.sIx xs.length xs.length hi - HT.sIx xs.length 0 lo)
theorem cutV_length (xs : List V) (lo hi : Option Int) : (cutV xs lo hi).length ≤ xs.length := by
  unfold cutV
  rw [List.length_take, List.length_drop]
  omega
/-- t[lo:hi], not the whole of it (the whole would be t itself) -/
def rSlT (K : PySem.W.Frag) : V → Option Int → Option Int → Hp → VK → Prop := fun x lo hi H Q => ∃ a xs, x = .ref a ∧ SqT K H a xs ∧
  ¬ (HT.sIx xs.length 0 lo = 0 ∧ HT.sIx xs.length xs.length hi = xs.length) ∧ ∀ p, H p = none → Q (.ref p) (upd H p (.tup (cutV xs lo hi)))
/-! ### t < u, t + u -/
def rLtT (K : PySem.W.Frag) : R2 := fun x y H Q => ∃ a b ns ms, x = .ref a ∧ y = .ref b ∧ SqT K H a (ns.map V.int) ∧ SqT K H b (ms.map V.int) ∧ Q (.bl (HT.lexLt ns ms)) H
/-- t + u, t not empty: u empty gives t itself -/
def rCatT (K : PySem.W.Frag) : R2 := fun x y H Q => ∃ a b xs ys, x = .ref a ∧ y = .ref b ∧ SqT K H a xs ∧ SqT K H b ys ∧ xs ≠ [] ∧ xs.length + ys.length ≤ sizeLine ∧
  (ys = [] → Q (.ref a) H) ∧ (ys ≠ [] → ∀ p, H p = none → Q (.ref p) (upd H p (.tup (xs ++ ys))))
end
end L2

namespace L2
open PySem PySem.Spec PyProof.Rows

/-! ### places -/
/-- the place that an index of any sign means -/
def ixN (n : Nat) (i : Int) : Option Nat := if 0 ≤ i then (if i < n then some i.toNat else none) else if -(n : Int) ≤ i then some (i + n).toNat else none
def atI {α : Type} (xs : List α) (i : Int) : Option α := (ixN xs.length i).bind fun j => xs[j]?
theorem ixN_seq {n : Nat} {i : Int} {j : Nat} (h : ixN n i = some j) : seqIndex? i n = some j ∧ j < n ∧ -(n : Int) ≤ i ∧ i < n := by
  unfold ixN at h
  by_cases h0 : 0 ≤ i
  · rw [if_pos h0] at h
    by_cases h1 : i < n
    · rw [if_pos h1] at h
      have e : i.toNat = j := Option.some.inj h
      exact ⟨by rw [seqIndex_of h0 h1, e], by omega, by omega, h1⟩
    · rw [if_neg h1] at h; cases h
  · rw [if_neg h0] at h
    by_cases h1 : -(n : Int) ≤ i
    · rw [if_pos h1] at h
      have e : (i + n).toNat = j := Option.some.inj h
      exact ⟨by rw [seqIndex_neg (by omega) h1, e], by omega, h1, by omega⟩
    · rw [if_neg h1] at h; cases h
theorem atI_get {α : Type} {xs : List α} {i : Int} {v : α} (h : atI xs i = some v) : ∃ j, seqIndex? i xs.length = some j ∧ xs[j]? = some v ∧ j < xs.length ∧ -(xs.length : Int) ≤ i ∧ i < xs.length := by
  unfold atI at h
  cases e : ixN xs.length i with
  | none => rw [e] at h; cases h
  | some j =>
    rw [e] at h
    obtain ⟨h1, h2, h3, h4⟩ := ixN_seq e
    exact ⟨j, h1, h, h2, h3, h4⟩
theorem atI_nat {α : Type} {xs : List α} {j : Nat} {v : α} (h : xs[j]? = some v) : atI xs (j : Int) = some v := by
  have hj : j < xs.length := (List.getElem?_eq_some_iff.mp h).1
  have e : ixN xs.length (j : Int) = some j := by
    unfold ixN
    rw [if_pos (by omega), if_pos (by omega)]; simp
  unfold atI; rw [e]; exact h
/-! ### what may be subscripted -/
/-- what stands as an index of a plain subscript -/
def PlainIx (b : Expr) : Prop := ∀ o i, subscripted b false o i = operate [o, i] (getItem o i)
/-- a subscript by values -/
def IxR (X : Cx) (r : R2) : Prop :=
  ∀ (value slice : Expr) (pins : List (Addr × Obj)) (s : Shared) (σ : St) (H : Hp) (x y : V) (v u : Value) (Q : VK), Inv X pins σ H s → RelV x v → RelV y u → r x y H Q →
    subscripted slice false v u = operate [v, u] (getItem v u) → wpAny (model X.prog X.w) X.A (subscriptTail value slice v u) (EP X pins σ Q) X.xe s
/-- a call of a builtin's method by values: the receiver, the arguments -/
def MtR (X : Cx) (id : String) (r : V → List V → Hp → VK → Prop) : Prop :=
  ∀ (pins : List (Addr × Obj)) (s : Shared) (σ : St) (H : Hp) (x : V) (xs : List V) (v : Value) (us : List Value) (Q : VK), Inv X pins σ H s → RelV x v → Vals xs us → r x xs H Q →
    wpAny (model X.prog X.w) X.A (call (.builtin id) (v :: us)) (EP X pins σ Q) X.xe s
section
variable {X : Cx} {a b : Expr} {ta tb : TE} {pos : Pos}
/-- a[b] -/
theorem pe_ix {r : R2} (hr : IxR X r) (ha : PE X a ta) (hb : PE X b tb) (hs : PlainIx b) : PE X (.Subscript a b pos) (tOp r ta tb) := by
  intro pins s σ H Q I h
  exact Subscript_ (binT ha hb I h fun v u s2 x y H2 I2 rx ry q => hr a b pins s2 σ H2 x y v u Q I2 rx ry q (hs _ _))

def rIxL (K : PySem.W.Frag) : R2 := fun x y H Q => ∃ p xs i v, x = .ref p ∧ y = .int i ∧ SqL K H p xs ∧ atI xs i = some v ∧ Q v H
def rIxT (K : PySem.W.Frag) : R2 := fun x y H Q => ∃ p xs i v, x = .ref p ∧ y = .int i ∧ SqT K H p xs ∧ atI xs i = some v ∧ Q v H
def rIxS : R2 := fun x y H Q => ∃ z i c, x = .str z ∧ y = .int i ∧ z.length ≤ sizeLine ∧ atI z.cps.toList i = some c ∧ Q (.str ⟨#[c]⟩) H
theorem ix_list : IxR X (rIxL X.K) := by
  intro value slice pins s σ H x y v u Q I rx ry h hs
  obtain ⟨p, xs, i, z, rfl, rfl, hq, he, q⟩ := h
  cases rx
  obtain ⟨t, rfl⟩ := ry
  obtain ⟨its, r, pl, hz⟩ := I.list hq
  obtain ⟨j, h1, h2, h3, h4, h5⟩ := atI_get he
  obtain ⟨w, ew, rw'⟩ := r.get h2
  have hl := r.length
  have hn := line63
  have fin : EP X pins σ Q w s := ⟨z, H, I, rw', q⟩
  by_cases h0 : 0 ≤ i
  · have hj : i.toNat = j := by
      rw [seqIndex_of h0 h5] at h1
      exact Option.some.inj h1
    exact item_listR pl.isList h0 (by omega) (by rw [hj]; simpa using ew) fin hs
  · have hj : (i + (its.toArray.size : Int)).toNat = j := by
      rw [seqIndex_neg (by omega) h4] at h1
      rw [List.size_toArray, ← hl]
      exact Option.some.inj h1
    exact subscriptTail_builtinR (x := w) pl.isList.typeIs slot_list_getitem.lookup
      (wpAny_getItem_list_neg (Q := fun r s' => r = w ∧ EP X pins σ Q r s') pl.isList (by omega) (by rw [List.size_toArray] <;> omega) (by omega) (by rw [hj]; simpa using ew) ⟨rfl, fin⟩) hs
/-- list, tuple or str -/
def rIx (K : PySem.W.Frag) : R2 := fun x y H Q => rIxL K x y H Q ∨ rIxT K x y H Q ∨ rIxS x y H Q
/-! ### xs[i] = v, any sign -/
def rSetL : V → V → V → Hp → (Hp → Prop) → Prop := fun o i v H Q => ∃ p xs k j, o = .ref p ∧ i = .int k ∧ H p = some (.lst xs) ∧ ixN xs.length k = some j ∧ Q (upd H p (.lst (xs.set j v)))
/-! ### slices -/
theorem slice_bounds (lo hi : Option Int) (n : Nat) : (sliceBounds lo hi none n).1 = ((HT.sIx n 0 lo : Nat) : Int) ∧ (sliceBounds lo hi none n).2.1 = ((HT.sIx n n hi : Nat) : Int) ∧ (sliceBounds lo hi none n).2.2 = 1 := by
  refine ⟨?_, ?_, rfl⟩
  · cases lo with
    | none => simp [sliceBounds, HT.sIx]
    | some i =>
      simp only [sliceBounds, HT.sIx, Option.getD_none, show (1 : Int) > 0 by decide, if_true]
      by_cases h : i < 0
      · simp only [h, if_true] <;> omega
      · simp only [h, if_false] <;> omega
  · cases hi with
    | none => simp [sliceBounds, HT.sIx]
    | some i =>
      simp only [sliceBounds, HT.sIx, Option.getD_none, show (1 : Int) > 0 by decide, if_true]
      by_cases h : i < 0
      · simp only [h, if_true] <;> omega
      · simp only [h, if_false] <;> omega
theorem slicePick_cut (its : List Value) (lo hi : Option Int) : slicePick its.toArray lo hi none = ((its.drop (HT.sIx its.length 0 lo)).take (HT.sIx its.length its.length hi - HT.sIx its.length 0 lo)).toArray := by
  obtain ⟨h1, h2, h3⟩ := slice_bounds lo hi its.toArray.size
  unfold slicePick
  rw [h1, h2, h3]
  simp only [sliceRange_one, pick_run, List.size_toArray] <;> rfl
/-- xs[lo:hi] of a list: a new list -/
def rSlL (K : PySem.W.Frag) : V → Option Int → Option Int → Hp → VK → Prop := fun x lo hi H Q => ∃ a xs, x = .ref a ∧ SqL K H a xs ∧ ∀ p, H p = none → Q (.ref p) (upd H p (.lst (cutV xs lo hi)))
theorem sl_list : SlR X (rSlL X.K) := by
  intro pins s σ H x v vl vu lo hi sl Q I rx hs pl pu h
  obtain ⟨a, xs, rfl, hx, q⟩ := h
  cases rx
  obtain ⟨its, r, ht, hz⟩ := I.list hx
  have hlen := r.length
  refine ⟨"list", _, slot_list_getitem.lookup, ht.isList.typeIs, ?_⟩
  refine wpAny_getItem_list_slice ht.isList hs pl pu .none (by simp) ?_ (by rw [List.size_toArray] <;> omega)
  rw [slicePick_cut, ← hlen]
  refine ⟨.ref s.heap.objs.size, _, I.laid (t' := s.toks) (o := .lst (cutV xs lo hi)) (fun b ob q => Heap.get?_push_of_some _ q) (Nat.le_refl _) ?_, rfl, q _ (I.hok.fresh (Nat.le_refl _))⟩
  exact ⟨Nat.le_trans (cutV_length xs lo hi) hz, _, 0, (r.drop (HT.sIx xs.length 0 lo)).take (HT.sIx xs.length xs.length hi - HT.sIx xs.length 0 lo), Heap.get?_push_size _ rfl⟩

/-! ### in, not in: flat items -/
def flatV : V → Bool
  | .non => true
  | .bl _ => true
  | .int _ => true
  | .str _ => true
  | _ => false
/-- == of flat values -/
def eqV : V → V → Bool
  | .non, .non => true
  | .bl a, .bl b => a == b
  | .bl a, .int b => (if a then 1 else 0) == b
  | .int a, .bl b => a == (if b then 1 else 0)
  | .int a, .int b => a == b
  | .str a, .str b => a == b
  | _, _ => false
/-- the items' answers, read off the values (a value's own answer does not lean on its token) -/
def eqU (x : V) (u : Value) : Bool := match u with
  | .none => eqV .non x
  | .bool b => eqV (.bl b) x
  | .int i _ => eqV (.int i) x
  | .str z _ => eqV (.str z) x
  | _ => false
def inV (x : V) (xs : List V) : Bool := xs.any fun y => eqV y x
/-- x in a list or tuple of flat items -/
def rIn (K : PySem.W.Frag) (neg : Bool) : R2 := fun x y H Q => ∃ p xs, y = .ref p ∧ (SqL K H p xs ∨ SqT K H p xs) ∧ flatV x = true ∧ xs.all flatV = true ∧ Q (.bl (if neg then !inV x xs else inV x xs)) H
/-! ### len, list(x), tuple(x) of any list or tuple that is read -/
theorem call_len_seq : CallR X (.builtin "len") (fun xs H Q => ∃ p ys, xs = [.ref p] ∧ (SqL X.K H p ys ∨ SqT X.K H p ys) ∧ Q (.int ys.length) H) := by
  intro pins s σ H xs us Q I r h
  obtain ⟨p, ys, rfl, hq, q⟩ := h
  obtain ⟨u, rfl, rx⟩ := vals1 r
  cases rx
  have hn := line63
  rcases hq with hq | hq
  · obtain ⟨its, r', pl, hz⟩ := I.list hq
    have hlen := r'.length
    exact Calls.call_len_list pl.isList (by simp only [List.size_toArray] <;> omega) ⟨.int ys.length, H, I.tok _, ⟨s.toks + 1, by rw [List.size_toArray, hlen]⟩, q⟩
  · obtain ⟨its, r', pl, hz⟩ := I.tuple hq
    have hlen := r'.length
    exact len_tuple pl (by simp only [List.size_toArray] <;> omega) ⟨.int ys.length, H, I.tok _, ⟨s.toks + 1, by rw [List.size_toArray, hlen]⟩, q⟩
theorem call_tuple_of : CallR X (.type "tuple") (fun xs H Q => ∃ p ys, xs = [.ref p] ∧ ((SqL X.K H p ys ∧ ∀ l, H l = none → Q (.ref l) (upd H l (.tup ys))) ∨ (SqT X.K H p ys ∧ Q (.ref p) H))) := by
  intro pins s σ H xs us Q I r h
  obtain ⟨p, ys, rfl, h⟩ := h
  obtain ⟨u, rfl, rx⟩ := vals1 r
  cases rx
  rcases h with ⟨hq, q⟩ | ⟨hq, q⟩
  · obtain ⟨its, r', pl, hz⟩ := I.list hq
    have hlen := r'.length
    refine call_tuple_list pl.isList (fun h' kp => ?_) (by simp only [List.size_toArray] <;> omega)
    have I1 : Inv X pins σ H { s with heap := h' } := I.kept (t' := s.toks) kp
    have I2 : Inv X pins σ (upd H h'.objs.size (.tup ys)) { s with heap := h'.push { cls := .type "tuple", data := .seq its.toArray } } :=
      I1.laid (t' := s.toks) (fun b o e => Heap.get?_push_of_some _ e) (Nat.le_refl _) (show ObjOk X.prog X.w _ _ _ (.tup ys) from ⟨hz, its, r', IsTup.new _ _⟩)
    exact ⟨.ref h'.objs.size, _, I2, rfl, q _ (I1.hok.fresh (Nat.le_refl _))⟩
  · obtain ⟨its, r', pl, hz⟩ := I.tuple hq
    exact call_tuple_same pl ⟨.ref p, H, I, rfl, q⟩

/-! ### the call of a builtin's method: o.m(..) -/
/-- the value is of that builtin type -/
def tyV (K : PySem.W.Frag) (T : String) (x : V) (H : Hp) : Prop := match x with
  | .str _ => T = "str"
  | .int _ => T = "int"
  | .ref p => (T = "list" ∧ ∃ xs, SqL K H p xs) ∨ (T = "tuple" ∧ ∃ o, K.lookup p = some o ∧ o.cls = .type "tuple" ∧ o.dict = none) ∨
      (T = "dict" ∧ ((∃ kvs, H p = some (.dK kvs)) ∨ ∃ kvs, H p = some (.dT kvs))) ∨ (T = "set" ∧ ∃ S n, H p = some (.set S n))
  | _ => False
theorem tyV_is {pins : List (Addr × Obj)} {σ : St} {H : Hp} {s : Shared} {T : String} {x : V} {v : Value} (I : Inv X pins σ H s) (r : RelV x v) (ty : tyV X.K T x H) :
    s.TypeIs v T ∧ ∀ a, v = .ref a → ∃ ob, s.heap.get? a = some ob ∧ ob.dict = none := by
  cases x with
  | str z =>
    obtain ⟨t, rfl⟩ := r
    cases (show T = "str" from ty)
    exact ⟨typeIs_str s z t, fun _ e => nomatch e⟩
  | int i =>
    obtain ⟨t, rfl⟩ := r
    cases (show T = "int" from ty)
    exact ⟨typeIs_int s i t, fun _ e => nomatch e⟩
  | ref p =>
    cases r
    rcases ty with ⟨rfl, xs, hq⟩ | ⟨rfl, o, hk, hc, hd⟩ | ⟨rfl, hk⟩ | ⟨rfl, S, n, hk⟩
    · obtain ⟨its, _, pl, _⟩ := I.list hq
      refine ⟨pl.isList.typeIs, fun a e => ?_⟩
      cases e
      obtain ⟨o, n, e, c, hd, _⟩ := pl
      exact ⟨o, e, hd⟩
    · refine ⟨⟨o, I.kIn p o hk, hc⟩, fun a e => ?_⟩
      cases e
      exact ⟨o, I.kIn _ o hk, hd⟩
    · have z : ∃ o, s.heap.get? p = some o ∧ o.ExactDict := by
        rcases hk with ⟨kvs, hk⟩ | ⟨kvs, hk⟩
        · obtain ⟨_, _, _, _, o, _, _, e, ex, _⟩ := I.hok p _ hk
          exact ⟨o, e, ex⟩
        · obtain ⟨_, _, _, _, o, _, _, e, ex, _⟩ := I.hok p _ hk
          exact ⟨o, e, ex⟩
      obtain ⟨o, e, ex⟩ := z
      refine ⟨⟨o, e, ex.1⟩, fun a e2 => ?_⟩
      cases e2
      exact ⟨o, e, ex.2.1⟩
    · obtain ⟨o, _, _, _, e, ex, _⟩ := I.hok p _ hk
      refine ⟨⟨o, e, ex.1⟩, fun a e2 => ?_⟩
      cases e2
      exact ⟨o, e, ex.2.1⟩
  | _ => exact False.elim ty
def tBM0 (K : PySem.W.Frag) (T : String) (r : V → List V → Hp → VK → Prop) (to : TE) : TE := fun σ H Q => to σ H fun x H1 => tyV K T x H1 ∧ r x [] H1 Q
def tBM (K : PySem.W.Frag) (T : String) (r : V → List V → Hp → VK → Prop) (to : TE) (t : TA) : TE := fun σ H Q => to σ H fun x H1 => tyV K T x H1 ∧ t σ H1 fun xs H2 => r x xs H2 Q
variable {o e : Expr} {es : List Expr} {to : TE} {t : TA} {name : Str} {apos cpos : Pos} {T id : String} {r : V → List V → Hp → VK → Prop}
theorem pe_bm (pa : PlainAttrs T) (slot : Slot T name id) (hty : typeOf (.builtin id) = pure (.type "method_descriptor")) (hm : MtR X id r) (ho : PE X o to) (ha : PA X (e :: es) t)
    (hbase : attributeBase o name X.env (eval o X.env) = eval o X.env := by rfl)
    (hfew : ((backTo cpos (starEach (e :: es) X.env)).all (fun x => !x.1) && (backToKw cpos (keywordEach [] X.env)).all (fun x => x.1.isSome)
      && decide ((e :: es).length + ([] : List Keyword).length + (if ([] : List Keyword).isEmpty then 0 else 1) < 30)) = true := by rfl)
    (hline : (apos.endLine == cpos.line) = true := by rfl) (hs : starEach (e :: es) X.env = (false, eval e X.env) :: starEach es X.env := by rfl) (hplain : (backTo cpos (starEach es X.env)).any (·.1) = false := by rfl) :
    PE X (.Call (.Attribute o name apos) (e :: es) [] cpos) (tBM X.K T r to t) := by
  intro pins s σ H Q I h
  refine wpAny_Call_method_late hbase hfew hline rfl (thn (ho pins s σ H _ I h) fun v s1 ⟨x, H1, I1, r1, ty, q1⟩ => ?_)
  obtain ⟨h1, h2⟩ := tyV_is I1 r1 ty
  refine ⟨T, id, pa, slot, hty, h1, h2, ?_⟩
  have hA := ha cpos pins s1 σ H1 _ I1 q1
  rw [hs] at hA ⊢
  refine Calls.callWith_builtin (by show (false || (backTo cpos (starEach es X.env)).any (·.1)) = false; rw [hplain] <;> rfl) (Calls.evalArgs_plain ?_)
  exact thn hA fun us s2 ⟨vs, H2, I2, r2, q2⟩ => hm pins s2 σ H2 x vs v us Q I2 r1 r2 q2
/- xs.append(e), list.index on a module's tuple .. are MtR facts of 06m -/
end
end L2

namespace L2
open PySem PySem.Spec PyProof.Rows

def MtM (X : Cx) (id : String) (r : V → List V → Hp → VK → Prop) : Prop :=
  ∀ (pins : List (Addr × Obj)) (s : Shared) (σ : St) (H : Hp) (x : V) (xs : List V) (v : Value) (us : List Value) (Q : VK), Inv X pins σ H s → RelV x v → Vals xs us → r x xs H Q →
    wpAny (model X.prog X.w) X.A (call (.builtin id) (v :: us)) (EP X pins σ Q) X.xe s

/-! ### lists of values -/
theorem Vals.one : ∀ {x : V} {us : List Value}, Vals [x] us → ∃ u, us = [u] ∧ RelV x u
  | _, _, .cons r .nil => ⟨_, rfl, r⟩
section
variable {X : Cx} {pins : List (Addr × Obj)} {σ : St} {H : Hp} {s : Shared} {l b : Addr} {xs ys zs : List V}

/-! ### the two steps: a tracked list is rewritten, a new list is laid -/
theorem Inv.lset {its its' : List Value} {n : Nat} {f : Array Value → Array Value} {t' : Nat} (I : Inv X pins σ H s) (hH : H l = some (.lst xs))
    (e : s.heap.get? l = some { cls := .type "list", data := .seq its.toArray n }) (hf : f its.toArray = its'.toArray) (hv : Vals ys its') (hz : ys.length ≤ sizeLine) :
    Inv X pins σ (upd H l (.lst ys)) { s with heap := s.heap.update l (Obj.mapSeq f), toks := t' } := by
  have q := PySem.IsL.update e f
  rw [hf] at q
  refine I.write (x := l) (e := l) (by rw [hH]; exact trivial) (.inl rfl) (fun b' u hb hu => (Heap.get?_update_other s.heap (Obj.mapSeq f) (Ne.symm hb)).trans hu) ⟨_, q⟩ ?_
  exact ⟨hz, its', _, hv, q⟩
theorem Inv.lnew {its : List Value} {t' : Nat} (I : Inv X pins σ H s) (hv : Vals ys its) (hz : ys.length ≤ sizeLine) :
    Inv X pins σ (upd H s.heap.objs.size (.lst ys)) { s with heap := s.heap.push { cls := .type "list", data := .seq its.toArray }, toks := t' } :=
  I.laid (fun _ _ q => Heap.get?_push_of_some _ q) (Nat.le_refl _) ⟨hz, its, 0, hv, Heap.get?_push_size _ rfl⟩
theorem Inv.fresh (I : Inv X pins σ H s) : H s.heap.objs.size = none := I.hok.fresh (Nat.le_refl _)
theorem Inv.lstM (I : Inv X pins σ H s) (hH : H l = some (.lst xs)) : xs.length ≤ sizeLine ∧ ∃ (its : List Value) (n : Nat), Vals xs its ∧ xs.length = its.length ∧ s.heap.get? l = some { cls := .type "list", data := .seq its.toArray n } := by
  obtain ⟨z, its, n, r, e⟩ := I.hok l _ hH
  exact ⟨z, its, n, r, r.length, e⟩

theorem notLongL {n : Nat} (h : n ≤ sizeLine) : Builtin.List.listTooLong n = false := by
  unfold Builtin.List.listTooLong
  exact decide_eq_false (by omega)
end

section
variable {X : Cx}

/-! ### methods -/
def rAppend : V → List V → Hp → VK → Prop := fun x vs H Q => ∃ l xs y, x = .ref l ∧ vs = [y] ∧ H l = some (.lst xs) ∧ xs.length < sizeLine ∧ Q .non (upd H l (.lst (xs ++ [y])))
theorem mt_append : MtM X "list.append" rAppend := by
  intro pins s σ H x vs v us Q I rx rv h
  obtain ⟨l, xs, y, rfl, rfl, hH, hz, q⟩ := h
  cases rx
  obtain ⟨u, rfl, ru⟩ := rv.one
  obtain ⟨z, its, n, r, hl, e⟩ := I.lstM hH
  refine call_meets F.slot_list_append ⟨_, e, rfl⟩ F.entry_list_append (F.args_list_append_2 _ _) (PySem.list_append l its.toArray n u (by rw [List.size_toArray]; omega)) ⟨e, ?_⟩
  refine ⟨.non, _, I.lset (its' := its ++ [u]) hH e (by simp) (r.append (.cons ru .nil)) ?_, rfl, q⟩
  rw [List.length_append, List.length_singleton]
  omega

def rExtend : V → List V → Hp → VK → Prop := fun x vs H Q => ∃ l b xs zs, x = .ref l ∧ vs = [.ref b] ∧ H l = some (.lst xs) ∧ H b = some (.lst zs) ∧ xs.length + zs.length ≤ sizeLine ∧ Q .non (upd H l (.lst (xs ++ zs)))
theorem mt_extend : MtM X "list.extend" rExtend := by
  intro pins s σ H x vs v us Q I rx rv h
  obtain ⟨l, b, xs, zs, rfl, rfl, hH, hB, hz, q⟩ := h
  cases rx
  obtain ⟨u, rfl, ru⟩ := rv.one
  cases ru
  obtain ⟨z, its, n, r, hl, e⟩ := I.lstM hH
  obtain ⟨z2, its2, n2, r2, hl2, e2⟩ := I.lstM hB
  have hsz : its.toArray.size + its2.toArray.size ≤ sizeLine := by rw [List.size_toArray, List.size_toArray]; omega
  have hlong : ¬ (!its.toArray.isEmpty && Builtin.List.listTooLong (its.toArray.size + its2.toArray.size)) = true := by
    rw [notLongL hsz, Bool.and_false]
    exact Bool.false_ne_true
  refine call_meets F.slot_list_extend ⟨_, e, rfl⟩ F.entry_list_extend (F.args_list_extend_2 _ _)
    (AutoSeq1.list_extend_list_list_0 l its.toArray n b its2.toArray n2 hlong (by rw [List.size_toArray]; omega) (by omega)) ⟨e, e2, ?_⟩
  refine ⟨.non, _, I.lset (its' := its ++ its2) hH e (by simp) (r.append r2) ?_, rfl, q⟩
  rw [List.length_append]
  omega

def rPop : V → List V → Hp → VK → Prop := fun x vs H Q => ∃ l xs y, x = .ref l ∧ vs = [] ∧ H l = some (.lst xs) ∧ xs[xs.length - 1]? = some y ∧ Q y (upd H l (.lst xs.dropLast))
def rPopAt : V → List V → Hp → VK → Prop := fun x vs H Q => ∃ l xs i k y, x = .ref l ∧ vs = [.int i] ∧ H l = some (.lst xs) ∧ -(2 ^ 63) ≤ i ∧ i < 2 ^ 63 ∧ seqIndex? i xs.length = some k ∧ xs[k]? = some y ∧ Q y (upd H l (.lst (xs.eraseIdx k)))
def rReverse : V → List V → Hp → VK → Prop := fun x vs H Q => ∃ l xs, x = .ref l ∧ vs = [] ∧ H l = some (.lst xs) ∧ Q .non (upd H l (.lst xs.reverse))
def rClear : V → List V → Hp → VK → Prop := fun x vs H Q => ∃ l xs, x = .ref l ∧ vs = [] ∧ H l = some (.lst xs) ∧ Q .non (upd H l (.lst []))
/-! ### list + list, list += list, list * int -/
def rCat : R2 := fun x y H Q => ∃ l b xs zs, x = .ref l ∧ y = .ref b ∧ H l = some (.lst xs) ∧ H b = some (.lst zs) ∧ xs.length + zs.length ≤ sizeLine ∧ ∀ p, H p = none → Q (.ref p) (upd H p (.lst (xs ++ zs)))
theorem op_cat : OpR X (binaryOp .Add) rCat := by
  intro pins s σ H x y v u Q I rx ry h
  obtain ⟨l, b, xs, zs, rfl, rfl, hH, hB, hz, q⟩ := h
  cases rx
  cases ry
  obtain ⟨z, its, n, r, hl, e⟩ := I.lstM hH
  obtain ⟨z2, its2, n2, r2, hl2, e2⟩ := I.lstM hB
  refine PySem.P.add_list e e2 ?_ (by rw [List.size_toArray, List.size_toArray]; omega)
  have ea : its.toArray ++ its2.toArray = (its ++ its2).toArray := by simp
  rw [ea]
  exact ⟨.ref _, _, I.lnew (t' := s.toks) (r.append r2) (by rw [List.length_append]; omega), rfl, q _ I.fresh⟩
/-- a list times an int (a negative one is nothing) -/
def rRep : R2 := fun x y H Q => ∃ l k xs, x = .ref l ∧ y = .int k ∧ H l = some (.lst xs) ∧ -(2 ^ 63) ≤ k ∧ k < 2 ^ 63 ∧ xs.length * k.toNat ≤ sizeLine ∧
  ∀ p, H p = none → Q (.ref p) (upd H p (.lst (List.replicate k.toNat xs).flatten))
/-! ### del xs[i] -/
end

/-! ### xs[a:b] = ys -/
section
variable {prog : Program} {w : World} {A : Around} {E : Value → Shared → Prop} {s : Shared}
end

section
variable {X : Cx}
end
end L2

namespace L2
open PySem PySem.Spec PyProof.Rows

theorem Vals.bls : ∀ {bs : List Bool} {us : List Value}, Vals (bs.map V.bl) us → us = bs.map Value.bool
  | [], us, h => by
    rw [List.map_nil] at h
    cases h
    rfl
  | b :: bs, us, h => by
    rw [List.map_cons] at h
    cases h with
    | cons r t =>
      cases r
      rw [Vals.bls t, List.map_cons]
theorem Vals.ref1 {a : Addr} {us : List Value} (r : Vals [V.ref a] us) : us = [Value.ref a] := by
  cases r with
  | cons r t =>
    cases t
    cases r
    rfl
/-! ### the library's walks over a list of ints, kept objects alone -/
section
variable {prog : Program} {w : World} {A : Around} {E : Value → Shared → Prop} {s : Shared} {l : Addr} {its : List Value} {ns : List Int} {Q : Value → Shared → Prop}
end

/-! ### the calls, by values (CallR of 03t; MtR of 06l) -/
section
variable {X : Cx}
/-- sum(xs) of a list of ints -/
def rSum (K : PySem.W.Frag) : List V → Hp → VK → Prop := fun vs H Q => ∃ (a : Addr) (ns : List Int), vs = [V.ref a] ∧ SqL K H a (ns.map V.int) ∧ Q (.int ns.sum) H
/-- max(xs), min(xs) of a list of ints -/
def rMax (K : PySem.W.Frag) : List V → Hp → VK → Prop := fun vs H Q => ∃ (a : Addr) (ns : List Int), vs = [V.ref a] ∧ SqL K H a (ns.map V.int) ∧ 0 < ns.length ∧ ∀ m, m ∈ ns → (∀ y, y ∈ ns → y ≤ m) → Q (.int m) H
def rMin (K : PySem.W.Frag) : List V → Hp → VK → Prop := fun vs H Q => ∃ (a : Addr) (ns : List Int), vs = [V.ref a] ∧ SqL K H a (ns.map V.int) ∧ 0 < ns.length ∧ ∀ m, m ∈ ns → (∀ y, y ∈ ns → m ≤ y) → Q (.int m) H
/-! sorted, sort (fewer than 64 items: the library's own bound) -/
def rSorted (K : PySem.W.Frag) : List V → Hp → VK → Prop := fun vs H Q => ∃ (a : Addr) (ns : List Int), vs = [V.ref a] ∧ SqL K H a (ns.map V.int) ∧ ns.length < 64 ∧
  ∀ (ns' : List Int) (p : Addr), ns'.Perm ns → ns'.Pairwise (· ≤ ·) → H p = none → Q (.ref p) (upd H p (.lst (ns'.map V.int)))
def rSortedS (K : PySem.W.Frag) : List V → Hp → VK → Prop := fun vs H Q => ∃ (a : Addr) (xs : List Str), vs = [V.ref a] ∧ SqL K H a (xs.map V.str) ∧ xs.length < 64 ∧
  ∀ (ys : List Str) (p : Addr), ys.Perm xs → sortedS ys = true → H p = none → Q (.ref p) (upd H p (.lst (ys.map V.str)))
/-- xs.sort(), ints -/
def rSort : V → List V → Hp → VK → Prop := fun x xs H Q => ∃ (a : Addr) (ns : List Int), x = V.ref a ∧ xs = [] ∧ H a = some (.lst (ns.map V.int)) ∧ ns.length < 64 ∧
  ∀ ns' : List Int, ns'.Perm ns → ns'.Pairwise (· ≤ ·) → Q .non (upd H a (.lst (ns'.map V.int)))
end

/-! ### list.index, flat items -/
section
variable {X : Cx}
def rIndex (K : PySem.W.Frag) : V → List V → Hp → VK → Prop := fun x xs H Q => ∃ (a : Addr) (ys : List V) (y : V) (j : Nat) (z : V), x = V.ref a ∧ xs = [y] ∧ SqL K H a ys ∧ flatV y = true ∧ ys.all flatV = true ∧ ys[j]? = some z ∧ eqV z y = true ∧
  (∀ (m : Nat) (z' : V), m < j → ys[m]? = some z' → eqV z' y = false) ∧ Q (.int (j : Nat)) H
end

/-! ### type(x) of an own instance; is, is not of a module's class -/
section
variable {X : Cx}
end

/-! ### any(xs), all(xs) of a list of bools -/
theorem iter_any {prog : Program} {w : World} {A : Around} {E : Value → Shared → Prop} {s : Shared} {l : Addr} {items : Array Value} {Q : Value → Shared → Prop} (hl : s.heap.IsList l items)
    (h : ∀ s₂ : Shared, s₂ = { s with heap := s.heap.push { cls := .type "list_iterator", data := .fields #[.ref l, .int 0 0] } } →
      (s₂.heap.IsListIter s.heap.objs.size l 0 ∧ s₂.heap.IsList l items) → l ≠ s.heap.objs.size → Q (.ref s.heap.objs.size) s₂) : wpAny (model prog w) A (pyIter (.ref l)) Q E s := by
  have hlt : l < s.heap.objs.size := by obtain ⟨_, e, _⟩ := hl; exact Heap.lt_size e
  exact wpAny_pyIter_list hl (h _ rfl ⟨⟨_, Heap.get?_push_size _ rfl, rfl, rfl⟩, hl.push _⟩ (Nat.ne_of_lt hlt))
theorem truth_bools {prog : Program} {w : World} {A : Around} {bs : List Bool} {its : List Value} (e : its = bs.map Value.bool) :
    TruthOf prog w A (fun i v => its.toArray[i]? = some v) (fun i => bs.getD i false) := fun i v s Q E hv hq => by
  have hv' : its[i]? = some v := by simpa using hv
  rw [e, List.getElem?_map] at hv'
  obtain ⟨b, hb, rfl⟩ := Option.map_eq_some_iff.mp hv'
  have hg : bs.getD i false = b := by rw [List.getD_eq_getElem?_getD, hb] <;> rfl
  have hq' : Q (bs.getD i false) s := hq
  rw [hg] at hq'
  exact wpAny_truthy_bool hq'
theorem any_range : ∀ bs : List Bool, (List.range bs.length).any (fun i => bs.getD i false) = bs.any id
  | [] => rfl
  | b :: bs => by
    rw [List.length_cons, List.range_succ_eq_map, List.any_cons, List.any_map, List.any_cons, ← any_range bs]
    all_goals rfl
theorem all_range : ∀ bs : List Bool, (List.range bs.length).all (fun i => bs.getD i false) = bs.all id
  | [] => rfl
  | b :: bs => by
    rw [List.length_cons, List.range_succ_eq_map, List.all_cons, List.all_map, List.all_cons, ← all_range bs]
    all_goals rfl
section
variable {X : Cx}
def rAny (K : PySem.W.Frag) : List V → Hp → VK → Prop := fun vs H Q => ∃ (a : Addr) (bs : List Bool), vs = [V.ref a] ∧ SqL K H a (bs.map V.bl) ∧ Q (.bl (bs.any id)) H
def rAll (K : PySem.W.Frag) : List V → Hp → VK → Prop := fun vs H Q => ∃ (a : Addr) (bs : List Bool), vs = [V.ref a] ∧ SqL K H a (bs.map V.bl) ∧ Q (.bl (bs.all id)) H
theorem cr_all (hc : X.calm = true) : CallR X (.builtin "all") (rAll X.K) := by
  intro pins s σ H vs us Q I r h
  obtain ⟨a, bs, rfl, hs, q⟩ := h
  obtain ⟨its, rv, hl, _⟩ := I.list hs
  rw [Vals.ref1 r]
  have hb := rv.bls
  refine call_all_walk (iter_any hl.isList fun s₂ e2 st hne => ?_)
  subst e2
  refine ⟨_, _, _, _, _, _, _, rfl, Walks.list (A := X.A.in1) (I.ok.hd hc) _ a hne its.toArray, st, truth_bools hb, fun h' tk hk => ?_⟩
  refine ⟨.bl _, H, I.kept fun b o eo => hk b o (fun hmem => ?_) (Heap.get?_push_of_some _ eo), ?_, q⟩
  · rcases List.mem_cons.mp hmem with e1 | hmem
    · exact absurd (e1 ▸ Heap.lt_size eo) (Nat.lt_irrefl _)
    · cases hmem
  · show Value.bool _ = Value.bool _
    rw [← all_range, hb, List.size_toArray, List.length_map]
end

/-! ### == and != of data at any depth: none, bools, ints, texts, lists, tuples -/
mutual
inductive Dp (K : PySem.W.Frag) (H : Hp) : V → PyData → Prop
  | non : Dp K H .non .none
  | bl (b : Bool) : Dp K H (.bl b) (.bool b)
  | int (i : Int) : Dp K H (.int i) (.int i)
  | str (x : Str) : Dp K H (.str x) (.str x)
  | lst {a : Addr} {xs : List V} {ds : List PyData} : SqL K H a xs → DpAll K H xs ds → Dp K H (.ref a) (.list ds)
  | tup {a : Addr} {xs : List V} {ds : List PyData} : SqT K H a xs → DpAll K H xs ds → Dp K H (.ref a) (.tuple ds)
inductive DpAll (K : PySem.W.Frag) (H : Hp) : List V → List PyData → Prop
  | nil : DpAll K H [] []
  | cons {v : V} {vs : List V} {d : PyData} {ds : List PyData} : Dp K H v d → DpAll K H vs ds → DpAll K H (v :: vs) (d :: ds)
end
section
variable {X : Cx} {pins : List (Addr × Obj)} {σ : St} {H : Hp} {s : Shared}
mutual
theorem Dp.reads (I : Inv X pins σ H s) : ∀ (d : PyData) (v : V) (u : Value), Dp X.K H v d → RelV v u → ∃ as, Reads s.heap u d as
  | .none, _, _, h, r => by
    cases h
    cases r
    exact ⟨_, Reads.none⟩
  | .bool b, _, _, h, r => by
    cases h
    cases r
    exact ⟨_, Reads.bool b⟩
  | .int i, _, _, h, r => by
    cases h
    obtain ⟨t, rfl⟩ := r
    exact ⟨_, Reads.int i t⟩
  | .str x, _, _, h, r => by
    cases h
    obtain ⟨t, rfl⟩ := r
    exact ⟨_, Reads.str x t⟩
  | .list ds, _, _, h, r => by
    cases h with
    | lst hs ha =>
      cases r
      obtain ⟨its, rv, ⟨o, n, ho, hc, _, hd⟩, _⟩ := I.list hs
      obtain ⟨as, hr⟩ := Dp.readsAll I ds _ its ha rv
      exact ⟨_, Reads.list ho hc hd hr⟩
  | .tuple ds, _, _, h, r => by
    cases h with
    | tup hs ha =>
      cases r
      obtain ⟨its, rv, ⟨o, ho, hc, n, hd⟩, _⟩ := I.tuple hs
      obtain ⟨as, hr⟩ := Dp.readsAll I ds _ its ha rv
      exact ⟨_, Reads.tuple ho hc hd hr⟩
  | .dict _, _, _, h, _ => by cases h
theorem Dp.readsAll (I : Inv X pins σ H s) : ∀ (ds : List PyData) (vs : List V) (us : List Value), DpAll X.K H vs ds → Vals vs us → ∃ as, ReadsAll s.heap us ds as
  | [], _, _, h, r => by
    cases h
    cases r
    exact ⟨_, ReadsAll.nil⟩
  | d :: ds, _, _, h, r => by
    cases h with
    | cons h1 h2 =>
      cases r with
      | cons r1 r2 =>
        obtain ⟨as, q1⟩ := Dp.reads I d _ _ h1 r1
        obtain ⟨bs, q2⟩ := Dp.readsAll I ds _ _ h2 r2
        exact ⟨_, ReadsAll.cons q1 q2⟩
end
end
section
variable {X : Cx}
def rEqD (K : PySem.W.Frag) : R2 := fun x y H Q => ∃ d e, Dp K H x d ∧ Dp K H y e ∧ SeqAt.shaped d = true ∧ SeqAt.shaped e = true ∧ Q (.bl (PyData.eqv d e)) H
def rNeD (K : PySem.W.Frag) : R2 := fun x y H Q => ∃ d e, Dp K H x d ∧ Dp K H y e ∧ SeqAt.shaped d = true ∧ SeqAt.shaped e = true ∧ Q (.bl (!PyData.eqv d e)) H
end
end L2

namespace L2
open PySem PySem.Spec PyProof.Rows
abbrev CellAt (h : Heap) (c : Addr) (v : Option Value) : Prop := h.IsCell c v
def relS (scope sc : Scope) : Scope :=
  { scope with names := scope.names.map fun (n, k) => if (k == .free && sc.kind == .function && sc.names.lookup n == some .cell) then (n, .cell) else (n, k) }

def cloFrom (cells : List (Str × Addr)) : List (Str × NameKind) → List (Str × Addr) → List (Str × Addr)
  | [], acc => acc
  | (n, k) :: r, acc => if k == .free then cloFrom cells r ((n, (cells.lookup n).getD 0) :: acc) else cloFrom cells r acc

theorem closure_loop (env : Env) (f : Str × NameKind → List (Str × Addr) → Sem (ForInStep (List (Str × Addr))))
    (hf : ∀ n k c, f (n, k) c = if k == .free then (do let a ← cellOf env n; pure (.yield ((n, a) :: c))) else pure (.yield c)) :
    ∀ (names : List (Str × NameKind)) (acc : List (Str × Addr)), (∀ y ∈ names, y.2 = .free → ∃ c, env.cells.lookup y.1 = some c) → forIn names acc f = pure (cloFrom env.cells names acc)
  | [], acc, _ => by rw [List.forIn_nil]; rfl
  | (n, k) :: r, acc, h => by
    rw [List.forIn_cons, hf]
    have ih := fun acc => closure_loop env f hf r acc fun y hy => h y (List.mem_cons_of_mem _ hy)
    unfold cloFrom
    by_cases hk : (k == NameKind.free) = true
    · rw [if_pos hk, if_pos hk]
      obtain ⟨c, hc⟩ := h (n, k) List.mem_cons_self (by simpa using hk)
      have e : cellOf env n = pure c := by unfold cellOf; rw [hc]
      rw [e]
      have e2 : (env.cells.lookup n).getD 0 = c := by rw [hc]; rfl
      rw [e2]
      exact ih _
    · rw [if_neg hk, if_neg hk]
      exact ih _
theorem closure_ok {scope : Scope} {env : Env} (h : ∀ y ∈ scope.names, y.2 = .free → ∃ c, env.cells.lookup y.1 = some c) : closureFor scope env = pure (cloFrom env.cells scope.names []) := by
  simp only [closureFor]
  rw [closure_loop env _ (fun n k c => rfl) scope.names [] h]
  rfl

theorem mem_lookup {α : Type} : ∀ {l : List (Str × α)} {n : Str} {c : α}, (n, c) ∈ l → ∃ c', l.lookup n = some c'
  | (k, v) :: r, n, c, h => by
    rw [List.lookup_cons]
    cases hb : n == k with
    | true => exact ⟨_, rfl⟩
    | false =>
      rcases List.mem_cons.mp h with e | h
      · cases e; simp at hb
      · exact mem_lookup h

theorem cloFrom_mem {cells : List (Str × Addr)} : ∀ {names : List (Str × NameKind)} {acc : List (Str × Addr)} {n : Str} {c : Addr}, (n, c) ∈ cloFrom cells names acc → (n, c) ∈ acc ∨ ((n, .free) ∈ names ∧ c = (cells.lookup n).getD 0)
  | [], _, _, _, h => .inl h
  | (m, k) :: r, acc, n, c, h => by
    unfold cloFrom at h
    split at h
    · rename_i hk
      have hk : k = .free := by simpa using hk
      rcases cloFrom_mem h with h | ⟨h1, h2⟩
      · rcases List.mem_cons.mp h with e | h
        · cases e; exact .inr ⟨hk ▸ List.mem_cons_self, rfl⟩
        · exact .inl h
      · exact .inr ⟨List.mem_cons_of_mem _ h1, h2⟩
    · rcases cloFrom_mem h with h | ⟨h1, h2⟩
      · exact .inl h
      · exact .inr ⟨List.mem_cons_of_mem _ h1, h2⟩
theorem cloFrom_acc {cells : List (Str × Addr)} : ∀ {names : List (Str × NameKind)} {acc : List (Str × Addr)} {p : Str × Addr}, p ∈ acc → p ∈ cloFrom cells names acc
  | [], _, _, h => h
  | (m, k) :: r, acc, p, h => by
    unfold cloFrom
    split
    · exact cloFrom_acc (List.mem_cons_of_mem _ h)
    · exact cloFrom_acc h
theorem cloFrom_has {cells : List (Str × Addr)} : ∀ {names : List (Str × NameKind)} {acc : List (Str × Addr)} {n : Str}, (n, .free) ∈ names → (n, (cells.lookup n).getD 0) ∈ cloFrom cells names acc
  | (m, k) :: r, acc, n, h => by
    unfold cloFrom
    rcases List.mem_cons.mp h with e | h
    · cases e
      exact cloFrom_acc List.mem_cons_self
    · split
      · exact cloFrom_has h
      · exact cloFrom_has h

theorem cells_mem : ∀ {names : List (Str × NameKind)} {h : Heap} {acc : List (Str × Addr)} {x : Str} {c : Addr}, (x, c) ∈ cellsFrom h.objs.size names acc →
    (x, c) ∈ acc ∨ ((x, .cell) ∈ names ∧ h.objs.size ≤ c ∧ CellAt (pushCells h names) c none)
  | [], _, _, _, _, h => .inl h
  | (n, k) :: r, h, acc, x, c, hm => by
    unfold cellsFrom at hm
    unfold pushCells
    split at hm
    · rename_i hk
      rw [if_pos hk]
      have hk : k = .cell := by simpa using hk
      rw [← Heap.size_push h { cls := .type "cell", data := .cell none }] at hm
      rcases cells_mem hm with hm | ⟨h1, h2, h3⟩
      · rcases List.mem_cons.mp hm with e | hm
        · cases e
          exact .inr ⟨hk ▸ List.mem_cons_self, Nat.le_refl _, _, pushCells_keeps r _ _ _ (Heap.get?_push_size _ rfl), rfl⟩
        · exact .inl hm
      · rw [Heap.size_push] at h2
        exact .inr ⟨List.mem_cons_of_mem _ h1, Nat.le_of_succ_le h2, h3⟩
    · rename_i hk
      rw [if_neg hk]
      rcases cells_mem hm with hm | ⟨h1, h2, h3⟩
      · exact .inl hm
      · exact .inr ⟨List.mem_cons_of_mem _ h1, h2, h3⟩
theorem cells_acc : ∀ {names : List (Str × NameKind)} {n : Nat} {acc : List (Str × Addr)} {p : Str × Addr}, p ∈ acc → p ∈ cellsFrom n names acc
  | [], _, _, _, h => h
  | (m, k) :: r, n, acc, p, h => by
    unfold cellsFrom
    split
    · exact cells_acc (List.mem_cons_of_mem _ h)
    · exact cells_acc h
theorem cells_has : ∀ {names : List (Str × NameKind)} {n : Nat} {acc : List (Str × Addr)} {x : Str}, (x, .cell) ∈ names → ∃ c, (x, c) ∈ cellsFrom n names acc
  | (m, k) :: r, n, acc, x, h => by
    unfold cellsFrom
    rcases List.mem_cons.mp h with e | h
    · cases e
      exact ⟨n, cells_acc List.mem_cons_self⟩
    · split
      · exact cells_has h
      · exact cells_has h
theorem cells_inj : ∀ {names : List (Str × NameKind)} {h : Heap} {acc : List (Str × Addr)} {x y : Str} {c : Addr}, (∀ p ∈ acc, p.2 < h.objs.size) → (∀ x y c, (x, c) ∈ acc → (y, c) ∈ acc → x = y) →
    (x, c) ∈ cellsFrom h.objs.size names acc → (y, c) ∈ cellsFrom h.objs.size names acc → x = y
  | [], _, _, _, _, _, _, hi, h1, h2 => hi _ _ _ h1 h2
  | (n, k) :: r, h, acc, x, y, c, hl, hi, h1, h2 => by
    unfold cellsFrom at h1 h2
    split at h1
    · rename_i hk
      rw [if_pos hk] at h2
      rw [← Heap.size_push h { cls := .type "cell", data := .cell none }] at h1 h2
      refine cells_inj (h := h.push _) (fun p hp => ?_) (fun x y c a b => ?_) h1 h2
      · rw [Heap.size_push]
        rcases List.mem_cons.mp hp with rfl | hp
        · exact Nat.lt_succ_self _
        · exact Nat.lt_succ_of_lt (hl p hp)
      · rcases List.mem_cons.mp a with e | a <;> rcases List.mem_cons.mp b with e' | b
        · cases e; cases e'; rfl
        · cases e; exact absurd (hl _ b) (Nat.lt_irrefl _)
        · cases e'; exact absurd (hl _ a) (Nat.lt_irrefl _)
        · exact hi _ _ _ a b
    · rename_i hk
      rw [if_neg hk] at h2
      exact cells_inj hl hi h1 h2

theorem newEnv_comp {M : Model} {A : Around} {E : Value → Shared → Prop} {s : Shared} {scope : Scope} {globals : Addr} {closure : List (Str × Addr)} {qual : Str} {func : Option Addr} {code : Value} {around : Env} {builtins : Addr} {Q : Env → Shared → Prop}
    (h : Q (newEnv scope s.heap.objs.size globals (cellsFrom (s.heap.objs.size + 1) scope.names closure) qual func code (some around) builtins)
      { s with heap := pushCells (s.heap.push { cls := .type "dict", data := .dict #[] }) scope.names }) :
    wpAny M A (newFunctionEnv scope globals closure [] qual func code (some around) builtins) Q E s := by
  simp only [newFunctionEnv, Option.isSome_some, if_true]
  refine wpAny_bind (wpAny_alloc ?_)
  refine wpAny_bind (wpAny_layCells _ (fun n k c => rfl) scope.names closure _ _ ?_)
  rw [show ({ s with heap := s.heap.push { cls := .type "dict", data := .dict #[] } } : Shared).heap.objs.size = s.heap.objs.size + 1 from Heap.size_push ..]
  rw [List.forIn_nil]
  exact wpAny_bind (wpAny_pure (wpAny_pure h))

/-- every name of the written scope, in the scope that runs -/
theorem lookup_relS {sc : Scope} : ∀ {names : List (Str × NameKind)} {x : Str} {k : NameKind},
    (names.map fun (n, k) => if (k == NameKind.free && sc.kind == .function && sc.names.lookup n == some .cell) then (n, NameKind.cell) else (n, k)).lookup x = some k →
    ∃ k', names.lookup x = some k' ∧ (k = k' ∨ (k' = .free ∧ k = .cell))
  | [], _, _, h => by simp at h
  | (n, k₀) :: r, x, k, h => by
    have ih := @lookup_relS sc r x k
    have h' : List.lookup x ((if (k₀ == NameKind.free && sc.kind == .function && sc.names.lookup n == some .cell) = true then (n, NameKind.cell) else (n, k₀)) :: (r.map _)) = some k := h
    cases hx : x == n with
    | true =>
      simp only [List.lookup_cons, hx]
      by_cases hc : (k₀ == NameKind.free && sc.kind == .function && sc.names.lookup n == some .cell) = true
      · rw [if_pos hc] at h'
        simp only [List.lookup_cons, hx] at h'
        cases h'
        simp only [Bool.and_eq_true, beq_iff_eq] at hc
        exact ⟨k₀, rfl, .inr ⟨hc.1.1, rfl⟩⟩
      · rw [if_neg hc] at h'
        simp only [List.lookup_cons, hx] at h'
        cases h'
        exact ⟨_, rfl, .inl rfl⟩
    | false =>
      simp only [List.lookup_cons, hx]
      by_cases hc : (k₀ == NameKind.free && sc.kind == .function && sc.names.lookup n == some .cell) = true
      · rw [if_pos hc] at h'
        simp only [List.lookup_cons, hx] at h'
        exact ih h'
      · rw [if_neg hc] at h'
        simp only [List.lookup_cons, hx] at h'
        exact ih h'
/-- the names of a comprehension's block: its own (with their places in N), or captured -/
structure BlkOk (N : List Str) (sc scope : Scope) (own : List (Str × Nat)) : Prop where
  kind : scope.kind = .function
  uniq : ∀ y ∈ scope.names, scope.names.lookup y.1 = some y.2
  ix : ∀ p ∈ own, N[p.2]? = some p.1
  free : ∀ y ∈ scope.names, y.2 = .free → sc.names.lookup y.1 = some .cell ∨ sc.names.lookup y.1 = some .free
  own : ∀ y ∈ scope.names, y.2 = .local ∨ y.2 = .cell → y.1 ∈ own.map (·.1) ∨ y.1 ∉ N
/-- the slots of the block's own names forgotten -/
def wipe (σ : St) : List Nat → St
  | [] => σ
  | v :: vs => (wipe σ vs).set v none
theorem wipe_length (σ : St) : ∀ vs : List Nat, (wipe σ vs).length = σ.length
  | [] => rfl
  | v :: vs => by unfold wipe; rw [List.length_set, wipe_length σ vs]
theorem wipe_some {σ : St} {i : Nat} {x : V} : ∀ {vs : List Nat}, (wipe σ vs)[i]? = some (some x) → σ[i]? = some (some x) ∧ i ∉ vs
  | [], h => ⟨h, by simp⟩
  | v :: vs, h => by
    unfold wipe at h
    by_cases hi : v = i
    · subst hi
      by_cases hv : v < (wipe σ vs).length
      · rw [List.getElem?_set_self hv] at h; cases h
      · rw [List.getElem?_eq_none (by simpa using hv)] at h; cases h
    · rw [List.getElem?_set_ne hi] at h
      obtain ⟨h1, h2⟩ := wipe_some h
      exact ⟨h1, by simp only [List.mem_cons, not_or]; exact ⟨fun e => hi e.symm, h2⟩⟩

/-- the context of a block that starts at s, its iterator's objects at fp -/
abbrev Cx.blk (X : Cx) (s : Shared) (H : Hp) (scope : Scope) (cenv : Env) (fp : List Addr) : Cx := { X with s_0 := s, H_0 := H, env := cenv, outer := X.stack, ex := fp, fn := fun x => scope.names.lookup x == some .cell, pn := [], xe := fun _ _ => False }
section
variable {X : Cx} {pins : List (Addr × Obj)} {σ : St} {H : Hp} {s : Shared}
theorem block_start {scope : Scope} {own : List (Str × Nat)} {fp : List Addr} (I : Inv X pins σ H s) (ok : BlkOk X.N X.env.scope scope own) (hN : X.N.Nodup) (hfp : ∀ b ∈ fp, FpOk X pins H b ∧ b < s.heap.objs.size) :
    Inv (X.blk s H scope (compEnvC scope (cellsFrom (s.heap.objs.size + 1) scope.names (cloFrom X.env.cells scope.names [])) s.heap.objs.size X.env) fp) [] (wipe σ (own.map (·.2))) H { s with heap := pushCells (s.heap.push { cls := .type "dict", data := .dict #[] }) scope.names } := by
  have hfree : ∀ y ∈ scope.names, y.2 = .free → ∃ c, X.env.cells.lookup y.1 = some c := fun y hy e => by
    rcases ok.free y hy e with k | k
    · exact I.ok.has _ (.inl k)
    · exact I.ok.has _ (.inr k)
  generalize hcenv : compEnvC scope (cellsFrom (s.heap.objs.size + 1) scope.names (cloFrom X.env.cells scope.names [])) s.heap.objs.size X.env = cenv
  have kp : ∀ b o, s.heap.get? b = some o → (pushCells (s.heap.push { cls := .type "dict", data := .dict #[] }) scope.names).get? b = some o := fun b o e => pushCells_keeps _ _ _ _ (Heap.get?_push_of_some _ e)
  have hL : cenv.locals = s.heap.objs.size := by rw [← hcenv]; rfl
  have hcl : cenv.cells = cellsFrom (s.heap.objs.size + 1) scope.names (cloFrom X.env.cells scope.names []) := by rw [← hcenv]; rfl
  have hsc : cenv.scope = relS scope X.env.scope := by rw [← hcenv]; rfl
  rw [← Heap.size_push s.heap { cls := .type "dict", data := .dict #[] }] at hcl
  have cm : ∀ {y c}, (y, c) ∈ cloFrom X.env.cells scope.names [] → X.env.cells.lookup y = some c ∧ c < s.heap.objs.size := fun {y c} hm => by
    rcases cloFrom_mem hm with hm | ⟨h1, rfl⟩
    · cases hm
    · obtain ⟨c, hc⟩ := hfree _ h1 rfl
      rw [hc]
      obtain ⟨w, z⟩ := I.cell _ _ hc
      exact ⟨rfl, z.lt⟩
  have mem : ∀ {y c}, cenv.cells.lookup y = some c → (X.env.cells.lookup y = some c ∧ c < s.heap.objs.size) ∨ (s.heap.objs.size + 1 ≤ c ∧ CellAt (pushCells (s.heap.push { cls := .type "dict", data := .dict #[] }) scope.names) c none) := fun {y c} e => by
    rw [hcl] at e
    rcases cells_mem (PySem.mem_of_lookup e) with hm | ⟨_, h2, h3⟩
    · exact .inl (cm hm)
    · rw [Heap.size_push] at h2; exact .inr ⟨h2, h3⟩
  have look : ∀ {y}, scope.names.lookup y = some .free → ∃ c, cenv.cells.lookup y = some c ∧ X.env.cells.lookup y = some c := fun {y} hl => by
    have hy : (y, NameKind.free) ∈ scope.names := PySem.mem_of_lookup hl
    obtain ⟨c', e'⟩ := mem_lookup (cells_acc (names := scope.names) (n := (s.heap.push { cls := .type "dict", data := .dict #[] }).objs.size) (cloFrom_has (cells := X.env.cells) (acc := []) hy))
    rw [← hcl] at e'
    refine ⟨c', e', ?_⟩
    rw [hcl] at e'
    rcases cells_mem (PySem.mem_of_lookup e') with hm | ⟨h1, _, _⟩
    · exact (cm hm).1
    · have := ok.uniq _ h1
      rw [hl] at this; cases this
  have okB : (X.blk s H scope cenv fp).Ok := by
    refine ⟨I.ok.mod, by show cenv.scope.kind = _; rw [hsc]; exact ok.kind, by show cenv.globals = _; rw [← hcenv]; exact I.ok.glob, by show cenv.builtins = _; rw [← hcenv]; exact I.ok.blt, by show s.heap.objs.size ≤ cenv.locals; rw [hL]; exact Nat.le_refl _,
      fun y z c e1 e2 => ?_, fun y hy => ?_, fun y c z e => ?_, I.ok.hd, I.ok.frames, .inl rfl, fun b hb => ⟨?_, fun y c e z => ?_⟩, I.bs, Nat.le_trans I.ok.bsz I.sz, fun b o e hb => ?_, fun b hb z => ?_, I.stack, I.stkFree⟩
    · have e1 : cenv.cells.lookup y = some c := e1
      have e2 : cenv.cells.lookup z = some c := e2
      rw [hcl] at e1 e2
      refine cells_inj (fun p hp => ?_) (fun y z c a b => I.ok.inj y z c (cm a).1 (cm b).1) (PySem.mem_of_lookup e1) (PySem.mem_of_lookup e2)
      rw [Heap.size_push]
      exact Nat.lt_succ_of_lt (cm (y := p.1) (c := p.2) hp).2
    · show ∃ c, cenv.cells.lookup y = some c
      have key : ∀ k, cenv.kindOf y = some k → (k = .cell ∨ k = .free) → ∃ c, cenv.cells.lookup y = some c := fun k hk hk' => by
        unfold Env.kindOf at hk
        rw [hsc] at hk
        obtain ⟨k', e, r⟩ := lookup_relS hk
        have : k' = .cell ∨ k' = .free := by
          rcases r with rfl | ⟨rfl, _⟩
          · exact hk'
          · exact .inr rfl
        rcases this with rfl | rfl
        · obtain ⟨c, hm⟩ := cells_has (n := (s.heap.push { cls := .type "dict", data := .dict #[] }).objs.size) (acc := cloFrom X.env.cells scope.names []) (PySem.mem_of_lookup e)
          obtain ⟨c', e'⟩ := mem_lookup hm
          exact ⟨c', by rw [hcl]; exact e'⟩
        · obtain ⟨c, h1, _⟩ := look e
          exact ⟨c, h1⟩
      rcases hy with hy | hy
      · exact key _ hy (.inl rfl)
      · exact key _ hy (.inr rfl)
    · have z : (scope.names.lookup y == some NameKind.cell) = true := z
      have z : scope.names.lookup y = some .cell := by simpa using z
      have e : cenv.cells.lookup y = some c := e
      rw [hcl] at e
      rcases cells_mem (PySem.mem_of_lookup e) with hm | ⟨_, h2, _⟩
      · rcases cloFrom_mem hm with hm | ⟨h1, _⟩
        · cases hm
        · have q := ok.uniq _ h1
          rw [z] at q; cases q
      · rw [Heap.size_push] at h2
        exact Nat.le_of_succ_le h2
    · show b ≠ cenv.locals
      rw [hL]; exact Nat.ne_of_lt (hfp b hb).2
    · have e : cenv.cells.lookup y = some c := e
      rcases mem e with ⟨h1, _⟩ | ⟨h1, _⟩
      · exact (hfp b hb).1.2.2.2.2.1 y c h1 z
      · have h2 : s.heap.objs.size + 1 ≤ b := by rw [← z]; exact h1
        exact absurd (Nat.lt_of_lt_of_le (hfp b hb).2 (Nat.le_of_succ_le h2)) (Nat.lt_irrefl _)
    · rcases (hfp b hb).1.2.2.2.1 with z | z
      · exact I.ok.noex b o e z
      · exact absurd (Nat.lt_of_lt_of_le (Heap.lt_size e) (Nat.le_trans I.ok.bsz z)) (Nat.lt_irrefl _)
    · rcases List.mem_cons.mp (I.stkSub b z) with z | z
      · exact (hfp b hb).1.2.1 z
      · exact (hfp b hb).1.2.2.1 z
  refine ⟨okB, rfl, I.bare, Un.kept kp, ⟨fun _ => none, ?_, fun i y av e1 e2 e3 => ?_⟩, fun y c e => ?_, ?_, fun y c e => ?_, fun p hp => ?_, I.hok.kept kp, by rw [wipe_length]; exact I.len⟩
  · show Heap.Ns _ cenv.locals _
    rw [hL]
    exact Heap.Ns.keeps (Heap.Ns.new ..) fun b o e => pushCells_keeps _ _ _ _ e
  · obtain ⟨e2, hne⟩ := wipe_some e2
    have hfr : scope.names.lookup y = some .free ∧ (cenv.kindOf y = some .cell ∨ cenv.kindOf y = some .free) := by
      have key : ∀ k, cenv.scope.names.lookup y = some k → k = .local ∨ k = .cell ∨ k = .free → scope.names.lookup y = some .free ∧ (cenv.kindOf y = some .cell ∨ cenv.kindOf y = some .free) := fun k hk hk' => by
        have hk0 := hk
        rw [hsc] at hk
        obtain ⟨k', e, r⟩ := lookup_relS hk
        have no : ¬ (k' = .local ∨ k' = .cell) := fun hh => by
          rcases ok.own _ (PySem.mem_of_lookup e) hh with e' | e'
          · obtain ⟨p, hp, hpy⟩ := List.mem_map.mp e'
            have e3 := ok.ix p hp
            have : p.1 = y := hpy
            rw [this] at e3
            exact hne (List.mem_map.mpr ⟨p, hp, nodup_ix hN e3 e1⟩)
          · exact e' (List.mem_of_getElem? e1)
        rcases r with rfl | ⟨rfl, rfl⟩
        · rcases hk' with rfl | rfl | rfl
          · exact absurd (.inl rfl) no
          · exact absurd (.inr rfl) no
          · exact ⟨e, .inr hk0⟩
        · exact ⟨e, .inl hk0⟩
      have e3 : Vis cenv.scope y := e3
      rcases e3 with e3 | e3 | e3
      · exact key _ e3 (.inl rfl)
      · exact key _ e3 (.inr (.inl rfl))
      · exact key _ e3 (.inr (.inr rfl))
    obtain ⟨m, hn, hl⟩ := I.loc
    have hvis : Vis X.env.scope y := (ok.free _ (PySem.mem_of_lookup hfr.1) rfl).elim (fun k => .inr (.inl k)) (fun k => .inr (.inr k))
    obtain ⟨w, r, q⟩ := hl i y av e1 e2 hvis
    refine ⟨w, r, .inr ⟨hfr.2, ?_⟩⟩
    obtain ⟨c, h1, h2⟩ := look hfr.1
    rcases q with ⟨k, _⟩ | ⟨_, c', e', z⟩
    · have k : X.env.scope.names.lookup y = some .local := k
      rcases ok.free _ (PySem.mem_of_lookup hfr.1) rfl with k' | k' <;> rw [show X.env.scope.names.lookup y = _ from k'] at k <;> cases k
    · rw [h2] at e'; cases e'
      exact ⟨c, h1, z.keeps kp⟩
  · have e : cenv.cells.lookup y = some c := e
    rcases mem e with ⟨h1, _⟩ | ⟨_, z⟩
    · obtain ⟨w, z⟩ := I.cell y c h1
      exact ⟨w, z.keeps kp⟩
    · exact ⟨_, z⟩
  · show H cenv.locals = none
    rw [hL]; exact I.hok.fresh (Nat.le_refl _)
  · have e : cenv.cells.lookup y = some c := e
    rcases mem e with ⟨h1, _⟩ | ⟨h1, _⟩
    · exact I.freeC y c h1
    · exact I.hok.fresh (Nat.le_of_succ_le h1)
  · exact absurd (show p ∈ ([] : List (Addr × Obj)) ++ [] from hp) (by simp)

/-- an item appended to a tracked list -/
theorem app_ok {E : Value → Shared → Prop} {D : Addr} {xs : List V} {y : V} {v : Value} {Q : Value → Shared → Prop} (I : Inv X pins σ H s) (hD : H D = some (.lst xs)) (hz : xs.length < sizeLine) (r : RelV y v)
    (h : ∀ s', Inv X pins σ (upd H D (.lst (xs ++ [y]))) s' → Q .none s') : wpAny (model X.prog X.w) X.A (call (.builtin "list.append") [.ref D, v]) Q E s := by
  obtain ⟨hz', its, n, ri, e⟩ := I.hok D _ hD
  have hl := ri.length
  refine append_at (hsz := by rw [List.size_toArray]; omega) e fun h' sb ho' => ?_
  refine h { s with heap := h' } (I.write (t' := s.toks) (by rw [hD]; trivial) (.inl rfl) (fun b u hb q => (sb.2 b hb).trans q) ⟨_, ho'⟩ ⟨by rw [List.length_append]; exact hz, its ++ [v], n + 1, ri.append (.cons r .nil), ?_⟩)
  rw [ho']
  simp

/-- a clause's tests -/
def PTs (X : Cx) (ifs : List Expr) (t : TT) : Prop :=
  ∀ (pins : List (Addr × Obj)) (s : Shared) (σ : St) (H : Hp) (Q : Bool → Hp → Prop), Inv X pins σ H s → t σ H Q →
    wpAny (model X.prog X.w) X.A (forIn ifs true fun c r => if r = true then do let ok ← isTrue c X.env (eval c X.env); pure (ForInStep.yield ok) else pure (ForInStep.yield r)) (TP X pins σ Q) X.xe s
def tYes : TT := fun _ H Q => Q true H
theorem pts_nil : PTs X [] tYes := fun _ _ _ H _ I h => wpAny_tests_nil ⟨H, I, h⟩
end

theorem thnF {α : Type} {t : Sem α} {Q Q' : α → Shared → Prop} {M : Model} {A : Around} {E : Value → Shared → Prop} {s : Shared} (h : wpAny M A t Q (fun _ _ => False) s) (hQ : ∀ a s, Q a s → Q' a s) : wpAny M A t Q' E s := wpAny_mono h hQ fun _ _ z => False.elim z

/-- the loop of a list comprehension's block, the target of any form (codeAny_compLoop_tests asks a target that no tuple goes to; statement and proof follow it, PyProof/CompMap.lean:41-61, with the step letOwnedTupleGo kept) -/
theorem compLoop_any {prog : Program} {w : World} {A : Around} {R : Result → Shared → Prop} {s : Shared} {elt target iter : Expr} {ifs : List Expr} {scope : Scope} {pos : Pos} {it acc : Value} {env : Env} (I : Nat → Shared → Prop)
    (turn : ∀ n s, I n s → wpAny (model prog w) A (pyNext it) (fun r s₁ => match r with
      | none => R (.ok .next) s₁
      | some v => wpAny (model prog w) A (letOwnedTupleGo target it v) (fun _ s₁' => wpAny (model prog w) A (assign target env v) (fun _ s₂ =>
          wpAny (model prog w) A (forIn ifs true fun c r => if r = true then do let ok ← isTrue c env (eval c env); pure (ForInStep.yield ok) else pure (ForInStep.yield r)) (fun ok s₃ =>
            if ok = true then wpAny (model prog w) A (eval elt env) (fun x s₄ =>
              wpAny (model prog w) A (call (.builtin "list.append") [acc, x]) (fun _ s₅ => ∃ m, m < n ∧ I m s₅) (notedBy (model prog w) A env fun e s' => R (.error e) s') s₄) (notedBy (model prog w) A env fun e s' => R (.error e) s') s₃
            else ∃ m, m < n ∧ I m s₃) (notedBy (model prog w) A env fun e s' => R (.error e) s') s₂) (notedBy (model prog w) A env fun e s' => R (.error e) s') s₁') (notedBy (model prog w) A env fun e s' => R (.error e) s') s₁) (notedBy (model prog w) A env fun e s' => R (.error e) s') s)
    (n : Nat) (h : I n s) :
    codeAny (model prog w) A (.compLoop (.ListComp elt [⟨target, iter, ifs, 0⟩] scope pos) 0 it acc env) R s := by
  refine codeAny_loop rfl I (fun n s hI => ?_) n h
  show wpAny _ A ((compTurn (.ListComp elt [⟨target, iter, ifs, 0⟩] scope pos) 0 it acc env).onRaise (fun x => do noteFrame x env; theTreesLotGoes x)) _ _ s
  refine wpAny_noted ?_
  rw [compTurn_list]
  refine wpAny_bind (wpAny_standAt (wpAny_bind (wpAny_mono (turn n s hI) (fun r s₁ h₁ => ?_) fun _ _ h' => h')))
  cases r with
  | none => exact wpAny_pure h₁
  | some v =>
    refine wpAny_bind (wpAny_mono h₁ (fun _ s₁' h₁' => ?_) fun _ _ h' => h')
    refine wpAny_bind (wpAny_mono h₁' (fun _ s₂ h₂ => wpAny_bind (wpAny_mono h₂ (fun ok s₃ h₃ => ?_) fun _ _ h' => h')) fun _ _ h' => h')
    cases ok with
    | false => exact wpAny_pure ⟨rfl, h₃⟩
    | true =>
      exact wpAny_bind (wpAny_bind (wpAny_mono h₃ (fun x s₄ h₄ => wpAny_bind (wpAny_mono h₄ (fun _ s₅ h₅ => wpAny_pure (wpAny_pure ⟨rfl, h₅⟩)) fun _ _ h' => h')) fun _ _ h' => h'))

section
variable {X : Cx}
/-- [elt for target in iter if ..]: D the new list; W by the turn and a measure, Nx what a turn is to reach -/
def tLc (wi : TI) (g : TG) (tt : TT) (te : TE) (vs : List Nat) : TE := fun σ H Q => wi σ H fun J H1 => ∀ D, H1 D = none → ∃ W : Nat → Nat → Hp → Prop, (∃ m, W 0 m (upd H1 D (.lst []))) ∧ ∀ i m H, W i m H →
  (J.stop i H ∧ Q (.ref D) H) ∨ (J.go i H ∧ ∃ Nx : Hp → Prop, (∀ H', Nx H' → ∃ m', m' < m ∧ W (i + 1) m' H') ∧ ∀ x H', J.yld i H x H' → g x (wipe σ vs) H' fun σ2 H2 => wipe σ2 vs = wipe σ vs ∧ tt σ2 H2 fun b H3 =>
    if b = true then te σ2 H3 fun y H4 => ∃ acc, H4 D = some (.lst acc) ∧ acc.length < sizeLine ∧ Nx (upd H4 D (.lst (acc ++ [y]))) else Nx H3)
theorem lc_core {pins : List (Addr × Obj)} {s : Shared} {σ : St} {H : Hp} {Q : VK} {elt tg iter : Expr} {ifs : List Expr} {scope : Scope} {own : List (Str × Nat)} {pos pos' : Pos} {wi : TI} {g : TG} {tt : TT} {te : TE} {use : Option (Value → Sem Unit)} {Qf : Value → Shared → Prop}
    (hc : X.calm = true) (hN : X.N.Nodup) (I : Inv X pins σ H s) (hi : PI X tg iter wi) (ok : BlkOk X.N X.env.scope scope own)
    (hg : ∀ (s : Shared) (H : Hp) (C : Addr) (cl : List (Str × Addr)) (fp : List Addr), PG (X.blk s H scope (compEnvC scope cl C X.env) fp) tg g) (ht : ∀ (s : Shared) (H : Hp) (C : Addr) (cl : List (Str × Addr)) (fp : List Addr), PTs (X.blk s H scope (compEnvC scope cl C X.env) fp) ifs tt)
    (he : ∀ (s : Shared) (H : Hp) (C : Addr) (cl : List (Str × Addr)) (fp : List Addr), PE (X.blk s H scope (compEnvC scope cl C X.env) fp) elt te) (hs : ∀ x, foldedSetIterable iter X.env x = pure x)
    (h : tLc wi g tt te (own.map (·.2)) σ H Q)
    (hRR : ∀ D C s' m H', Inv X pins σ H' s' → Q (.ref D) H' → s'.heap.Ns C m → FpOk X pins H' C → compPost (model X.prog X.w) X.A X.xe use Qf (.ref D) C (.ok .next) s') :
    wpAny (model X.prog X.w) X.A (comprehension (.ListComp elt [⟨tg, iter, ifs, 0⟩] scope pos) scope X.env pos' (newList []) false (eval iter X.env) use) Qf X.xe s := by
  have hfree : ∀ y ∈ scope.names, y.2 = .free → ∃ c, X.env.cells.lookup y.1 = some c := fun y hy e => by
    rcases ok.free y hy e with k | k
    · exact I.ok.has _ (.inl k)
    · exact I.ok.has _ (.inr k)
  refine wpAny_comprehension_free (use := use) rfl hs (closure_ok hfree) ok.kind (fun y hy e => by rw [ok.uniq y hy, e])
    (thn (hi pins s σ H _ I h) fun xv s1 hx => thn hx fun itv s2 h2 => ?_)
  obtain ⟨it, fp, tn, J, H2, e, I2, T, st2, f2, q⟩ := h2
  subst e
  refine wpAny_newObj_type (newEnv_comp ?_) (by show 0 ≤ sizeLine; decide)
  generalize hD : s2.heap.objs.size = D
  have hDn : H2 D = none := I2.hok.fresh (Nat.le_of_eq hD)
  obtain ⟨W, ⟨m0, w0⟩, turn⟩ := q D hDn
  -- the new list
  generalize hs3 : ({ s2 with heap := s2.heap.push { cls := .type "list", data := .seq ([] : List Value).toArray } } : Shared) = s3
  have I3 : Inv X pins σ (upd H2 D (.lst [])) s3 := by
    rw [← hs3]
    refine I2.laid (t' := s2.toks) (fun b o e => Heap.get?_push_of_some _ e) (Nat.le_of_eq hD) ⟨Nat.zero_le _, [], 0, .nil, ?_⟩
    rw [← hD]
    exact Heap.get?_push_size _ rfl
  have h3 : s3.heap = s2.heap.push { cls := .type "list", data := .seq ([] : List Value).toArray } := by rw [← hs3]
  have sz : ∀ b ∈ fp, b < s2.heap.objs.size := fun b hb => by
    obtain ⟨o, e, _⟩ := T.obj _ _ st2 b hb
    exact Heap.lt_size e
  have f3 : ∀ b ∈ fp, FpOk X pins (upd H2 D (.lst [])) b ∧ b < s3.heap.objs.size := fun b hb => by
    have hlt := sz b hb
    refine ⟨⟨?_, (f2 b hb).2⟩, by rw [h3, Heap.size_push]; exact Nat.lt_succ_of_lt hlt⟩
    rw [upd_ne (by rw [← hD]; exact Nat.ne_of_lt hlt)]
    exact (f2 b hb).1
  have st3 : tn 0 s3.heap := T.keep _ _ _ st2 fun b _ o e => by rw [h3]; exact Heap.get?_push_of_some _ e
  have I4 := block_start I3 ok hN f3
  have pg := hg s3 (upd H2 D (.lst [])) s3.heap.objs.size (cellsFrom (s3.heap.objs.size + 1) scope.names (cloFrom X.env.cells scope.names [])) fp
  have pt := ht s3 (upd H2 D (.lst [])) s3.heap.objs.size (cellsFrom (s3.heap.objs.size + 1) scope.names (cloFrom X.env.cells scope.names [])) fp
  have pe := he s3 (upd H2 D (.lst [])) s3.heap.objs.size (cellsFrom (s3.heap.objs.size + 1) scope.names (cloFrom X.env.cells scope.names [])) fp
  show codeAny _ _ (.compStart (.ListComp elt [⟨tg, iter, ifs, 0⟩] scope pos) 0 (.ref it) (.ref D) (compEnvC scope (cellsFrom (s3.heap.objs.size + 1) scope.names (cloFrom X.env.cells scope.names [])) s3.heap.objs.size X.env)) (compPost (model X.prog X.w) X.A X.xe use Qf (.ref D) s3.heap.objs.size) { s3 with heap := pushCells (s3.heap.push { cls := .type "dict", data := .dict #[] }) scope.names }
  have nfp : ∀ b ∈ fp, (upd H2 D (.lst [])) b = none := fun b hb => (f3 b hb).1.1
  generalize hce : compEnvC scope (cellsFrom (s3.heap.objs.size + 1) scope.names (cloFrom X.env.cells scope.names [])) s3.heap.objs.size X.env = ce at I4 pg pt pe ⊢
  have cL : ce.locals = s3.heap.objs.size := by subst hce; rfl
  generalize hH3 : upd H2 D (.lst []) = H3 at I3 I4 pg pt pe w0 nfp f3
  generalize hs4 : ({ s3 with heap := pushCells (s3.heap.push { cls := .type "dict", data := .dict #[] }) scope.names } : Shared) = s4 at I4 ⊢
  have st4 : tn 0 s4.heap := T.keep _ _ _ st3 fun b _ o e => by rw [← hs4]; exact pushCells_keeps _ _ _ _ (Heap.get?_push_of_some _ e)
  have stat : ∀ {σ' : St} {H' : Hp} {s' : Shared}, Inv (X.blk s3 H3 scope ce fp) [] σ' H' s' → (∀ b ∈ fp, H' b = none) → ∀ b ∈ fp, FpOk (X.blk s3 H3 scope ce fp) [] H' b := fun {σ' H' s'} I' hn b hb =>
    ⟨hn b hb, (I'.ok.exf b hb).1, I'.ok.exfs b hb, .inl hb, fun x c e => (I'.ok.exf b hb).2 x c e, fun p hp => absurd (show p ∈ ([] : List (Addr × Obj)) ++ [] from hp) (by simp)⟩
  have loop : codeAny (model X.prog X.w) X.A (.compLoop (.ListComp elt [⟨tg, iter, ifs, 0⟩] scope pos) 0 (.ref it) (.ref D) ce) (compPost (model X.prog X.w) X.A X.xe use Qf (.ref D) s3.heap.objs.size) s4 := by
    refine compLoop_any (fun n s' => ∃ i H', Inv (X.blk s3 H3 scope ce fp) [] (wipe σ (own.map (·.2))) H' s' ∧ tn i s'.heap ∧ (∀ b ∈ fp, H' b = none) ∧ W i n H') ?_ m0 ⟨0, H3, I4, st4, nfp, w0⟩
    rintro n s5 ⟨i, H5, I5, st5, n5, w5⟩
    rcases turn i n H5 w5 with ⟨stop, qq⟩ | ⟨go, Nx, hNx, step⟩
    · have td := T.done (X.blk s3 H3 scope ce fp) rfl rfl rfl hc i [] s5 _ H5 (fun _ _ => False) I5 (stat I5 n5) st5 stop
      refine thnF td fun r s6 ⟨hr, I6⟩ => ?_
      subst hr
      -- back in the def's context
      have I7 : Inv X pins σ H5 s6 := I3.call' (ch := fp) I6.os I6.base I6.hok I6.bare fun b hb => ⟨(f3 b hb).1.2.2.2.1, (f3 b hb).1.2.1, (f3 b hb).1.2.2.2.2.1, (f3 b hb).1.2.2.2.2.2⟩
      have nC : H5 s3.heap.objs.size = none := by
        have z : H5 ce.locals = none := I6.free
        rw [cL] at z
        exact z
      obtain ⟨m, hn, _⟩ := I6.loc
      have hn : s6.heap.Ns ce.locals m := hn
      rw [cL] at hn
      exact hRR D s3.heap.objs.size s6 m H5 I7 qq hn (I3.fpOk (Nat.le_refl _) nC)
    · have ti := T.item (X.blk s3 H3 scope ce fp) rfl rfl rfl hc i [] s5 _ H5 (fun _ _ => False) I5 (stat I5 n5) st5 go
      refine thnF ti fun r s6 ⟨u, hr, h6⟩ => ?_
      subst hr
      refine thnF h6 fun _ s7 ⟨x, H7, I7, r7, y7, st7, n7⟩ => ?_
      have I7' := I7.pinned (stat I7 n7) (T.obj _ _ st7)
      refine thnF (pg _ s7 _ H7 x u _ I7' r7 (step x H7 y7)) fun _ s8 ⟨σ8, H8, I8, hw8, q8⟩ => ?_
      refine thnF (pt _ s8 σ8 H8 _ I8 q8) fun b s9 ⟨H9, I9, q9⟩ => ?_
      -- the turn's end
      have fin : ∀ {s' : Shared} {H' : Hp}, Inv (X.blk s3 H3 scope ce fp) ([] ++ pinsAt fp s7.heap) σ8 H' s' → Nx H' → ∃ m, m < n ∧ ∃ i H', Inv (X.blk s3 H3 scope ce fp) [] (wipe σ (own.map (·.2))) H' s' ∧ tn i s'.heap ∧ (∀ b ∈ fp, H' b = none) ∧ W i m H' := fun {s' H'} I' nx => by
        obtain ⟨m', hm, w'⟩ := hNx H' nx
        have pin' : ∀ b ∈ fp, ∀ o, s7.heap.get? b = some o → s'.heap.get? b = some o ∧ H' b = none := fun b hb o e =>
          let z := I'.pin (b, o) (List.mem_append_right _ (List.mem_append_right _ (mem_pinsAt hb e)))
          ⟨z.1, z.2.1⟩
        have hl : (wipe σ (own.map (·.2))).length = σ8.length := by rw [← hw8, wipe_length]
        refine ⟨m', hm, i + 1, H', (I'.unpinned (pins := [])).weak hl (fun j v e => ?_), T.keep _ _ _ st7 fun b hb o e => (pin' b hb o e).1, fun b hb => ?_, w'⟩
        · rw [← hw8] at e
          exact (wipe_some e).1
        · obtain ⟨o, e, _⟩ := T.obj _ _ st7 b hb
          exact (pin' b hb o e).2
      cases b with
      | false =>
        simp only [Bool.false_eq_true, if_false] at q9 ⊢
        exact fin I9 q9
      | true =>
        simp only [if_true] at q9 ⊢
        refine thnF (pe _ s9 σ8 H9 _ I9 q9) fun z s10 ⟨yv, H10, I10, r10, acc, hD10, hz10, nx⟩ => ?_
        exact app_ok (X := X.blk s3 H3 scope ce fp) I10 hD10 hz10 r10 fun s11 I11 => fin I11 nx
  exact codeAny_compStart_list loop (T.self X.A 0 _ _ _ st4 loop)
/-- as a value -/
theorem pe_lc {elt tg iter : Expr} {ifs : List Expr} {scope : Scope} {own : List (Str × Nat)} {pos : Pos} {wi : TI} {g : TG} {tt : TT} {te : TE} (hc : X.calm = true) (hN : X.N.Nodup) (hi : PI X tg iter wi) (ok : BlkOk X.N X.env.scope scope own)
    (hg : ∀ (s : Shared) (H : Hp) (C : Addr) (cl : List (Str × Addr)) (fp : List Addr), PG (X.blk s H scope (compEnvC scope cl C X.env) fp) tg g) (ht : ∀ (s : Shared) (H : Hp) (C : Addr) (cl : List (Str × Addr)) (fp : List Addr), PTs (X.blk s H scope (compEnvC scope cl C X.env) fp) ifs tt)
    (he : ∀ (s : Shared) (H : Hp) (C : Addr) (cl : List (Str × Addr)) (fp : List Addr), PE (X.blk s H scope (compEnvC scope cl C X.env) fp) elt te) (hs : ∀ x, foldedSetIterable iter X.env x = pure x := by intro _; rfl) :
    PE X (.ListComp elt [⟨tg, iter, ifs, 0⟩] scope pos) (tLc wi g tt te (own.map (·.2))) := by
  intro pins s σ H Q I h
  rw [eval_ListComp]
  refine lc_core hc hN I hi ok hg ht he hs h fun D C s' m H' I' q hn f => ⟨m, hn, fun h'' sb => ?_⟩
  obtain ⟨f0, f1, f2, f3, f4, f5⟩ := f
  exact ⟨.ref D, H', I'.turned (t' := s'.toks) (fun b o hb e => (sb.2 b hb).trans e) f0 f1 f3 f4 f5, rfl, q⟩
/-- name = [..] on one line, the name a local -/
theorem ps_setLc {i : Nat} {y : Str} {py : Pos} {elt tg iter : Expr} {ifs : List Expr} {scope : Scope} {own : List (Str × Nat)} {pos spos : Pos} {wi : TI} {g : TG} {tt : TT} {te : TE} (hc : X.calm = true) (hN : X.N.Nodup) (hy : X.N[i]? = some y) (hyl : X.env.scope.names.lookup y = some .local)
    (hsw : swapsWith (.ListComp elt [⟨tg, iter, ifs, 0⟩] scope pos) (some (.Name y py)) spos.line X.env = pure true) (hi : PI X tg iter wi) (ok : BlkOk X.N X.env.scope scope own)
    (hg : ∀ (s : Shared) (H : Hp) (C : Addr) (cl : List (Str × Addr)) (fp : List Addr), PG (X.blk s H scope (compEnvC scope cl C X.env) fp) tg g) (ht : ∀ (s : Shared) (H : Hp) (C : Addr) (cl : List (Str × Addr)) (fp : List Addr), PTs (X.blk s H scope (compEnvC scope cl C X.env) fp) ifs tt)
    (he : ∀ (s : Shared) (H : Hp) (C : Addr) (cl : List (Str × Addr)) (fp : List Addr), PE (X.blk s H scope (compEnvC scope cl C X.env) fp) elt te) (hs : ∀ x, foldedSetIterable iter X.env x = pure x := by intro _; rfl) :
    PS X (.Assign [.Name y py] (.ListComp elt [⟨tg, iter, ifs, 0⟩] scope pos) spos) (tAsg (tLc wi g tt te (own.map (·.2))) (gName i)) := by
  intro pins s σ H D I h
  rw [exec_Assign_Name_used _ _ _ _ hsw]
  refine wpAny_bind (wpAny_standAt (wpAny_bind ?_))
  show wpAny _ X.A (do let _ ← comprehension (.ListComp elt [⟨tg, iter, ifs, 0⟩] scope pos) scope X.env (firstIterPos [⟨tg, iter, ifs, 0⟩] pos) (newList []) false (eval iter X.env) (some (assign (.Name y py) X.env))) _ _ s
  have h : tLc wi g tt te (own.map (·.2)) σ H (fun x H1 => gName i x σ H1 D.nx) := h
  refine wpAny_bind (thn (lc_core (Qf := fun _ s' => SP X pins D .next s') hc hN I hi ok hg ht he hs h fun L C s' m H' I' q hn f => ?_) fun _ s' hq => wpAny_pure (wpAny_pure hq))
  show wpAny _ _ (assign (.Name y py) X.env (.ref L)) _ _ _
  refine wpAny_assign_Name (store_ok2 (v := V.ref L) I' hN hy (.inl hyl) rfl (fun s2 I2 ⟨a, sb, ha⟩ => ?_) (.inr hyl))
  obtain ⟨f0, f1, f2, f3, f4, f5⟩ := f
  have haC : C ≠ a := by
    rcases ha with z | z
    · rw [z]; exact f1
    · exact fun e => f4 y a z e.symm
  refine ⟨m, hn.sameBut sb haC, fun h3 sb3 => ?_⟩
  exact ⟨_, H', I2.turned (t' := s2.toks) (fun b o hb e => (sb3.2 b hb).trans e) f0 f1 f3 f4 f5, q⟩
end

/-! ### the forms one uses -/
/-- over a range: Pv by the turn and the heap (the new list at D within) -/
theorem lc_range {lo : Int} {n : Nat} {g : TG} {tt : TT} {te : TE} {vs : List Nat} {σ : St} {H1 : Hp} {D : Addr} {Qd : Hp → Prop} (Pv : Nat → Hp → Prop) (h0 : Pv 0 (upd H1 D (.lst [])))
    (hs : ∀ i H, i < n → Pv i H → g (.int (lo + i)) (wipe σ vs) H fun σ2 H2 => wipe σ2 vs = wipe σ vs ∧ tt σ2 H2 fun b H3 =>
      if b = true then te σ2 H3 fun y H4 => ∃ acc, H4 D = some (.lst acc) ∧ acc.length < sizeLine ∧ Pv (i + 1) (upd H4 D (.lst (acc ++ [y]))) else Pv (i + 1) H3) (hd : ∀ H, Pv n H → Qd H) :
    ∃ W : Nat → Nat → Hp → Prop, (∃ m, W 0 m (upd H1 D (.lst []))) ∧ ∀ i m H, W i m H →
      ((Itr lo n).stop i H ∧ Qd H) ∨ ((Itr lo n).go i H ∧ ∃ Nx : Hp → Prop, (∀ H', Nx H' → ∃ m', m' < m ∧ W (i + 1) m' H') ∧ ∀ x H', (Itr lo n).yld i H x H' → g x (wipe σ vs) H' fun σ2 H2 => wipe σ2 vs = wipe σ vs ∧ tt σ2 H2 fun b H3 =>
        if b = true then te σ2 H3 fun y H4 => ∃ acc, H4 D = some (.lst acc) ∧ acc.length < sizeLine ∧ Nx (upd H4 D (.lst (acc ++ [y]))) else Nx H3) := by
  refine ⟨fun i m H => m = n - i ∧ i ≤ n ∧ Pv i H, ⟨n, by simp, Nat.zero_le _, h0⟩, ?_⟩
  rintro i m H ⟨rfl, hi, p⟩
  by_cases hlt : i < n
  · refine .inr ⟨hlt, Pv (i + 1), fun H' p' => ⟨n - (i + 1), by omega, rfl, hlt, p'⟩, fun x H' y => ?_⟩
    obtain ⟨e, y⟩ := y
    subst e y
    exact hs i _ hlt p
  · have e : i = n := by omega
    subst e
    exact .inl ⟨Nat.le_refl _, hd H p⟩
/-- over a list that the block leaves as it is -/
theorem lc_list {K : PySem.W.Frag} {a : Addr} {xs : List V} {g : TG} {tt : TT} {te : TE} {vs : List Nat} {σ : St} {H1 : Hp} {D : Addr} {Qd : Hp → Prop} (Pv : Nat → Hp → Prop) (h0 : Pv 0 (upd H1 D (.lst []))) (hl : ∀ i H, i ≤ xs.length → Pv i H → SqL K H a xs)
    (hs : ∀ i x H, xs[i]? = some x → Pv i H → g x (wipe σ vs) H fun σ2 H2 => wipe σ2 vs = wipe σ vs ∧ tt σ2 H2 fun b H3 =>
      if b = true then te σ2 H3 fun y H4 => ∃ acc, H4 D = some (.lst acc) ∧ acc.length < sizeLine ∧ Pv (i + 1) (upd H4 D (.lst (acc ++ [y]))) else Pv (i + 1) H3) (hd : ∀ H, Pv xs.length H → Qd H) :
    ∃ W : Nat → Nat → Hp → Prop, (∃ m, W 0 m (upd H1 D (.lst []))) ∧ ∀ i m H, W i m H →
      ((Itl K a).stop i H ∧ Qd H) ∨ ((Itl K a).go i H ∧ ∃ Nx : Hp → Prop, (∀ H', Nx H' → ∃ m', m' < m ∧ W (i + 1) m' H') ∧ ∀ x H', (Itl K a).yld i H x H' → g x (wipe σ vs) H' fun σ2 H2 => wipe σ2 vs = wipe σ vs ∧ tt σ2 H2 fun b H3 =>
        if b = true then te σ2 H3 fun y H4 => ∃ acc, H4 D = some (.lst acc) ∧ acc.length < sizeLine ∧ Nx (upd H4 D (.lst (acc ++ [y]))) else Nx H3) := by
  refine ⟨fun i m H => m = xs.length - i ∧ i ≤ xs.length ∧ Pv i H, ⟨xs.length, by simp, Nat.zero_le _, h0⟩, ?_⟩
  rintro i m H ⟨rfl, hi, p⟩
  have q := hl i H hi p
  by_cases hlt : i < xs.length
  · refine .inr ⟨⟨xs, xs[i], q, by simp [hlt]⟩, Pv (i + 1), fun H' p' => ⟨xs.length - (i + 1), by omega, rfl, hlt, p'⟩, fun x H' y => ?_⟩
    obtain ⟨e, y⟩ := y
    subst e
    exact hs i x _ (y xs q) p
  · have e : i = xs.length := by omega
    subst e
    exact .inl ⟨⟨xs, q, Nat.le_refl _⟩, hd H p⟩
def blkC (N : List Str) (sc scope : Scope) (own : List (Str × Nat)) : Bool :=
  (match scope.kind with | .function => true | _ => false) && (scope.names.all fun y => decide (scope.names.lookup y.1 = some y.2)) && (own.all fun p => decide (N[p.2]? = some p.1)) &&
    (scope.names.all fun y => match y.2 with
      | .free => (match sc.names.lookup y.1 with | some .cell => true | some .free => true | _ => false)
      | .local => decide (y.1 ∈ own.map (·.1)) || decide (y.1 ∉ N)
      | .cell => decide (y.1 ∈ own.map (·.1)) || decide (y.1 ∉ N)
      | _ => true)
end L2

namespace L2
open PySem PySem.Spec PyProof.Rows

section
variable {prog : Program} {w : World} {A : Around} {R : Result → Shared → Prop} {s : Shared} {elt t0 i0 t1 i1 : Expr} {ifs0 ifs1 : List Expr} {scope : Scope} {pos : Pos} {it acc : Value} {env : Env}
end

section
variable {X : Cx}
/-- [elt for tg in iter if .. for tg1 in iter1 if ..]: behind the first clause's store and tests the second source's own loop, from which Nx is reached. vs: the block's names; vs1: those of the second target -/
def tLc2 (wi : TI) (g : TG) (tt : TT) (wi1 : TI) (g1 : TG) (tt1 : TT) (te : TE) (vs vs1 : List Nat) : TE := fun σ H Q => wi σ H fun J H1 => ∀ D, H1 D = none → ∃ W : Nat → Nat → Hp → Prop, (∃ m, W 0 m (upd H1 D (.lst []))) ∧ ∀ i m H, W i m H →
  (J.stop i H ∧ Q (.ref D) H) ∨ (J.go i H ∧ ∃ Nx : Hp → Prop, (∀ H', Nx H' → ∃ m', m' < m ∧ W (i + 1) m' H') ∧ ∀ x H', J.yld i H x H' → g x (wipe σ vs) H' fun σ2 H2 => wipe σ2 vs = wipe σ vs ∧ tt σ2 H2 fun b H3 =>
    if b = true then wi1 σ2 H3 fun J1 H4 => ∃ W1 : Nat → Nat → Hp → Prop, (∃ m, W1 0 m H4) ∧ ∀ j k H, W1 j k H →
      (J1.stop j H ∧ Nx H) ∨ (J1.go j H ∧ ∃ Nx1 : Hp → Prop, (∀ H', Nx1 H' → ∃ k', k' < k ∧ W1 (j + 1) k' H') ∧ ∀ x H', J1.yld j H x H' → g1 x (wipe σ2 vs1) H' fun σ3 H5 => wipe σ3 vs1 = wipe σ2 vs1 ∧ tt1 σ3 H5 fun b H6 =>
        if b = true then te σ3 H6 fun y H7 => ∃ acc, H7 D = some (.lst acc) ∧ acc.length < sizeLine ∧ Nx1 (upd H7 D (.lst (acc ++ [y]))) else Nx1 H6)
    else Nx H3)
end
end L2

namespace L2
open PySem PySem.Spec PyProof.Rows

/-! ### lists of pairs as tables -/
section
variable {κ : Type} [DecidableEq κ]
def valV (kvs : List (κ × V)) (k : κ) : Option V := (kvs.find? fun kv => decide (kv.1 = k)).map (·.2)
/-- in its place, or at the end -/
def putK (kvs : List (κ × V)) (k : κ) (v : V) : List (κ × V) :=
  if (kvs.any fun kv => decide (kv.1 = k)) = true then kvs.map (fun kv => if kv.1 = k then (kv.1, v) else kv) else kvs ++ [(k, v)]
def dropK (kvs : List (κ × V)) (k : κ) : List (κ × V) := kvs.filter fun kv => decide (kv.1 ≠ k)

theorem valV_pos {p : κ × V} {r : List (κ × V)} {k : κ} (e : p.1 = k) : valV (p :: r) k = some p.2 := by simp [valV, List.find?_cons, e]
theorem valV_neg {p : κ × V} {r : List (κ × V)} {k : κ} (e : ¬ p.1 = k) : valV (p :: r) k = valV r k := by simp [valV, List.find?_cons, e]
theorem valV_any (k : κ) : ∀ kvs : List (κ × V), (kvs.any fun kv => decide (kv.1 = k)) = (valV kvs k).isSome
  | [] => rfl
  | p :: r => by
    rw [List.any_cons]
    by_cases e : p.1 = k
    · simp only [valV_pos e, decide_eq_true e, Bool.true_or, Option.isSome_some]
    · rw [valV_neg e, decide_eq_false e, Bool.false_or]; exact valV_any k r
theorem length_putK (kvs : List (κ × V)) (k : κ) (v : V) : (putK kvs k v).length ≤ kvs.length + 1 := by
  unfold putK
  split
  · rw [List.length_map]; omega
  · rw [List.length_append, List.length_cons, List.length_nil]; omega
theorem putK_new {kvs : List (κ × V)} {k : κ} (v : V) (h : valV kvs k = none) : putK kvs k v = kvs ++ [(k, v)] := by
  unfold putK
  rw [valV_any, h]
  exact if_neg (by decide)

theorem RelO.isSome_eq {o : Option V} {u : Option Value} (r : RelO o u) : o.isSome = u.isSome := by
  cases o with
  | none => cases u with
    | none => rfl
    | some _ => exact (show False from r).elim
  | some _ => cases u with
    | none => exact (show False from r).elim
    | some _ => rfl
/-- raw tables of the same keys -/
theorem KV.val {kvs : List (κ × V)} {vs : List (κ × Value)} (r : KV kvs vs) (k : κ) : RelO (valV kvs k) (valueAt vs k) := by
  unfold KV at r
  induction r with
  | nil => exact True.intro
  | @cons p q ps qs h t ih =>
    obtain ⟨h1, h2⟩ := h
    by_cases e : p.1 = k
    · have e' : q.1 = k := h1.symm.trans e
      have b : valueAt (q :: qs) k = some q.2 := by simp [valueAt, List.find?_cons, e']
      rw [valV_pos e, b]; exact h2
    · have e' : ¬ q.1 = k := fun z => e (h1.trans z)
      have b : valueAt (q :: qs) k = valueAt qs k := by simp [valueAt, List.find?_cons, e']
      rw [valV_neg e, b]; exact ih
theorem KV.any {kvs : List (κ × V)} {vs : List (κ × Value)} (r : KV kvs vs) (k : κ) : (kvs.any fun kv => decide (kv.1 = k)) = vs.any fun kv => decide (kv.1 = k) := by
  unfold KV at r
  induction r with
  | nil => rfl
  | cons h t ih => rw [List.any_cons, List.any_cons, ih, h.1]
theorem KV.repl {kvs : List (κ × V)} {vs : List (κ × Value)} (r : KV kvs vs) (k : κ) {y : V} {u : Value} (ry : RelV y u) :
    KV (kvs.map fun kv => if kv.1 = k then (kv.1, y) else kv) (vs.map fun kv => if kv.1 = k then (kv.1, u) else kv) := by
  unfold KV at r ⊢
  induction r with
  | nil => exact .nil
  | @cons p q ps qs h t ih =>
    rw [List.map_cons, List.map_cons]
    refine .cons ?_ ih
    obtain ⟨h1, h2⟩ := h
    by_cases e : p.1 = k
    · rw [if_pos e, if_pos (h1.symm.trans e)]; exact ⟨h1, ry⟩
    · rw [if_neg e, if_neg (fun z => e (h1.trans z))]; exact ⟨h1, h2⟩
theorem KV.put {kvs : List (κ × V)} {vs : List (κ × Value)} (r : KV kvs vs) (k : κ) {y : V} {u : Value} (ry : RelV y u) : KV (putK kvs k y) (stored vs k u) := by
  unfold putK stored
  rw [r.any k]
  by_cases e : (vs.any fun kv => decide (kv.1 = k)) = true
  · rw [if_pos e, if_pos e]; exact r.repl k ry
  · rw [if_neg e, if_neg e]; exact Paired.snoc r ⟨rfl, ry⟩
theorem KV.length {kvs : List (κ × V)} {vs : List (κ × Value)} (r : KV kvs vs) : kvs.length = vs.length := Paired.length r
end


/-! ### a tracked dict, its keys ints and texts or tuples of these -/
theorem kV_is {P : Program} {w : World} {k : Key} {u : Value} (r : RelV (kV k) u) : (mixKind P w).is k u = true := by
  cases k with
  | inl i => obtain ⟨t, e⟩ := (show ∃ t, u = Value.int i t from r); subst e; exact mixKind_int P w i t
  | inr x => obtain ⟨t, e⟩ := (show ∃ t, u = Value.str x t from r); subst e; exact mixKind_str P w x t
theorem items_are {P : Program} {w : World} : ∀ {ks : List Key} {us : List Value}, Vals (ks.map kV) us → ItemsAre (mixKind P w) ks us
  | [], _, r => by rw [List.map_nil] at r; cases r; exact .nil
  | k :: ks, _, r => by
    rw [List.map_cons] at r
    cases r with
    | cons h t => exact .cons (kV_is h) (items_are t)

/-- raw entries of a dict with tuple keys -/
abbrev KT (H : Hp) : List (List Key × V) → List (List Key × Addr × Value) → Prop := Paired fun p q => p.1 = q.1 ∧ H q.2.1 = some (.tup (p.1.map kV)) ∧ RelV p.2 q.2.2
theorem KT.val {H : Hp} {kvs : List (List Key × V)} {xs : List (List Key × Addr × Value)} (r : KT H kvs xs) (k : List Key) : RelO (valV kvs k) ((atKey xs k).map (·.2)) := by
  induction r with
  | nil => exact True.intro
  | @cons p q ps qs h t ih =>
    obtain ⟨h1, _, h2⟩ := h
    by_cases e : p.1 = k
    · have e' : q.1 = k := h1.symm.trans e
      have b : atKey (q :: qs) k = some q.2 := by simp [atKey, List.find?_cons, e']
      rw [valV_pos e, b]; exact h2
    · have e' : ¬ q.1 = k := fun z => e (h1.trans z)
      have b : atKey (q :: qs) k = atKey qs k := by simp [atKey, List.find?_cons, e']
      rw [valV_neg e, b]; exact ih
theorem KT.repl {H : Hp} {kvs : List (List Key × V)} {xs : List (List Key × Addr × Value)} (r : KT H kvs xs) (k : List Key) {y : V} {u : Value} (ry : RelV y u) :
    KT H (kvs.map fun kv => if kv.1 = k then (kv.1, y) else kv) (xs.map (putAt k u)) := by
  induction r with
  | nil => exact .nil
  | @cons p q ps qs h t ih =>
    rw [List.map_cons, List.map_cons]
    refine .cons ?_ ih
    obtain ⟨h1, h2, h3⟩ := h
    unfold putAt
    by_cases e : p.1 = k
    · rw [if_pos e, if_pos (h1.symm.trans e)]; exact ⟨h1, h2, ry⟩
    · rw [if_neg e, if_neg (fun z => e (h1.trans z))]; exact ⟨h1, h2, h3⟩
theorem KT.put {H : Hp} {kvs : List (List Key × V)} {xs : List (List Key × Addr × Value)} (r : KT H kvs xs) (k : List Key) {b : Addr} {y : V} {u : Value} (hb : H b = some (.tup (k.map kV))) (ry : RelV y u) :
    KT H (putK kvs k y) (storedH xs k b u) := by
  have e : (kvs.any fun kv => decide (kv.1 = k)) = (atKey xs k).isSome := by
    rw [valV_any, (r.val k).isSome_eq, Option.isSome_map]
  unfold putK storedH
  rw [e]
  by_cases q : (atKey xs k).isSome = true
  · rw [if_pos q, if_pos q]; exact r.repl k ry
  · rw [if_neg q, if_neg q]; exact Paired.snoc r ⟨rfl, hb, ry⟩
theorem KT.keeps {H H' : Hp} {kvs : List (List Key × V)} {xs : List (List Key × Addr × Value)} (r : KT H kvs xs) (ht : ∀ b ys, H b = some (.tup ys) → H' b = some (.tup ys)) : KT H' kvs xs :=
  Paired.mapP r fun _ _ z => ⟨z.1, ht _ _ z.2.1, z.2.2⟩

section
variable {P : Program} {w : World} {H : Hp} {h : Heap} {a : Addr}
theorem rd_of {u : HO} (ok : HOk P w H h) (e : Rd H a u) : ObjOk P w H h a u := e.ok ok
theorem dk_rd {kvs : List (Key × V)} (ok : HOk P w H h) (e : Rd H a (.dK kvs)) : kvs.length ≤ sizeLine ∧ (a == sysModules) = false ∧ ∃ vs, KV kvs vs ∧ h.DictOf (mixKind P w) a vs :=
  show ObjOk P w H h a (.dK kvs) from rd_of ok e
theorem dk_of {kvs : List (Key × V)} (ok : HOk P w H h) (e : H a = some (.dK kvs)) : kvs.length ≤ sizeLine ∧ (a == sysModules) = false ∧ ∃ vs, KV kvs vs ∧ h.DictOf (mixKind P w) a vs := dk_rd ok (.inl e)
/-- a tracked tuple of ints and texts is a key -/
theorem key_of {ks : List Key} (ok : HOk P w H h) (e : H a = some (.tup (ks.map kV))) : (tupleKind (mixKind P w)).is h ks a := by
  obtain ⟨_, its, r, o, h1, h2, n, h3⟩ := (show ObjOk P w H h a (.tup (ks.map kV)) from ok a _ e)
  exact ⟨o, its.toArray, n, h1, h2, h3, by simpa using items_are r⟩
theorem dt_rd {kvs : List (List Key × V)} (ok : HOk P w H h) (e : Rd H a (.dT kvs)) : kvs.length ≤ sizeLine ∧ (a == sysModules) = false ∧
    ∃ xs, KT H kvs xs ∧ h.DictOfH (tupleKind (mixKind P w)) a xs := by
  obtain ⟨z, y, xs, r, o, es, ep, h1, h2, h3, h4, h5⟩ := (show ObjOk P w H h a (.dT kvs) from rd_of ok e)
  refine ⟨z, y, xs, r, o, es, ep, h1, h2, h3, h4, fun x hx => ?_, h5⟩
  have all : ∀ {l : List (List Key × V)} {m : List (List Key × Addr × Value)}, KT H l m → ∀ x ∈ m, (tupleKind (mixKind P w)).is h x.1 x.2.1 := by
    intro l m q
    induction q with
    | nil => intro x hx; exact nomatch hx
    | @cons p q ps qs hq t ih =>
      intro x hx
      rcases List.mem_cons.mp hx with e | hx
      · subst e
        exact key_of ok (by rw [← hq.1]; exact hq.2.1)
      · exact ih x hx
  exact all r x hx
theorem dt_of {kvs : List (List Key × V)} (ok : HOk P w H h) (e : H a = some (.dT kvs)) : kvs.length ≤ sizeLine ∧ (a == sysModules) = false ∧
    ∃ xs, KT H kvs xs ∧ h.DictOfH (tupleKind (mixKind P w)) a xs := dt_rd ok (.inl e)
end

/-- what the dict at a holds at the key y -/
def DGet (H : Hp) (a : Addr) (y : V) (r : Option V) : Prop :=
  (∃ kvs k, Rd H a (.dK kvs) ∧ y = kV k ∧ r = valV kvs k) ∨ ∃ kvs k b, Rd H a (.dT kvs) ∧ y = .ref b ∧ H b = some (.tup (k.map kV)) ∧ r = valV kvs k
/-- the heap behind a[y] = v -/
def DPut (H : Hp) (a : Addr) (y v : V) (H' : Hp) : Prop :=
  (∃ kvs k, H a = some (.dK kvs) ∧ y = kV k ∧ kvs.length < sizeLine ∧ H' = upd H a (.dK (putK kvs k v))) ∨
  ∃ kvs k b, H a = some (.dT kvs) ∧ y = .ref b ∧ H b = some (.tup (k.map kV)) ∧ kvs.length < sizeLine ∧ H' = upd H a (.dT (putK kvs k v))
theorem DGet.k {H : Hp} {a : Addr} {kvs : List (Key × V)} {k : Key} (e : H a = some (.dK kvs)) : DGet H a (kV k) (valV kvs k) := .inl ⟨kvs, k, .inl e, rfl, rfl⟩
theorem DPut.k {H : Hp} {a : Addr} {kvs : List (Key × V)} {k : Key} {v : V} (e : H a = some (.dK kvs)) (hl : kvs.length < sizeLine) : DPut H a (kV k) v (upd H a (.dK (putK kvs k v))) := .inl ⟨kvs, k, e, rfl, hl, rfl⟩
section
variable {X : Cx} {pins : List (Addr × Obj)} {σ : St} {H : Hp} {s : Shared} {a : Addr} {y v : V} {u r : Value} {o : Option V} {A : Around} {E : Value → Shared → Prop}

theorem Inv.big (I : Inv X pins σ H s) : sysModules < s.heap.objs.size := by
  have h : mainGlobals < s.heap.objs.size := (I.mod.glob.keeps I.bk).lt
  exact Nat.lt_trans (by decide) h

/-- d[y], there -/
theorem d_getItem {Q : Value → Shared → Prop} (hu : A.units + 1 < cLine) (I : Inv X pins σ H s) (g : DGet H a y (some v)) (ry : RelV y u) (h : ∀ w' s', Inv X pins σ H s' → RelV v w' → Q w' s') :
    wpAny (model X.prog X.w) A (getItem (.ref a) u) Q E s := by
  rcases g with ⟨kvs, k, e, ey, l⟩ | ⟨kvs, k, b, e, ey, eb, l⟩
  · subst ey
    obtain ⟨z, hd, vs, rel, dd⟩ := dk_rd I.hok e
    obtain ⟨w', hw, rw'⟩ := RelO.some_of (v := v) (o := valueAt vs k) (by rw [l]; exact rel.val k)
    exact wpAny_getItem_of (kV_is ry) dd.mapOf hw (h w' _ (I.tok _) rw')
  · subst ey
    cases (show u = Value.ref b from ry)
    obtain ⟨z, hd, xs, rel, dd⟩ := dt_rd I.hok e
    obtain ⟨w', hw, rw'⟩ := RelO.some_of (v := v) (o := (atKey xs k).map (·.2)) (by rw [l]; exact rel.val k)
    obtain ⟨p, hp, hp2⟩ := Option.map_eq_some_iff.mp hw
    refine wpAny_getItem_heap (tupleKind_room_in1 hu) (key_of I.hok eb) dd hp ?_
    rw [hp2]
    exact h w' _ (I.tok _) rw'
/-- y in d -/
theorem d_in {Q : Value → Shared → Prop} (hu : A.units + 1 < cLine) (I : Inv X pins σ H s) (g : DGet H a y o) (ry : RelV y u) (h : ∀ s', Inv X pins σ H s' → Q (.bool o.isSome) s') :
    wpAny (model X.prog X.w) A (compareOp .In u (.ref a)) Q E s := by
  rcases g with ⟨kvs, k, e, ey, l⟩ | ⟨kvs, k, b, e, ey, eb, l⟩
  · subst ey
    obtain ⟨z, hd, vs, rel, dd⟩ := dk_rd I.hok e
    refine wpAny_in_of (kV_is ry) hd dd.mapOf ?_
    rw [← (rel.val k).isSome_eq, ← l]
    exact h _ (I.tok _)
  · subst ey
    cases (show u = Value.ref b from ry)
    obtain ⟨z, hd, xs, rel, dd⟩ := dt_rd I.hok e
    refine wpAny_in_heap (tupleKind_room_in1 hu) (key_of I.hok eb) hd dd ?_
    have q := (rel.val k).isSome_eq
    rw [Option.isSome_map] at q
    rw [← q, ← l]
    exact h _ (I.tok _)
theorem d_notIn {Q : Value → Shared → Prop} (hu : A.units + 1 < cLine) (I : Inv X pins σ H s) (g : DGet H a y o) (ry : RelV y u) (h : ∀ s', Inv X pins σ H s' → Q (.bool (!o.isSome)) s') :
    wpAny (model X.prog X.w) A (compareOp .NotIn u (.ref a)) Q E s := by
  rcases g with ⟨kvs, k, e, ey, l⟩ | ⟨kvs, k, b, e, ey, eb, l⟩
  · subst ey
    obtain ⟨z, hd, vs, rel, dd⟩ := dk_rd I.hok e
    refine wpAny_notIn_of (kV_is ry) hd dd.mapOf ?_
    rw [← (rel.val k).isSome_eq, ← l]
    exact h _ (I.tok _)
  · subst ey
    cases (show u = Value.ref b from ry)
    obtain ⟨z, hd, xs, rel, dd⟩ := dt_rd I.hok e
    refine wpAny_notIn_heap (tupleKind_room_in1 hu) (key_of I.hok eb) hd dd ?_
    have q := (rel.val k).isSome_eq
    rw [Option.isSome_map] at q
    rw [← q, ← l]
    exact h _ (I.tok _)
/-- a dict's object is replaced -/
theorem d_write {h' : Heap} {t' : Nat} {ob : HO} (I : Inv X pins σ H s) (mu : Mut (H a)) (hs : Heap.SameBut a s.heap h') (he : ∃ q, h'.get? a = some q) (new : ObjOk X.prog X.w (upd H a ob) h' a ob) :
    Inv X pins σ (upd H a ob) { s with heap := h', toks := t' } :=
  I.write (x := a) (e := a) mu (.inl rfl) (fun b q hb z => (hs.2 b hb).trans z) he new
theorem dk_new {P : Program} {w : World} {H' : Hp} {h' : Heap} {kvs : List (Key × V)} {vs : List (Key × Value)} (z : kvs.length ≤ sizeLine) (hd : (a == sysModules) = false) (rel : KV kvs vs) (dd : h'.DictOf (mixKind P w) a vs) :
    ObjOk P w H' h' a (.dK kvs) := ⟨z, hd, vs, rel, dd⟩
/-- d[y] = v -/
theorem d_setItem {H' : Hp} {Q : Unit → Shared → Prop} (hu : A.units + 1 < cLine) (I : Inv X pins σ H s) (g : DPut H a y v H') (ry : RelV y u) (rv : RelV v r) (h : ∀ s', Inv X pins σ H' s' → Q () s') :
    wpAny (model X.prog X.w) A (setItem (.ref a) u r) Q E s := by
  rcases g with ⟨kvs, k, e, ey, l, eH⟩ | ⟨kvs, k, b, e, ey, eb, l, eH⟩
  · subst ey eH
    obtain ⟨z, hd, vs, rel, dd⟩ := dk_of I.hok e
    have hz : vs.length ≤ sizeLine := by rw [← rel.length]; exact z
    have hl : (putK kvs k v).length ≤ sizeLine := by have := length_putK kvs k v; omega
    refine wpAny_setItem_pairs (hsz := hz) (kV_is ry) dd fun h' dd' hs => h _ ?_
    have he : ∃ q, h'.get? a = some q := let ⟨q, _, _, hq, _⟩ := dd'; ⟨q, hq⟩
    exact d_write I (by rw [e]; exact True.intro) hs he (dk_new hl hd (rel.put k rv) dd')
  · subst ey eH
    cases (show u = Value.ref b from ry)
    obtain ⟨z, hd, xs, rel, dd⟩ := dt_of I.hok e
    have hz : xs.length ≤ sizeLine := by rw [← Paired.length rel]; exact z
    have hl : (putK kvs k v).length ≤ sizeLine := by have := length_putK kvs k v; omega
    refine wpAny_setItem_heap (hsz := hz) (tupleKind_room_in1 hu) (key_of I.hok eb) dd fun h' dd' hs => h _ ?_
    obtain ⟨q, es, ep, hq, h2, h3, h4, _, h5⟩ := dd'
    refine d_write I (by rw [e]; exact True.intro) hs ⟨q, hq⟩ ⟨hl, hd, _, (rel.put k eb rv).keeps fun c ys ec => ?_, q, es, ep, hq, h2, h3, h4, h5⟩
    rw [upd_ne (ne_of ec e (fun z => nomatch z))]
    exact ec
end

section
variable {X : Cx} {pins : List (Addr × Obj)} {σ : St} {H : Hp} {s : Shared} {a : Addr} {kvs : List (Key × V)} {k : Key} {u : Value} {A : Around} {E : Value → Shared → Prop}
/-- len(d) -/
theorem d_len {Q : Value → Shared → Prop} (I : Inv X pins σ H s) (e : Rd H a (.dK kvs)) (h : ∀ t s', Inv X pins σ H s' → Q (.int kvs.length t) s') : wpAny (model X.prog X.w) A (call (.builtin "len") [.ref a]) Q E s := by
  obtain ⟨z, hd, vs, rel, dd⟩ := dk_rd I.hok e
  refine call_len_dict hd dd (by rw [← rel.length]; rw [sizeLine_eq] at z; omega) ?_
  rw [← rel.length]
  exact h _ _ (I.tok _)
end


/-! ### readings and rules -/
/-- the element of a subscription, not a slice -/
def NoSl (i : Expr) : Prop := ∀ ov iv, subscripted i false ov iv = operate [ov, iv] (getItem ov iv)
theorem subD_of {prog : Program} {w : World} {A : Around} {E : Value → Shared → Prop} {s : Shared} {env : Env} {value slice : Expr} {pos : Pos} {T id : String} {Q : Value → Shared → Prop}
    (hl : typeLookup (.type T) "__getitem__" = pure (some (.builtin id))) (hs : NoSl slice)
    (h : wpAny (model prog w) A (eval value env) (fun o s₁ => wpAny (model prog w) A (eval slice env) (fun i s₂ => s₂.TypeIs o T ∧ wpAny (model prog w) A (getItem o i) Q E s₂) E s₁) E s) :
    wpAny (model prog w) A (eval (.Subscript value slice pos) env) Q E s := by
  refine Subscript_ (wpAny_mono h (fun o s₁ h₁ => wpAny_mono h₁ (fun i s₂ h₂ => ?_) fun _ _ x => x) fun _ _ x => x)
  obtain ⟨hT, h₂⟩ := h₂
  unfold subscriptTail
  refine wpAny_bind ?_
  rw [getitemInPython_of_ne hT.not_modules]
  refine wpAny_bind (wpAny_specialOf hT hl ?_)
  have fin : wpAny (model prog w) A (subscripted slice false o i) (fun r s₃ => wpAny (model prog w) A (letTemporaryGo value o r >>= fun _ => pure r) Q E s₃) E s₂ := by
    rw [hs o i]
    exact wpAny_operating (wpAny_mono h₂ (fun r s₃ h₃ => wpAny_bind (wpAny_letTemporaryGo (wpAny_pure h₃))) fun _ _ x => x)
  first
    | exact wpAny_pure (wpAny_bind fin)
    | exact wpAny_bind (wpAny_pure (wpAny_bind fin))
    | exact wpAny_bind fin

theorem dict_typeIs {X : Cx} {pins : List (Addr × Obj)} {σ : St} {H : Hp} {s : Shared} {a : Addr} {y : V} {o : Option V} (I : Inv X pins σ H s) (g : DGet H a y o) : s.TypeIs (.ref a) "dict" := by
  rcases g with ⟨kvs, k, e, _, _⟩ | ⟨kvs, k, b, e, _, _, _⟩
  · obtain ⟨_, _, vs, _, dd⟩ := dk_rd I.hok e
    exact dd.typeIs
  · obtain ⟨_, _, xs, _, dd⟩ := dt_rd I.hok e
    exact dd.typeIs
/-- d[y] -/
def tDGet (td ty : TE) : TE := fun σ H Q => td σ H fun x H1 => ty σ H1 fun y H2 => ∃ a v, x = .ref a ∧ DGet H2 a y (some v) ∧ Q v H2
/-- y in d, y not in d -/
def tDIn (ty td : TE) : TE := fun σ H Q => ty σ H fun y H1 => td σ H1 fun x H2 => ∃ a o, x = .ref a ∧ DGet H2 a y o ∧ Q (.bl o.isSome) H2
def tDNotIn (ty td : TE) : TE := fun σ H Q => ty σ H fun y H1 => td σ H1 fun x H2 => ∃ a o, x = .ref a ∧ DGet H2 a y o ∧ Q (.bl (!o.isSome)) H2
/-- d[y] = v -/
def sDPut (td ty tv : TE) : TS := fun D σ H => tv σ H fun v H1 => td σ H1 fun x H2 => ty σ H2 fun y H3 => ∃ a H4, x = .ref a ∧ DPut H3 a y v H4 ∧ D.nx σ H4
/-- d[y] op= v -/
def sDAug (td ty tv : TE) (rd : V → V → Hp → VK → Prop) : TS := fun D σ H => td σ H fun x H1 => ty σ H1 fun y H2 => ∃ a v, x = .ref a ∧ DGet H2 a y (some v) ∧
  tv σ H2 fun y2 H3 => rd v y2 H3 fun z H4 => ∃ H5, DPut H4 a y z H5 ∧ D.nx σ H5
/-- del d[y] -/
def sDDel (td ty : TE) : TS := fun D σ H => td σ H fun x H1 => ty σ H1 fun y H2 => ∃ a kvs k, x = .ref a ∧ H2 a = some (.dK kvs) ∧ y = kV k ∧ (valV kvs k).isSome = true ∧ D.nx σ (upd H2 a (.dK (dropK kvs k)))

section
variable {X : Cx} {o i e value : Expr} {pos pos' tpos : Pos} {td ty tv : TE}
theorem pe_dget (hu : X.A.units + 1 < cLine) (ho : PE X o td) (hi : PE X i ty) (hs : NoSl i) : PE X (.Subscript o i pos) (tDGet td ty) := by
  intro pins s σ H Q I h
  refine subD_of PySem.F.slot_dict_getitem.lookup hs (thn (ho pins s σ H _ I h) fun u s1 ⟨x, H1, I1, rx, q1⟩ => thn (hi pins s1 σ H1 _ I1 q1) fun iv s2 ⟨y, H2, I2, ry, a, v, ex, g, q2⟩ => ?_)
  subst ex
  obtain rfl : u = Value.ref a := rx
  exact ⟨dict_typeIs I2 g, d_getItem hu I2 g ry fun w' s3 I3 rw' => ⟨v, H2, I3, rw', q2⟩⟩
theorem pc_din (hu : X.A.units + 1 < cLine) (hi : PE X i ty) (ho : PE X o td) : PC X .In i o (tDIn ty td) := by
  intro pins s σ H Q I h
  refine thn (hi pins s σ H _ I h) fun iv s1 ⟨y, H1, I1, ry, q1⟩ => thn (ho pins s1 σ H1 _ I1 q1) fun u s2 ⟨x, H2, I2, rx, a, ov, ex, g, q2⟩ => ?_
  subst ex
  obtain rfl : u = Value.ref a := rx
  exact d_in hu I2 g ry fun s3 I3 => ⟨.bl ov.isSome, H2, I3, rfl, q2⟩
theorem pc_dnotin (hu : X.A.units + 1 < cLine) (hi : PE X i ty) (ho : PE X o td) : PC X .NotIn i o (tDNotIn ty td) := by
  intro pins s σ H Q I h
  refine thn (hi pins s σ H _ I h) fun iv s1 ⟨y, H1, I1, ry, q1⟩ => thn (ho pins s1 σ H1 _ I1 q1) fun u s2 ⟨x, H2, I2, rx, a, ov, ex, g, q2⟩ => ?_
  subst ex
  obtain rfl : u = Value.ref a := rx
  exact d_notIn hu I2 g ry fun s3 I3 => ⟨.bl (!ov.isSome), H2, I3, rfl, q2⟩
theorem ps_dput (hu : X.A.units + 1 < cLine) (ho : PE X o td) (hi : PE X i ty) (hv : PE X value tv) (hs : swapsWith value (some (.Subscript o i pos')) pos.line X.env = pure false) :
    PS X (.Assign [.Subscript o i pos'] value pos) (sDPut td ty tv) := by
  intro pins s σ H D I h
  refine wpAny_Assign_Subscript (thn (hv pins s σ H _ I h) fun r s1 ⟨v, H1, I1, rv, q1⟩ => thn (ho pins s1 σ H1 _ I1 q1) fun u s2 ⟨x, H2, I2, rx, q2⟩ => thn (hi pins s2 σ H2 _ I2 q2) fun iv s3 ⟨y, H3, I3, ry, a, H4, ex, g, q3⟩ => ?_) hs
  subst ex
  obtain rfl : u = Value.ref a := rx
  exact d_setItem hu I3 g ry rv fun s4 I4 => ⟨σ, H4, I4, q3⟩
end


/-! ### displays -/
theorem dk_empty {P : Program} {w : World} {H : Hp} (h : Heap) (hb : sysModules < h.objs.size) : ObjOk P w H (h.push { cls := .type "dict", data := .dict #[] }) h.objs.size (.dK []) :=
  ⟨Nat.zero_le _, beq_eq_false_iff_ne.mpr (Ne.symm (Nat.ne_of_lt hb)), [], .nil, Heap.DictOf.new h⟩
/-- {}, to be a dict of the kind that is wanted -/
def tDNewK : TE := fun _ H Q => ∀ p, H p = none → Q (.ref p) (upd H p (.dK []))
def tDNewT : TE := fun _ H Q => ∀ p, H p = none → Q (.ref p) (upd H p (.dT []))
section
variable {X : Cx} {pos : Pos}
theorem pe_dnewK : PE X (.Dict [] [] pos) tDNewK := fun pins s σ H Q I h =>
  wpAny_Dict_empty ⟨.ref s.heap.objs.size, _, I.laid (a := s.heap.objs.size) (o := .dK []) (t' := s.toks) (fun _ _ q => Heap.get?_push_of_some _ q) (Nat.le_refl _) (dk_empty s.heap I.big), rfl, h _ (I.hok.fresh (Nat.le_refl _))⟩
end

/-- the pairs of a display, from the left -/
def tPairs : List (TE × TE) → St → Hp → (List (V × V) → Hp → Prop) → Prop
  | [], _, H, Q => Q [] H
  | (tk, tv) :: r, σ, H, Q => tk σ H fun x H1 => tv σ H1 fun y H2 => tPairs r σ H2 fun ps H3 => Q ((x, y) :: ps) H3
abbrev VV : List (V × V) → List (Value × Value) → Prop := Paired fun p q => RelV p.1 q.1 ∧ RelV p.2 q.2
def PPs (X : Cx) (pos : Pos) (keys : List (Option Expr)) (values : List Expr) (trs : List (TE × TE)) : Prop :=
  ∀ (pins : List (Addr × Obj)) (s : Shared) (σ : St) (H : Hp) (Q : List (V × V) → Hp → Prop), Inv X pins σ H s → tPairs trs σ H Q →
    wpAny (model X.prog X.w) X.A (evalPairs (pairTrees keys values X.env pos)) (fun vs s' => ∃ ps H', Inv X pins σ H' s' ∧ VV ps vs ∧ Q ps H') X.xe s
theorem pps_nil {X : Cx} {pos : Pos} : PPs X pos [] [] [] := fun pins s σ H Q I h => pairTrees_nil_walk ⟨[], H, I, .nil, h⟩
theorem pps_cons {X : Cx} {pos : Pos} {k v : Expr} {ks : List (Option Expr)} {vs : List Expr} {tk tv : TE} {trs : List (TE × TE)} (hk : PE X k tk) (hv : PE X v tv) (hr : PPs X pos ks vs trs) :
    PPs X pos (some k :: ks) (v :: vs) ((tk, tv) :: trs) := fun pins s σ H Q I h =>
  pairTrees_cons_walk (thn (hk pins s σ H _ I h) fun u s1 ⟨x, H1, I1, rx, q1⟩ => thn (hv pins s1 σ H1 _ I1 q1) fun w2 s2 ⟨y, H2, I2, ry, q2⟩ =>
    thn (hr pins s2 σ H2 _ I2 q2) fun ws s3 ⟨ps, H3, I3, rel, q3⟩ => ⟨(x, y) :: ps, H3, I3, .cons ⟨rx, ry⟩ rel, q3⟩)

def mergeK (kvs more : List (Key × V)) : List (Key × V) := more.foldl (fun acc kv => putK acc kv.1 kv.2) kvs
theorem KV.merge : ∀ {more : List (Key × V)} {rs : List (Key × Value)} {kvs : List (Key × V)} {vs : List (Key × Value)}, KV more rs → KV kvs vs → KV (mergeK kvs more) (merged vs rs) := by
  intro more rs kvs vs r
  unfold KV at r
  induction r generalizing kvs vs with
  | nil => intro q; exact q
  | @cons p q ps qs h t ih =>
    intro r0
    have e : KV (putK kvs p.1 p.2) (stored vs q.1 q.2) := by
      have := r0.put p.1 h.2
      rw [← h.1]; exact this
    exact ih e
theorem length_mergeK : ∀ (more kvs : List (Key × V)), (mergeK kvs more).length ≤ kvs.length + more.length
  | [], kvs => by show kvs.length ≤ kvs.length + 0; omega
  | p :: r, kvs => by
    have h1 := length_mergeK r (putK kvs p.1 p.2)
    have h2 := length_putK kvs p.1 p.2
    show (mergeK (putK kvs p.1 p.2) r).length ≤ _
    rw [List.length_cons]; omega
theorem carries_of {P : Program} {w : World} : ∀ {kvs : List (Key × V)} {ws : List (Value × Value)}, VV (kvs.map fun kv => (kV kv.1, kv.2)) ws → ∃ rs, Carries (mixKind P w) ws rs ∧ KV kvs rs
  | [], _, r => by rw [List.map_nil] at r; cases r; exact ⟨[], True.intro, .nil⟩
  | p :: kvs, _, r => by
    rw [List.map_cons] at r
    cases r with
    | @cons a b as bs h t =>
      obtain ⟨rs, c, q⟩ := carries_of (P := P) (w := w) t
      obtain ⟨b1, b2⟩ := b
      exact ⟨(p.1, b2) :: rs, ⟨kV_is h.1, rfl, c⟩, .cons ⟨rfl, h.2⟩ q⟩
/-- {k: v, ..} with keys ints and texts; the new dict stands empty while the pairs are made -/
def tDisp (trs : List (TE × TE)) : TE := fun σ H Q => ∀ p, H p = none → tPairs trs σ (upd H p (.dK [])) fun ps H2 => H2 p = some (.dK []) ∧ ∃ kvs : List (Key × V), ps = kvs.map (fun kv => (kV kv.1, kv.2)) ∧ kvs.length ≤ 15 ∧ Q (.ref p) (upd H2 p (.dK (mergeK [] kvs)))
theorem pe_disp {X : Cx} {pos : Pos} {keys : List (Option Expr)} {values : List Expr} {trs : List (TE × TE)} (h : PPs X pos keys values trs) (hall : keys.all (·.isSome) = true) (hl : keys.length = values.length) (h0 : keys ≠ [])
    (h15 : keys.length ≤ 15) : PE X (.Dict keys values pos) (tDisp trs) := by
  intro pins s σ H Q I q
  have hn := I.hok.fresh (Nat.le_refl s.heap.objs.size)
  have I1 := I.laid (a := s.heap.objs.size) (o := .dK []) (h' := s.heap.push { cls := .type "dict", data := .dict #[] }) (t' := s.toks) (fun _ _ q => Heap.get?_push_of_some _ q) (Nat.le_refl _) (dk_empty s.heap I.big)
  refine wpAny_Dict_walk (knd := mixKind X.prog X.w) hall hl h0 h15 (thn (h pins _ σ _ _ I1 (q _ hn)) fun ws s2 ⟨ps, H2, I2, rel, e, kvs, ep, lk, q2⟩ => ?_)
  subst ep
  obtain ⟨rs, c, rk⟩ := carries_of (P := X.prog) (w := X.w) rel
  obtain ⟨z, hd, vs0, r0, dd⟩ := dk_of I2.hok e
  cases r0
  refine ⟨rs, c, dd, fun h' dd' hs => ⟨.ref s.heap.objs.size, _, ?_, rfl, q2⟩⟩
  have hz : (mergeK [] kvs).length ≤ sizeLine := by
    have h1 := length_mergeK kvs []
    rw [List.length_nil] at h1
    rw [sizeLine_eq]; omega
  have he : ∃ q, h'.get? s.heap.objs.size = some q := let ⟨q, _, _, hq, _⟩ := dd'; ⟨q, hq⟩
  exact d_write I2 (by rw [e]; exact True.intro) hs he (dk_new hz hd (rk.merge .nil) dd')


/-! ### methods -/
/-- a method call o.m(e) of a built-in, with one argument: what must be seen of the text -/
structure M1 (X : Cx) (o : Expr) (m : Str) (apos : Pos) (e : Expr) (cpos : Pos) : Prop where
  base : attributeBase o m X.env (eval o X.env) = eval o X.env
  few : ((backTo cpos (starEach [e] X.env)).all (fun x => !x.1) && (backToKw cpos (keywordEach [] X.env)).all (fun x => x.1.isSome)
    && decide (([e] : List Expr).length + ([] : List Keyword).length + (if ([] : List Keyword).isEmpty then 0 else 1) < 30)) = true
  line : (apos.endLine == cpos.line) = true
  trees : backTo cpos (starEach [e] X.env) = [(false, eval e X.env)]
structure M2 (X : Cx) (o : Expr) (m : Str) (apos : Pos) (e f : Expr) (cpos : Pos) : Prop where
  base : attributeBase o m X.env (eval o X.env) = eval o X.env
  few : ((backTo cpos (starEach [e, f] X.env)).all (fun x => !x.1) && (backToKw cpos (keywordEach [] X.env)).all (fun x => x.1.isSome)
    && decide (([e, f] : List Expr).length + ([] : List Keyword).length + (if ([] : List Keyword).isEmpty then 0 else 1) < 30)) = true
  line : (apos.endLine == cpos.line) = true
  trees : backTo cpos (starEach [e, f] X.env) = [(false, eval e X.env), (false, eval f X.env)]

/-- a is a dict, whatever its keys -/
def IsD (H : Hp) (a : Addr) : Prop := (∃ kvs, Rd H a (.dK kvs)) ∨ ∃ kvs, Rd H a (.dT kvs)
section
variable {X : Cx} {pins : List (Addr × Obj)} {σ : St} {H : Hp} {s : Shared} {a : Addr} {y d : V} {u r : Value} {o : Option V} {A : Around} {E : Value → Shared → Prop}
end

def tDGet1 (td ty : TE) : TE := fun σ H Q => td σ H fun x H1 => ∃ a, x = .ref a ∧ IsD H1 a ∧ ty σ H1 fun y H2 => ∃ o, DGet H2 a y o ∧ Q (o.getD .non) H2
def tDGet2 (td ty tx : TE) : TE := fun σ H Q => td σ H fun x H1 => ∃ a, x = .ref a ∧ IsD H1 a ∧ ty σ H1 fun y H2 => tx σ H2 fun z H3 => ∃ o, DGet H3 a y o ∧ Q (o.getD z) H3
/-- d.pop(k): there; d.pop(k, x): there or not -/
def tDPop1 (td ty : TE) : TE := fun σ H Q => td σ H fun x H1 => ∃ a, x = .ref a ∧ IsD H1 a ∧ ty σ H1 fun y H2 => ∃ kvs k v, H2 a = some (.dK kvs) ∧ y = kV k ∧ valV kvs k = some v ∧ Q v (upd H2 a (.dK (dropK kvs k)))
def tDPop2 (td ty tx : TE) : TE := fun σ H Q => td σ H fun x H1 => ∃ a, x = .ref a ∧ IsD H1 a ∧ ty σ H1 fun y H2 => tx σ H2 fun z H3 => ∃ kvs k, H3 a = some (.dK kvs) ∧ y = kV k ∧
  (∀ v, valV kvs k = some v → Q v (upd H3 a (.dK (dropK kvs k)))) ∧ (valV kvs k = none → Q z H3)
section
variable {X : Cx} {o e f : Expr} {apos cpos : Pos} {td ty tx : TE}
end

/-! ### dict(d): a copy -/
section
variable {X : Cx} {pins : List (Addr × Obj)} {σ : St} {H : Hp} {s : Shared} {a : Addr} {kvs : List (Key × V)} {A : Around} {E : Value → Shared → Prop}
end


section
variable {X : Cx} {pins : List (Addr × Obj)} {σ : St} {H : Hp} {s : Shared} {a : Addr} {y : V} {u : Value} {A : Around} {E : Value → Shared → Prop}
end
end L2

namespace L2
open PySem PySem.Spec PyProof.Rows

section
variable {prog : Program} {w : World} {A : Around} {E : Value → Shared → Prop}
end

section
variable {X : Cx}
end
end L2

namespace L2
open PySem PySem.Spec PyProof.Rows

section
variable {X : Cx} {pins : List (Addr × Obj)} {σ : St} {H : Hp} {s : Shared} {h' : Heap}
/-- .. and one new object is laid -/
theorem Inv.turnedNew {t' : Nat} {ch : List Addr} {T : Addr} {ob : HO} (I : Inv X pins σ H s) (k : ∀ b o, b ∉ ch → s.heap.get? b = some o → h'.get? b = some o) (hf : ∀ b ∈ ch, FpOk X pins H b) (hT : s.heap.objs.size ≤ T)
    (new : ObjOk X.prog X.w (upd H T ob) h' T ob) : Inv X pins σ (upd H T ob) { s with heap := h', toks := t' } := by
  have hn : H T = none := I.hok.fresh hT
  have nit : ∀ b u, H b = some u → b ∉ ch := fun b u e z => by
    have q := (hf b z).1
    rw [q] at e; cases e
  refine I.step (g' := s.gens) (d' := s.drawn) (ch := ch) (fun b hb => ⟨(hf b hb).2.2.2.1, (hf b hb).2.1, (hf b hb).2.2.2.2.1, (hf b hb).2.2.2.2.2⟩) (fun b o _ _ hc e _ => k b o hc e) (fun b o _ _ hc e _ => ⟨o.slots, k b o hc e⟩)
    (fun b o _ e n => ?_) (fun b o hc e => ⟨o, k b o hc e⟩) (fun b xs e => ?_) (fun b o u e => ?_) (fun b ps e => ⟨#[], ?_⟩) (fun m hm => ?_) (fun b u e => ?_) I.bare
  · rw [upd_ne (Nat.ne_of_lt (Nat.lt_of_lt_of_le (Heap.lt_size e) hT))]; exact n
  · rw [upd_ne (ne_of_none e hn)]; exact e
  · rw [upd_ne (ne_of_none e hn)]; exact e
  · rw [upd_ne (ne_of_none e hn), e]; simp
  · obtain ⟨o, es, ep, ho, r⟩ := hm
    exact ⟨o, es, ep, k _ o (fun z => (hf _ z).2.1 rfl) ho, r⟩
  · by_cases hb : b = T
    · subst hb
      rw [upd_same] at e
      cases e
      exact new
    · rw [upd_ne hb] at e
      refine (I.hok b u e).stay (fun c v hc q => k c v ?_ q) (fun c q => by rw [upd_ne (ne_of_none q hn)]; exact q) fun c xs q => by rw [upd_ne (ne_of_none q hn)]; exact q
      rcases hc with z | z
      · rw [z]; exact nit b u e
      · exact nit c _ z

/-! ### locking a thing while a statement runs -/
end
/-- the statement runs while the thing at d is locked (read, not written); d and what stands there are the reading's choice -/
def tLock (t : TS) : TS := fun D σ H => ∃ d u, H d = some u ∧ Mut (some u) ∧ ∀ od, t ⟨fun σ' H' => H' d = some (.frz od u) ∧ D.nx σ' (upd H' d u), fun v H' => H' d = some (.frz od u) ∧ D.rt v (upd H' d u), fun σ' H' => H' d = some (.frz od u) ∧ D.bk σ' (upd H' d u), fun σ' H' => H' d = some (.frz od u) ∧ D.ct σ' (upd H' d u)⟩ σ (upd H d (.frz od u))
def tLockE (t : TE) : TE := fun σ H Q => ∃ d u, H d = some u ∧ Mut (some u) ∧ ∀ od, t σ (upd H d (.frz od u)) fun v H' => H' d = some (.frz od u) ∧ Q v (upd H' d u)
section
variable {X : Cx}
/-! ### one iterator just laid -/
end

/-! ### range with a step -/
/-- lo, lo + c, .. (n of them) -/
def Itc (lo c : Int) (n : Nat) : It := ⟨fun i _ => i < n, fun i H x H' => H' = H ∧ x = .int (lo + (i : Nat) * c), fun i _ => n ≤ i⟩
/-- range(i, j, c): small bounds, n items -/
def RgC (i j c : Int) (n : Nat) : Prop := c ≠ 0 ∧ c.natAbs < 1073741824 ∧ Builtin.Range.small i j c = true ∧ Builtin.Range.rangeSize i j c = n
def iRng3 (ta : TA) : TI := fun σ H R => ta σ H fun vs H1 => ∃ (i j c : Int) (n : Nat), vs = [.int i, .int j, .int c] ∧ RgC i j c n ∧ R (Itc i c n) H1
section
variable {X : Cx} {tg : Expr}
end
/-! ### reversed(list) -/
/-- the list at a (n items at the start, which the loop leaves there), from its end -/
def Itv (K : PySem.W.Frag) (a : Addr) (n : Nat) : It :=
  ⟨fun i H => i < n ∧ ∃ (xs : List V) (x : V), SqL K H a xs ∧ xs[n - 1 - i]? = some x, fun i H x H' => H' = H ∧ ∀ xs, SqL K H a xs → xs[n - 1 - i]? = some x, fun i _ => n ≤ i⟩
def iRev (K : PySem.W.Frag) (ta : TA) : TI := fun σ H R => ta σ H fun vs H1 => ∃ (a : Addr) (xs : List V), vs = [.ref a] ∧ SqL K H1 a xs ∧ R (Itv K a xs.length) H1
section
variable {X : Cx} {tg : Expr}
end

/-! ### a str -/
def Its (x : Str) : It := ⟨fun i _ => i < x.cps.size, fun i H v H' => H' = H ∧ ∃ c, x.cps[i]? = some c ∧ v = .str ⟨#[c]⟩, fun i _ => x.cps.size ≤ i⟩
def iStr (te : TE) : TI := fun σ H R => te σ H fun v H1 => ∃ x, v = .str x ∧ R (Its x) H1
/-! ### a dict's keys: any dict's entries -/
section
variable {prog : Program} {w : World} {A : Around} {E : Value → Shared → Prop} {s : Shared}
end

/-! ### a locked dict -/
theorem paired_get {α β : Type} {G : α → β → Prop} {l₁ : List α} {l₂ : List β} (h : Paired G l₁ l₂) : ∀ {i : Nat} {a : α}, l₁[i]? = some a → ∃ b, l₂[i]? = some b ∧ G a b := by
  induction h with
  | nil => intro i a e; simp at e
  | @cons a b l₁ l₂ r t ih =>
    intro i a' e
    cases i with
    | zero =>
      simp only [List.getElem?_cons_zero, Option.some.injEq] at e
      subst e
      exact ⟨b, rfl, r⟩
    | succ j =>
      simp only [List.getElem?_cons_succ] at e ⊢
      exact ih e
theorem relV_key {k : Key} {u : Value} (h : keyIs k u = true) : RelV (kV k) u := by
  rcases keyIs_shape h with ⟨i, t, rfl, rfl⟩ | ⟨x, t, rfl, rfl⟩
  · exact ⟨t, rfl⟩
  · exact ⟨t, rfl⟩
section
variable {X : Cx} {pins : List (Addr × Obj)} {σ : St} {H : Hp} {s : Shared} {d : Addr} {o : Obj}
end

/-- the keys of the locked dict at d, in their order -/
def Itk (d : Addr) (o : Obj) (kvs : List (Key × V)) : It :=
  ⟨fun i H => H d = some (.frz o (.dK kvs)) ∧ i < kvs.length, fun i H x H' => H' = H ∧ ∃ k v, kvs[i]? = some (k, v) ∧ x = kV k, fun i H => H d = some (.frz o (.dK kvs)) ∧ kvs.length ≤ i⟩
/-- .. of tuple keys: the key's own tuple -/
def Itkt (d : Addr) (o : Obj) (kvs : List (List Key × V)) : It :=
  ⟨fun i H => H d = some (.frz o (.dT kvs)) ∧ i < kvs.length, fun i H x H' => H' = H ∧ ∃ (k : List Key) (v : V) (q : Addr), kvs[i]? = some (k, v) ∧ x = .ref q ∧ H q = some (.tup (k.map kV)), fun i H => H d = some (.frz o (.dT kvs)) ∧ kvs.length ≤ i⟩
/-- the values -/
def Itd (d : Addr) (o : Obj) (kvs : List (Key × V)) : It :=
  ⟨fun i H => H d = some (.frz o (.dK kvs)) ∧ i < kvs.length, fun i H x H' => H' = H ∧ ∃ k, kvs[i]? = some (k, x), fun i H => H d = some (.frz o (.dK kvs)) ∧ kvs.length ≤ i⟩
/-- the pairs, each a new tuple -/
def Iti (d : Addr) (o : Obj) (kvs : List (Key × V)) : It :=
  ⟨fun i H => H d = some (.frz o (.dK kvs)) ∧ i < kvs.length, fun i H x H' => ∃ T k v, kvs[i]? = some (k, v) ∧ x = .ref T ∧ H T = none ∧ H' = upd H T (.tup [kV k, v]), fun i H => H d = some (.frz o (.dK kvs)) ∧ kvs.length ≤ i⟩
section
variable {P : Program} {w : World} {K : PySem.W.Frag} {tg : Expr} {d : Addr} {o : Obj} {es : Array DictEntry} {ep : Nat}
end

/-! ### for k in d, d.keys(), d.values(), d.items() -/
/-- the dict is locked (tLock, or by the caller) -/
def iKeys (td : TE) : TI := fun σ H R => td σ H fun x H1 => ∃ d o, x = .ref d ∧ ((∃ kvs, H1 d = some (.frz o (.dK kvs)) ∧ R (Itk d o kvs) H1) ∨ ∃ kvs, H1 d = some (.frz o (.dT kvs)) ∧ R (Itkt d o kvs) H1)
def iVals (td : TE) : TI := fun σ H R => td σ H fun x H1 => ∃ d o kvs, x = .ref d ∧ H1 d = some (.frz o (.dK kvs)) ∧ R (Itd d o kvs) H1
def iItems (td : TE) : TI := fun σ H R => td σ H fun x H1 => ∃ d o kvs, x = .ref d ∧ H1 d = some (.frz o (.dK kvs)) ∧ R (Iti d o kvs) H1
def iKeysM (td : TE) : TI := fun σ H R => td σ H fun x H1 => ∃ d o kvs, x = .ref d ∧ H1 d = some (.frz o (.dK kvs)) ∧ R (Itk d o kvs) H1
section
variable {X : Cx} {tg e : Expr} {td : TE} {apos cpos : Pos}
end

/-! ### enumerate(list) -/
/-- the list at a as it stands at each turn, each item in a new pair -/
def Ite (K : PySem.W.Frag) (a : Addr) : It :=
  ⟨fun i H => ∃ (xs : List V) (x : V), SqL K H a xs ∧ xs[i]? = some x, fun i H v H' => ∃ T x, v = .ref T ∧ H T = none ∧ H' = upd H T (.tup [.int (i : Nat), x]) ∧ ∀ xs, SqL K H a xs → xs[i]? = some x, fun i H => ∃ xs : List V, SqL K H a xs ∧ xs.length ≤ i⟩
theorem turn_enum {P : Program} {w : World} {K : PySem.W.Frag} {elts : List Expr} {kk : Nat} {tpos : Pos} (a e it : Addr) :
    Turn P w K (.Tuple elts kk tpos) (Ite K a) [e, it] e (fun i h => (∃ old, IsEnum h e it ((i : Nat) : Int) old) ∧ h.IsListIter it a i ∧ e ≠ it) where
  mem := by simp
  obj := fun i h st b hb => by
    obtain ⟨⟨old, he⟩, ⟨o, ho, hc, hd⟩, _⟩ := st
    have e' : b = e ∨ b = it := by simpa using hb
    rcases e' with z | z
    · rw [z]; exact ⟨_, he, fun v q => nomatch q⟩
    · rw [z]; exact ⟨o, ho, fun v q => by rw [hd] at q; cases q⟩
  keep := fun i h h' st k => let ⟨⟨old, he⟩, hi, hne⟩ := st; ⟨⟨old, k e (by simp) _ he⟩, hi.at fun o q => k it (by simp) o q, hne⟩
  item := by
    intro X hP hw hK hc i pins s σ H E I hf st hg
    subst hP hw hK
    obtain ⟨⟨old, he⟩, hit, hne⟩ := st
    obtain ⟨xs, x, hq, hx⟩ := hg
    obtain ⟨its, rv, p, hz⟩ := I.list hq
    obtain ⟨u, hu, ru⟩ := rv.get hx
    have hel : e < s.heap.objs.size := Heap.lt_size he
    have hil : it < s.heap.objs.size := by obtain ⟨_, q, _⟩ := hit; exact Heap.lt_size q
    refine wpAny_pyNext_enum_item he hit p.isList (x := u) (by simpa using hu) hne fun h' ho hit' hT hsz hk => ?_
    refine ⟨_, rfl, wpAny_letOwnedTupleGo_enum (s := { s with heap := h', toks := s.toks + 1 }) ho fun h'' he' sb => ?_⟩
    have hT2 : h''.get? s.heap.objs.size = some { cls := .type "tuple", data := .seq #[.int i s.toks, u] } := (sb.2 _ (Nat.ne_of_gt hel)).trans hT
    have new : ObjOk X.prog X.w (upd H s.heap.objs.size (.tup [.int (i : Nat), x])) h'' s.heap.objs.size (.tup [.int (i : Nat), x]) :=
      ⟨by show 2 ≤ sizeLine; decide, [.int i s.toks, u], .cons ⟨_, rfl⟩ (.cons ru .nil), ⟨_, hT2, rfl, _, rfl⟩⟩
    have I1 : Inv X pins σ (upd H s.heap.objs.size (.tup [.int (i : Nat), x])) { s with heap := h'', toks := s.toks + 1 } :=
      I.turnedNew (ch := [e, it]) (fun b ob hb q => (sb.2 b (fun z => hb (by simp [z]))).trans (hk b ob (fun z => hb (by simp [z])) (fun z => hb (by simp [z])) q)) hf (Nat.le_refl _) new
    refine ⟨.ref s.heap.objs.size, _, I1, rfl, ⟨_, x, rfl, I.hok.fresh (Nat.le_refl _), rfl, fun ys hy => by rw [I.list_inj hy hq]; exact hx⟩, ⟨⟨u, ?_⟩, hit'.at fun o q => (sb.2 it (Ne.symm hne)).trans q, hne⟩, fun b hb => ?_⟩
    · have e1 : ((i + 1 : Nat) : Int) = (i : Int) + 1 := by omega
      rw [e1]; exact he'
    · have hb' : b < s.heap.objs.size := by
        have e' : b = e ∨ b = it := by simpa using hb
        rcases e' with z | z
        · rw [z]; exact hel
        · rw [z]; exact hil
      rw [upd_ne (Nat.ne_of_lt hb')]
      exact (hf b hb).1
  done := by
    intro X hP hw hK hc i pins s σ H E I hf st hg
    subst hP hw hK
    obtain ⟨⟨old, he⟩, hit, hne⟩ := st
    obtain ⟨xs, hq, hx⟩ := hg
    obtain ⟨its, rv, p, hz⟩ := I.list hq
    obtain ⟨f0, f1, f2, f3, f4, f5⟩ := hf it (by simp)
    have hl := rv.length
    exact wpAny_pyNext_enum_end (I.ok.hd hc) he hit p.isList (by simp; omega) fun h' eb => ⟨rfl, I.turned (t' := s.toks) (fun b o hb q => eb b o hb q) f0 f1 f3 f4 f5⟩
  self := fun A i s Q E st h => let ⟨⟨_, he⟩, _⟩ := st; wpAny_pyIter_enum he h
def iEnum (K : PySem.W.Frag) (ta : TA) : TI := fun σ H R => ta σ H fun vs H1 => ∃ a xs, vs = [.ref a] ∧ SqL K H1 a xs ∧ R (Ite K a) H1
theorem pi_enum {X : Cx} {e : Expr} {ta : TA} {p pos tpos : Pos} {elts : List Expr} {kk : Nat} (hg : Gl X "enumerate") (hm : X.mg "enumerate" = none) (ha : PA X [e] ta) (hs : starEach [e] X.env = [(false, eval e X.env)] := by rfl) :
    PI X (.Tuple elts kk tpos) (.Call (.Name "enumerate" p) [e] [] pos) (iEnum X.K ta) := by
  intro pins s σ H R I h
  refine Call_ (ld_blt I hg hm boot_enumerate (PyProof.Rows.callWith_type1 (thn (ha pos pins s σ H _ I h) fun us s1 ⟨vs, H1, I1, r1, q1⟩ => ?_) hs rfl))
  obtain ⟨a, xs, ex, hq, q⟩ := q1
  subst ex
  cases r1 with
  | cons r rr =>
    cases rr
    cases r
    obtain ⟨its, rv, p', hz⟩ := I1.list hq
    refine call_enumerate_list p'.isList fun h' he hit hsz hk => wpAny_pyIter_enum he ?_
    have I2 : Inv X pins σ H1 { s1 with heap := h' } := I1.kept (t' := s1.toks) hk
    refine ⟨s1.heap.objs.size + 1, [s1.heap.objs.size + 1, s1.heap.objs.size], _, _, H1, rfl, I2, turn_enum a (s1.heap.objs.size + 1) s1.heap.objs.size, ⟨⟨.none, he⟩, hit, Nat.succ_ne_self _⟩, fun b hb => ?_, q⟩
    have e' : b = s1.heap.objs.size + 1 ∨ b = s1.heap.objs.size := by simpa using hb
    have hle : s1.heap.objs.size ≤ b := by
      rcases e' with z | z
      · rw [z]; exact Nat.le_add_right _ _
      · rw [z]; exact Nat.le_refl _
    exact I1.fpOk hle (I1.hok.fresh hle)
/-! ### zip(list, list) -/
/-- the lists at a and b as they stand at each turn, the items in new pairs -/
def Itz (K : PySem.W.Frag) (a b : Addr) : It :=
  ⟨fun i H => ∃ (xs ys : List V) (x y : V), SqL K H a xs ∧ SqL K H b ys ∧ xs[i]? = some x ∧ ys[i]? = some y,
    fun i H v H' => ∃ T x y, v = .ref T ∧ H T = none ∧ H' = upd H T (.tup [x, y]) ∧ (∀ xs, SqL K H a xs → xs[i]? = some x) ∧ ∀ ys, SqL K H b ys → ys[i]? = some y,
    fun i H => ∃ xs ys : List V, SqL K H a xs ∧ SqL K H b ys ∧ (xs.length ≤ i ∨ ys.length ≤ i)⟩
def iZip (K : PySem.W.Frag) (ta : TA) : TI := fun σ H R => ta σ H fun vs H1 => ∃ a b xs ys, vs = [.ref a, .ref b] ∧ SqL K H1 a xs ∧ SqL K H1 b ys ∧ R (Itz K a b) H1
end L2

section 
namespace Bits
open PySem PyProof.Rows

end Bits
end 

section 
namespace TL
open PySem PySem.Builtin PySem.Builtin.Str PySem.StrLaws

abbrev tl (x : Str) : List Nat := x.cps.toList
/-! ### the list functions -/
/-- S stands at the head of l -/
def pre (S l : List Nat) : Bool := l.take S.length == S
/-- l cut at each S from the left; k signs are still to be passed over -/
def spl (S : List Nat) : Nat → List Nat → List Nat → List (List Nat)
  | _, acc, [] => [acc]
  | 0, acc, c :: r => if pre S (c :: r) = true then acc :: spl S (S.length - 1) [] r else spl S 0 (acc ++ [c]) r
  | k + 1, acc, _ :: r => spl S k acc r
/-- what stands before the first S, and behind it -/
def par (S : List Nat) : List Nat → List Nat → Option (List Nat × List Nat)
  | _, [] => none
  | acc, c :: r => if pre S (c :: r) = true then some (acc, (c :: r).drop S.length) else par S (acc ++ [c]) r

/-! ### the model's split and partition are these -/
/-! ### computing spl and par -/
/-- joined lists -/
def joinL (S : List Nat) : List (List Nat) → List Nat
  | [] => []
  | [p] => p
  | p :: q :: r => p ++ (S ++ joinL S (q :: r))
/-! ### digits -/
/-- the signs of a number -/
def numL (n : Nat) : List Nat := (Nat.toDigits 10 n).map Char.toNat
/-! ### words: x.split() -/
def wstep (st : List (List Nat) × List Nat) (c : Nat) : List (List Nat) × List Nat :=
  if Unicode.isSpace c = true then (if st.2 = [] then st else (st.1 ++ [st.2], [])) else (st.1, st.2 ++ [c])
def wfin (st : List (List Nat) × List Nat) : List (List Nat) := if st.2 = [] then st.1 else st.1 ++ [st.2]
end TL
end 

namespace L2
open PySem PySem.Spec PyProof.Rows

/-- a new list of texts, tracked -/
def rNewStrs (ys : List Str) : Hp → VK → Prop := fun H Q => ∀ p, H p = none → Q (.ref p) (upd H p (.lst (ys.map V.str)))

section
variable {X : Cx} {pins : List (Addr × Obj)} {σ : St} {H : Hp} {s : Shared} {Q : VK}
end

section
variable {X : Cx}

/-! ### of a text alone -/
/-! ### of a text and a text -/
end

section
variable {X : Cx} {o e : Expr} {to te : TE}
def tM0 (r : V → List V → Hp → VK → Prop) (to : TE) : TE := fun σ H Q => to σ H fun x H1 => (∃ a, x = .str a) ∧ r x [] H1 Q
def tM1 (r : V → List V → Hp → VK → Prop) (to te : TE) : TE := fun σ H Q => to σ H fun x H1 => (∃ a, x = .str a) ∧ te σ H1 fun y H2 => r x [y] H2 Q
end
end L2

namespace L2
open PySem PySem.Spec PyProof.Rows

section
variable {X : Cx}
end

/-! ### slices of a text -/
/-- a part, clipped, as the text's slice reckons it -/
def clipS (n d : Nat) : Option Int → Int
  | none => (d : Int)
  | some i => max 0 (min (if i < 0 then i + (n : Int) else i) (n : Int))
/-- z[lo:hi] -/
def cutS (z : Str) (lo hi : Option Int) : Str :=
  ⟨((z.cps.toList.drop (HT.sIx z.length 0 lo)).take (HT.sIx z.length z.length hi - HT.sIx z.length 0 lo)).toArray⟩
def rSlS : V → Option Int → Option Int → Hp → VK → Prop := fun x lo hi H Q => ∃ z, x = .str z ∧ z.length ≤ sizeLine ∧ Q (.str (cutS z lo hi)) H
end L2

namespace Att
open PySem PySem.W PySem.Calls PyProof.Rows

/-! ### the script -/
/-! ### the attachment: holds_open's last premise (the goal 'hc' behind k_head) from a wpAny of the law's body -/
/-! ### rules over ANY heap (no ledger) from facts about the written part K: the library's own take a ledger (News) for what they write -/
section
variable {prog : Program} {w : World} {A : Around} {E : Value → Shared → Prop} {s : Shared} {K : Frag}

/-! the whole heap as the ledger: makes every rule that writes through a ledger a rule over any heap -/
def noObjs (h : Heap) : Heap := { h with objs := #[] }
def ledger (h : Heap) (L d : Addr) : List (Addr × Obj) := (List.range h.objs.size).filterMap fun a => if a = L ∨ a = d then none else (h.get? a).map fun o => (a, o)
end
end Att

namespace L2
open PySem PySem.Spec PyProof.Rows

/-- nothing is tracked but the script, known to the object (or it is an object of the module) -/
def Only (H : Hp) : Prop := ∀ b, H b = none ∨ ∃ o xs, H b = some (.frz o (.lst xs))

end L2

namespace L2
open PySem PySem.Spec PyProof.Rows

abbrev KOf {K : PySem.W.Frag} {h : Heap} (_ : K.In h) : PySem.W.Frag := K

end L2

/- THE LAST THEOREM (shape; LID, My.* are yours):
   My.Adr: a structure of the addresses that your layer names (classes, functions); My.Txt K t: a structure (Prop) of the equations over K;
   My.txt_mk : {K} {implicit addresses ..} (e1 : nsIn K mainGlobals "law" = some (some (.ref f))) (e2 : K.lookup f = some ⟨oc, od, .func (fnOf "law" "law" params body scope dV kV doc pm an cdv ct), sl⟩) (e3 : codeIn K cdv "law" = true) .. : ∃ t, My.Txt K t

(the tactic k_is has no namespace: write k_is) -/

/-! SHORT WORDS over the layer: a def of the text, its body, what a loop and a test want. -/
namespace L2
open PySem PySem.Spec PyProof.Rows

/-! ### the text by places -/
/-- the j-th statement of a class's body -/
def inClass (s : Stmt) (j : Nat) : Stmt := match s with
  | .ClassDef _ _ _ body _ _ _ _ _ _ _ => body.getD j (.Pass ⟨0, 0, 0, 0⟩)
  | _ => .Pass ⟨0, 0, 0, 0⟩
def defArgs (s : Stmt) : Arguments := match s with
  | .FunctionDef _ a _ _ _ _ _ _ _ _ => a
  | _ => { posonlyargs := [], args := [], vararg := none, kwonlyargs := [], kw_defaults := [], kwarg := none, defaults := [] }
def defBody (s : Stmt) : List Stmt := match s with
  | .FunctionDef _ _ b _ _ _ _ _ _ _ => b
  | _ => []
def defScope (s : Stmt) : Scope := match s with
  | .FunctionDef _ _ _ _ _ _ sc _ _ _ => sc
  | _ => { kind := .function, names := [], isGenerator := false, isCoroutine := false }

/-! ### no exception leaves a def -/
abbrev CX0 : CXT := fun _ _ _ _ _ _ => False
abbrev E0 : XK := fun _ _ _ => False
theorem pass0 {X : Cx} : Passes CX0 X E0 := fun _ _ _ _ _ _ _ h => h.elim

/-! ### a def (or method) of the text as it stands behind the top -/
structure Fun (K : PySem.W.Frag) (x qual : Str) (st : Stmt) (f : Addr) (fd : FuncData) : Prop where
  ex : ∃ (oc : Value) (od : Option Addr) (kV doc pm : Value) (an : Option Addr) (cdv ct : Value) (osl : Array (Option Value)),
    fd = PySem.W.fnOf x qual (defArgs st) (defBody st) (defScope st) .none kV doc pm an cdv ct ∧ K.lookup f = some ⟨oc, od, .func fd, osl⟩ ∧ PySem.W.codeIn K cdv qual = true
  kp : PySem.W.keepIn K (.ref f) = true
section
variable {P : Program} {w : World} {K : PySem.W.Frag} {mg : Str → Option Value} {base : Heap}
/-- THE RULE for a def: its body as a term of rules, and the reading of that term -/
theorem Fun.ok {x qual : Str} {st : Stmt} {f : Addr} {fd : FuncData} {N ps : List Str} {k : Nat} {sp : Sp} (F : Fun K x qual st f fd) (S : FnScope N ps (defScope st)) (len : ∀ vs H Q E, sp vs H Q E → vs.length = ps.length)
    (hbody : ∀ (cdv : Value) (A : Around) (outer : List Env) (s : Shared) (H : Hp) (vs : List V) (Q : VK) (E : XK), Room k (A.deeper (envOfC qual (defScope st) s.heap.objs.size f cdv)) → sp vs H Q E →
      ∃ t, PSs (cxOf CX0 P w K mg base N qual (defScope st) f cdv A outer s H E).nox (defBody st) t ∧ t { nx := fun _ H' => Q .non H', rt := Q } (start N vs) H) : FnOk P w K mg base CX0 (k + 1) f fd ps sp := by
  obtain ⟨oc, od, kV, doc, pm, an, cdv, ct, osl, rfl, lk, hcd⟩ := F.ex
  refine fn_of lk hcd S len fun A outer s H vs Q E hr hsp => ?_
  obtain ⟨t, h, q⟩ := hbody cdv A outer s H vs Q E hr hsp
  exact ⟨t, h.nox, q⟩
/-- how its arguments bind (no defaults): h is «fun _ _ _ _ _ _ us hl => match us, hl with | [_, _], _ => rfl», one _ a parameter -/
theorem Fun.binds {x qual : Str} {st : Stmt} {f : Addr} {fd : FuncData} {ps : List Str} (F : Fun K x qual st f fd)
    (h : ∀ (kV doc pm : Value) (an : Option Addr) (cdv ct : Value) (us : List Value), us.length = ps.length → bindArgs (PySem.W.fnOf x qual (defArgs st) (defBody st) (defScope st) .none kV doc pm an cdv ct) ⟨us, []⟩ = pure (ps.zip us)) : Binds K fd ps [] := by
  obtain ⟨oc, od, kV, doc, pm, an, cdv, ct, osl, rfl, lk, hcd⟩ := F.ex
  exact .all (h kV doc pm an cdv ct)
theorem fun_mk {x qual : Str} {st : Stmt} {f : Addr} {oc : Value} {od an : Option Addr} {osl : Array (Option Value)} {kV doc pm cdv ct : Value} (l : K.lookup f = some ⟨oc, od, .func (PySem.W.fnOf x qual (defArgs st) (defBody st) (defScope st) .none kV doc pm an cdv ct), osl⟩)
    (c : PySem.W.codeIn K cdv qual = true) (k : PySem.W.keepIn K (.ref f) = true) : Fun K x qual st f (PySem.W.fnOf x qual (defArgs st) (defBody st) (defScope st) .none kV doc pm an cdv ct) := ⟨⟨oc, od, kV, doc, pm, an, cdv, ct, osl, rfl, l, c⟩, k⟩
end
theorem hu_of {A : Around} {k : Nat} (hr : Room k A) : A.units + 1 < cLine := Nat.lt_of_le_of_lt (Nat.add_le_add_left (by decide : 1 ≤ 64) _) hr.units
/-! ### expressions in short: the name that stands in the i-th slot -/
section
variable {X : Cx}
theorem pv (i : Nat) {x : Str} {pos : Pos} (hN : X.N[i]? = some x := by rfl) (hv : Vis X.env.scope x := by first | exact Or.inl rfl | exact Or.inr (Or.inl rfl) | exact Or.inr (Or.inr rfl)) (hd : (x == ("__debug__" : Str)) = false := by decide)
    (hcd : (x == ("__classdict__" : Str)) = false := by decide) : PE X (.Name x pos) (tVar i) := pe_var hN hv hd hcd
/-- len of a dict -/
theorem call_lenD : CallR X (.builtin "len") (fun xs H Q => ∃ a kvs, xs = [V.ref a] ∧ H a = some (.dK kvs) ∧ Q (.int kvs.length) H) := by
  intro pins s σ H xs us Q I r h
  obtain ⟨a, kvs, rfl, ha, q⟩ := h
  obtain ⟨u, rfl, ru⟩ := vals1 r
  cases ru
  exact d_len I (.inl ha) fun t s' I' => ⟨.int kvs.length, H, I', ⟨t, rfl⟩, q⟩
end

/-! ### tests -/
theorem iteF {A B : Prop} (h : B) : if false = true then A else B := by
  rw [if_neg Bool.false_ne_true]
  exact h
theorem iteT {A B : Prop} (h : A) : if true = true then A else B := by
  rw [if_pos rfl]
  exact h
theorem ite2 {c A B : Prop} [Decidable c] (h1 : c → A) (h2 : ¬ c → B) : if c then A else B := by
  by_cases h : c
  · rw [if_pos h]
    exact h1 h
  · rw [if_neg h]
    exact h2 h
/-! ### heaps -/
/-- all that was tracked is as it was -/
def Same (H H' : Hp) : Prop := ∀ b o, H b = some o → H' b = some o
theorem Same.trans {H H1 H2 : Hp} (a : Same H H1) (b : Same H1 H2) : Same H H2 := fun c o h => b c o (a c o h)
theorem Same.free {H H' : Hp} (e : Same H H') {l : Addr} (h : H' l = Option.none) : H l = Option.none := by
  cases q : H l with
  | none => rfl
  | some o =>
    rw [e l o q] at h
    cases h
theorem Same.seq {K : PySem.W.Frag} {H H' : Hp} {a : Addr} {xs : List V} (e : Same H H') (h : SqL K H a xs) : SqL K H' a xs := by
  rcases h with (h | ⟨o, h⟩) | h
  · exact .inl (.inl (e _ _ h))
  · exact .inl (.inr ⟨o, e _ _ h⟩)
  · exact .inr h

/-! ### a dict's pairs: keys that differ -/
section
variable {κ : Type} [DecidableEq κ]
end
/-! ### lists -/
theorem at_of {xs : List V} {z : Int} {j : Nat} {v : V} (e : z = (j : Int)) (h : xs[j]? = some v) : atI xs z = some v := by
  rw [e]
  exact atI_nat h
/-- a new instance and its __init__ leave all that was tracked as it was -/
theorem Same.made {H H1 : Hp} {x dx C : Addr} (nx : H x = Option.none) (nd : H dx = Option.none) (k : ∀ b o, (upd (upd H dx (.own x)) x (.ins C dx [])) b = some o → b ≠ x → H1 b = some o) : Same H H1 := fun b o e =>
  k b o (by rw [upd_ne (ne_of_none e nx), upd_ne (ne_of_none e nd)]; exact e) (ne_of_none e nx)
end L2
end
section
set_option Elab.async false
namespace Wm
open Kcz8

/-! ### bits -/
theorem bit_le (o k : Nat) : bit o k ≤ 1 := by
  unfold bit
  omega
theorem rather_le (f : Feature) (o : Nat) : rather f o ≤ 1 := bit_le _ _
theorem way_snoc (o : Nat) : ∀ (l : List Nat) (k : Nat), way o (l ++ [k]) = way o l + bit o k * 2 ^ l.length
  | [], k => by simp [way]
  | a :: l, k => by
    rw [List.cons_append, way, way, way_snoc o l k, List.length_cons, Nat.pow_succ, Nat.mul_add, Nat.mul_comm (2 ^ l.length) 2, Nat.mul_left_comm]
    omega
theorem way_lt (o : Nat) : ∀ l : List Nat, way o l < 2 ^ l.length
  | [] => by simp [way]
  | a :: l => by
    have h := way_lt o l
    have h1 := bit_le o a
    rw [way, List.length_cons, Nat.pow_succ]
    omega
theorem flip_lt64 : ∀ o < 64, ∀ k < 6, flip o k < 64 := by decide +kernel
theorem flip_lt_all : ∀ n < 7, ∀ o < 2 ^ n, ∀ k < n, flip o k < 2 ^ n := by decide +kernel
theorem flip_inj_all : ∀ o < 64, ∀ j < 6, ∀ k < 6, flip o j = flip o k → j = k := by decide +kernel
theorem bit_flip_all : ∀ o < 64, ∀ k < 6, ∀ j < 6, bit (flip o k) j = if j = k then 1 - bit o j else bit o j := by decide +kernel
theorem flip_ne_all : ∀ o < 64, ∀ k < 6, flip o k ≠ o := by decide +kernel
theorem pow_le64 {n : Nat} (h : n ≤ 6) : 2 ^ n ≤ 64 := Nat.pow_le_pow_right (n := 2) (j := 6) (by decide) h

/-! ### sweep -/
def valOf (up : Bool) (given vals k : Nat) (f : Feature) (o : Nat) : Nat :=
  if bit given k = 1 then bit vals k else if up then rather f o else 1 - rather f o
theorem valOf_le (up : Bool) (g v k : Nat) (f : Feature) (o : Nat) : valOf up g v k f o ≤ 1 := by
  unfold valOf
  have h1 := bit_le v k
  have h2 := rather_le f o
  split
  · exact h1
  · split <;> omega
theorem sweep_snoc (up : Bool) (g v : Nat) : ∀ (l : List Feature) (f : Feature) (k o : Nat),
    sweep up g v k (l ++ [f]) o = sweep up g v k l o + valOf up g v (k + l.length) f (sweep up g v k l o) * 2 ^ (k + l.length)
  | [], f, k, o => rfl
  | a :: l, f, k, o => by
    have e : k + (a :: l).length = (k + 1) + l.length := by rw [List.length_cons]; omega
    rw [e]
    exact sweep_snoc up g v l f (k + 1) _
theorem sweep_lt (up : Bool) (g v : Nat) : ∀ (l : List Feature) (k o : Nat), o < 2 ^ k → sweep up g v k l o < 2 ^ (k + l.length)
  | [], k, o, h => h
  | a :: l, k, o, h => by
    have e : k + (a :: l).length = (k + 1) + l.length := by rw [List.length_cons]; omega
    rw [e]
    refine sweep_lt up g v l (k + 1) _ ?_
    have h1 := valOf_le up g v k a o
    show o + valOf up g v k a o * 2 ^ k < 2 ^ (k + 1)
    have h2 : valOf up g v k a o * 2 ^ k ≤ 1 * 2 ^ k := Nat.mul_le_mul_right _ h1
    rw [Nat.pow_succ]
    omega

/-! ### one change for the better -/
theorem mem_nexts {fs : List Feature} {o k t : Nat} : (k, t) ∈ nexts fs o ↔ k < fs.length ∧ betters fs o k = true ∧ t = flip o k := by
  unfold nexts
  rw [List.mem_map]
  constructor
  · rintro ⟨a, h, e⟩
    rw [List.mem_filter, List.mem_range] at h
    cases e
    exact ⟨h.1, h.2, rfl⟩
  · rintro ⟨h1, h2, rfl⟩
    exact ⟨k, List.mem_filter.mpr ⟨List.mem_range.mpr h1, h2⟩, rfl⟩
/-- the things one change for the better away -/
def nx (fs : List Feature) (o : Nat) : List Nat := (nexts fs o).map fun x => x.2
theorem mem_nx {fs : List Feature} {o t : Nat} : t ∈ nx fs o ↔ ∃ k, k < fs.length ∧ betters fs o k = true ∧ t = flip o k := by
  unfold nx
  rw [List.mem_map]
  constructor
  · rintro ⟨⟨k, u⟩, h, rfl⟩
    exact ⟨k, mem_nexts.mp h⟩
  · rintro ⟨k, h⟩
    exact ⟨(k, t), mem_nexts.mpr h, rfl⟩
theorem nx_lt {fs : List Feature} {o t : Nat} (hn : fs.length ≤ 6) (ho : o < 2 ^ fs.length) (h : t ∈ nx fs o) : t < 2 ^ fs.length := by
  obtain ⟨k, hk, _, rfl⟩ := mem_nx.mp h
  exact flip_lt_all _ (by omega) o ho k hk
theorem nodup_map_on {α β : Type} {f : α → β} : ∀ {l : List α}, l.Nodup → (∀ a ∈ l, ∀ b ∈ l, f a = f b → a = b) → (l.map f).Nodup
  | [], _, _ => List.nodup_nil
  | a :: l, h, i => by
    obtain ⟨h1, h2⟩ := List.nodup_cons.mp h
    rw [List.map_cons]
    refine List.nodup_cons.mpr ⟨fun m => ?_, nodup_map_on h2 fun x hx y hy e => i x (List.mem_cons_of_mem _ hx) y (List.mem_cons_of_mem _ hy) e⟩
    obtain ⟨b, hb, e⟩ := List.mem_map.mp m
    have := i b (List.mem_cons_of_mem _ hb) a List.mem_cons_self e
    exact h1 (this ▸ hb)
theorem nexts_keys_nodup {fs : List Feature} {o : Nat} : ((List.range fs.length).filter (betters fs o)).Nodup := List.Pairwise.filter _ List.nodup_range
theorem nx_nodup {fs : List Feature} {o : Nat} (hn : fs.length ≤ 6) (ho : o < 64) : (nx fs o).Nodup := by
  unfold nx nexts
  rw [List.map_map]
  refine nodup_map_on nexts_keys_nodup fun a ha b hb e => ?_
  rw [List.mem_filter, List.mem_range] at ha hb
  exact flip_inj_all o ho a (by omega) b (by omega) e
theorem filter_map_snd (l : List Nat) : ∀ xs : List (Nat × Nat), (xs.filter fun x => !l.contains x.2).map (fun x => x.2) = (xs.map fun x => x.2).filter fun t => !l.contains t
  | [] => rfl
  | x :: xs => by
    rw [List.filter_cons, List.map_cons, List.filter_cons]
    cases h : !l.contains x.2
    · rw [if_neg (by simp), if_neg (by simp)]
      exact filter_map_snd l xs
    · rw [if_pos rfl, if_pos rfl, List.map_cons, filter_map_snd l xs]

/-! ### how long a row of different numbers may be -/
theorem nodup_le : ∀ (n : Nat) (l : List Nat), l.Nodup → (∀ x ∈ l, x < n) → l.length ≤ n
  | 0, l, _, h => by
    cases l with
    | nil => exact Nat.le_refl _
    | cons a l => exact absurd (h a List.mem_cons_self) (Nat.not_lt_zero _)
  | n + 1, l, hd, h => by
    have ih := nodup_le n (l.erase n) (hd.erase n) fun x hx => by
      have h1 := List.mem_of_mem_erase hx
      have h2 := h x h1
      have h3 : x ≠ n := fun e => by
        subst e
        exact (hd.not_mem_erase) hx
      omega
    by_cases hm : n ∈ l
    · rw [List.length_erase_of_mem hm] at ih
      omega
    · rw [List.erase_of_not_mem hm] at ih
      omega

/-! ### what is reached -/
inductive Reach (fs : List Feature) (a : Nat) : Nat → Prop
  | refl : Reach fs a a
  | step {b c : Nat} : Reach fs a b → c ∈ nx fs b → Reach fs a c
theorem Reach.lt {fs : List Feature} {a b : Nat} (hn : fs.length ≤ 6) (ha : a < 2 ^ fs.length) (r : Reach fs a b) : b < 2 ^ fs.length := by
  induction r with
  | refl => exact ha
  | step _ h ih => exact nx_lt hn ih h
theorem Reach.trans {fs : List Feature} {a b c : Nat} (r : Reach fs a b) (s : Reach fs b c) : Reach fs a c := by
  induction s with
  | refl => exact r
  | step _ h ih => exact .step ih h
/-- what is closed and has the start has all that is reached -/
theorem Reach.closed {fs : List Feature} {a b : Nat} {L : List Nat} (r : Reach fs a b) (ha : a ∈ L) (hc : ∀ x ∈ L, ∀ t ∈ nx fs x, t ∈ L) : b ∈ L := by
  induction r with
  | refl => exact ha
  | step _ h ih => exact hc _ ih _ h

theorem search_sound {fs : List Feature} {a b : Nat} : ∀ (f : Nat) (q : List (List Nat × Nat)) (l : List Nat) (w : List Nat), (∀ p ∈ q, Reach fs b p.2) → search fs a f q l = some w → Reach fs b a
  | 0, _, _, _, _, e => by cases e
  | f + 1, [], _, _, _, e => by cases e
  | f + 1, (w0, o) :: q, l, w, h, e => by
    rw [search] at e
    by_cases ho : o = a
    · subst ho
      exact h (w0, o) List.mem_cons_self
    · rw [if_neg ho] at e
      refine search_sound f _ _ w (fun p hp => ?_) e
      rcases List.mem_append.mp hp with h1 | h1
      · exact h p (List.mem_cons_of_mem _ h1)
      · obtain ⟨⟨k, t⟩, hx, rfl⟩ := List.mem_map.mp h1
        have hx := (List.mem_filter.mp hx).1
        exact .step (h (w0, o) List.mem_cons_self) (List.mem_map.mpr ⟨(k, t), hx, rfl⟩)
theorem search_none {fs : List Feature} {a : Nat} (hn : fs.length ≤ 6) : ∀ (f : Nat) (P : List Nat) (q : List (List Nat × Nat)) (l : List Nat),
    l = P ++ q.map (fun x => x.2) → l.Nodup → (∀ x ∈ l, x < 2 ^ fs.length) → 65 ≤ P.length + f → (∀ p ∈ P, p ≠ a ∧ ∀ t ∈ nx fs p, t ∈ l) → search fs a f q l = none →
    ∃ L : List Nat, (∀ x ∈ l, x ∈ L) ∧ (∀ x ∈ L, x ≠ a) ∧ ∀ x ∈ L, ∀ t ∈ nx fs x, t ∈ L
  | 0, P, q, l, el, hd, hl, hf, _, _ => by
    have h1 := nodup_le _ l hd hl
    have h2 := pow_le64 hn
    rw [el, List.length_append] at h1
    omega
  | f + 1, P, [], l, el, hd, hl, hf, hP, _ => by
    have e : l = P := by rw [el]; simp
    subst e
    exact ⟨l, fun x h => h, fun x h => (hP x h).1, fun x h => (hP x h).2⟩
  | f + 1, P, (w0, o) :: q, l, el, hd, hl, hf, hP, e => by
    rw [search] at e
    have hol : o ∈ l := by rw [el]; simp
    by_cases ho : o = a
    · rw [if_pos ho] at e
      cases e
    · rw [if_neg ho] at e
      have hlt := hl o hol
      have h64 := pow_le64 hn
      obtain ⟨L, h1, h2, h3⟩ := search_none hn f (P ++ [o]) _ _ (by
          rw [List.map_append, List.map_map, el]
          simp only [List.map_cons, List.append_assoc, List.cons_append, List.nil_append]
          congr 1) (by
          rw [filter_map_snd]
          refine List.nodup_append.mpr ⟨hd, List.Pairwise.filter _ (nx_nodup hn (by omega)), fun x hx y hy exy => ?_⟩
          subst exy
          have := (List.mem_filter.mp hy).2
          simp at this
          exact this hx) (fun x hx => by
          rcases List.mem_append.mp hx with h | h
          · exact hl x h
          · rw [filter_map_snd] at h
            exact nx_lt hn hlt (List.mem_filter.mp h).1) (by rw [List.length_append, List.length_singleton]; omega) (fun p hp => by
          rcases List.mem_append.mp hp with h | h
          · exact ⟨(hP p h).1, fun t ht => List.mem_append_left _ ((hP p h).2 t ht)⟩
          · have e2 : p = o := by simpa using h
            subst e2
            refine ⟨ho, fun t ht => ?_⟩
            by_cases hm : t ∈ l
            · exact List.mem_append_left _ hm
            · refine List.mem_append_right _ ?_
              rw [filter_map_snd]
              exact List.mem_filter.mpr ⟨ht, by simpa using hm⟩) e
      exact ⟨L, fun x hx => h1 x (List.mem_append_left _ hx), h2, h3⟩
theorem path_isSome {fs : List Feature} {a b : Nat} (hn : fs.length ≤ 6) (hb : b < 2 ^ fs.length) : (path fs b a).isSome = true ↔ Reach fs b a := by
  constructor
  · intro h
    obtain ⟨w, e⟩ := Option.isSome_iff_exists.mp h
    refine search_sound _ _ _ w (fun p hp => ?_) e
    have : p = ([], b) := by simpa using hp
    subst this
    exact .refl
  · intro r
    cases e : path fs b a with
    | some w => rfl
    | none =>
      obtain ⟨L, h1, h2, h3⟩ := search_none hn (2 ^ FEATURES + 1) [] [([], b)] [b] rfl (by simp) (fun x hx => by
        have : x = b := by simpa using hx
        subst this
        exact hb) (by decide) (fun p hp => by simp at hp) e
      exact absurd rfl (h2 a (r.closed (h1 b (by simp)) h3))
theorem better_iff {fs : List Feature} {a b : Nat} (hn : fs.length ≤ 6) (hb : b < 2 ^ fs.length) : better fs a b = true ↔ a ≠ b ∧ Reach fs b a := by
  unfold better
  rw [Bool.and_eq_true, path_isSome hn hb]
  simp

/-! ### never round -/
/-- what was told keeps to: at most six, each on earlier ones, at most three, a wish of so many bits -/
structure Wf (fs : List Feature) : Prop where
  six : fs.length ≤ 6
  on : ∀ (j : Nat) (f : Feature), fs[j]? = some f → f.on.length ≤ 3 ∧ (∀ i ∈ f.on, i < j) ∧ f.wish < 2 ^ 2 ^ f.on.length
def sat (fs : List Feature) (o k : Nat) : Nat := if betters fs o k = true then 0 else 1
def rank (fs : List Feature) (o : Nat) : Nat → Nat
  | 0 => 0
  | k + 1 => 2 * rank fs o k + sat fs o k
theorem way_congr {o u : Nat} : ∀ {l : List Nat}, (∀ i ∈ l, bit o i = bit u i) → way o l = way u l
  | [], _ => rfl
  | a :: l, h => by rw [way, way, h a List.mem_cons_self, way_congr fun i hi => h i (List.mem_cons_of_mem _ hi)]
theorem betters_congr {fs : List Feature} (hw : Wf fs) {o u k : Nat} (h : ∀ i ≤ k, bit o i = bit u i) : betters fs o k = betters fs u k := by
  unfold betters
  cases e : fs[k]? with
  | none => rfl
  | some f =>
    have h1 : way o f.on = way u f.on := way_congr fun i hi => h i (Nat.le_of_lt ((hw.on k f e).2.1 i hi))
    simp only [rather, h1, h k (Nat.le_refl _)]
theorem sat_le (fs : List Feature) (o k : Nat) : sat fs o k ≤ 1 := by
  unfold sat
  split <;> omega
theorem rank_same {fs : List Feature} {o u : Nat} : ∀ k, (∀ j < k, sat fs o j = sat fs u j) → rank fs o k = rank fs u k
  | 0, _ => rfl
  | k + 1, h => by rw [rank, rank, rank_same k fun j hj => h j (by omega), h k (by omega)]
theorem rank_more {fs : List Feature} {o u k : Nat} (h : rank fs o k < rank fs u k) : ∀ m, rank fs o (k + m) < rank fs u (k + m)
  | 0 => h
  | m + 1 => by
    have ih := rank_more h m
    have h1 := sat_le fs o (k + m)
    rw [← Nat.add_assoc, rank, rank]
    omega
theorem rank_flip {fs : List Feature} (hw : Wf fs) {o k : Nat} (ho : o < 2 ^ fs.length) (hk : k < fs.length) (hb : betters fs o k = true) : rank fs o fs.length < rank fs (flip o k) fs.length := by
  have h6 := hw.six
  have h64 := pow_le64 h6
  have e1 : ∀ j < k, sat fs o j = sat fs (flip o k) j := fun j hj => by
    unfold sat
    rw [betters_congr hw (u := flip o k) fun i hi => ?_]
    rw [bit_flip_all o (by omega) k (by omega) i (by omega), if_neg (by omega)]
  have e2 : sat fs (flip o k) k = 1 := by
    unfold sat
    have : betters fs (flip o k) k = false := by
      unfold betters at hb ⊢
      cases e : fs[k]? with
      | none => rfl
      | some f =>
        rw [e] at hb
        have h1 : way (flip o k) f.on = way o f.on := way_congr fun i hi => by
          have := (hw.on k f e).2.1 i hi
          rw [bit_flip_all o (by omega) k (by omega) i (by omega), if_neg (by omega)]
        have h2 := bit_flip_all o (by omega) k (by omega) k (by omega)
        rw [if_pos rfl] at h2
        have h3 := rather_le f o
        have h4 := bit_le o k
        simp only [rather, h1, h2] at hb h3 ⊢
        have h5 : bit o k ≠ bit f.wish (way o f.on) := by simpa using hb
        simp
        omega
    rw [if_neg (by rw [this]; simp)]
  have e3 : sat fs o k = 0 := by
    unfold sat
    rw [if_pos hb]
  have h0 : rank fs o (k + 1) < rank fs (flip o k) (k + 1) := by
    rw [rank, rank, e2, e3, rank_same k e1]
    omega
  have := rank_more h0 (fs.length - (k + 1))
  have e4 : k + 1 + (fs.length - (k + 1)) = fs.length := by omega
  rw [e4] at this
  exact this
theorem rank_nx {fs : List Feature} (hw : Wf fs) {o t : Nat} (ho : o < 2 ^ fs.length) (h : t ∈ nx fs o) : rank fs o fs.length < rank fs t fs.length := by
  obtain ⟨k, hk, hb, rfl⟩ := mem_nx.mp h
  exact rank_flip hw ho hk hb
theorem Reach.rank_le {fs : List Feature} (hw : Wf fs) {a b : Nat} (ha : a < 2 ^ fs.length) (r : Reach fs a b) : rank fs a fs.length ≤ rank fs b fs.length := by
  induction r with
  | refl => exact Nat.le_refl _
  | step r h ih => exact Nat.le_of_lt (Nat.lt_of_le_of_lt ih (rank_nx hw (r.lt hw.six ha) h))
/-- of any that are left one has no change for the better to one that is left -/
theorem top_of {fs : List Feature} (hw : Wf fs) : ∀ (l : List Nat), l ≠ [] → (∀ x ∈ l, x < 2 ^ fs.length) → ∃ o ∈ l, ∀ x ∈ l, rank fs x fs.length ≤ rank fs o fs.length
  | [], h, _ => absurd rfl h
  | [a], _, _ => ⟨a, by simp, fun x hx => Nat.le_of_eq (by rw [show x = a by simpa using hx])⟩
  | a :: b :: l, _, hl => by
    obtain ⟨o, ho, h⟩ := top_of hw (b :: l) (by simp) fun x hx => hl x (List.mem_cons_of_mem _ hx)
    by_cases hc : rank fs o fs.length ≤ rank fs a fs.length
    · refine ⟨a, List.mem_cons_self, fun x hx => ?_⟩
      rcases List.mem_cons.mp hx with e | hx
      · subst e; exact Nat.le_refl _
      · exact Nat.le_trans (h x hx) hc
    · refine ⟨o, List.mem_cons_of_mem _ ho, fun x hx => ?_⟩
      rcases List.mem_cons.mp hx with e | hx
      · subst e; omega
      · exact h x hx
def free (fs : List Feature) (l : List Nat) (o : Nat) : Bool := l.all fun x => !(nexts fs o).any fun y => y.2 == x
theorem free_iff {fs : List Feature} {l : List Nat} {o : Nat} : free fs l o = true ↔ ∀ t ∈ nx fs o, t ∉ l := by
  unfold free nx
  rw [List.all_eq_true]
  constructor
  · intro h t ht hm
    obtain ⟨p, hp, rfl⟩ := List.mem_map.mp ht
    have h1 := h _ hm
    rw [Bool.not_eq_true'] at h1
    have h2 : (nexts fs o).any (fun y => y.2 == p.2) = true := List.any_eq_true.mpr ⟨p, hp, by simp⟩
    rw [h1] at h2
    cases h2
  · intro h x hx
    rw [Bool.not_eq_true', ← Bool.not_eq_true, List.any_eq_true]
    rintro ⟨p, hp, e⟩
    have e : p.2 = x := by simpa using e
    subst e
    exact h _ (List.mem_map.mpr ⟨p, hp, rfl⟩) hx
theorem free_one {fs : List Feature} (hw : Wf fs) {l : List Nat} (h0 : l ≠ []) (hl : ∀ x ∈ l, x < 2 ^ fs.length) : ∃ o ∈ l, free fs l o = true := by
  obtain ⟨o, ho, h⟩ := top_of hw l h0 hl
  refine ⟨o, ho, free_iff.mpr fun t ht hm => ?_⟩
  have h1 := rank_nx hw (hl o ho) ht
  have h2 := h t hm
  omega
end Wm
end
section
set_option Elab.async false
set_option linter.all false
namespace Wm
open Kcz8
/-- as many as stand in any row of them without one twice -/
theorem count_of {p : Nat → Bool} {n : Nat} {F : List Nat} (hF : F.Nodup) (h : ∀ y, y ∈ F ↔ y < n ∧ p y = true) : ((List.range n).filter p).length = F.length := by
  refine List.Perm.length_eq ((List.perm_ext_iff_of_nodup (List.Pairwise.filter _ List.nodup_range) hF).mpr fun y => ?_)
  rw [List.mem_filter, List.mem_range, h]
theorem above_of {fs : List Feature} {x : Nat} {F : List Nat} (h6 : fs.length ≤ 6) (hx : x < 2 ^ fs.length) (nd : F.Nodup) (h : ∀ y, y ∈ F ↔ Reach fs x y) :
    ((all_ fs).filter fun y => better fs y x).length + 1 = F.length := by
  have e := count_of (p := fun y => better fs y x) (n := 2 ^ fs.length) (nd.erase x) fun y => by
    rw [better_iff h6 hx, nd.mem_erase_iff, h]
    exact ⟨fun z => ⟨z.2.lt h6 hx, z⟩, fun z => z.2⟩
  have hm : x ∈ F := (h x).mpr .refl
  have hp : 0 < F.length := List.length_pos_of_mem hm
  unfold all_
  rw [e, List.length_erase_of_mem hm]
  omega
/-! ### the order -/
theorem order_nil (fs : List Feature) : ∀ f, order fs f [] = []
  | 0 => rfl
  | _ + 1 => rfl
/-- the one that comes next -/
theorem order_step {fs : List Feature} {f : Nat} {l : List Nat} {o : Nat} (h : l.find? (free fs l) = some o) : order fs (f + 1) l = o :: order fs f (l.filter fun x => x != o) := by
  have h' : (l.find? fun o => l.all fun x => !(nexts fs o).any fun y => y.2 == x) = some o := h
  rw [order, h']
theorem find_some {fs : List Feature} (hw : Wf fs) {l : List Nat} (h0 : l ≠ []) (hl : ∀ x ∈ l, x < 2 ^ fs.length) : ∃ o, l.find? (free fs l) = some o ∧ o ∈ l ∧ free fs l o = true := by
  obtain ⟨o, ho, hf⟩ := free_one hw h0 hl
  cases e : l.find? (free fs l) with
  | none => exact absurd hf (by simpa using List.find?_eq_none.mp e o ho)
  | some z => exact ⟨z, rfl, List.mem_of_find?_eq_some e, List.find?_some e⟩
theorem order_length {fs : List Feature} (hw : Wf fs) : ∀ (f : Nat) (l : List Nat), l.Nodup → (∀ x ∈ l, x < 2 ^ fs.length) → l.length ≤ f → (order fs f l).length = l.length
  | 0, l, _, _, h => by
    have e : l = [] := List.length_eq_zero_iff.mp (by omega)
    subst e
    rfl
  | f + 1, l, nd, hl, h => by
    by_cases h0 : l = []
    · subst h0
      rw [order_nil]
    · obtain ⟨o, e, ho, _⟩ := find_some hw h0 hl
      have en : l.filter (fun x => x != o) = l.erase o := by rw [nd.erase_eq_filter]
      have hlen : (l.erase o).length = l.length - 1 := List.length_erase_of_mem ho
      have hp : 0 < l.length := List.length_pos_of_mem ho
      rw [order_step e, List.length_cons, en, order_length hw f (l.erase o) (nd.erase o) (fun x hx => hl x (List.mem_of_mem_erase hx)) (by omega), hlen]
      omega
theorem order_all {fs : List Feature} (hw : Wf fs) : (order fs (2 ^ FEATURES) (all_ fs)).length = 2 ^ fs.length := by
  unfold all_
  rw [order_length hw _ _ List.nodup_range (fun x hx => List.mem_range.mp hx) (by rw [List.length_range]; exact pow_le64 hw.six), List.length_range]
end Wm
end
section
set_option Elab.async false
set_option linter.all false
namespace Wm
open Kcz8
/-! ### both directions: dn = false for the better, true back -/
theorem flip_flip_all : ∀ o < 64, ∀ k < 6, flip (flip o k) k = o := by decide +kernel
def ks (fs : List Feature) (dn : Bool) (o : Nat) : List Nat := (List.range fs.length).filter fun k => betters fs o k != dn
def nb (fs : List Feature) (dn : Bool) (o : Nat) : List Nat := (ks fs dn o).map (flip o)
theorem ks_up (fs : List Feature) (o : Nat) : ks fs false o = (List.range fs.length).filter (betters fs o) := by
  unfold ks
  congr 1
  funext k
  cases betters fs o k <;> rfl
theorem nb_up (fs : List Feature) (o : Nat) : nb fs false o = nx fs o := by
  unfold nb nx nexts
  rw [ks_up, List.map_map]
  rfl
theorem mem_ks {fs : List Feature} {dn : Bool} {o k : Nat} : k ∈ ks fs dn o ↔ k < fs.length ∧ betters fs o k = !dn := by
  unfold ks
  rw [List.mem_filter, List.mem_range]
  cases betters fs o k <;> cases dn <;> simp
theorem mem_nb {fs : List Feature} {dn : Bool} {o t : Nat} : t ∈ nb fs dn o ↔ ∃ k, k < fs.length ∧ betters fs o k = (!dn) ∧ t = flip o k := by
  unfold nb
  rw [List.mem_map]
  constructor
  · rintro ⟨k, h, rfl⟩
    obtain ⟨h1, h2⟩ := mem_ks.mp h
    exact ⟨k, h1, h2, rfl⟩
  · rintro ⟨k, h1, h2, rfl⟩
    exact ⟨k, mem_ks.mpr ⟨h1, h2⟩, rfl⟩
theorem nb_lt {fs : List Feature} {dn : Bool} {o t : Nat} (hn : fs.length ≤ 6) (ho : o < 2 ^ fs.length) (h : t ∈ nb fs dn o) : t < 2 ^ fs.length := by
  obtain ⟨k, hk, _, rfl⟩ := mem_nb.mp h
  exact flip_lt_all _ (by omega) o ho k hk
theorem betters_flip {fs : List Feature} (hw : Wf fs) {o k : Nat} (ho : o < 2 ^ fs.length) (hk : k < fs.length) : betters fs (flip o k) k = !betters fs o k := by
  have h6 := hw.six
  have h64 := pow_le64 h6
  unfold betters
  have e : fs[k]? = some fs[k] := List.getElem?_eq_getElem hk
  rw [e]
  generalize fs[k] = f at e
  have h1 : way (flip o k) f.on = way o f.on := way_congr fun i hi => by
    have := (hw.on k f e).2.1 i hi
    rw [bit_flip_all o (by omega) k (by omega) i (by omega), if_neg (by omega)]
  have h2 := bit_flip_all o (by omega) k (by omega) k (by omega)
  rw [if_pos rfl] at h2
  have h3 := bit_le f.wish (way o f.on)
  have h4 := bit_le o k
  simp only [rather, h1, h2]
  rw [Bool.eq_iff_iff]
  simp
  omega
theorem nb_down {fs : List Feature} (hw : Wf fs) {o t : Nat} (ho : o < 2 ^ fs.length) : t ∈ nb fs true o ↔ t < 2 ^ fs.length ∧ o ∈ nx fs t := by
  have h6 := hw.six
  have h64 := pow_le64 h6
  rw [mem_nb, mem_nx]
  constructor
  · rintro ⟨k, hk, hb, rfl⟩
    refine ⟨flip_lt_all _ (by omega) o ho k hk, k, hk, ?_, (flip_flip_all o (by omega) k (by omega)).symm⟩
    rw [betters_flip hw ho hk, hb]
    rfl
  · rintro ⟨ht, k, hk, hb, rfl⟩
    refine ⟨k, hk, ?_, (flip_flip_all t (by omega) k (by omega)).symm⟩
    rw [betters_flip hw ht hk, hb]
/-- so many changes lead from a to it -/
def st (fs : List Feature) (dn : Bool) (a : Nat) : Nat → Nat → Prop
  | 0, x => x = a
  | n + 1, x => ∃ y, st fs dn a n y ∧ x ∈ nb fs dn y
theorem st_lt {fs : List Feature} {dn : Bool} {a : Nat} (h6 : fs.length ≤ 6) (ha : a < 2 ^ fs.length) : ∀ (n x : Nat), st fs dn a n x → x < 2 ^ fs.length
  | 0, x, h => by
    have h : x = a := h
    rw [h]
    exact ha
  | n + 1, x, ⟨y, h1, h2⟩ => nb_lt h6 (st_lt h6 ha n y h1) h2
/-- so many changes for the better lead from it to a -/
def wk (fs : List Feature) (a : Nat) : Nat → Nat → Bool
  | 0, x => x == a
  | n + 1, x => (nx fs x).any (wk fs a n)
theorem wk_zero {fs : List Feature} {a x : Nat} : wk fs a 0 x = true ↔ x = a := by
  show (x == a) = true ↔ _
  exact beq_iff_eq
theorem wk_succ {fs : List Feature} {a n x : Nat} : wk fs a (n + 1) x = true ↔ ∃ t, t ∈ nx fs x ∧ wk fs a n t = true := by
  show (nx fs x).any _ = true ↔ _
  rw [List.any_eq_true]
theorem st_down {fs : List Feature} (hw : Wf fs) {a : Nat} (ha : a < 2 ^ fs.length) : ∀ (n x : Nat), st fs true a n x ↔ x < 2 ^ fs.length ∧ wk fs a n x = true
  | 0, x => by
    rw [wk_zero]
    exact ⟨fun h => ⟨by rw [show x = a from h]; exact ha, h⟩, fun h => h.2⟩
  | n + 1, x => by
    rw [wk_succ]
    constructor
    · rintro ⟨y, h1, h2⟩
      have h3 := (st_down hw ha n y).mp h1
      have h4 := (nb_down hw h3.1).mp h2
      exact ⟨h4.1, y, h4.2, h3.2⟩
    · rintro ⟨hx, y, h1, h2⟩
      have hy := nx_lt hw.six hx h1
      exact ⟨y, (st_down hw ha n y).mpr ⟨hy, h2⟩, (nb_down hw hy).mpr ⟨hx, h1⟩⟩
theorem reach_st {fs : List Feature} {a x : Nat} : Reach fs a x ↔ ∃ n, st fs false a n x := by
  constructor
  · intro r
    induction r with
    | refl => exact ⟨0, rfl⟩
    | step _ h ih =>
      obtain ⟨n, hn⟩ := ih
      exact ⟨n + 1, _, hn, by rw [nb_up]; exact h⟩
  · rintro ⟨n, h⟩
    induction n generalizing x with
    | zero =>
      have h : x = a := h
      rw [h]
      exact .refl
    | succ n ih =>
      obtain ⟨y, h1, h2⟩ := h
      rw [nb_up] at h2
      exact .step (ih h1) h2
theorem Reach.head {fs : List Feature} {a b c : Nat} (h : b ∈ nx fs a) (r : Reach fs b c) : Reach fs a c := (Reach.step .refl h).trans r
theorem reach_wk {fs : List Feature} {a x : Nat} : Reach fs x a ↔ ∃ n, wk fs a n x = true := by
  constructor
  · intro r
    have : ∀ b, Reach fs x b → ∀ n, wk fs a n b = true → ∃ m, wk fs a m x = true := fun b r => by
      induction r with
      | refl => exact fun n h => ⟨n, h⟩
      | step _ h ih => exact fun n hn => ih (n + 1) (wk_succ.mpr ⟨_, h, hn⟩)
    exact this a r 0 (wk_zero.mpr rfl)
  · rintro ⟨n, h⟩
    induction n generalizing x with
    | zero => rw [wk_zero.mp h]; exact .refl
    | succ n ih =>
      obtain ⟨t, h1, h2⟩ := wk_succ.mp h
      exact .head h1 (ih h2)
/-! ### the least number of changes, as a dict tells it -/
abbrev keys (L : List (Nat × Nat)) : List Nat := L.map fun p => p.1
structure Far (fs : List Feature) (dn : Bool) (a : Nat) (L : List (Nat × Nat)) : Prop where
  nd : (keys L).Nodup
  ok : ∀ p ∈ L, st fs dn a p.2 p.1 ∧ ∀ m < p.2, ¬ st fs dn a m p.1
  all : ∀ n x, st fs dn a n x → x ∈ keys L
structure BInv (fs : List Feature) (dn : Bool) (a : Nat) (L : List (Nat × Nat)) (i : Nat) : Prop where
  nd : (keys L).Nodup
  start : (a, 0) ∈ L
  ok : ∀ p ∈ L, st fs dn a p.2 p.1 ∧ ∀ m < p.2, ¬ st fs dn a m p.1
  mono : ∀ (j k : Nat) (p q : Nat × Nat), j ≤ k → L[j]? = some p → L[k]? = some q → p.2 ≤ q.2
  cl : ∀ (j : Nat) (p : Nat × Nat), j < i → L[j]? = some p → ∀ t ∈ nb fs dn p.1, t ∈ keys L
  top : ∀ q, L[i]? = some q → ∀ p ∈ L, p.2 ≤ q.2 + 1
theorem BInv.zero (fs : List Feature) (dn : Bool) (a : Nat) : BInv fs dn a [(a, 0)] 0 where
  nd := by simp
  start := by simp
  ok := fun p hp => by
    have e : p = (a, 0) := by simpa using hp
    rw [e]
    exact ⟨rfl, fun m hm => absurd hm (Nat.not_lt_zero _)⟩
  mono := fun j k p q _ h1 h2 => by
    have e1 : p = (a, 0) := by simpa using List.mem_of_getElem? h1
    have e2 : q = (a, 0) := by simpa using List.mem_of_getElem? h2
    rw [e1, e2]
    exact Nat.le_refl _
  cl := fun j p hj => absurd hj (Nat.not_lt_zero _)
  top := fun q hq p hp => by
    have e1 : p = (a, 0) := by simpa using hp
    rw [e1]
    exact Nat.zero_le _
theorem mem_keys {L : List (Nat × Nat)} {x : Nat} : x ∈ keys L ↔ ∃ n, (x, n) ∈ L := by
  rw [List.mem_map]
  constructor
  · rintro ⟨⟨y, n⟩, h, rfl⟩
    exact ⟨n, h⟩
  · rintro ⟨n, h⟩
    exact ⟨(x, n), h, rfl⟩
/-- all within v changes are there -/
theorem BInv.within {fs : List Feature} {dn : Bool} {a : Nat} {L : List (Nat × Nat)} {i : Nat} (B : BInv fs dn a L i) {x v : Nat} (hi : L[i]? = some (x, v)) : ∀ (m y : Nat), m ≤ v → st fs dn a m y → y ∈ keys L
  | 0, y, _, h => by
    have h : y = a := h
    rw [h]
    exact mem_keys.mpr ⟨0, B.start⟩
  | m + 1, y, hm, ⟨z, h1, h2⟩ => by
    have h3 := B.within hi m z (by omega) h1
    obtain ⟨n, h4⟩ := mem_keys.mp h3
    have h5 : n ≤ m := Nat.le_of_not_lt fun c => (B.ok _ h4).2 m c h1
    obtain ⟨j, hj⟩ := List.getElem?_of_mem h4
    have h6 : j < i := by
      refine Nat.lt_of_not_le fun c => ?_
      have := B.mono i j _ _ c hi hj
      have h7 : v ≤ n := this
      omega
    exact B.cl j _ h6 hj y h2
theorem BInv.push {fs : List Feature} {dn : Bool} {a : Nat} {L : List (Nat × Nat)} {i : Nat} (B : BInv fs dn a L i) {x v t : Nat} (hi : L[i]? = some (x, v)) (ht : t ∈ nb fs dn x) (hn : t ∉ keys L) : BInv fs dn a (L ++ [(t, v + 1)]) i := by
  have hil : i < L.length := (List.getElem?_eq_some_iff.mp hi).1
  have htop := B.top _ hi
  refine ⟨?_, List.mem_append_left _ B.start, fun p hp => ?_, fun j k p q hjk hj hk => ?_, fun j p hj h u hu => ?_, fun q hq p hp => ?_⟩
  · show ((L ++ [(t, v + 1)]).map _).Nodup
    rw [List.map_append]
    refine List.nodup_append.mpr ⟨B.nd, by simp, fun y hy z hz e => ?_⟩
    have ez : z = t := by simpa using hz
    rw [e, ez] at hy
    exact hn hy
  · rcases List.mem_append.mp hp with h | h
    · exact B.ok p h
    · have e : p = (t, v + 1) := by simpa using h
      rw [e]
      refine ⟨⟨x, (B.ok _ (List.mem_of_getElem? hi)).1, ht⟩, fun m hm hs => hn (B.within hi m t (by show m ≤ v; have : m < v + 1 := hm; omega) hs)⟩
  · by_cases hkl : k < L.length
    · rw [List.getElem?_append_left hkl] at hk
      rw [List.getElem?_append_left (by omega)] at hj
      exact B.mono j k p q hjk hj hk
    · have e : q = (t, v + 1) := by
        rw [List.getElem?_append_right (by omega)] at hk
        simpa using List.mem_of_getElem? hk
      rw [e]
      rcases List.mem_append.mp (List.mem_of_getElem? hj) with h | h
      · exact htop p h
      · have e2 : p = (t, v + 1) := by simpa using h
        rw [e2]
        exact Nat.le_refl _
  · show u ∈ (L ++ [(t, v + 1)]).map _
    rw [List.map_append]
    rw [List.getElem?_append_left (by omega)] at h
    exact List.mem_append_left _ (B.cl j p hj h u hu)
  · rw [List.getElem?_append_left hil, hi] at hq
    have e : q = (x, v) := (Option.some.inj hq).symm
    rw [e]
    rcases List.mem_append.mp hp with h | h
    · exact htop p h
    · have e2 : p = (t, v + 1) := by simpa using h
      rw [e2]
      exact Nat.le_refl _
theorem BInv.next {fs : List Feature} {dn : Bool} {a : Nat} {L : List (Nat × Nat)} {i : Nat} (B : BInv fs dn a L i) {x v : Nat} (hi : L[i]? = some (x, v)) (hc : ∀ t ∈ nb fs dn x, t ∈ keys L) : BInv fs dn a L (i + 1) := by
  refine ⟨B.nd, B.start, B.ok, B.mono, fun j p hj h u hu => ?_, fun q hq p hp => ?_⟩
  · by_cases hji : j < i
    · exact B.cl j p hji h u hu
    · have e : j = i := by omega
      subst e
      rw [hi] at h
      have e2 : (x, v) = p := Option.some.inj h
      rw [← e2] at hu
      exact hc u hu
  · have h1 := B.top _ hi p hp
    have h2 : v ≤ q.2 := B.mono i (i + 1) _ _ (Nat.le_succ _) hi hq
    have h3 : p.2 ≤ v + 1 := h1
    omega
theorem BInv.far {fs : List Feature} {dn : Bool} {a : Nat} {L : List (Nat × Nat)} {i : Nat} (B : BInv fs dn a L i) (h : L.length ≤ i) : Far fs dn a L := by
  refine ⟨B.nd, B.ok, fun n => ?_⟩
  induction n with
  | zero =>
    intro x hx
    have hx : x = a := hx
    rw [hx]
    exact mem_keys.mpr ⟨0, B.start⟩
  | succ n ih =>
    rintro x ⟨y, h1, h2⟩
    obtain ⟨m, h3⟩ := mem_keys.mp (ih y h1)
    obtain ⟨j, hj⟩ := List.getElem?_of_mem h3
    exact B.cl j _ (Nat.lt_of_lt_of_le (List.getElem?_eq_some_iff.mp hj).1 h) hj x h2
theorem BInv.len {fs : List Feature} {dn : Bool} {a : Nat} {L : List (Nat × Nat)} {i : Nat} (B : BInv fs dn a L i) (h6 : fs.length ≤ 6) (ha : a < 2 ^ fs.length) : L.length ≤ 64 := by
  have h := nodup_le _ (keys L) B.nd fun x hx => by
    obtain ⟨n, hn⟩ := mem_keys.mp hx
    exact st_lt h6 ha _ _ (B.ok _ hn).1
  rw [List.length_map] at h
  exact Nat.le_trans h (pow_le64 h6)
theorem Far.up {fs : List Feature} {a : Nat} {L : List (Nat × Nat)} (F : Far fs false a L) (x : Nat) : x ∈ keys L ↔ Reach fs a x := by
  rw [reach_st]
  constructor
  · intro h
    obtain ⟨n, hn⟩ := mem_keys.mp h
    exact ⟨n, (F.ok _ hn).1⟩
  · rintro ⟨n, h⟩
    exact F.all n x h
theorem Far.down {fs : List Feature} (hw : Wf fs) {a : Nat} (ha : a < 2 ^ fs.length) {L : List (Nat × Nat)} (F : Far fs true a L) (x : Nat) : x ∈ keys L ↔ x < 2 ^ fs.length ∧ Reach fs x a := by
  constructor
  · intro h
    obtain ⟨n, hn⟩ := mem_keys.mp h
    have h1 := (st_down hw ha _ _).mp (F.ok _ hn).1
    exact ⟨h1.1, reach_wk.mpr ⟨n, h1.2⟩⟩
  · rintro ⟨hx, r⟩
    obtain ⟨n, hn⟩ := reach_wk.mp r
    exact F.all n x ((st_down hw ha _ _).mpr ⟨hx, hn⟩)
theorem Far.lenUp {fs : List Feature} (h6 : fs.length ≤ 6) {a : Nat} (ha : a < 2 ^ fs.length) {L : List (Nat × Nat)} (F : Far fs false a L) : ((all_ fs).filter fun y => better fs y a).length + 1 = L.length := by
  rw [above_of h6 ha F.nd F.up, List.length_map]
theorem Far.lenDown {fs : List Feature} (hw : Wf fs) {a : Nat} (ha : a < 2 ^ fs.length) {L : List (Nat × Nat)} (F : Far fs true a L) : ((all_ fs).filter fun y => better fs a y).length + 1 = L.length := by
  have hm : a ∈ keys L := (F.down hw ha a).mpr ⟨ha, .refl⟩
  have e := count_of (p := fun y => better fs a y) (n := 2 ^ fs.length) (F.nd.erase a) fun y => by
    rw [F.nd.mem_erase_iff, F.down hw ha]
    constructor
    · rintro ⟨h1, h2, h3⟩
      exact ⟨h2, (better_iff hw.six h2).mpr ⟨fun z => h1 z.symm, h3⟩⟩
    · rintro ⟨h1, h2⟩
      have h3 := (better_iff hw.six h1).mp h2
      exact ⟨fun z => h3.1 z.symm, h1, h3.2⟩
  have hp : 0 < (keys L).length := List.length_pos_of_mem hm
  unfold all_
  rw [e, List.length_erase_of_mem hm]
  rw [List.length_map] at hp ⊢
  omega
/-! ### the row, change by change -/
def far (fs : List Feature) (a e x : Nat) : Prop := ∀ n < e, wk fs a n x = false
theorem far_next {fs : List Feature} {a e o t : Nat} (h : far fs a (e + 1) o) (ht : t ∈ nx fs o) : far fs a e t := fun n hn => by
  cases c : wk fs a n t with
  | false => rfl
  | true =>
    have := h (n + 1) (by omega)
    rw [wk_succ.mpr ⟨t, ht, c⟩] at this
    cases this
theorem far_more {fs : List Feature} {a e x : Nat} (h : far fs a e x) (h2 : wk fs a e x ≠ true) : far fs a (e + 1) x := fun n hn => by
  by_cases c : n < e
  · exact h n c
  · have : n = e := by omega
    subst this
    simpa using h2
def nearer (fs : List Feature) (a e o k : Nat) : Bool := betters fs o k && wk fs a e (flip o k)
def gr (fs : List Feature) (a : Nat) : Nat → Nat → List Nat
  | 0, _ => []
  | e + 1, o => match (List.range fs.length).find? (nearer fs a e o) with
    | none => []
    | some k => k :: gr fs a e (flip o k)
theorem nearer_some {fs : List Feature} {a e o : Nat} (h : wk fs a (e + 1) o = true) : ∃ k, (List.range fs.length).find? (nearer fs a e o) = some k := by
  obtain ⟨t, h1, h2⟩ := wk_succ.mp h
  obtain ⟨k, hk, hb, rfl⟩ := mem_nx.mp h1
  cases c : (List.range fs.length).find? (nearer fs a e o) with
  | some k => exact ⟨k, rfl⟩
  | none =>
    have := List.find?_eq_none.mp c k (List.mem_range.mpr hk)
    unfold nearer at this
    rw [hb, h2] at this
    exact absurd rfl this
theorem gr_len {fs : List Feature} {a : Nat} : ∀ (e o : Nat), wk fs a e o = true → (gr fs a e o).length = e
  | 0, _, _ => rfl
  | e + 1, o, h => by
    obtain ⟨k, hk⟩ := nearer_some h
    have h2 := List.find?_some hk
    unfold nearer at h2
    rw [Bool.and_eq_true] at h2
    rw [gr, hk]
    show (k :: _).length = _
    rw [List.length_cons, gr_len e _ h2.2]
theorem search_row {fs : List Feature} {a : Nat} : ∀ (f e : Nat) (X Y : List (List Nat × Nat)) (w : List Nat) (o : Nat) (l row : List Nat), (∀ p ∈ X ++ (w, o) :: Y, p.2 ∈ l) → wk fs a e o = true → (∀ x ∈ l, far fs a e x) → (∀ p ∈ X, far fs a (e + 1) p.2) →
    search fs a f (X ++ (w, o) :: Y) l = some row → row = w ++ gr fs a e o
  | 0, _, _, _, _, _, _, _, _, _, _, _, h => by cases h
  | f + 1, e, (w', x) :: X, Y, w, o, l, row, hq, hw, hl, hX, h => by
    rw [List.cons_append, search] at h
    have hx := hX (w', x) List.mem_cons_self
    have hxa : ¬ x = a := fun z => by
      have := hx 0 (by omega)
      rw [wk_zero.mpr z] at this
      cases this
    rw [if_neg hxa] at h
    dsimp only at h
    rw [List.append_assoc, List.cons_append] at h
    refine search_row f e X _ w o _ row (fun p hp => ?_) hw (fun y hy => ?_) (fun p hp => hX p (List.mem_cons_of_mem _ hp)) h
    · rcases List.mem_append.mp hp with h1 | h1
      · exact List.mem_append_left _ (hq p (List.mem_cons_of_mem _ (List.mem_append_left _ h1)))
      · rcases List.mem_cons.mp h1 with h2 | h2
        · exact List.mem_append_left _ (hq p (List.mem_cons_of_mem _ (List.mem_append_right _ (by rw [h2]; exact List.mem_cons_self))))
        · rcases List.mem_append.mp h2 with h3 | h3
          · exact List.mem_append_left _ (hq p (List.mem_cons_of_mem _ (List.mem_append_right _ (List.mem_cons_of_mem _ h3))))
          · obtain ⟨z, hz, rfl⟩ := List.mem_map.mp h3
            exact List.mem_append_right _ (List.mem_map.mpr ⟨z, hz, rfl⟩)
    · rcases List.mem_append.mp hy with h1 | h1
      · exact hl y h1
      · obtain ⟨z, hz, rfl⟩ := List.mem_map.mp h1
        exact far_next hx (List.mem_map.mpr ⟨z, (List.mem_filter.mp hz).1, rfl⟩)
  | f + 1, e, [], Y, w, o, l, row, hq, hw, hl, hX, h => by
    rw [List.nil_append, search] at h
    have hol : o ∈ l := hq (w, o) (by simp)
    have hfo := hl o hol
    by_cases hoa : o = a
    · rw [if_pos hoa] at h
      have e0 : e = 0 := by
        cases e with
        | zero => rfl
        | succ e =>
          have := hfo 0 (by omega)
          rw [wk_zero.mpr hoa] at this
          cases this
      subst e0
      have h : w = row := Option.some.inj h
      rw [h, gr, List.append_nil]
    · rw [if_neg hoa] at h
      cases e with
      | zero => exact absurd (wk_zero.mp hw) hoa
      | succ e =>
        obtain ⟨k, hk⟩ := nearer_some hw
        obtain ⟨hn, A, B, eAB, hA⟩ := List.find?_eq_some_iff_append.mp hk
        unfold nearer at hn
        rw [Bool.and_eq_true] at hn
        have hkl : flip o k ∉ l := fun z => by
          have := hl _ z e (by omega)
          rw [hn.2] at this
          cases this
        have eN : (nexts fs o).filter (fun x => !l.contains x.2) = (((A.filter (betters fs o)).map fun k => (k, flip o k)).filter fun x => !l.contains x.2) ++ (k, flip o k) :: (((B.filter (betters fs o)).map fun k => (k, flip o k)).filter fun x => !l.contains x.2) := by
          unfold nexts
          rw [eAB, List.filter_append, List.filter_cons, if_pos hn.1, List.map_append, List.map_cons, List.filter_append, List.filter_cons, if_pos (by simpa using hkl)]
        have hch : ∀ p ∈ nexts fs o, far fs a e p.2 := fun p hp => far_next hfo (List.mem_map.mpr ⟨p, hp, rfl⟩)
        dsimp only at h
        rw [eN] at h
        generalize eC : (((A.filter (betters fs o)).map fun k => (k, flip o k)).filter fun x => !l.contains x.2) = C at h eN
        generalize eD : (((B.filter (betters fs o)).map fun k => (k, flip o k)).filter fun x => !l.contains x.2) = D at h eN
        have hsub : ∀ p ∈ C ++ (k, flip o k) :: D, p ∈ nexts fs o := fun p hp => by
          rw [← eN] at hp
          exact (List.mem_filter.mp hp).1
        have hC : ∀ p ∈ C, far fs a (e + 1) p.2 := fun p hp => by
          refine far_more (hch p (hsub p (List.mem_append_left _ hp))) fun z => ?_
          rw [← eC] at hp
          obtain ⟨j, hj, rfl⟩ := List.mem_map.mp (List.mem_filter.mp hp).1
          obtain ⟨hj1, hj2⟩ := List.mem_filter.mp hj
          have := hA j hj1
          unfold nearer at this
          rw [hj2, z] at this
          cases this
        rw [List.map_append, List.map_cons, ← List.append_assoc] at h
        have := search_row f e (Y ++ C.map fun x => (w ++ [x.1], x.2)) (D.map fun x => (w ++ [x.1], x.2)) (w ++ [k]) (flip o k) _ row (fun p hp => ?_) hn.2 (fun y hy => ?_) (fun p hp => ?_) h
        · rw [this, gr, hk, List.append_assoc]
          rfl
        · rw [List.append_assoc] at hp
          rcases List.mem_append.mp hp with h1 | h1
          · exact List.mem_append_left _ (hq p (List.mem_cons_of_mem _ h1))
          · refine List.mem_append_right _ ?_
            have : p ∈ (C ++ (k, flip o k) :: D).map fun x => (w ++ [x.1], x.2) := by
              rw [List.map_append, List.map_cons]
              exact h1
            obtain ⟨z, hz, rfl⟩ := List.mem_map.mp this
            exact List.mem_map.mpr ⟨z, hz, rfl⟩
        · rcases List.mem_append.mp hy with h1 | h1
          · exact fun n hn => hl y h1 n (by omega)
          · obtain ⟨z, hz, rfl⟩ := List.mem_map.mp h1
            exact hch z (hsub z hz)
        · rcases List.mem_append.mp hp with h1 | h1
          · exact hl p.2 (hq p (List.mem_cons_of_mem _ h1))
          · obtain ⟨z, hz, rfl⟩ := List.mem_map.mp h1
            exact hC z hz
theorem path_eq {fs : List Feature} (h6 : fs.length ≤ 6) {a b e : Nat} (hb : b < 2 ^ fs.length) (hw : wk fs a e b = true) (hf : far fs a e b) : path fs b a = some (gr fs a e b) := by
  have h := (path_isSome (a := a) h6 hb).mpr (reach_wk.mpr ⟨e, hw⟩)
  obtain ⟨row, er⟩ := Option.isSome_iff_exists.mp h
  rw [er]
  have er2 : search fs a (2 ^ FEATURES + 1) ([] ++ ([], b) :: []) [b] = some row := er
  have := search_row _ e [] [] [] b [b] row (fun p hp => by
    have : p = ([], b) := by simpa using hp
    rw [this]
    simp) hw (fun x hx => by
    have : x = b := by simpa using hx
    rw [this]
    exact hf) (fun p hp => by cases hp) er2
  rw [this]
  rfl
theorem path_none {fs : List Feature} (h6 : fs.length ≤ 6) {a b : Nat} (hb : b < 2 ^ fs.length) (h : ¬ Reach fs b a) : path fs b a = none := by
  cases c : path fs b a with
  | none => rfl
  | some w => exact absurd ((path_isSome h6 hb).mp (by rw [c]; rfl)) h
/-- what the dict of changes back tells -/
theorem Far.val {fs : List Feature} (hw : Wf fs) {a : Nat} (ha : a < 2 ^ fs.length) {L : List (Nat × Nat)} (F : Far fs true a L) {x n : Nat} (h : (x, n) ∈ L) : x < 2 ^ fs.length ∧ wk fs a n x = true ∧ far fs a n x := by
  obtain ⟨h1, h2⟩ := F.ok _ h
  have h1 := (st_down hw ha _ _).mp h1
  refine ⟨h1.1, h1.2, fun m hm => ?_⟩
  cases c : wk fs a m x with
  | false => rfl
  | true => exact absurd ((st_down hw ha _ _).mpr ⟨h1.1, c⟩) (h2 m hm)
/-- nearer, as the program asks it -/
theorem Far.near {fs : List Feature} (hw : Wf fs) {a : Nat} (ha : a < 2 ^ fs.length) {L : List (Nat × Nat)} (F : Far fs true a L) {o e k : Nat} (ho : o < 2 ^ fs.length) (hf : far fs a (e + 1) o) (hk : k ∈ ks fs false o) :
    nearer fs a e o k = true ↔ ∃ n, (flip o k, n) ∈ L ∧ n < e + 1 := by
  obtain ⟨hk1, hk2⟩ := mem_ks.mp hk
  have hb : betters fs o k = true := hk2
  have hnx : flip o k ∈ nx fs o := mem_nx.mpr ⟨k, hk1, hb, rfl⟩
  unfold nearer
  rw [hb, Bool.true_and]
  constructor
  · intro h
    have hs := (st_down hw ha e _).mpr ⟨nx_lt hw.six ho hnx, h⟩
    obtain ⟨n, hn⟩ := mem_keys.mp (F.all _ _ hs)
    refine ⟨n, hn, ?_⟩
    have := (F.ok _ hn).2 e
    by_cases c : e < n
    · exact absurd hs (this c)
    · omega
  · rintro ⟨n, hn, hlt⟩
    obtain ⟨_, h1, _⟩ := F.val hw ha hn
    have h2 := far_next hf hnx
    by_cases c : n = e
    · rw [← c]; exact h1
    · have := h2 n (by omega)
      rw [h1] at this
      cases this
theorem find_ks {fs : List Feature} {a e o : Nat} : (ks fs false o).find? (nearer fs a e o) = (List.range fs.length).find? (nearer fs a e o) := by
  rw [ks_up, List.find?_filter]
  congr 1
  funext k
  unfold nearer
  cases betters fs o k <;> simp
end Wm
end
section
set_option Elab.async false
set_option linter.all false
namespace Wm
open Kcz8

theorem whole_id (c : List (List Int)) : PyKcz8.whole c = c := by
  unfold PyKcz8.whole
  split <;> rfl
/-- the calls that may be asked -/
inductive Form : List (List Int) → Prop
  | begin_ : Form [[0]]
  | feature (w : Nat) (on : List Nat) : w < 2 ^ 32 → (∀ k ∈ on, k < 2 ^ 32) → Form [[1, (w : Int)], on.map fun (k : Nat) => (k : Int)]
  | best (a b : Nat) : a < 2 ^ 32 → b < 2 ^ 32 → Form [[2, (a : Int), (b : Int)]]
  | worst (a b : Nat) : a < 2 ^ 32 → b < 2 ^ 32 → Form [[3, (a : Int), (b : Int)]]
  | compare (a b : Nat) : a < 2 ^ 32 → b < 2 ^ 32 → Form [[4, (a : Int), (b : Int)]]
  | path (a b : Nat) : a < 2 ^ 32 → b < 2 ^ 32 → Form [[5, (a : Int), (b : Int)]]
  | above (a : Nat) : a < 2 ^ 32 → Form [[6, (a : Int)]]
  | below (a : Nat) : a < 2 ^ 32 → Form [[7, (a : Int)]]
  | order : Form [[8]]
theorem natural_of {a : Int} (h : Kcz8Neutral.natural a 32 = true) : ∃ n : Nat, a = (n : Int) ∧ n < 2 ^ 32 := by
  unfold Kcz8Neutral.natural at h
  rw [Bool.and_eq_true, decide_eq_true_eq, decide_eq_true_eq] at h
  exact ⟨a.toNat, by omega, by omega⟩
theorem naturals_of : ∀ {l : List Int}, (l.all fun (z : Int) => Kcz8Neutral.natural z 32) = true → ∃ on : List Nat, l = on.map (fun (k : Nat) => (k : Int)) ∧ ∀ k ∈ on, k < 2 ^ 32
  | [], _ => ⟨[], rfl, fun k hk => by cases hk⟩
  | a :: l, h => by
    rw [List.all_cons, Bool.and_eq_true] at h
    obtain ⟨n, rfl, hn⟩ := natural_of h.1
    obtain ⟨on, rfl, ho⟩ := naturals_of h.2
    exact ⟨n :: on, rfl, fun k hk => by
      rcases List.mem_cons.mp hk with e | hk
      · rw [e]; exact hn
      · exact ho k hk⟩
theorem form_of {c : List (List Int)} (h : Kcz8Neutral.asked1 c = true) : Form c := by
  unfold Kcz8Neutral.asked1 at h
  split at h
  · exact .begin_
  · rw [Bool.and_eq_true] at h
    obtain ⟨n, rfl, hn⟩ := natural_of h.1
    obtain ⟨on, rfl, ho⟩ := naturals_of h.2
    exact .feature n on hn ho
  · rw [Bool.and_eq_true] at h
    obtain ⟨n, rfl, hn⟩ := natural_of h.1
    obtain ⟨m, rfl, hm⟩ := natural_of h.2
    exact .best n m hn hm
  · rw [Bool.and_eq_true] at h
    obtain ⟨n, rfl, hn⟩ := natural_of h.1
    obtain ⟨m, rfl, hm⟩ := natural_of h.2
    exact .worst n m hn hm
  · rw [Bool.and_eq_true] at h
    obtain ⟨n, rfl, hn⟩ := natural_of h.1
    obtain ⟨m, rfl, hm⟩ := natural_of h.2
    exact .compare n m hn hm
  · rw [Bool.and_eq_true] at h
    obtain ⟨n, rfl, hn⟩ := natural_of h.1
    obtain ⟨m, rfl, hm⟩ := natural_of h.2
    exact .path n m hn hm
  · obtain ⟨n, rfl, hn⟩ := natural_of h
    exact .above n hn
  · obtain ⟨n, rfl, hn⟩ := natural_of h
    exact .below n hn
  · exact .order
  · cases h
/-- the state behind some calls -/
def after : Abs → List (List (List Int)) → Abs
  | s, [] => s
  | s, c :: l => after (Kcz8Neutral.step s c).1 l
theorem after_snoc : ∀ (s : Abs) (l : List (List (List Int))) (c : List (List Int)), after s (l ++ [c]) = (Kcz8Neutral.step (after s l) c).1
  | _, [], _ => rfl
  | s, a :: l, c => after_snoc _ l c
theorem played_snoc : ∀ (s : Abs) (l : List (List (List Int))) (c : List (List Int)), PyFlat.played Kcz8Neutral.step s (l ++ [c]) = PyFlat.played Kcz8Neutral.step s l ++ [(Kcz8Neutral.step (after s l) c).2]
  | _, [], _ => rfl
  | s, a :: l, c => by
    show _ :: PyFlat.played _ _ (l ++ [c]) = _
    rw [played_snoc _ l c]
    rfl
theorem told_snoc (l : List (List Int)) (a : List Int) : PyFlat.told (l ++ [a]) = PyFlat.told l ++ ((a.length : Int) :: a) := by
  unfold PyFlat.told
  rw [List.flatMap_append]
  simp
theorem played_append : ∀ (s : Abs) (l r : List (List (List Int))), PyFlat.played Kcz8Neutral.step s (l ++ r) = PyFlat.played Kcz8Neutral.step s l ++ PyFlat.played Kcz8Neutral.step (after s l) r
  | _, [], _ => rfl
  | s, a :: l, r => by
    show _ :: PyFlat.played _ _ (l ++ r) = _
    rw [played_append _ l r]
    rfl
theorem told_append (l r : List (List Int)) : PyFlat.told (l ++ r) = PyFlat.told l ++ PyFlat.told r := by
  unfold PyFlat.told
  rw [List.flatMap_append]
theorem foldl_add : ∀ (l : List Nat) (a : Nat), l.foldl (fun (x y : Nat) => x + y) a = a + l.foldl (fun (x y : Nat) => x + y) 0
  | [], a => rfl
  | x :: l, a => by
    rw [List.foldl_cons, List.foldl_cons, foldl_add l (a + x), foldl_add l (0 + x)]
    omega
theorem told_len : ∀ L : List (List Int), (PyFlat.told L).length = (L.map List.length).foldl (fun (x y : Nat) => x + y) 0 + L.length
  | [] => rfl
  | a :: L => by
    have e : PyFlat.told (a :: L) = ((a.length : Int) :: a) ++ PyFlat.told L := rfl
    rw [e, List.length_append, List.length_cons, told_len L, List.map_cons, List.foldl_cons, foldl_add _ (0 + a.length), List.length_cons]
    omega
theorem answersFrom_eq : ∀ (s : Abs) (l : List (List (List Int))), Kcz8Neutral.answersFrom s l = PyFlat.played Kcz8Neutral.step s l
  | _, [] => rfl
  | s, c :: l => by
    show _ :: Kcz8Neutral.answersFrom _ l = _ :: PyFlat.played _ _ l
    rw [answersFrom_eq _ l]
theorem played_len : ∀ (s : Abs) (l : List (List (List Int))), (PyFlat.played Kcz8Neutral.step s l).length = l.length
  | _, [] => rfl
  | s, c :: l => congrArg (· + 1) (played_len _ l)
theorem put_append : ∀ (l r : List (List (List Int))), PyFlat.put (l ++ r) = PyFlat.put l ++ PyFlat.put r
  | [], _ => rfl
  | a :: l, r => by
    show PyFlat.put1 a ++ PyFlat.put (l ++ r) = _
    rw [put_append l r, ← List.append_assoc]
    rfl

/-- what is asked: a row of calls, put one behind another; what is due: what they answer -/
theorem asked_of {l : List Int} (h : PyKcz8.answers_asked l = true) : ∃ cs : List (List (List Int)), l = PyFlat.put cs ∧ (∀ c ∈ cs, Form c) ∧ cs.length ≤ 300 ∧
    PyKcz8.answers l = PyFlat.told (PyFlat.played Kcz8Neutral.step Kcz8Neutral.start cs) ∧ (PyFlat.told (PyFlat.played Kcz8Neutral.step Kcz8Neutral.start cs)).length ≤ 1000300 := by
  unfold PyKcz8.answers_asked at h
  unfold PyKcz8.answers
  cases e : PyKcz8.calls l with
  | none => rw [e] at h; cases h
  | some cs =>
    rw [e] at h
    have h : (PyFlat.atMost 300 cs && Kcz8Neutral.asked cs) = true := h
    rw [Bool.and_eq_true] at h
    obtain ⟨h1, h2⟩ := h
    unfold PyKcz8.calls at e
    cases e2 : PyFlat.calls PyKcz8.shape l.length l with
    | none => rw [e2] at e; cases e
    | some ds =>
      rw [e2] at e
      have e : ds.map PyKcz8.whole = cs := Option.some.inj e
      have e3 : ds = cs := by
        rw [← e]
        have : ∀ ds : List (List (List Int)), ds = ds.map PyKcz8.whole := fun ds => by
          induction ds with
          | nil => rfl
          | cons a l ih => rw [List.map_cons, whole_id, ← ih]
        exact this ds
      subst e3
      refine ⟨ds, (PyFlat.put_calls _ _ _ e2).1, fun c hc => ?_, of_decide_eq_true h1, rfl, ?_⟩
      rotate_left
      · unfold Kcz8Neutral.asked at h2
        rw [Bool.and_eq_true] at h2
        have h3 := h2.2
        unfold Kcz8Neutral.few_ Kcz8Neutral.answers at h3
        rw [answersFrom_eq] at h3
        have h4 := of_decide_eq_true h3
        have h5 := of_decide_eq_true h1
        rw [told_len, played_len]
        omega
      unfold Kcz8Neutral.asked at h2
      rw [Bool.and_eq_true, Bool.and_eq_true, Bool.and_eq_true] at h2
      exact form_of (List.all_eq_true.mp h2.1.2.1 c hc)
/-! ### how far told grows -/
theorem nums_toNat (on : List Nat) : (on.map fun (k : Nat) => (k : Int)).map Int.toNat = on := by
  induction on with
  | nil => rfl
  | cons a l ih => rw [List.map_cons, List.map_cons, ih]; simp
end Wm
end
section
set_option Elab.async false
set_option linter.all false
set_option maxRecDepth 100000
namespace PySem
open Sem (wp)
open AutoSeq1 (wpAny_loadPart')
section
variable {prog : Program} {w : World} {A : Around} {E : Value → Shared → Prop} {s : Shared}
theorem wx_nextOf_tuple_item {it l : Addr} {i : Nat} {items} {x : Value} {Q : Value → Shared → Prop} (hit : s.heap.IsTupleIter it l i)
    (hl : s.heap.IsTuple l items) (hx : items[i]? = some x)
    (hQ : ∀ h', h'.IsTupleIter it l (i + 1) → Heap.SameBut it s.heap h' → Q x { s with heap := h' }) :
    wpAny (model prog w) A (Builtin.SmallTypes.nextOf (.ref it)) Q E s := by
  obtain ⟨o, ho, hc, hd⟩ := id hit
  obtain ⟨ol, hol, _, nl, hdl⟩ := hl
  unfold Builtin.SmallTypes.nextOf
  refine wpAny_bind (wpAny_callSpecial?_slot (name := Str.ofString "__next__") hit.typeIs F.slot_tuple_iterator_next
    (wpAny_call_entry F.slot_tuple_iterator_next hit.typeIs F.entry_tuple_iterator_next ?_ (F.args_tuple_iterator_next_1 _)))
  show wpAny _ _ (field (.ref it) 0 >>= _) _ _ s
  refine wpAny_bind (wpAny_field ho hd (x := .ref l) rfl ?_)
  show wpAny _ _ (if (Value.ref l == Value.none) = true then _ else _) _ _ s
  rw [if_neg (show ¬ ((Value.ref l == Value.none) = true) from Bool.false_ne_true)]
  show wpAny _ _ (field (.ref it) 1 >>= _) _ _ s
  refine wpAny_bind (wpAny_field ho hd (x := .int i 0) rfl ?_)
  show wpAny _ _ (seqItems? (.ref l) >>= _) _ _ s
  refine wpAny_bind (wpAny_seqItems hol hdl ?_)
  simp only [Int.toNat_natCast, hx]
  refine wpAny_bind (wpAny_setField ho hd (by simp) (wpAny_pure ⟨x, rfl, wpAny_pure (hQ _ ?_ (Heap.SameBut.update ..))⟩))
  exact ⟨_, Heap.get?_update_self _ ho (Obj.isFreed_of_fields (Obj.data_mapFields hd _)), (Obj.cls_mapFields ..).trans hc, by
    rw [Obj.data_mapFields hd]; simp [rawInt]⟩
theorem wx_nextOf_tuple_end {it l : Addr} {i : Nat} {items} {Q : Value → Shared → Prop} (hh : A.handled = none)
    (hit : s.heap.IsTupleIter it l i) (hl : s.heap.IsTuple l items) (hx : items[i]? = none)
    (hE : ∀ h' e, Heap.ExtBut it s.heap h' → (∃ o, h'.get? e = some o ∧ o.cls = .type "StopIteration") → E (.ref e) { s with heap := h' }) :
    wpAny (model prog w) A (Builtin.SmallTypes.nextOf (.ref it)) Q E s := by
  obtain ⟨o, ho, hc, hd⟩ := id hit
  obtain ⟨ol, hol, _, nl, hdl⟩ := hl
  unfold Builtin.SmallTypes.nextOf
  refine wpAny_bind (wpAny_callSpecial?_slot (name := Str.ofString "__next__") hit.typeIs F.slot_tuple_iterator_next
    (wpAny_call_entry F.slot_tuple_iterator_next hit.typeIs F.entry_tuple_iterator_next ?_ (F.args_tuple_iterator_next_1 _)))
  show wpAny _ _ (field (.ref it) 0 >>= _) _ _ s
  refine wpAny_bind (wpAny_field ho hd (x := .ref l) rfl ?_)
  show wpAny _ _ (if (Value.ref l == Value.none) = true then _ else _) _ _ s
  rw [if_neg (show ¬ ((Value.ref l == Value.none) = true) from Bool.false_ne_true)]
  show wpAny _ _ (field (.ref it) 1 >>= _) _ _ s
  refine wpAny_bind (wpAny_field ho hd (x := .int i 0) rfl ?_)
  show wpAny _ _ (seqItems? (.ref l) >>= _) _ _ s
  refine wpAny_bind (wpAny_seqItems hol hdl ?_)
  simp only [Int.toNat_natCast, hx]
  refine wpAny_bind (wpAny_rule (wpAny_bind (wpAny_setField ho hd (by simp) ?_)))
  show wpAny _ _ (newExc (.type "StopIteration") [] >>= _) _ _ _
  refine wpAny_bind ?_
  simp only [newExc, newTuple]
  refine wpAny_bind (wpAny_newObj_type ?_ (by size_fits))
  refine wpAny_bind (m := firstArgMember _ _) (wpAny_of_eq (a := Value.none) (by first | rfl | (simp only [firstArgMember]; rfl)) ?_)
  refine wpAny_newObj_type ?_ (by size_fits)
  simp only [raiseNew]
  refine wpAny_bind (wpAny_handled ?_)
  first | rw [show A.in1.handled = none from hh] | rw [hh]
  refine wpAny_bind (wpAny_pure (wpAny_throw ?_))
  exact hE _ _ (((Heap.SameBut.update ..).extBut.push _).push _) ⟨_, Heap.get?_push_size _ rfl, rfl⟩
end
theorem wx_draws_tuple {prog : Program} {w : World} {A : Around} {it a : Addr} {items : Array Value} (hh : A.handled = none) (hne : a ≠ it) :
    Draws prog w A it [it, a] items.size (fun i x => items[i]? = some x) (fun i h => h.IsTupleIter it a i ∧ h.IsTuple a items) where
  live := fun i h st => by obtain ⟨⟨o, ho, _⟩, _⟩ := st; exact ⟨o, ho⟩
  frame := fun i h h' st k => by
    obtain ⟨⟨o, ho, r⟩, ⟨o2, ho2, r2⟩⟩ := st
    exact ⟨⟨o, k it (by simp) o ho, r⟩, ⟨o2, k a (by simp) o2 ho2, r2⟩⟩
  item := fun i s Q E hi st hQ => by
    obtain ⟨h1, h2⟩ := st
    refine wx_nextOf_tuple_item h1 h2 (x := items[i]) (by simp [hi]) fun h' h1' sb => ?_
    exact hQ _ h' s.toks (by simp [hi]) ⟨h1', h2.extBut sb.extBut hne⟩ sb
  done := fun s Q E st hE => by
    obtain ⟨h1, h2⟩ := st
    exact wx_nextOf_tuple_end hh h1 h2 (by simp) hE
theorem wx_meets_enumerate_newT (l : Addr) (items : Array Value) (n : Nat) (dct : Option Addr) (sl : Array (Option Value)) :
    Meets (Builtin.«enumerate.__new__» ⟨[.type "enumerate", .ref l], []⟩) (fun _ R s => s.heap.get? l = some { cls := .type "tuple", dict := dct, data := .seq items n, slots := sl } ∧
      R (.ok (.ret (.ref (s.heap.push { cls := .type "tuple_iterator", data := .fields #[.ref l, .int 0 0] }).objs.size)))
        { s with heap := (s.heap.push { cls := .type "tuple_iterator", data := .fields #[.ref l, .int 0 0] }).push { cls := .type "enumerate", data := .fields #[.none, .bool false, .ref s.heap.objs.size, rawInt 0, .none, .none] } }) :=
  .of_wp fun prog w A R s h => by
    obtain ⟨hp, g, d, tk, os⟩ := s; obtain ⟨hl, h⟩ := h
    have hsub := sub_enumerate
    have hL : Heap.IsTuple (Shared.heap ⟨hp, g, d, tk, os⟩) l items := ⟨_, hl, rfl, n, rfl⟩
    wp_walk using wpAny_loadPart' hl
    refine wpAny_stack_any fun st => wpAny_pure ?_
    split
    · rename_i c _ _ _ _ _
      cases (c == Value.type "enumerate")
      · wp_walk using wpAny_loadPart' hl, wpAny_pyIter_tuple hL
        exact ⟨_, rfl, h⟩
      · wp_walk using wpAny_loadPart' hl, wpAny_pyIter_tuple hL
        exact ⟨_, rfl, h⟩
    · wp_walk using wpAny_loadPart' hl, wpAny_pyIter_tuple hL
      exact ⟨_, rfl, h⟩
theorem wx_call_enumerate_tuple {prog : Program} {w : World} {A : Around} {E : Value → Shared → Prop} {s : Shared} {l : Addr} {items : Array Value} {Q : Value → Shared → Prop} (hL : s.heap.IsTuple l items)
    (h : ∀ h', IsEnum h' (s.heap.objs.size + 1) s.heap.objs.size 0 .none → h'.IsTupleIter s.heap.objs.size l 0 → h'.objs.size = s.heap.objs.size + 2 →
      (∀ b o, s.heap.get? b = some o → h'.get? b = some o) → Q (.ref (s.heap.objs.size + 1)) { s with heap := h' }) :
    wpAny (model prog w) A (call (.type "enumerate") [.ref l]) Q E s := by
  obtain ⟨⟨c, dct, dt, sl⟩, hl, hc, n, hd⟩ := hL
  replace hc : c = .type "tuple" := hc
  replace hd : dt = .seq items n := hd
  subst hc hd
  refine callType_new F.called_enumerate (by decide) (F.typeCall_enumerate_1 _) (F.newCall_enumerate_1 _) (fun obj => F.args_object_init_2 obj _) F.entry_enumerate_new
    (wx_meets_enumerate_newT l items n dct sl) ⟨hl, ?_⟩
  have hz : (s.heap.push { cls := .type "tuple_iterator", data := .fields #[.ref l, .int 0 0] }).objs.size = s.heap.objs.size + 1 := Heap.size_push ..
  show _ ∧ _
  rw [hz]
  have he : IsEnum ((s.heap.push { cls := .type "tuple_iterator", data := .fields #[.ref l, .int 0 0] }).push
      { cls := .type "enumerate", data := .fields #[.none, .bool false, .ref s.heap.objs.size, rawInt 0, .none, .none] }) (s.heap.objs.size + 1) s.heap.objs.size 0 .none := by
    have := Heap.get?_push_size (s.heap.push { cls := .type "tuple_iterator", data := .fields #[.ref l, .int 0 0] })
      (o := { cls := .type "enumerate", data := .fields #[.none, .bool false, .ref s.heap.objs.size, rawInt 0, .none, .none] }) rfl
    rw [hz] at this; exact this
  refine ⟨⟨_, he, rfl⟩, h _ he ⟨_, Heap.get?_push_of_some _ (Heap.get?_push_size _ rfl), rfl, rfl⟩ (by rw [Heap.size_push, hz]) fun b o x => Heap.get?_push_of_some _ (Heap.get?_push_of_some _ x)⟩
end PySem

namespace L2
open PySem PySem.Spec PyProof.Rows
/-! ### enumerate(tuple) -/
def ItE (K : PySem.W.Frag) (a : Addr) : It :=
  ⟨fun i H => ∃ (xs : List V) (x : V), SqT K H a xs ∧ xs[i]? = some x, fun i H v H' => ∃ T x, v = .ref T ∧ H T = none ∧ H' = upd H T (.tup [.int (i : Nat), x]) ∧ ∀ xs, SqT K H a xs → xs[i]? = some x, fun i H => ∃ xs : List V, SqT K H a xs ∧ xs.length ≤ i⟩
theorem turn_enumT {P : Program} {w : World} {K : PySem.W.Frag} {elts : List Expr} {kk : Nat} {tpos : Pos} (a e it : Addr) :
    Turn P w K (.Tuple elts kk tpos) (ItE K a) [e, it] e (fun i h => (∃ old, IsEnum h e it ((i : Nat) : Int) old) ∧ h.IsTupleIter it a i ∧ e ≠ it) where
  mem := by simp
  obj := fun i h st b hb => by
    obtain ⟨⟨old, he⟩, ⟨o, ho, hc, hd⟩, _⟩ := st
    have e' : b = e ∨ b = it := by simpa using hb
    rcases e' with z | z
    · rw [z]; exact ⟨_, he, fun v q => nomatch q⟩
    · rw [z]; exact ⟨o, ho, fun v q => by rw [hd] at q; cases q⟩
  keep := fun i h h' st k => let ⟨⟨old, he⟩, ⟨o, ho, r⟩, hne⟩ := st; ⟨⟨old, k e (by simp) _ he⟩, ⟨o, k it (by simp) o ho, r⟩, hne⟩
  item := by
    intro X hP hw hK hc i pins s σ H E I hf st hg
    subst hP hw hK
    obtain ⟨⟨old, he⟩, hit, hne⟩ := st
    obtain ⟨xs, x, hq, hx⟩ := hg
    obtain ⟨its, rv, p, hz⟩ := I.tuple hq
    have p : s.heap.IsTuple a its.toArray := p
    have hai : a ≠ it := by
      rintro rfl
      obtain ⟨o1, e1, c1, _⟩ := p
      obtain ⟨o2, e2, c2, _⟩ := hit
      rw [e1] at e2; cases e2
      rw [c1] at c2
      exact absurd (Value.type.inj c2) (by decide)
    have hea : e ≠ a := by
      rintro rfl
      obtain ⟨o1, e1, c1, _⟩ := p
      have h3 := Option.some.inj (e1.symm.trans (show s.heap.get? _ = some _ from he))
      rw [h3] at c1
      exact absurd (Value.type.inj c1) (by decide)
    obtain ⟨u, hu, ru⟩ := rv.get hx
    have hlen := (List.getElem?_eq_some_iff.mp hu).1
    have hel : e < s.heap.objs.size := Heap.lt_size he
    have hil : it < s.heap.objs.size := by obtain ⟨_, q, _⟩ := hit; exact Heap.lt_size q
    refine wpAny_pyNext_enum_itemD (wx_draws_tuple (A := X.A.in1) (I.ok.hd hc) hai) he ⟨hit, p⟩ (by simpa using hlen) hne (by simp [hne, hea]) fun u' h' tk hPx ho hst' hT hsz hk => ?_
    have eu : u' = u := by
      have h1 : its[i]? = some u' := by simpa using hPx
      rw [hu] at h1
      exact (Option.some.inj h1).symm
    subst eu
    refine ⟨_, rfl, wpAny_letOwnedTupleGo_enum (s := { s with heap := h', toks := tk + 1 }) ho fun h'' he' sb => ?_⟩
    have hT2 : h''.get? s.heap.objs.size = some { cls := .type "tuple", data := .seq #[.int i tk, u'] } := (sb.2 _ (Nat.ne_of_gt hel)).trans hT
    have new : ObjOk X.prog X.w (upd H s.heap.objs.size (.tup [.int (i : Nat), x])) h'' s.heap.objs.size (.tup [.int (i : Nat), x]) :=
      ⟨by show 2 ≤ sizeLine; decide, [.int i tk, u'], .cons ⟨_, rfl⟩ (.cons ru .nil), ⟨_, hT2, rfl, _, rfl⟩⟩
    have I1 : Inv X pins σ (upd H s.heap.objs.size (.tup [.int (i : Nat), x])) { s with heap := h'', toks := tk + 1 } :=
      I.turnedNew (ch := [e, it]) (fun b ob hb q => (sb.2 b (fun z => hb (by simp [z]))).trans (hk b ob (fun z => hb (by simp [z])) (fun z => hb (by simp [z])) q)) hf (Nat.le_refl _) new
    obtain ⟨⟨o2, ho2, r2⟩, _⟩ := hst'
    refine ⟨.ref s.heap.objs.size, _, I1, rfl, ⟨_, x, rfl, I.hok.fresh (Nat.le_refl _), rfl, fun ys hy => by rw [I.tuple_inj hy hq]; exact hx⟩, ⟨⟨u', ?_⟩, ⟨o2, (sb.2 it (Ne.symm hne)).trans ho2, r2⟩, hne⟩, fun b hb => ?_⟩
    · have e1 : ((i + 1 : Nat) : Int) = (i : Int) + 1 := by omega
      rw [e1]; exact he'
    · have hb' : b < s.heap.objs.size := by
        have e' : b = e ∨ b = it := by simpa using hb
        rcases e' with z | z
        · rw [z]; exact hel
        · rw [z]; exact hil
      rw [upd_ne (Nat.ne_of_lt hb')]
      exact (hf b hb).1
  done := by
    intro X hP hw hK hc i pins s σ H E I hf st hg
    subst hP hw hK
    obtain ⟨⟨old, he⟩, hit, hne⟩ := st
    obtain ⟨xs, hq, hx⟩ := hg
    obtain ⟨its, rv, p, hz⟩ := I.tuple hq
    have p : s.heap.IsTuple a its.toArray := p
    obtain ⟨f0, f1, f2, f3, f4, f5⟩ := hf it (by simp)
    have hl := rv.length
    have hT : s.TypeIs (.ref e) "enumerate" := ⟨_, he, rfl⟩
    unfold pyNext
    refine wpAny_bind (wpAny_attempt (wpAny_callSpecial?_slot (name := Str.ofString "__next__") hT F.slot_enumerate_next
      (wpAny_call_entry F.slot_enumerate_next hT F.entry_enumerate_next ?_ (F.args_enumerate_next_1 _))))
    show wpAny _ _ (field (.ref e) 2 >>= _) _ _ _
    refine wpAny_bind (wpAny_field he rfl (x := .ref it) rfl ?_)
    refine wpAny_bind (wx_nextOf_tuple_end (I.ok.hd hc) hit p (by simp; omega) fun h' x he' hx' => ?_)
    obtain ⟨o, ho, hc⟩ := hx'
    refine wpAny_bind (wpAny_isInstance (T := "StopIteration") (b := true) ⟨o, ho, hc⟩ isSubtype_stop ?_)
    exact wpAny_pure ⟨rfl, I.turned (t' := s.toks) (fun b o hb q => he' b o hb q) f0 f1 f3 f4 f5⟩
  self := fun A i s Q E st h => let ⟨⟨_, he⟩, _⟩ := st; wpAny_pyIter_enum he h
def iEnumT (K : PySem.W.Frag) (ta : TA) : TI := fun σ H R => ta σ H fun vs H1 => ∃ a xs, vs = [.ref a] ∧ SqT K H1 a xs ∧ R (ItE K a) H1
theorem pi_enumT {X : Cx} {e : Expr} {ta : TA} {p pos tpos : Pos} {elts : List Expr} {kk : Nat} (hg : Gl X "enumerate") (hm : X.mg "enumerate" = none) (ha : PA X [e] ta) (hs : starEach [e] X.env = [(false, eval e X.env)] := by rfl) :
    PI X (.Tuple elts kk tpos) (.Call (.Name "enumerate" p) [e] [] pos) (iEnumT X.K ta) := by
  intro pins s σ H R I h
  refine Call_ (ld_blt I hg hm boot_enumerate (PyProof.Rows.callWith_type1 (thn (ha pos pins s σ H _ I h) fun us s1 ⟨vs, H1, I1, r1, q1⟩ => ?_) hs rfl))
  obtain ⟨a, xs, ex, hq, q⟩ := q1
  subst ex
  cases r1 with
  | cons r rr =>
    cases rr
    cases r
    obtain ⟨its, rv, p', hz⟩ := I1.tuple hq
    have p' : s1.heap.IsTuple a its.toArray := p'
    refine wx_call_enumerate_tuple p' fun h' he hit hsz hk => wpAny_pyIter_enum he ?_
    have I2 : Inv X pins σ H1 { s1 with heap := h' } := I1.kept (t' := s1.toks) hk
    refine ⟨s1.heap.objs.size + 1, [s1.heap.objs.size + 1, s1.heap.objs.size], _, _, H1, rfl, I2, turn_enumT a (s1.heap.objs.size + 1) s1.heap.objs.size, ⟨⟨.none, he⟩, hit, Nat.succ_ne_self _⟩, fun b hb => ?_, q⟩
    have e' : b = s1.heap.objs.size + 1 ∨ b = s1.heap.objs.size := by simpa using hb
    have hle : s1.heap.objs.size ≤ b := by
      rcases e' with z | z
      · rw [z]; exact Nat.le_add_right _ _
      · rw [z]; exact Nat.le_refl _
    exact I1.fpOk hle (I1.hok.fresh hle)
/-- over enumerate(list), the list as it is -/
theorem for_enum {K : PySem.W.Frag} {a : Addr} {xs : List V} {g : TG} {tb : TS} {D : Ends} {σ : St} {H : Hp} (Pv : Nat → St → Hp → Prop) (h0 : Pv 0 σ H) (hl : ∀ i σ H, i ≤ xs.length → Pv i σ H → SqL K H a xs)
    (hs : ∀ i x σ H T, xs[i]? = some x → Pv i σ H → H T = none → g (.ref T) σ (upd H T (.tup [.int (i : Nat), x])) fun σ2 H2 => tb { D with nx := Pv (i + 1), ct := Pv (i + 1), bk := D.nx } σ2 H2) (hd : ∀ σ H, Pv xs.length σ H → D.nx σ H) :
    ∃ W : Nat → Nat → St → Hp → Prop, (∃ m, W 0 m σ H) ∧ ∀ i m σ H, W i m σ H →
      ((Ite K a).stop i H ∧ D.nx σ H) ∨ ((Ite K a).go i H ∧ ∃ N : St → Hp → Prop, (∀ σ' H', N σ' H' → ∃ m', m' < m ∧ W (i + 1) m' σ' H') ∧ ∀ x H', (Ite K a).yld i H x H' → g x σ H' fun σ2 H2 => tb { D with nx := N, ct := N, bk := D.nx } σ2 H2) := by
  refine ⟨fun i m σ H => m = xs.length - i ∧ i ≤ xs.length ∧ Pv i σ H, ⟨xs.length, by simp, Nat.zero_le _, h0⟩, ?_⟩
  rintro i m σ H ⟨rfl, hi, p⟩
  have q := hl i σ H hi p
  by_cases hlt : i < xs.length
  · refine .inr ⟨⟨xs, xs[i], q, by simp [hlt]⟩, Pv (i + 1), fun σ' H' p' => ⟨xs.length - (i + 1), by omega, rfl, hlt, p'⟩, fun x H' y => ?_⟩
    obtain ⟨T, z, e1, hT, e2, y⟩ := y
    subst e1 e2
    exact hs i z σ H T (y xs q) p hT
  · have e : i = xs.length := by omega
    subst e
    exact .inl ⟨⟨xs, q, Nat.le_refl _⟩, hd σ H p⟩
theorem for_enumT {K : PySem.W.Frag} {a : Addr} {xs : List V} {g : TG} {tb : TS} {D : Ends} {σ : St} {H : Hp} (Pv : Nat → St → Hp → Prop) (h0 : Pv 0 σ H) (hl : ∀ i σ H, i ≤ xs.length → Pv i σ H → SqT K H a xs)
    (hs : ∀ i x σ H T, xs[i]? = some x → Pv i σ H → H T = none → g (.ref T) σ (upd H T (.tup [.int (i : Nat), x])) fun σ2 H2 => tb { D with nx := Pv (i + 1), ct := Pv (i + 1), bk := D.nx } σ2 H2) (hd : ∀ σ H, Pv xs.length σ H → D.nx σ H) :
    ∃ W : Nat → Nat → St → Hp → Prop, (∃ m, W 0 m σ H) ∧ ∀ i m σ H, W i m σ H →
      ((ItE K a).stop i H ∧ D.nx σ H) ∨ ((ItE K a).go i H ∧ ∃ N : St → Hp → Prop, (∀ σ' H', N σ' H' → ∃ m', m' < m ∧ W (i + 1) m' σ' H') ∧ ∀ x H', (ItE K a).yld i H x H' → g x σ H' fun σ2 H2 => tb { D with nx := N, ct := N, bk := D.nx } σ2 H2) := by
  refine ⟨fun i m σ H => m = xs.length - i ∧ i ≤ xs.length ∧ Pv i σ H, ⟨xs.length, by simp, Nat.zero_le _, h0⟩, ?_⟩
  rintro i m σ H ⟨rfl, hi, p⟩
  have q := hl i σ H hi p
  by_cases hlt : i < xs.length
  · refine .inr ⟨⟨xs, xs[i], q, by simp [hlt]⟩, Pv (i + 1), fun σ' H' p' => ⟨xs.length - (i + 1), by omega, rfl, hlt, p'⟩, fun x H' y => ?_⟩
    obtain ⟨T, z, e1, hT, e2, y⟩ := y
    subst e1 e2
    exact hs i z σ H T (y xs q) p hT
  · have e : i = xs.length := by omega
    subst e
    exact .inl ⟨⟨xs, q, Nat.le_refl _⟩, hd σ H p⟩
/-! ### set(list of ints), len(set) -/
def metL (ns : List Int) : List Int := firstMet (fun i => ns.getD i 0) ns.length
theorem call_set_of {X : Cx} (hc : X.calm = true) : CallR X (.type "set") (fun xs H Q => ∃ p ns, xs = [.ref p] ∧ SqL X.K H p (ns.map V.int) ∧ ns.length + 1 < scanBound ∧
    ∀ l, H l = none → Q (.ref l) (upd H l (.set (fun k' => (metL ns).any (· == k')) (metL ns).length))) := by
  intro pins s σ H xs us Q I r h
  obtain ⟨p, ns, rfl, hq, hb, q⟩ := h
  cases r with
  | cons r1 r2 =>
    cases r2
    cases r1
    obtain ⟨its, rv, pl, hz⟩ := I.list hq
    have hl := rv.length
    rw [List.length_map] at hl
    refine PySem.call_set_list (items := its.toArray) (ns := ns) (I.ok.hd hc) pl.isList (by simpa using intsAre_of rv) (by rw [List.size_toArray, ← hl]; exact hb) fun h' tk hS hk => ?_
    rw [show its.toArray.size = ns.length by rw [List.size_toArray, hl]] at hS
    refine ⟨.ref s.heap.objs.size, _, I.laid (t' := tk) (o := .set (fun k' => (metL ns).any (· == k')) (metL ns).length) (fun b o e => hk b o (Heap.lt_size e) e) (Nat.le_refl _) ?_, rfl, q _ (I.hok.fresh (Nat.le_refl _))⟩
    exact hS
theorem call_len_setO {X : Cx} : CallR X (.builtin "len") (fun xs H Q => ∃ p S n, xs = [.ref p] ∧ H p = some (.set S n) ∧ Q (.int n) H) := by
  intro pins s σ H xs us Q I r h
  obtain ⟨p, S, n, rfl, hp, q⟩ := h
  cases r with
  | cons r1 r2 =>
    cases r2
    cases r1
    obtain ⟨o, es, ep, t, ho, hex, hd, _, _, hsz, hf, hn⟩ := (show s.heap.SetOf (intKind X.prog X.w) p S n from I.hok p _ hp)
    subst hn
    refine PySem.call_len_set ho hex hd hf (by unfold scanBound at hsz; omega) ⟨.int _, H, I.tok _, ⟨_, rfl⟩, q⟩
end L2
end
section
set_option Elab.async false
set_option linter.all false
set_option maxRecDepth 100000
set_option maxHeartbeats 2000000
namespace L2
open PySem PySem.Spec PyProof.Rows
/-! ### min(list of ints) -/
theorem call_min_of {X : Cx} (hc : X.calm = true) : CallR X (.builtin "min") (fun xs H Q => ∃ (p : Addr) (ns : List Int), xs = [.ref p] ∧ SqL X.K H p (ns.map V.int) ∧ 0 < ns.length ∧ ∀ M, M ∈ ns → (∀ a, a ∈ ns → M ≤ a) → Q (.int M) H) := by
  intro pins s σ H xs us Q I r h
  obtain ⟨p, ns, rfl, hq, hne, q⟩ := h
  cases r with
  | cons r1 r2 =>
    cases r2
    cases r1
    obtain ⟨its, rv, pl, hz⟩ := I.list hq
    have hl : s.heap.IsList p its.toArray := pl.isList
    have hi : IntsAre its ns := intsAre_of rv
    obtain ⟨ys, e⟩ := hi.allInts.items
    have hns : ns = ys.toList.map (·.1) := by
      rw [← hi.numsOf, ← nums_intItems, ← e]
    have hsz : 0 < ys.size := by
      have h3 := hne; rw [hns, List.length_map, Array.length_toList] at h3; exact h3
    rw [e] at hl
    refine min_intList (I.ok.hd hc) hl hsz fun v h' tk hv hk => ?_
    obtain ⟨t, rfl⟩ := intItems_at hv
    obtain ⟨h1, h2⟩ := argBest_lt (numAt ys) (ys.size - 1)
    refine ⟨.int _, H, I.kept (t' := tk) hk, ⟨_, rfl⟩, q _ ?_ fun a ha => ?_⟩
    · rw [hns, numAt_eq]; exact getD_mem (by rw [List.length_map, Array.length_toList]; omega)
    · rw [hns] at ha
      obtain ⟨j, hj, rfl⟩ := mem_getD ha
      rw [List.length_map, Array.length_toList] at hj
      rw [← numAt_eq]; exact h2 j (by omega)
/-! ### list(dict) -/
theorem vals_of_at : ∀ {xs : List V} {us : List Value}, us.length = xs.length → (∀ (j : Nat) (u : Value), us[j]? = some u → ∃ x, xs[j]? = some x ∧ RelV x u) → Vals xs us
  | [], [], _, _ => .nil
  | [], u :: us, h, _ => by cases h
  | x :: xs, [], h, _ => by cases h
  | x :: xs, u :: us, h, k => by
    obtain ⟨y, e, r⟩ := k 0 u rfl
    have e : x = y := Option.some.inj e
    subst e
    exact .cons r (vals_of_at (Nat.succ.inj h) fun j u' hj => k (j + 1) u' hj)
theorem call_list_dK {X : Cx} (hc : X.calm = true) : CallR X (.type "list") (fun xs H Q => ∃ p kvs, xs = [.ref p] ∧ H p = some (.dK kvs) ∧ ∀ l, H l = none → Q (.ref l) (upd H l (.lst (kvs.map fun kv => kV kv.1)))) := by
  intro pins s σ H xs us Q I r h
  obtain ⟨p, kvs, rfl, hp, q⟩ := h
  obtain ⟨u, rfl, rx⟩ := vals1 r
  cases rx
  obtain ⟨hz, hs, vs, kv, o, es, ep, ho, hx, hdt, hr⟩ := dk_of I.hok hp
  have l2 : kvs.length = vs.length := Paired.length kv
  refine PySem.W.kdl_call (PySem.W.kdl_dict (knd := mixKind X.prog X.w) (kvs := vs) (ep := ep) hs) (I.ok.hd hc) ⟨o, es, ho, hx, hdt, hr⟩ (by omega) fun h' tk acc' c' hk hl' hacc => ?_
  have rv : Vals (kvs.map fun kv => kV kv.1) acc'.toList := by
    refine vals_of_at (by rw [Array.length_toList, List.length_map, hacc.1, l2]) fun j u hu => ?_
    rw [Array.getElem?_toList] at hu
    obtain ⟨k, x, e, hk2⟩ := hacc.2 j u hu
    have hj : j < kvs.length := by rw [l2]; exact (List.getElem?_eq_some_iff.mp e).1
    have e3 : kvs[j]? = some kvs[j] := List.getElem?_eq_getElem hj
    obtain ⟨b, hb, e1⟩ := paired_get kv e3
    rw [e] at hb
    cases hb
    refine ⟨kV kvs[j].1, by rw [List.getElem?_map, e3]; rfl, ?_⟩
    have e4 : kvs[j].1 = k := e1.1
    rw [e4]
    exact relV_key hk2
  refine ⟨.ref s.heap.objs.size, _, I.laid (t' := tk) (o := .lst (kvs.map fun kv => kV kv.1)) hk (Nat.le_refl _) ?_, rfl, q _ (I.hok.fresh (Nat.le_refl _))⟩
  exact ⟨by rw [List.length_map]; exact hz, acc'.toList, c', rv, hl'⟩
end L2
end
section
set_option Elab.async false
set_option linter.all false
set_option maxRecDepth 100000
namespace Wm
open PySem PyProof.Rows
theorem bit_int (n k : Nat) : Builtin.bitAnd ((n : Int) / 2 ^ ((k : Int)).toNat) 1 = ((Kcz8.bit n k : Nat) : Int) := by
  rw [bitAnd_m1]
  unfold Kcz8.bit
  simp
theorem and_pow (o k : Nat) : o &&& 2 ^ k = Kcz8.bit o k * 2 ^ k := by
  refine Nat.eq_of_testBit_eq fun i => ?_
  rw [Nat.testBit_and, Nat.testBit_two_pow]
  have h : Kcz8.bit o k = 0 ∨ Kcz8.bit o k = 1 := by
    have := bit_le o k
    omega
  have ht : o.testBit k = decide (Kcz8.bit o k = 1) := Nat.testBit_eq_decide_div_mod_eq ..
  by_cases e : k = i
  · subst e
    rcases h with h | h
    · rw [ht, h]
      simp
    · rw [ht, h, Nat.one_mul, Nat.testBit_two_pow]
      simp
  · rcases h with h | h
    · rw [h]
      simp [e]
    · rw [h, Nat.one_mul, Nat.testBit_two_pow]
      simp [e]
theorem pow_le_of_bit {o k : Nat} (h : ¬ Kcz8.bit o k = 0) : 2 ^ k ≤ o := by
  by_cases hl : 2 ^ k ≤ o
  · exact hl
  · exfalso
    apply h
    unfold Kcz8.bit
    rw [Nat.div_eq_of_lt (by omega)]
theorem flip_int (o k : Nat) : Builtin.bitXor (o : Int) (1 * 2 ^ ((k : Int)).toNat) = ((Kcz8.flip o k : Nat) : Int) := by
  have e : (1 * 2 ^ ((k : Int)).toNat : Int) = ((2 ^ k : Nat) : Int) := by simp
  rw [e, bitXor_and, bitAnd_pp (Int.natCast_nonneg _) (Int.natCast_nonneg _)]
  rw [Int.toNat_natCast, Int.toNat_natCast, and_pow]
  unfold Kcz8.flip
  by_cases h : Kcz8.bit o k = 0
  · rw [if_pos h, h]
    simp
  · rw [if_neg h]
    have h1 := pow_le_of_bit h
    have h2 := bit_le o k
    have h3 : Kcz8.bit o k = 1 := by omega
    rw [h3, Nat.one_mul]
    omega
theorem xor0 (r : Nat) : Builtin.bitXor (r : Int) 0 = (r : Int) := bitXor_zero _
theorem xor1 {r : Nat} (h : r ≤ 1) : Builtin.bitXor (r : Int) 1 = ((1 - r : Nat) : Int) := by
  have : r = 0 ∨ r = 1 := by omega
  rcases this with e | e <;> subst e <;> decide
theorem beyond_int (x n : Nat) : decide (0 < (x : Int) / 2 ^ ((n : Int)).toNat) = !decide (x < 2 ^ n) := by
  rw [Int.toNat_natCast]
  have e : (x : Int) / 2 ^ n = ((x / 2 ^ n : Nat) : Int) := by simp
  rw [e]
  by_cases h : x < 2 ^ n
  · rw [Nat.div_eq_of_lt h, decide_eq_true h]
    rfl
  · have h2 : 0 < x / 2 ^ n := Nat.div_pos (by omega) (Nat.pow_pos (by decide))
    rw [decide_eq_false h, decide_eq_true (by omega)]
    rfl
theorem met_twice : ∀ on : List Nat, on.length ≤ 3 → (decide (((L2.metL (on.map fun (k : Nat) => (k : Int))).length : Int) < (on.length : Int)) = Kcz8.twice on)
  | [], _ => by decide
  | [a], _ => by
    simp [L2.metL, firstMet, step_dedup, Kcz8.twice, List.range_succ]
  | [a, b], _ => by
    by_cases h : a = b
    · subst h
      simp [L2.metL, firstMet, step_dedup, Kcz8.twice, List.range_succ]
    · have i1 : ¬ (a : Int) = (b : Int) := by omega
      simp [L2.metL, firstMet, step_dedup, Kcz8.twice, List.range_succ, h, i1]
  | [a, b, c], _ => by
    by_cases h : a = b
    · subst h
      by_cases h2 : a = c
      · subst h2
        simp [L2.metL, firstMet, step_dedup, Kcz8.twice, List.range_succ]
      · have i1 : ¬ (a : Int) = (c : Int) := by omega
        have i2 : ¬ (c : Int) = (a : Int) := by omega
        simp [L2.metL, firstMet, step_dedup, Kcz8.twice, List.range_succ, h2, i1, i2]
    · have i1 : ¬ (a : Int) = (b : Int) := by omega
      have i2 : ¬ (b : Int) = (a : Int) := by omega
      by_cases h2 : a = c
      · subst h2
        simp [L2.metL, firstMet, step_dedup, Kcz8.twice, List.range_succ, h, i1, i2]
      · by_cases h3 : b = c
        · subst h3
          simp [L2.metL, firstMet, step_dedup, Kcz8.twice, List.range_succ, h, i1, i2]
        · have j1 : ¬ (a : Int) = (c : Int) := by omega
          have j2 : ¬ (c : Int) = (a : Int) := by omega
          have j3 : ¬ (b : Int) = (c : Int) := by omega
          have j4 : ¬ (c : Int) = (b : Int) := by omega
          simp [L2.metL, firstMet, step_dedup, Kcz8.twice, List.range_succ, h, h2, h3, i1, i2, j1, j2, j3, j4]
  | _ :: _ :: _ :: _ :: _, h => by
    simp at h
end Wm
end
section
set_option Elab.async false
set_option linter.all false
set_option maxRecDepth 100000
namespace L2
open PySem PySem.Spec PyProof.Rows
/-! ### a written dict of the top: ints to ints -/
def dChk : List DictEntry → List (Int × Int) → Bool
  | [], [] => true
  | e :: es, kv :: kvs => (match e.key, e.val with
    | .int k _, .int v _ => k == kv.1 && v == kv.2 && e.hash == hashInt kv.1
    | _, _ => false) && dChk es kvs
  | _, _ => false
def DictK (K : PySem.W.Frag) (d : Addr) (kvs : List (Int × Int)) : Prop := ∃ (es : Array DictEntry) (ep : Nat), K.lookup d = some { cls := .type "dict", data := .dict es ep } ∧ dChk es.toList kvs = true
theorem dChk_one {e : DictEntry} {kv : Int × Int} (h : (match e.key, e.val with
    | .int k _, .int v _ => k == kv.1 && v == kv.2 && e.hash == hashInt kv.1
    | _, _ => false) = true) : ∃ t u, e.key = .int kv.1 t ∧ e.val = .int kv.2 u ∧ e.hash = hashInt kv.1 := by
  obtain ⟨hs, key, val⟩ := e
  cases key <;> cases val <;> simp_all
theorem dChk_keys {P : Program} {w : World} : ∀ {es : List DictEntry} {kvs : List (Int × Int)}, dChk es kvs = true → ∀ e ∈ es, ∃ k, (intKind P w).is k e.key = true ∧ e.hash = (intKind P w).hash k
  | [], _, _, e, he => by cases he
  | x :: es, [], h, e, he => by simp [dChk] at h
  | x :: es, kv :: kvs, h, e, he => by
    rw [dChk, Bool.and_eq_true] at h
    rcases List.mem_cons.mp he with q | q
    · subst q
      obtain ⟨t, u, h1, h2, h3⟩ := dChk_one h.1
      exact ⟨kv.1, by rw [h1]; exact intKind_is P w _ _, h3⟩
    · exact dChk_keys h.2 e q
theorem dChk_find {P : Program} {w : World} {k v : Int} : ∀ {es : List DictEntry} {kvs : List (Int × Int)}, dChk es kvs = true → kvs.lookup k = some v → ∃ u, (es.find? fun e => (intKind P w).is k e.key).map (·.val) = some (.int v u)
  | [], [], _, e => by cases e
  | [], _ :: _, h, _ => by simp [dChk] at h
  | x :: es, [], h, _ => by simp [dChk] at h
  | x :: es, kv :: kvs, h, e => by
    rw [dChk, Bool.and_eq_true] at h
    obtain ⟨t, u, h1, h2, h3⟩ := dChk_one h.1
    have hk : (intKind P w).is kv.1 x.key = true := by rw [h1]; exact intKind_is P w _ _
    have his : (intKind P w).is k x.key = decide (k = kv.1) := KeyKind.is_eq_decide hk k
    rw [List.find?_cons, his]
    by_cases hc : k = kv.1
    · rw [decide_eq_true hc]
      refine ⟨u, ?_⟩
      have e2 : kvs.lookup k = kvs.lookup k := rfl
      obtain ⟨a, b⟩ := kv
      have hc' : k = a := hc
      rw [List.lookup_cons, hc', beq_self_eq_true] at e
      have e3 : b = v := Option.some.inj e
      show some x.val = _
      rw [h2, ← e3]
    · rw [decide_eq_false hc]
      obtain ⟨a, b⟩ := kv
      have hc' : (k == a) = false := beq_eq_false_iff_ne.mpr hc
      rw [List.lookup_cons, hc'] at e
      exact dChk_find h.2 e
def tDGetK (K : PySem.W.Frag) (td ty : TE) : TE := fun σ H Q => td σ H fun x H1 => ty σ H1 fun y H2 => ∃ d kvs k v, x = .ref d ∧ y = .int k ∧ DictK K d kvs ∧ kvs.lookup k = some v ∧ Q (.int v) H2
theorem pe_dgetK {X : Cx} {o i : Expr} {td ty : TE} {pos : Pos} (ho : PE X o td) (hi : PE X i ty) (hs : NoSl i) : PE X (.Subscript o i pos) (tDGetK X.K td ty) := by
  intro pins s σ H Q I h
  refine subD_of PySem.F.slot_dict_getitem.lookup hs (thn (ho pins s σ H _ I h) fun u s1 ⟨x, H1, I1, rx, q1⟩ => thn (hi pins s1 σ H1 _ I1 q1) fun iv s2 ⟨y, H2, I2, ry, d, kvs, k, v, ex, ey, ⟨es, ep, hl, hc⟩, hv, q2⟩ => ?_)
  subst ex ey
  obtain rfl : u = Value.ref d := rx
  obtain ⟨t, rfl⟩ := ry
  have hd := I2.kIn d _ hl
  refine ⟨⟨_, hd, rfl⟩, ?_⟩
  obtain ⟨u, hu⟩ := dChk_find (P := X.prog) (w := X.w) hc hv
  have hm : s2.heap.MapOf (intKind X.prog X.w) d (findBy (intKind X.prog X.w).is es) := ⟨_, es, ep, hd, ⟨rfl, rfl, rfl⟩, rfl, fun e he => dChk_keys hc e (by simpa using he), fun _ => rfl⟩
  refine wpAny_getItem_of (k := k) (intKind_is X.prog X.w k t) hm (v := .int v u) ?_ ⟨.int v, H2, I2.tok _, ⟨_, rfl⟩, q2⟩
  unfold findBy
  rw [← Array.find?_toList]
  exact hu
end L2
end
section
set_option Elab.async false
set_option linter.all false
set_option maxRecDepth 100000
set_option maxHeartbeats 2000000
namespace Ws
open PySem PySem.Spec PyProof.Rows L2
/-! ### the text by places -/
def top (i : Nat) : Stmt := PySem.Challenge.pw_wishesalike_s01_answers.main.body.getD i (.Pass ⟨0, 0, 0, 0⟩)
abbrev sBit : Stmt := top 17
abbrev sFInit : Stmt := inClass (top 18) 0
abbrev sWay : Stmt := inClass (top 18) 1
abbrev sWanted : Stmt := inClass (top 18) 2
abbrev sWInit : Stmt := inClass (top 19) 0
abbrev sBegin : Stmt := inClass (top 19) 1
abbrev sFeature : Stmt := inClass (top 19) 2
abbrev sMay : Stmt := inClass (top 19) 3
abbrev sBest : Stmt := inClass (top 19) 4
abbrev sWorst : Stmt := inClass (top 19) 5
abbrev sFilled : Stmt := inClass (top 19) 6
abbrev sCompare : Stmt := inClass (top 19) 7
abbrev sPath : Stmt := inClass (top 19) 8
abbrev sChange : Stmt := inClass (top 19) 9
abbrev sAbove : Stmt := inClass (top 19) 10
abbrev sBelow : Stmt := inClass (top 19) 11
abbrev sCount : Stmt := inClass (top 19) 12
abbrev sOrder : Stmt := inClass (top 19) 13
abbrev sBeyond : Stmt := inClass (top 19) 14
abbrev sDist : Stmt := inClass (top 19) 15
abbrev sNeigh : Stmt := inClass (top 19) 16
abbrev sAble : Stmt := inClass (top 19) 17
abbrev sNext : Stmt := top 20
/-! ### the data -/
abbrev vInts (l : List Nat) : List V := l.map fun (k : Nat) => V.int (k : Int)
def ff (t : Addr) (w : Nat) : List (Str × V) := putF "wish" (.int (w : Int)) (putF "on" (.ref t) [])
theorem ff_on (t : Addr) (w : Nat) : (ff t w).lookup ("on" : Str) = some (.ref t) := by
  unfold ff
  rw [lookup_putF, if_neg (by decide +kernel), lookup_putF, if_pos rfl]
theorem ff_wish (t : Addr) (w : Nat) : (ff t w).lookup ("wish" : Str) = some (.int (w : Int)) := by
  unfold ff
  rw [lookup_putF, if_pos rfl]
theorem ff_no (t : Addr) (w : Nat) {m : Str} (h : ¬ m = "wish") (h2 : ¬ m = "on") : (ff t w).lookup m = none := by
  unfold ff
  rw [lookup_putF, if_neg h, lookup_putF, if_neg h2]
  rfl
def FeatAt (C : Addr) (H : Hp) (a : Addr) (f : Kcz8.Feature) : Prop := ∃ dx t, H a = some (.ins C dx (ff t f.wish)) ∧ H t = some (.tup (vInts f.on))
theorem FeatAt.same {C : Addr} {H H' : Hp} {a : Addr} {f : Kcz8.Feature} (s : Same H H') (h : FeatAt C H a f) : FeatAt C H' a f := by
  obtain ⟨dx, t, h1, h2⟩ := h
  exact ⟨dx, t, s _ _ h1, s _ _ h2⟩
def wf (l : Addr) : List (Str × V) := putF "features" (.ref l) []
theorem wf_features (l : Addr) : (wf l).lookup ("features" : Str) = some (.ref l) := by
  unfold wf
  rw [lookup_putF, if_pos rfl]
theorem wf_no (l : Addr) {m : Str} (h : ¬ m = "features") : (wf l).lookup m = none := by
  unfold wf
  rw [lookup_putF, if_neg h]
  rfl
theorem wf_put (l l' : Addr) : putF "features" (.ref l') (wf l) = wf l' := by
  show (if ("features" : Str) = "features" then [(("features" : Str), V.ref l')] else _) = ([("features", V.ref l')] : List (Str × V))
  rw [if_pos rfl]
/-- an object with these features stands at p, its list at l -/
structure WAt (CW CF : Addr) (H : Hp) (p l : Addr) (as : List Addr) (fs : List Kcz8.Feature) : Prop where
  ins : ∃ dx, H p = some (.ins CW dx (wf l))
  lst : H l = some (.lst (as.map V.ref))
  len : as.length = fs.length
  at_ : ∀ (j : Nat) (a : Addr) (f : Kcz8.Feature), as[j]? = some a → fs[j]? = some f → FeatAt CF H a f
theorem WAt.same {CW CF : Addr} {H H' : Hp} {p l : Addr} {as : List Addr} {fs : List Kcz8.Feature} (s : Same H H') (h : WAt CW CF H p l as fs) : WAt CW CF H' p l as fs := by
  obtain ⟨⟨dx, h1⟩, h2, h3, h4⟩ := h
  exact ⟨⟨dx, s _ _ h1⟩, s _ _ h2, h3, fun j a f ha hf => (h4 j a f ha hf).same s⟩
theorem same_upd {H : Hp} {a : Addr} {o : HO} (h : H a = none) : Same H (upd H a o) := fun b u e => by
  rw [upd_ne (ne_of_none e h)]
  exact e
theorem Same.refl {H : Hp} : Same H H := fun _ _ e => e
theorem same_upd2 {H H1 : Hp} {a : Addr} {o : HO} (s : Same H H1) (h : H a = none) : Same H (upd H1 a o) := fun b u e => by
  rw [upd_ne (ne_of_none e h)]
  exact s b u e
/-- what the text's top has -/
structure Txt (K : PySem.W.Frag) (mg : Str → Option Value) (CW CF : Addr) : Prop where
  clW : Cls K CW
  clF : Cls K CF
  nFeat : NoAttr K CW "features"
  nOn : NoAttr K CF "on"
  nWish : NoAttr K CF "wish"
  mgW : mg "Wishes" = some (.ref CW)
  mgF : mg "Feature" = some (.ref CF)
  enum : mg "enumerate" = none
  len : mg "len" = none
  set : mg "set" = none
  tuple : mg "tuple" = none
  all : mg "all" = none
  min : mg "min" = none
  list : mg "list" = none
  range : mg "range" = none
  better : ∃ u, mg "BETTER" = some u ∧ RelV (.int 0) u
  worse : ∃ u, mg "WORSE" = some u ∧ RelV (.int 1) u
  noPath : ∃ u, mg "NO_PATH" = some u ∧ RelV (.int (-6)) u
  wrong : ∃ u, mg "WRONG" = some u ∧ RelV (.int (-22)) u
  full : ∃ u, mg "FULL" = some u ∧ RelV (.int (-28)) u
  mostF : ∃ u, mg "MOST_FEATURES" = some u ∧ RelV (.int 6) u
  mostOn : ∃ u, mg "MOST_ON" = some u ∧ RelV (.int 3) u
/-! ### what each def promises -/
def spBit : Sp := fun vs H Q _ => ∃ n k : Nat, vs = [.int (n : Int), .int (k : Int)] ∧ Q (.int ((Kcz8.bit n k : Nat) : Int)) H
def spFInit (CF : Addr) : Sp := fun vs H Q _ => ∃ (p dx l : Addr) (on : List Nat) (w : Nat), vs = [.ref p, .ref l, .int (w : Int)] ∧ H p = some (.ins CF dx []) ∧ H l = some (.lst (vInts on)) ∧
  ∀ H' : Hp, FeatAt CF H' p ⟨on, w⟩ → (∀ b o, H b = some o → b ≠ p → H' b = some o) → Q .non H'
def spWay (CF : Addr) : Sp := fun vs H Q _ => ∃ (a : Addr) (f : Kcz8.Feature) (o : Nat), vs = [.ref a, .int (o : Int)] ∧ FeatAt CF H a f ∧ f.on.length ≤ 3 ∧ ∀ H' : Hp, Same H H' → Q (.int ((Kcz8.way o f.on : Nat) : Int)) H'
def spWanted (CF : Addr) : Sp := fun vs H Q _ => ∃ (a : Addr) (f : Kcz8.Feature) (o : Nat), vs = [.ref a, .int (o : Int)] ∧ FeatAt CF H a f ∧ f.on.length ≤ 3 ∧ ∀ H' : Hp, Same H H' → Q (.int ((Kcz8.rather f o : Nat) : Int)) H'
section
variable {P : Program} {w : World} {K : PySem.W.Frag} {mg : Str → Option Value} {base : Heap} {CW CF : Addr}
/-! ### bit -/
theorem scBit : FnScope ["number", "place"] ["number", "place"] (defScope sBit) := ⟨rfl, rfl, rfl, by decide +kernel, rfl, by decide +kernel, by decide +kernel⟩
theorem ok_bit {f : Addr} {fd : FuncData} (F : Fun K "bit" "bit" sBit f fd) : FnOk P w K mg base CX0 1 f fd ["number", "place"] spBit := by
  refine F.ok scBit (fun vs H Q E h => ?_) (fun cdv A outer s H vs Q E hr h => ?_)
  · obtain ⟨n, k, rfl, _⟩ := h
    rfl
  · obtain ⟨n, k, rfl, q⟩ := h
    refine ⟨_, pss_one (ps_ret (pe_op op_and (pe_op op_shr (pv 0) (pv 1)) pe_int)), ?_⟩
    refine ⟨_, rfl, _, rfl, _, _, rfl, rfl, Int.natCast_nonneg _, _, _, rfl, rfl, ?_⟩
    show Q (.int (Builtin.bitAnd ((n : Int) / 2 ^ ((k : Int)).toNat) 1)) H
    rw [Wm.bit_int]
    exact q
/-! ### Feature -/
theorem scFInit : FnScope ["self", "on", "wish"] ["self", "on", "wish"] (defScope sFInit) := ⟨rfl, rfl, rfl, by decide +kernel, rfl, by decide +kernel, by decide +kernel⟩
theorem ok_finit {f : Addr} {fd : FuncData} (F : Fun K "__init__" "Feature.__init__" sFInit f fd) (T : Txt K mg CW CF) : FnOk P w K mg base CX0 1 f fd ["self", "on", "wish"] (spFInit CF) := by
  refine F.ok scFInit (fun vs H Q E h => ?_) (fun cdv A outer s H vs Q E hr h => ?_)
  · obtain ⟨p, dx, l, on, w, rfl, _⟩ := h
    rfl
  · obtain ⟨p, dx, l, on, w, rfl, hp, hl, k⟩ := h
    refine ⟨_, pss_cons (ps_fld (pv 0) (pe_callTy call_tuple_of (by rfl) T.tuple PyProof.Rows.boot_tuple (pa_cons (pv 1) pa_nil)) rfl) (pss_one (ps_fld (pv 0) (pv 2) rfl)), ?_⟩
    refine ⟨_, rfl, l, _, rfl, .inl ⟨SqL.of hl, fun t ht => ?_⟩⟩
    have np : p ≠ t := ne_of_none hp ht
    refine ⟨_, rfl, p, CF, dx, [], rfl, (upd_ne np).trans hp, T.clF, T.nOn, (by show 0 < 1000; decide), ?_⟩
    refine ⟨_, rfl, _, rfl, p, CF, dx, _, rfl, upd_same, T.clF, T.nWish, (by show 1 < 1000; decide), ?_⟩
    refine k _ ⟨dx, t, upd_same, ?_⟩ fun b o e hb => ?_
    · rw [upd_ne (Ne.symm np), upd_ne (Ne.symm np), upd_same]
    · rw [upd_ne hb, upd_ne hb, upd_ne (ne_of_none e ht)]
      exact e
theorem vInts_at {l : List Nat} {i : Nat} {x : V} (h : (vInts l)[i]? = some x) : ∃ k, l[i]? = some k ∧ x = .int (k : Int) := by
  rw [List.getElem?_map] at h
  cases e : l[i]? with
  | none => rw [e] at h; cases h
  | some k => rw [e] at h; exact ⟨k, rfl, (Option.some.inj h).symm⟩
theorem take_snoc {α : Type} {l : List α} {i : Nat} {x : α} (h : l[i]? = some x) : l.take (i + 1) = l.take i ++ [x] := by
  obtain ⟨h1, e⟩ := List.getElem?_eq_some_iff.mp h
  rw [List.take_succ_eq_append_getElem h1, e]
theorem scWay : FnScope ["self", "thing", "together", "place", "other"] ["self", "thing"] (defScope sWay) := ⟨rfl, rfl, rfl, by decide +kernel, rfl, by decide +kernel, by decide +kernel⟩
theorem ok_way {f fB : Addr} {fd fdB : FuncData} (F : Fun K "way" "Feature.way" sWay f fd) (T : Txt K mg CW CF) (FB : Fun K "bit" "bit" sBit fB fdB) (bB : Binds K fdB ["number", "place"] []) (mB : mg "bit" = some (.ref fB)) :
    FnOk P w K mg base CX0 2 f fd ["self", "thing"] (spWay CF) := by
  have GB : FnOk P w K mg base CX0 1 fB fdB ["number", "place"] spBit := ok_bit FB
  refine F.ok scWay (fun vs H Q E h => ?_) (fun cdv A outer s H vs Q E hr h => ?_)
  · obtain ⟨a, ft, o, rfl, _⟩ := h
    rfl
  · obtain ⟨a, ft, o, rfl, hF, h3, k⟩ := h
    obtain ⟨dx, t, h1, h2⟩ := id hF
    refine ⟨_, pss_cons (ps_set (i := 2) scWay.nd rfl (Or.inl rfl) pe_int)
      (pss_cons (ps_for PassesOwn.never rfl (pi_enumT rfl T.enum (pa_cons (pe_fld (pv 0) rfl) pa_nil)) (pg_tup rfl (pgs_cons (pg_name (i := 3) scWay.nd rfl (Or.inl rfl)) (pgs_cons (pg_name (i := 4) scWay.nd rfl (Or.inl rfl)) pgs_nil)))
        (pss_one (ps_aug (i := 2) scWay.nd rfl (Or.inl rfl) (pe_op op_shl (pe_call GB hr rfl mB FB.kp bB .nil pass0 (pa_cons (pv 1) (pa_cons (pv 4) pa_nil))) (pv 3)) ip_add)))
      (pss_one (ps_ret (pv 2)))), ?_⟩
    refine ⟨_, rfl, a, CF, dx, _, _, rfl, h1, T.clF, T.nOn, ff_on _ _, t, _, rfl, SqT.of h2, for_enumT (K := K) (a := t) (xs := vInts ft.on)
      (fun i σ H' => ∃ v3 v4 : Option V, σ = [some (.ref a), some (.int (o : Int)), some (.int ((Kcz8.way o (ft.on.take i) : Nat) : Int)), v3, v4] ∧ Same H H')
      ⟨none, none, rfl, Same.refl⟩ (fun i σ H' _ ⟨_, _, _, s1⟩ => SqT.of (s1 _ _ h2)) ?_ ?_⟩
    · rintro i x σ H' Tt hx ⟨v3, v4, rfl, s1⟩ hT
      obtain ⟨kk, hk, rfl⟩ := vInts_at hx
      have hil : i < ft.on.length := (List.getElem?_eq_some_iff.mp hk).1
      have hb := Wm.bit_le o kk
      refine ⟨Tt, _, rfl, SqT.of upd_same, rfl, _, _, rfl, _, _, rfl, rfl, ?_⟩
      refine ⟨_, rfl, _, rfl, _, rfl, o, kk, rfl, _, rfl, _, _, rfl, rfl, ⟨by omega, by omega, by omega⟩, _, _, rfl, rfl, ?_⟩
      refine ⟨some (.int (i : Int)), some (.int (kk : Int)), ?_, s1.trans (same_upd hT)⟩
      rw [take_snoc hk, Wm.way_snoc, List.length_take, Nat.min_eq_left (Nat.le_of_lt hil)]
      simp
    · rintro σ H' ⟨v3, v4, rfl, s1⟩
      refine ⟨_, rfl, ?_⟩
      have e : ft.on.take (vInts ft.on).length = ft.on := by rw [List.length_map]; exact List.take_length
      rw [e]
      exact k H' s1
theorem scWanted : FnScope ["self", "thing"] ["self", "thing"] (defScope sWanted) := ⟨rfl, rfl, rfl, by decide +kernel, rfl, by decide +kernel, by decide +kernel⟩
theorem ok_wanted {f fB fW : Addr} {fd fdB fdW : FuncData} (F : Fun K "wanted" "Feature.wanted" sWanted f fd) (T : Txt K mg CW CF) (FB : Fun K "bit" "bit" sBit fB fdB) (bB : Binds K fdB ["number", "place"] []) (mB : mg "bit" = some (.ref fB))
    (FW : Fun K "way" "Feature.way" sWay fW fdW) (bW : Binds K fdW ["self", "thing"] []) (mW : Meth K CF "way" fW) : FnOk P w K mg base CX0 3 f fd ["self", "thing"] (spWanted CF) := by
  have GB : FnOk P w K mg base CX0 1 fB fdB ["number", "place"] spBit := ok_bit FB
  have GW : FnOk P w K mg base CX0 2 fW fdW ["self", "thing"] (spWay CF) := ok_way FW T FB bB mB
  refine F.ok scWanted (fun vs H Q E h => ?_) (fun cdv A outer s H vs Q E hr h => ?_)
  · obtain ⟨a, ft, o, rfl, _⟩ := h
    rfl
  · obtain ⟨a, ft, o, rfl, hF, h3, k⟩ := h
    obtain ⟨dx, t, h1, h2⟩ := id hF
    have hr1 : Room 1 _ := hr.mono (by decide)
    refine ⟨_, pss_one (ps_ret (pe_call GB hr1 rfl mB FB.kp bB .nil pass0 (pa_cons (pe_fld (pv 0) rfl) (pa_cons (pe_meth (pv 0) T.clF mW GW hr bW .nil pass0 (pa_cons (pv 1) pa_nil)) pa_nil)))), ?_⟩
    refine ⟨_, rfl, a, CF, dx, _, _, rfl, h1, T.clF, T.nWish, ff_wish _ _, _, rfl, a, dx, _, rfl, h1, ff_no _ _ (by decide +kernel) (by decide +kernel), _, rfl, a, ft, o, rfl, hF, h3, fun H' s1 => ?_⟩
    exact ⟨ft.wish, Kcz8.way o ft.on, rfl, k H' s1⟩
end
end Ws
end
section
set_option Elab.async false
set_option linter.all false
set_option maxRecDepth 100000
set_option maxHeartbeats 2000000
namespace Ws
open PySem PySem.Spec PyProof.Rows L2
/-! ### what each def promises, 2 -/
def spBeyond (CW CF : Addr) : Sp := fun vs H Q _ => ∃ (p l : Addr) (as : List Addr) (fs : List Kcz8.Feature) (n : Nat), vs = [.ref p, .int (n : Int)] ∧ WAt CW CF H p l as fs ∧ Q (.bl (!decide (n < 2 ^ fs.length))) H
def filledDue (fs : List Kcz8.Feature) (up : Bool) (g v : Nat) : Int := if g < 2 ^ fs.length ∧ v < 2 ^ fs.length then ((Kcz8.sweep up g v 0 fs 0 : Nat) : Int) else -22
def spFilled (CW CF : Addr) : Sp := fun vs H Q _ => ∃ (p l : Addr) (as : List Addr) (fs : List Kcz8.Feature) (g v : Nat) (up : Bool), vs = [.ref p, .int (g : Int), .int (v : Int), .int (if up then 0 else 1)] ∧
  WAt CW CF H p l as fs ∧ Wm.Wf fs ∧ ∀ H' : Hp, Same H H' → Q (.int (filledDue fs up g v)) H'
def spFill (CW CF : Addr) (up : Bool) : Sp := fun vs H Q _ => ∃ (p l : Addr) (as : List Addr) (fs : List Kcz8.Feature) (g v : Nat), vs = [.ref p, .int (g : Int), .int (v : Int)] ∧
  WAt CW CF H p l as fs ∧ Wm.Wf fs ∧ ∀ H' : Hp, Same H H' → Q (.int (filledDue fs up g v)) H'
section
variable {P : Program} {w : World} {K : PySem.W.Frag} {mg : Str → Option Value} {base : Heap} {CW CF : Addr}
theorem scBeyond : FnScope ["self", "number"] ["self", "number"] (defScope sBeyond) := ⟨rfl, rfl, rfl, by decide +kernel, rfl, by decide +kernel, by decide +kernel⟩
theorem ok_beyond {f : Addr} {fd : FuncData} (F : Fun K "is_beyond" "Wishes.is_beyond" sBeyond f fd) (T : Txt K mg CW CF) : FnOk P w K mg base CX0 1 f fd ["self", "number"] (spBeyond CW CF) := by
  refine F.ok scBeyond (fun vs H Q E h => ?_) (fun cdv A outer s H vs Q E hr h => ?_)
  · obtain ⟨p, l, as, fs, n, rfl, _⟩ := h
    rfl
  · obtain ⟨p, l, as, fs, n, rfl, W, k⟩ := h
    obtain ⟨dx, hp⟩ := W.ins
    refine ⟨_, pss_one (ps_ret (pe_cmpR op_gt (pe_op op_shr (pv 1) (pe_callB call_len_seq (by rfl) T.len PySem.boot_len (pa_cons (pe_fld (pv 0) rfl) pa_nil))) pe_int (nomark _))), ?_⟩
    refine ⟨_, rfl, _, rfl, p, CW, dx, _, _, rfl, hp, T.clW, T.nFeat, wf_features _, l, _, rfl, .inl (SqL.of W.lst), _, _, rfl, rfl, Int.natCast_nonneg _, _, _, rfl, rfl, ?_⟩
    rw [List.length_map, W.len]
    show Q (.bl (decide (0 < (n : Int) / 2 ^ ((fs.length : Int)).toNat))) H
    rw [Wm.beyond_int]
    exact k
theorem scFilled : FnScope ["self", "given", "values", "turned", "thing", "number", "feature", "value"] ["self", "given", "values", "turned"] (defScope sFilled) := ⟨rfl, rfl, rfl, by decide +kernel, rfl, by decide +kernel, by decide +kernel⟩
theorem as_at {CW CF : Addr} {H : Hp} {p l : Addr} {as : List Addr} {fs : List Kcz8.Feature} (W : WAt CW CF H p l as fs) {i : Nat} {x : V} (h : (as.map V.ref)[i]? = some x) :
    ∃ a f, as[i]? = some a ∧ fs[i]? = some f ∧ x = .ref a ∧ FeatAt CF H a f := by
  rw [List.getElem?_map] at h
  cases e : as[i]? with
  | none => rw [e] at h; cases h
  | some a =>
    rw [e] at h
    have hi : i < fs.length := by rw [← W.len]; exact (List.getElem?_eq_some_iff.mp e).1
    exact ⟨a, fs[i], rfl, by simp [hi], (Option.some.inj h).symm, W.at_ i a _ e (by simp [hi])⟩
theorem ok_filled {f fB fY fW : Addr} {fd fdB fdY fdW : FuncData} (F : Fun K "filled" "Wishes.filled" sFilled f fd) (T : Txt K mg CW CF)
    (FB : Fun K "bit" "bit" sBit fB fdB) (bB : Binds K fdB ["number", "place"] []) (mB : mg "bit" = some (.ref fB))
    (FY : Fun K "is_beyond" "Wishes.is_beyond" sBeyond fY fdY) (bY : Binds K fdY ["self", "number"] []) (mY : Meth K CW "is_beyond" fY)
    (GW : FnOk P w K mg base CX0 3 fW fdW ["self", "thing"] (spWanted CF)) (bW : Binds K fdW ["self", "thing"] []) (mW : Meth K CF "wanted" fW) : FnOk P w K mg base CX0 4 f fd ["self", "given", "values", "turned"] (spFilled CW CF) := by
  have GB : FnOk P w K mg base CX0 1 fB fdB ["number", "place"] spBit := ok_bit FB
  have GY : FnOk P w K mg base CX0 1 fY fdY ["self", "number"] (spBeyond CW CF) := ok_beyond FY T
  obtain ⟨uW, mWr, rWr⟩ := T.wrong
  refine F.ok scFilled (fun vs H Q E h => ?_) (fun cdv A outer s H vs Q E hr h => ?_)
  · obtain ⟨p, l, as, fs, g, v, up, rfl, _⟩ := h
    rfl
  · obtain ⟨p, l, as, fs, g, v, up, rfl, W, wf, k⟩ := h
    obtain ⟨dx, hp⟩ := W.ins
    have hr1 : Room 1 _ := hr.mono (by decide)
    refine ⟨_, pss_cons (ps_if (PW.pt (pw_or (pt_val (pe_meth (pv 0) T.clW mY GY hr1 bY .nil pass0 (pa_cons (pv 1) pa_nil))) (pw_or1 (pt_val (pe_meth (pv 0) T.clW mY GY hr1 bY .nil pass0 (pa_cons (pv 2) pa_nil)))))) (pss_one (ps_ret (pe_glob rfl mWr rWr))) pss_nil)
      (pss_cons (ps_set (i := 4) scFilled.nd rfl (Or.inl rfl) pe_int)
      (pss_cons (ps_for PassesOwn.never rfl (pi_enum rfl T.enum (pa_cons (pe_fld (pv 0) rfl) pa_nil)) (pg_tup rfl (pgs_cons (pg_name (i := 5) scFilled.nd rfl (Or.inl rfl)) (pgs_cons (pg_name (i := 6) scFilled.nd rfl (Or.inl rfl)) pgs_nil)))
        (pss_cons (ps_if (pt_cmpR op_eq (pe_call GB hr1 rfl mB FB.kp bB .nil pass0 (pa_cons (pv 1) (pa_cons (pv 5) pa_nil))) pe_int (nomark _))
            (pss_one (ps_set (i := 7) scFilled.nd rfl (Or.inl rfl) (pe_call GB hr1 rfl mB FB.kp bB .nil pass0 (pa_cons (pv 2) (pa_cons (pv 5) pa_nil)))))
            (pss_one (ps_set (i := 7) scFilled.nd rfl (Or.inl rfl) (pe_op op_xor (pe_meth (pv 6) T.clF mW GW hr bW .nil pass0 (pa_cons (pv 4) pa_nil)) (pv 3)))))
          (pss_one (ps_aug (i := 4) scFilled.nd rfl (Or.inl rfl) (pe_op op_shl (pv 7) (pv 5)) ip_add))))
      (pss_one (ps_ret (pv 4))))), ?_⟩
    refine ⟨_, rfl, p, dx, _, rfl, hp, wf_no _ (by decide +kernel), _, rfl, p, l, as, fs, g, rfl, W, _, rfl, ?_⟩
    by_cases hg : g < 2 ^ fs.length
    case neg =>
      rw [decide_eq_false hg]
      refine iteT (iteT ?_)
      have e : filledDue fs up g v = -22 := if_neg fun z => hg z.1
      rw [e] at k
      exact k H Same.refl
    rw [decide_eq_true hg]
    refine iteF ?_
    refine ⟨_, rfl, p, dx, _, rfl, hp, wf_no _ (by decide +kernel), _, rfl, p, l, as, fs, v, rfl, W, _, rfl, ?_⟩
    by_cases hv : v < 2 ^ fs.length
    case neg =>
      rw [decide_eq_false hv]
      refine iteT ?_
      have e : filledDue fs up g v = -22 := if_neg fun z => hv z.2
      rw [e] at k
      exact k H Same.refl
    rw [decide_eq_true hv]
    refine iteF ?_
    have e : filledDue fs up g v = ((Kcz8.sweep up g v 0 fs 0 : Nat) : Int) := if_pos ⟨hg, hv⟩
    rw [e] at k
    refine ⟨_, rfl, p, CW, dx, _, _, rfl, hp, T.clW, T.nFeat, wf_features _, l, _, rfl, SqL.of W.lst, for_enum (K := K) (a := l) (xs := as.map V.ref)
      (fun i σ H' => ∃ v5 v6 v7 : Option V, σ = [some (.ref p), some (.int (g : Int)), some (.int (v : Int)), some (.int (if up then 0 else 1)), some (.int ((Kcz8.sweep up g v 0 (fs.take i) 0 : Nat) : Int)), v5, v6, v7] ∧ Same H H')
      ⟨none, none, none, rfl, Same.refl⟩ (fun i σ H' _ ⟨_, _, _, _, s1⟩ => SqL.of (s1 _ _ W.lst)) ?_ ?_⟩
    · rintro i x σ H' Tt hx ⟨v5, v6, v7, rfl, s1⟩ hT
      obtain ⟨a, ft, ha, hft, rfl, hF⟩ := as_at W hx
      have hil : i < fs.length := (List.getElem?_eq_some_iff.mp hft).1
      have h6 := wf.six
      have s2 : Same H (upd H' Tt (.tup [.int (i : Nat), .ref a])) := s1.trans (same_upd hT)
      refine ⟨Tt, _, rfl, SqT.of upd_same, rfl, _, _, rfl, _, _, rfl, rfl, ?_⟩
      generalize hN : upd H' Tt (.tup [.int (i : Nat), .ref a]) = H2 at s2
      have fin : ∀ (H3 : Hp), Same H H3 → ∀ z : Nat, z = Wm.valOf up g v i ft (Kcz8.sweep up g v 0 (fs.take i) 0) → ∀ v6 : Option V,
          ∃ v5 v6' v7 : Option V, ([some (.ref p), some (.int (g : Int)), some (.int (v : Int)), some (.int (if up then 0 else 1)), some (.int (((Kcz8.sweep up g v 0 (fs.take i) 0 : Nat) : Int) + (z : Int) * 2 ^ ((i : Int)).toNat)), some (.int (i : Int)), v6, some (.int (z : Int))] : L2.St) =
            [some (.ref p), some (.int (g : Int)), some (.int (v : Int)), some (.int (if up then 0 else 1)), some (.int ((Kcz8.sweep up g v 0 (fs.take (i + 1)) 0 : Nat) : Int)), v5, v6', v7] ∧ Same H H3 := fun H3 s3 z ez v6 => by
        refine ⟨some (.int (i : Int)), v6, some (.int (z : Int)), ?_, s3⟩
        rw [take_snoc hft, Wm.sweep_snoc, List.length_take, Nat.min_eq_left (Nat.le_of_lt hil), Nat.zero_add, ← ez]
        simp
      refine ⟨_, rfl, _, rfl, g, i, rfl, rfl, _, rfl, ?_⟩
      have hb := Wm.bit_le v i
      refine ite2 (fun hc => ?_) fun hc => ?_
      · have hc1 : Kcz8.bit g i = 1 := by
          have z := of_decide_eq_true hc
          injection z with z
          omega
        refine ⟨_, rfl, _, rfl, v, i, rfl, ?_⟩
        refine ⟨_, rfl, _, rfl, _, rfl, _, _, rfl, rfl, ⟨by omega, by omega, by omega⟩, _, _, rfl, rfl, ?_⟩
        exact fin H2 s2 (Kcz8.bit v i) (by unfold Wm.valOf; rw [if_pos hc1]) _
      · have hc1 : ¬ Kcz8.bit g i = 1 := fun z => hc (decide_eq_true (by rw [z]; rfl))
        obtain ⟨dxa, ta, hA, _⟩ := hF.same s2
        refine ⟨_, rfl, a, dxa, _, rfl, hA, ff_no _ _ (by decide +kernel) (by decide +kernel), _, rfl, a, ft, _, rfl, hF.same s2, (wf.on i ft hft).1, fun H3 s3 => ?_⟩
        have hra := Wm.rather_le ft (Kcz8.sweep up g v 0 (fs.take i) 0)
        have ex : Builtin.bitXor ((Kcz8.rather ft (Kcz8.sweep up g v 0 (fs.take i) 0) : Nat) : Int) (if up then 0 else 1) = ((Wm.valOf up g v i ft (Kcz8.sweep up g v 0 (fs.take i) 0) : Nat) : Int) := by
          unfold Wm.valOf
          rw [if_neg hc1]
          cases up with
          | true => exact Wm.xor0 _
          | false => exact Wm.xor1 hra
        have hle := Wm.valOf_le up g v i ft (Kcz8.sweep up g v 0 (fs.take i) 0)
        refine ⟨_, rfl, _, _, rfl, rfl, ?_⟩
        dsimp only
        rw [ex]
        refine ⟨_, rfl, _, rfl, _, rfl, _, _, rfl, rfl, ⟨by omega, by omega, by omega⟩, _, _, rfl, rfl, ?_⟩
        exact fin H3 (s2.trans s3) _ rfl _
    · rintro σ H' ⟨v5, v6, v7, rfl, s1⟩
      refine ⟨_, rfl, ?_⟩
      have e2 : fs.take (as.map V.ref).length = fs := by rw [List.length_map, W.len]; exact List.take_length
      rw [e2]
      exact k H' s1
theorem scBest : FnScope ["self", "given", "values"] ["self", "given", "values"] (defScope sBest) := ⟨rfl, rfl, rfl, by decide +kernel, rfl, by decide +kernel, by decide +kernel⟩
theorem ok_best {f fL : Addr} {fd fdL : FuncData} (F : Fun K "best" "Wishes.best" sBest f fd) (T : Txt K mg CW CF) (GL : FnOk P w K mg base CX0 4 fL fdL ["self", "given", "values", "turned"] (spFilled CW CF)) (bL : Binds K fdL ["self", "given", "values", "turned"] []) (mL : Meth K CW "filled" fL) :
    FnOk P w K mg base CX0 5 f fd ["self", "given", "values"] (spFill CW CF true) := by
  refine F.ok scBest (fun vs H Q E h => ?_) (fun cdv A outer s H vs Q E hr h => ?_)
  · obtain ⟨p, l, as, fs, g, v, rfl, _⟩ := h
    rfl
  · obtain ⟨p, l, as, fs, g, v, rfl, W, wf, k⟩ := h
    obtain ⟨dx, hp⟩ := W.ins
    refine ⟨_, pss_one (ps_ret (pe_meth (pv 0) T.clW mL GL hr bL .nil pass0 (pa_cons (pv 1) (pa_cons (pv 2) (pa_cons pe_int pa_nil))))), ?_⟩
    exact ⟨_, rfl, p, dx, _, rfl, hp, wf_no _ (by decide +kernel), _, rfl, _, rfl, p, l, as, fs, g, v, true, rfl, W, wf, k⟩
theorem scWorst : FnScope ["self", "given", "values"] ["self", "given", "values"] (defScope sWorst) := ⟨rfl, rfl, rfl, by decide +kernel, rfl, by decide +kernel, by decide +kernel⟩
theorem ok_worst {f fL : Addr} {fd fdL : FuncData} (F : Fun K "worst" "Wishes.worst" sWorst f fd) (T : Txt K mg CW CF) (GL : FnOk P w K mg base CX0 4 fL fdL ["self", "given", "values", "turned"] (spFilled CW CF)) (bL : Binds K fdL ["self", "given", "values", "turned"] []) (mL : Meth K CW "filled" fL) :
    FnOk P w K mg base CX0 5 f fd ["self", "given", "values"] (spFill CW CF false) := by
  refine F.ok scWorst (fun vs H Q E h => ?_) (fun cdv A outer s H vs Q E hr h => ?_)
  · obtain ⟨p, l, as, fs, g, v, rfl, _⟩ := h
    rfl
  · obtain ⟨p, l, as, fs, g, v, rfl, W, wf, k⟩ := h
    obtain ⟨dx, hp⟩ := W.ins
    refine ⟨_, pss_one (ps_ret (pe_meth (pv 0) T.clW mL GL hr bL .nil pass0 (pa_cons (pv 1) (pa_cons (pv 2) (pa_cons pe_int pa_nil))))), ?_⟩
    exact ⟨_, rfl, p, dx, _, rfl, hp, wf_no _ (by decide +kernel), _, rfl, _, rfl, p, l, as, fs, g, v, false, rfl, W, wf, k⟩
end
end Ws
end
section
set_option Elab.async false
set_option linter.all false
set_option maxRecDepth 100000
set_option maxHeartbeats 2000000
namespace Ws
open PySem PySem.Spec PyProof.Rows L2
/-- which way, as the program says it -/
abbrev dirV (dn : Bool) : V := .int (if dn then 1 else 0)
def spAble (CW CF : Addr) : Sp := fun vs H Q _ => ∃ (p l : Addr) (as : List Addr) (fs : List Kcz8.Feature) (o : Nat) (dn : Bool), vs = [.ref p, .int (o : Int), dirV dn] ∧ WAt CW CF H p l as fs ∧ Wm.Wf fs ∧
  ∀ (H' : Hp) (r : Addr), H r = none → Same H H' → H' r = some (.lst (vInts (Wm.ks fs dn o))) → Q (.ref r) H'
def spNeigh (CW CF : Addr) : Sp := fun vs H Q _ => ∃ (p l : Addr) (as : List Addr) (fs : List Kcz8.Feature) (o : Nat) (dn : Bool), vs = [.ref p, .int (o : Int), dirV dn] ∧ WAt CW CF H p l as fs ∧ Wm.Wf fs ∧
  ∀ (H' : Hp) (r : Addr), H r = none → Same H H' → H' r = some (.lst (vInts (Wm.nb fs dn o))) → Q (.ref r) H'
def ksTo (fs : List Kcz8.Feature) (dn : Bool) (o i : Nat) : List Nat := (List.range i).filter fun k => Kcz8.betters fs o k != dn
theorem ksTo_all (fs : List Kcz8.Feature) (dn : Bool) (o : Nat) : ksTo fs dn o fs.length = Wm.ks fs dn o := rfl
theorem ksTo_succ (fs : List Kcz8.Feature) (dn : Bool) (o i : Nat) : ksTo fs dn o (i + 1) = ksTo fs dn o i ++ (if (Kcz8.betters fs o i != dn) = true then [i] else []) := by
  unfold ksTo
  rw [List.range_succ, List.filter_append]
  congr 1
  by_cases h : (Kcz8.betters fs o i != dn) = true
  · rw [if_pos h, List.filter_cons, if_pos h, List.filter_nil]
  · rw [if_neg h, List.filter_cons, if_neg h, List.filter_nil]
theorem ksTo_len (fs : List Kcz8.Feature) (dn : Bool) (o i : Nat) : (ksTo fs dn o i).length ≤ i := by
  unfold ksTo
  refine Nat.le_trans (List.length_filter_le _ _) ?_
  rw [List.length_range]
  exact Nat.le_refl _
theorem ks_len {fs : List Kcz8.Feature} (h6 : fs.length ≤ 6) (dn : Bool) (o : Nat) : (Wm.ks fs dn o).length ≤ 6 := Nat.le_trans (ksTo_len fs dn o fs.length) h6
section
variable {P : Program} {w : World} {K : PySem.W.Frag} {mg : Str → Option Value} {base : Heap} {CW CF : Addr}
theorem scAble : FnScope ["self", "thing", "direction", "found", "number", "feature", "as_wanted"] ["self", "thing", "direction"] (defScope sAble) := ⟨rfl, rfl, rfl, by decide +kernel, rfl, by decide +kernel, by decide +kernel⟩
theorem ok_able {f fB fW : Addr} {fd fdB fdW : FuncData} (F : Fun K "changeable" "Wishes.changeable" sAble f fd) (T : Txt K mg CW CF)
    (FB : Fun K "bit" "bit" sBit fB fdB) (bB : Binds K fdB ["number", "place"] []) (mB : mg "bit" = some (.ref fB))
    (GW : FnOk P w K mg base CX0 3 fW fdW ["self", "thing"] (spWanted CF)) (bW : Binds K fdW ["self", "thing"] []) (mW : Meth K CF "wanted" fW) : FnOk P w K mg base CX0 4 f fd ["self", "thing", "direction"] (spAble CW CF) := by
  have GB : FnOk P w K mg base CX0 1 fB fdB ["number", "place"] spBit := ok_bit FB
  obtain ⟨uW, mWr, rWr⟩ := T.worse
  refine F.ok scAble (fun vs H Q E h => ?_) (fun cdv A outer s H vs Q E hr h => ?_)
  · obtain ⟨p, l, as, fs, o, dn, rfl, _⟩ := h
    rfl
  · obtain ⟨p, l, as, fs, o, dn, rfl, W, wf, k⟩ := h
    obtain ⟨dx, hp⟩ := W.ins
    have hr1 : Room 1 _ := hr.mono (by decide)
    refine ⟨_, pss_cons (ps_set (i := 3) scAble.nd rfl (Or.inl rfl) (pe_lst pa_nil))
      (pss_cons (ps_for PassesOwn.never rfl (pi_enum rfl T.enum (pa_cons (pe_fld (pv 0) rfl) pa_nil)) (pg_tup rfl (pgs_cons (pg_name (i := 4) scAble.nd rfl (Or.inl rfl)) (pgs_cons (pg_name (i := 5) scAble.nd rfl (Or.inl rfl)) pgs_nil)))
        (pss_cons (ps_set (i := 6) scAble.nd rfl (Or.inl rfl) (pe_cmpR op_eq (pe_call GB hr1 rfl mB FB.kp bB .nil pass0 (pa_cons (pv 1) (pa_cons (pv 4) pa_nil))) (pe_meth (pv 5) T.clF mW GW hr bW .nil pass0 (pa_cons (pv 1) pa_nil)) (nomark _)))
        (pss_one (ps_if (pt_cmpR op_eq (pv 6) (pe_cmpR op_eq (pv 2) (pe_glob rfl mWr rWr) (nomark _)) (nomark _))
          (pss_one (ps_expr (pe_bm PySem.F.plainAttrs_list PySem.F.slot_list_append PySem.F.type_list_append mt_append (pv 3) (pa_cons (pv 4) pa_nil)))) pss_nil))))
      (pss_one (ps_ret (pv 3)))), ?_⟩
    refine ⟨Nat.zero_le _, fun r hrn => ?_⟩
    have s0 : Same H (upd H r (.lst [])) := same_upd hrn
    refine ⟨_, rfl, p, CW, dx, _, _, rfl, s0 _ _ hp, T.clW, T.nFeat, wf_features _, l, _, rfl, SqL.of (s0 _ _ W.lst), for_enum (K := K) (a := l) (xs := as.map V.ref)
      (fun i σ H' => ∃ v3 v4 v5 : Option V, σ = [some (.ref p), some (.int (o : Int)), some (dirV dn), some (.ref r), v3, v4, v5] ∧ Same H H' ∧ H' r = some (.lst (vInts (ksTo fs dn o i))))
      ⟨none, none, none, rfl, s0, upd_same⟩ (fun i σ H' _ ⟨_, _, _, _, s1, _⟩ => SqL.of (s1 _ _ W.lst)) ?_ ?_⟩
    · rintro i x σ H' Tt hx ⟨v3, v4, v5, rfl, s1, hl⟩ hT
      obtain ⟨a, ft, ha, hft, rfl, hF⟩ := as_at W hx
      have hil : i < fs.length := (List.getElem?_eq_some_iff.mp hft).1
      have h6 := wf.six
      have s2 : Same H (upd H' Tt (.tup [.int (i : Nat), .ref a])) := s1.trans (same_upd hT)
      have hl2 : (upd H' Tt (.tup [.int (i : Nat), .ref a])) r = some (.lst (vInts (ksTo fs dn o i))) := same_upd hT _ _ hl
      refine ⟨Tt, _, rfl, SqT.of upd_same, rfl, _, _, rfl, _, _, rfl, rfl, ?_⟩
      generalize hN : upd H' Tt (.tup [.int (i : Nat), .ref a]) = H2 at s2 hl2
      obtain ⟨dxa, ta, hA, _⟩ := hF.same s2
      refine ⟨_, rfl, _, rfl, o, i, rfl, _, rfl, a, dxa, _, rfl, hA, ff_no _ _ (by decide +kernel) (by decide +kernel), _, rfl, a, ft, o, rfl, hF.same s2, (wf.on i ft hft).1, fun H3 s3 => ?_⟩
      refine ⟨rfl, ?_⟩
      refine ⟨_, rfl, _, rfl, rfl, rfl, _, rfl, ?_⟩
      have eb : (decide (V.bl (decide (V.int ((Kcz8.bit o i : Nat) : Int) = V.int ((Kcz8.rather ft o : Nat) : Int))) = V.bl (decide (dirV dn = V.int 1)))) = (Kcz8.betters fs o i != dn) := by
        unfold Kcz8.betters
        rw [hft]
        have e1 : decide (V.int ((Kcz8.bit o i : Nat) : Int) = V.int ((Kcz8.rather ft o : Nat) : Int)) = decide (Kcz8.bit o i = Kcz8.rather ft o) := by
          rw [Bool.eq_iff_iff]
          simp
          omega
        have e2 : decide (dirV dn = V.int 1) = dn := by cases dn <;> decide
        rw [e1, e2]
        by_cases c : Kcz8.bit o i = Kcz8.rather ft o
        · cases dn <;> simp [c]
        · cases dn <;> simp [c]
      show if decide (V.bl (decide (V.int ((Kcz8.bit o i : Nat) : Int) = V.int ((Kcz8.rather ft o : Nat) : Int))) = V.bl (decide (dirV dn = V.int 1))) = true then _ else _
      rw [eb]
      have hl3 := s3 _ _ hl2
      refine ite2 (fun hc => ?_) fun hc => ?_
      · refine ⟨_, rfl, .inl ⟨rfl, _, SqL.of hl3⟩, _, rfl, r, _, _, rfl, rfl, hl3, ?_, ?_⟩
        · rw [List.length_map]
          have := ksTo_len fs dn o i
          rw [sizeLine_eq]
          omega
        · refine ⟨_, _, _, rfl, same_upd2 (s2.trans s3) hrn, ?_⟩
          rw [upd_same, ksTo_succ, if_pos hc]
          simp
      · refine ⟨_, _, _, rfl, s2.trans s3, ?_⟩
        rw [ksTo_succ, if_neg hc, List.append_nil]
        exact hl3
    · rintro σ H' ⟨v3, v4, v5, rfl, s1, hl⟩
      refine ⟨_, rfl, ?_⟩
      rw [List.length_map, W.len, ksTo_all] at hl
      exact k H' r hrn s1 hl
def retOf : Stmt → Expr
  | .Return (some e) _ => e
  | _ => .Constant .none 0 ⟨0, 0, 0, 0⟩
def argOf : Expr → Expr
  | .Call _ (e :: _) _ _ => e
  | e => e
def lcScope : Expr → Scope
  | .ListComp _ _ sc _ => sc
  | _ => { kind := .function, names := [], isGenerator := false, isCoroutine := false }
abbrev scpNeigh : Scope := lcScope (retOf ((defBody sNeigh).getD 0 (.Pass ⟨0, 0, 0, 0⟩)))
theorem blkNeigh : BlkOk ["self", "thing", "direction", "number"] (defScope sNeigh) scpNeigh [("number", 3)] := ⟨rfl, by decide +kernel, by decide +kernel, by decide +kernel, by decide +kernel⟩
theorem scNeigh : FnScope ["self", "thing", "direction", "number"] ["self", "thing", "direction"] (defScope sNeigh) := ⟨rfl, rfl, rfl, by decide +kernel, rfl, by decide +kernel, by decide +kernel⟩
theorem ok_neigh {f fA : Addr} {fd fdA : FuncData} (F : Fun K "neighbours" "Wishes.neighbours" sNeigh f fd) (T : Txt K mg CW CF)
    (GA : FnOk P w K mg base CX0 4 fA fdA ["self", "thing", "direction"] (spAble CW CF)) (bA : Binds K fdA ["self", "thing", "direction"] []) (mA : Meth K CW "changeable" fA) : FnOk P w K mg base CX0 5 f fd ["self", "thing", "direction"] (spNeigh CW CF) := by
  refine F.ok scNeigh (fun vs H Q E h => ?_) (fun cdv A outer s H vs Q E hr h => ?_)
  · obtain ⟨p, l, as, fs, o, dn, rfl, _⟩ := h
    rfl
  · obtain ⟨p, l, as, fs, o, dn, rfl, W, wf, k⟩ := h
    obtain ⟨dx, hp⟩ := W.ins
    refine ⟨_, pss_one (ps_ret (pe_lc (own := [("number", 3)]) (te := tOp (rI0 fun i j => .int (Builtin.bitXor i j)) (tVar 1) (tOp (rI CPow fun i j => .int (i * 2 ^ j.toNat)) (tC (.int 1)) (tVar 3))) rfl scNeigh.nd
        (pi_list (pe_meth (pv 0) T.clW mA GA hr bA .nil pass0 (pa_cons (pv 1) (pa_cons (pv 2) pa_nil)))) blkNeigh
        (fun s H C cl fp => pg_name (i := 3) scNeigh.nd rfl (Or.inl rfl)) (fun s H C cl fp => pts_nil)
        (by intro s H C cl fp; exact pe_op op_xor (pv 1) (pe_op op_shl pe_int (pv 3))))), ?_⟩
    refine ⟨_, rfl, p, dx, _, rfl, hp, wf_no _ (by decide +kernel), _, rfl, _, rfl, p, l, as, fs, o, dn, rfl, W, wf, fun H1 q nq s1 hq => ?_⟩
    refine ⟨q, rfl, ⟨_, SqL.of hq⟩, fun D hD => lc_list (K := K) (a := q) (xs := vInts (Wm.ks fs dn o))
        (fun i H' => Same H1 H' ∧ H' D = some (.lst (vInts (((Wm.ks fs dn o).take i).map (Kcz8.flip o))))) ⟨same_upd hD, upd_same⟩ (fun i H' _ ⟨s2, _⟩ => SqL.of (s2 _ _ hq)) ?_ ?_⟩
    · rintro i x H' hx ⟨s2, hl⟩
      obtain ⟨kk, hk, rfl⟩ := vInts_at hx
      have hkm := Wm.mem_ks.mp (List.mem_of_getElem? hk)
      have h6 := wf.six
      refine ⟨rfl, ?_⟩
      unfold tYes
      refine iteT ?_
      refine ⟨_, rfl, _, rfl, _, _, rfl, rfl, ⟨Int.natCast_nonneg _, by omega, by decide⟩, _, _, rfl, rfl, _, hl, ?_, ?_⟩
      · rw [List.length_map, List.length_map, List.length_take, sizeLine_eq]
        have := ks_len h6 dn o
        omega
      · refine ⟨same_upd2 s2 hD, ?_⟩
        rw [upd_same, take_snoc hk]
        dsimp only
        rw [Wm.flip_int]
        simp
    · rintro H' ⟨s2, hl⟩
      rw [List.length_map, List.take_length] at hl
      exact k H' D (s1.free hD) (s1.trans s2) hl
end
end Ws
end
section
set_option Elab.async false
set_option linter.all false
set_option maxRecDepth 100000
set_option maxHeartbeats 2000000
namespace Ws
open PySem PySem.Spec PyProof.Rows L2
/-! ### a dict from things to numbers -/
def dL (L : List (Nat × Nat)) : List (Key × V) := L.map fun p => ((Sum.inl ((p.1 : Nat) : Int) : Key), V.int ((p.2 : Nat) : Int))
theorem dL_len (L : List (Nat × Nat)) : (dL L).length = L.length := List.length_map ..
theorem dL_none : ∀ {L : List (Nat × Nat)} {x : Nat}, x ∉ Wm.keys L → valV (dL L) (Sum.inl ((x : Nat) : Int)) = none
  | [], _, _ => rfl
  | p :: L, x, h => by
    have h1 : ¬ p.1 = x := fun e => h (by rw [← e]; exact List.mem_cons_self)
    have h2 : x ∉ Wm.keys L := fun e => h (List.mem_cons_of_mem _ e)
    show valV ((Sum.inl ((p.1 : Nat) : Int), V.int ((p.2 : Nat) : Int)) :: dL L) _ = none
    rw [valV_neg (fun e => h1 (by have := Sum.inl.inj e; omega))]
    exact dL_none h2
theorem dL_some : ∀ {L : List (Nat × Nat)} {x n : Nat}, (Wm.keys L).Nodup → (x, n) ∈ L → valV (dL L) (Sum.inl ((x : Nat) : Int)) = some (.int ((n : Nat) : Int))
  | [], _, _, _, h => by cases h
  | p :: L, x, n, nd, h => by
    show valV ((Sum.inl ((p.1 : Nat) : Int), V.int ((p.2 : Nat) : Int)) :: dL L) _ = _
    obtain ⟨nd1, nd2⟩ := List.nodup_cons.mp nd
    rcases List.mem_cons.mp h with e | h
    · rw [← e]
      exact valV_pos rfl
    · have h1 : ¬ p.1 = x := fun e => nd1 (by show p.1 ∈ Wm.keys L; rw [e]; exact Wm.mem_keys.mpr ⟨n, h⟩)
      rw [valV_neg (fun e => h1 (by have := Sum.inl.inj e; omega))]
      exact dL_some nd2 h
theorem dL_isSome {L : List (Nat × Nat)} (nd : (Wm.keys L).Nodup) (x : Nat) : (valV (dL L) (Sum.inl ((x : Nat) : Int))).isSome = decide (x ∈ Wm.keys L) := by
  by_cases h : x ∈ Wm.keys L
  · obtain ⟨n, hn⟩ := Wm.mem_keys.mp h
    rw [dL_some nd hn, decide_eq_true h]
    rfl
  · rw [dL_none h, decide_eq_false h]
    rfl
theorem dL_snoc (L : List (Nat × Nat)) (t n : Nat) (h : t ∉ Wm.keys L) : putK (dL L) (Sum.inl ((t : Nat) : Int)) (.int ((n : Nat) : Int)) = dL (L ++ [(t, n)]) := by
  rw [putK_new _ (dL_none h)]
  unfold dL
  rw [List.map_append]
  rfl
def spDist (CW CF : Addr) : Sp := fun vs H Q _ => ∃ (p l : Addr) (as : List Addr) (fs : List Kcz8.Feature) (o : Nat) (dn : Bool), vs = [.ref p, .int (o : Int), dirV dn] ∧ WAt CW CF H p l as fs ∧ Wm.Wf fs ∧ o < 2 ^ fs.length ∧
  ∀ (H' : Hp) (r : Addr) (L : List (Nat × Nat)), Wm.Far fs dn o L → L.length ≤ 64 → H r = none → Same H H' → H' r = some (.dK (dL L)) → Q (.ref r) H'
section
variable {P : Program} {w : World} {K : PySem.W.Frag} {mg : Str → Option Value} {base : Heap} {CW CF : Addr}
theorem scDist : FnScope ["self", "start", "direction", "far", "found", "at", "thing"] ["self", "start", "direction"] (defScope sDist) := ⟨rfl, rfl, rfl, by decide +kernel, rfl, by decide +kernel, by decide +kernel⟩
def muAt (σ : L2.St) : Nat := match σ[5]? with
  | some (some (V.int i)) => 64 - i.toNat
  | _ => 0
theorem ok_dist {f fX : Addr} {fd fdX : FuncData} (F : Fun K "distances" "Wishes.distances" sDist f fd) (T : Txt K mg CW CF)
    (GX : FnOk P w K mg base CX0 5 fX fdX ["self", "thing", "direction"] (spNeigh CW CF)) (bX : Binds K fdX ["self", "thing", "direction"] []) (mX : Meth K CW "neighbours" fX) : FnOk P w K mg base CX0 6 f fd ["self", "start", "direction"] (spDist CW CF) := by
  refine F.ok scDist (fun vs H Q E h => ?_) (fun cdv A outer s H vs Q E hr h => ?_)
  · obtain ⟨p, l, as, fs, o, dn, rfl, _⟩ := h
    rfl
  · obtain ⟨p, l, as, fs, o, dn, rfl, W, wf, ho, k⟩ := h
    obtain ⟨dx, hp⟩ := W.ins
    have h6 := wf.six
    have hu := hu_of hr
    refine ⟨_, pss_cons (ps_set (i := 3) scDist.nd rfl (Or.inl rfl) (pe_disp (pps_cons (pv 1) pe_int pps_nil) rfl rfl (by intro z; cases z) (by decide)))
      (pss_cons (ps_set (i := 4) scDist.nd rfl (Or.inl rfl) (pe_lst (pa_cons (pv 1) pa_nil)))
      (pss_cons (ps_set (i := 5) scDist.nd rfl (Or.inl rfl) pe_int)
      (pss_cons (ps_while PassesOwn.never (pt_cmpR op_lt (pv 5) (pe_callB call_len_seq (by rfl) T.len PySem.boot_len (pa_cons (pv 4) pa_nil)) (nomark _))
        (pss_cons (ps_for PassesOwn.never rfl (pi_list (pe_meth (pv 0) T.clW mX GX hr bX .nil pass0 (pa_cons (pe_ix ix_list (pv 4) (pv 5) (fun _ _ => rfl)) (pa_cons (pv 2) pa_nil)))) (pg_name (i := 6) scDist.nd rfl (Or.inl rfl))
          (pss_one (ps_if (pt_cmp (pc_dnotin hu (pv 6) (pv 3)))
            (pss_cons (ps_dput hu (pv 3) (pv 6) (pe_op op_add (pe_dget hu (pv 3) (pe_ix ix_list (pv 4) (pv 5) (fun _ _ => rfl)) (fun _ _ => rfl)) pe_int) rfl)
            (pss_one (ps_expr (pe_bm PySem.F.plainAttrs_list PySem.F.slot_list_append PySem.F.type_list_append mt_append (pv 4) (pa_cons (pv 6) pa_nil))))) pss_nil)))
        (pss_one (ps_aug (i := 5) scDist.nd rfl (Or.inl rfl) pe_int ip_add))))
      (pss_one (ps_ret (pv 3)))))), ?_⟩
    intro d hdn
    refine ⟨_, rfl, upd_same, [(Sum.inl (o : Int), .int 0)], rfl, (by show 1 ≤ 15; decide), ?_⟩
    have s00 : Same H (upd (upd H d (.dK [])) d (.dK (mergeK [] [(Sum.inl (o : Int), .int 0)]))) := same_upd2 (same_upd hdn) hdn
    refine ⟨_, rfl, (by show 1 ≤ sizeLine; decide), fun r hrn' => ?_⟩
    have hrn : H r = none := s00.free hrn'
    have hd0 : (upd (upd H d (.dK [])) d (.dK (mergeK [] [(Sum.inl (o : Int), .int 0)]))) d = some (.dK (dL [(o, 0)])) := by
      rw [upd_same]
      rfl
    generalize hH0 : upd (upd H d (.dK [])) d (.dK (mergeK [] [(Sum.inl (o : Int), .int 0)])) = H0 at s00 hrn' hd0
    have ndr : d ≠ r := ne_of_none hd0 hrn'
    have s0 : Same H (upd H0 r (.lst [.int (o : Int)])) := s00.trans (same_upd hrn')
    refine while_by (fun σ H' => ∃ (L : List (Nat × Nat)) (n : Nat) (v6 : Option V), σ = [some (.ref p), some (.int (o : Int)), some (dirV dn), some (.ref d), some (.ref r), some (.int (n : Int)), v6] ∧ Same H H' ∧ H' d = some (.dK (dL L)) ∧ H' r = some (.lst (vInts (Wm.keys L))) ∧ n ≤ L.length ∧ Wm.BInv fs dn o L n) (fun σ _ => muAt σ)
      ⟨[(o, 0)], 0, none, rfl, s0, same_upd hrn' _ _ hd0, upd_same, Nat.zero_le _, Wm.BInv.zero fs dn o⟩ ?_ ?_
    · rintro σ H' ⟨L, n, v6, rfl, s1, hd, hl, hn, B⟩
      have h64 := B.len h6 ho
      refine ⟨_, rfl, _, rfl, r, _, rfl, .inl (SqL.of hl), _, _, rfl, rfl, _, rfl, ?_⟩
      rw [List.length_map, List.length_map]
      refine ite2 (fun hc => ?_) fun hc => ?_
      · have hlt : n < L.length := by
          have := of_decide_eq_true hc
          omega
        have hx0 : L[n]? = some L[n] := List.getElem?_eq_getElem hlt
        generalize L[n] = x0 at hx0
        obtain ⟨x0, v0⟩ := x0
        have hx1 : ∀ L' : List (Nat × Nat), L'[n]? = some (x0, v0) → (vInts (Wm.keys L'))[n]? = some (V.int (x0 : Int)) := fun L' h => by
          rw [List.getElem?_map, List.getElem?_map, h]
          rfl
        refine ⟨_, rfl, p, dx, _, rfl, s1 _ _ hp, wf_no _ (by decide +kernel), _, rfl, _, rfl, r, _, _, _, rfl, rfl, SqL.of hl, atI_nat (j := n) (v := V.int (x0 : Int)) (hx1 L hx0), _, rfl, p, l, as, fs, x0, dn, rfl, W.same s1, wf, fun H2 b hb s2 hb2 => ?_⟩
        have nbr : r ≠ b := ne_of_none hl hb
        have nbd : d ≠ b := ne_of_none hd hb
        refine ⟨b, rfl, ⟨_, SqL.of hb2⟩, for_list (K := K) (a := b) (xs := vInts (Wm.nb fs dn x0))
          (fun i σ H3 => ∃ (L' : List (Nat × Nat)) (v6 : Option V), σ = [some (.ref p), some (.int (o : Int)), some (dirV dn), some (.ref d), some (.ref r), some (.int (n : Int)), v6] ∧ Same H H3 ∧ H3 b = some (.lst (vInts (Wm.nb fs dn x0))) ∧ H3 d = some (.dK (dL L')) ∧ H3 r = some (.lst (vInts (Wm.keys L'))) ∧ Wm.BInv fs dn o L' n ∧ L'[n]? = some (x0, v0) ∧ ∀ t ∈ (Wm.nb fs dn x0).take i, t ∈ Wm.keys L')
          ⟨L, v6, rfl, s1.trans s2, hb2, s2 _ _ hd, s2 _ _ hl, B, hx0, by simp⟩ (fun i σ H3 _ ⟨_, _, _, _, h, _⟩ => SqL.of h) ?_ ?_⟩
        · rintro i y σ H3 hy ⟨L', v6, rfl, s3, hb3, hd3, hl3, B3, hx3, hin⟩
          obtain ⟨t, ht, rfl⟩ := vInts_at hy
          have htm : t ∈ Wm.nb fs dn x0 := List.mem_of_getElem? ht
          have h643 := B3.len h6 ho
          refine ⟨_, rfl, _, rfl, d, _, rfl, DGet.k (k := Sum.inl (t : Int)) hd3, _, rfl, ?_⟩
          rw [dL_isSome B3.nd]
          refine ite2 (fun hc => ?_) fun hc => ?_
          · have hni : ¬ t ∈ Wm.keys L' := by simpa using hc
            have hget : DGet H3 d (kV (Sum.inl (x0 : Int))) (some (.int ((v0 : Nat) : Int))) := by
              have := DGet.k (k := Sum.inl (x0 : Int)) hd3
              rw [dL_some B3.nd (List.mem_of_getElem? hx3)] at this
              exact this
            refine ⟨_, rfl, _, rfl, _, rfl, r, _, _, _, rfl, rfl, SqL.of hl3, atI_nat (j := n) (v := V.int (x0 : Int)) (hx1 L' hx3), d, _, rfl, hget, _, _, rfl, rfl, ?_⟩
            refine ⟨_, rfl, _, rfl, d, _, rfl, DPut.k (k := Sum.inl (t : Int)) hd3 (by rw [dL_len, sizeLine_eq]; omega), ?_⟩
            have e1 : (v0 : Int) + 1 = ((v0 + 1 : Nat) : Int) := by omega
            dsimp only
            rw [e1, dL_snoc L' t (v0 + 1) hni]
            have hl4 : (upd H3 d (.dK (dL (L' ++ [(t, v0 + 1)])))) r = some (.lst (vInts (Wm.keys L'))) := by
              rw [upd_ne (Ne.symm ndr)]
              exact hl3
            refine ⟨_, rfl, .inl ⟨rfl, _, SqL.of hl4⟩, _, rfl, r, _, _, rfl, rfl, hl4, ?_, ?_⟩
            · rw [List.length_map, List.length_map, sizeLine_eq]
              omega
            · refine ⟨L' ++ [(t, v0 + 1)], _, rfl, same_upd2 (same_upd2 s3 hdn) hrn, ?_, ?_, ?_, B3.push hx3 htm hni, ?_, ?_⟩
              · rw [upd_ne (Ne.symm nbr), upd_ne (Ne.symm nbd)]
                exact hb3
              · rw [upd_ne ndr, upd_same]
              · rw [upd_same]
                simp
              · rw [List.getElem?_append_left (List.getElem?_eq_some_iff.mp hx3).1]
                exact hx3
              · intro u hu'
                rw [take_snoc ht] at hu'
                show u ∈ (L' ++ [(t, v0 + 1)]).map _
                rw [List.map_append]
                rcases List.mem_append.mp hu' with h | h
                · exact List.mem_append_left _ (hin u h)
                · exact List.mem_append_right _ h
          · have hmem : t ∈ Wm.keys L' := Classical.byContradiction fun z => hc (by simpa using z)
            refine ⟨L', _, rfl, s3, hb3, hd3, hl3, B3, hx3, fun u hu' => ?_⟩
            rw [take_snoc ht] at hu'
            rcases List.mem_append.mp hu' with h | h
            · exact hin u h
            · have : u = t := by simpa using h
              rw [this]
              exact hmem
        · rintro σ H3 ⟨L', v6, rfl, s3, hb3, hd3, hl3, B3, hx3, hin⟩
          have hin2 : ∀ t ∈ Wm.nb fs dn x0, t ∈ Wm.keys L' := fun t ht => hin t (by rw [List.length_map, List.take_length]; exact ht)
          refine ⟨_, rfl, _, _, rfl, rfl, ?_⟩
          refine ⟨⟨L', n + 1, v6, ?_, s3, hd3, hl3, (List.getElem?_eq_some_iff.mp hx3).1, B3.next hx3 hin2⟩, ?_⟩
          · show ([some (.ref p), some (.int (o : Int)), some (dirV dn), some (.ref d), some (.ref r), some (.int ((n : Int) + 1)), v6] : L2.St) = _
            have e : ((n + 1 : Nat) : Int) = (n : Int) + 1 := by omega
            rw [e]
          · show 64 - ((n : Int) + 1).toNat < 64 - ((n : Int)).toNat
            omega
      · have hge : L.length ≤ n := by
          have hc' : ¬ ((n : Int) < (L.length : Int)) := fun z => hc (decide_eq_true z)
          omega
        refine ⟨_, rfl, ?_⟩
        exact k H' d L (B.far hge) h64 hdn s1 hd
    · rintro σ H' Q1 Q2 hq ⟨x, hx, y, hy, p', ys, e1, e2, i, j, e3, e4, kk, e5, q⟩
      exact ⟨x, hx, y, hy, p', ys, e1, e2, i, j, e3, e4, kk, e5, hq _ _ q⟩
end
end Ws
end
section
set_option Elab.async false
set_option linter.all false
set_option maxRecDepth 100000
set_option maxHeartbeats 2000000
namespace Ws
open PySem PySem.Spec PyProof.Rows L2
def compareDue (fs : List Kcz8.Feature) (x y : Nat) : Int := if x < 2 ^ fs.length ∧ y < 2 ^ fs.length then (if x = y then 0 else if Kcz8.better fs x y = true then 1 else if Kcz8.better fs y x = true then 2 else 3) else -22
def spCompare (CW CF : Addr) : Sp := fun vs H Q _ => ∃ (p l : Addr) (as : List Addr) (fs : List Kcz8.Feature) (x y : Nat), vs = [.ref p, .int (x : Int), .int (y : Int)] ∧
  WAt CW CF H p l as fs ∧ Wm.Wf fs ∧ ∀ H' : Hp, Same H H' → Q (.int (compareDue fs x y)) H'
def spBegin (CW CF : Addr) : Sp := fun vs H Q _ => ∃ (p l : Addr) (as : List Addr) (fs : List Kcz8.Feature), vs = [.ref p] ∧ WAt CW CF H p l as fs ∧
  ∀ (H' : Hp) (l' : Addr), H l' = none → WAt CW CF H' p l' [] [] → (∀ b o, H b = some o → b ≠ p → H' b = some o) → Q (.int 0) H'
def spWInit (CW CF : Addr) : Sp := fun vs H Q _ => ∃ (p dx : Addr), vs = [.ref p] ∧ H p = some (.ins CW dx []) ∧
  ∀ (H' : Hp) (l' : Addr), H l' = none → WAt CW CF H' p l' [] [] → (∀ b o, H b = some o → b ≠ p → H' b = some o) → Q .non H'
def mayDue (fs : List Kcz8.Feature) (on : List Nat) : Bool := decide (on.length ≤ 3) && !Kcz8.twice on && on.all fun k => decide (k < fs.length)
def spMay (K : PySem.W.Frag) (CW CF : Addr) : Sp := fun vs H Q _ => ∃ (p l q : Addr) (as : List Addr) (fs : List Kcz8.Feature) (on : List Nat), vs = [.ref p, .ref q] ∧ WAt CW CF H p l as fs ∧ SqL K H q (vInts on) ∧
  ∀ H' : Hp, Same H H' → Q (.bl (mayDue fs on)) H'
def featureDue (fs : List Kcz8.Feature) (on : List Nat) (w : Nat) : List Kcz8.Feature × Int :=
  if mayDue fs on = true ∧ w < 2 ^ 2 ^ on.length then (if fs.length = 6 then (fs, -28) else (fs ++ [⟨on, w⟩], (fs.length : Int))) else (fs, -22)
def spFeature (CW CF : Addr) : Sp := fun vs H Q _ => ∃ (p l q : Addr) (as : List Addr) (fs : List Kcz8.Feature) (on : List Nat) (w : Nat), vs = [.ref p, .ref q, .int (w : Int)] ∧ WAt CW CF H p l as fs ∧ Wm.Wf fs ∧ H q = some (.lst (vInts on)) ∧ q ≠ l ∧
  ∀ (H' : Hp) (as' : List Addr), WAt CW CF H' p l as' (featureDue fs on w).1 → (∀ b o, H b = some o → b ≠ l → H' b = some o) → Q (.int (featureDue fs on w).2) H'
theorem step_feature {fs : List Kcz8.Feature} (h : fs.length ≤ 6) (on : List Nat) (w : Nat) : Kcz8.step ⟨fs⟩ (.feature on w) = (⟨(featureDue fs on w).1⟩, .num (featureDue fs on w).2) := by
  unfold Kcz8.step featureDue
  have e : (mayDue fs on = true ∧ w < 2 ^ 2 ^ on.length) ↔ ¬ (Kcz8.PARENTS < on.length ∨ on.any (fun k => decide (fs.length ≤ k)) = true ∨ Kcz8.twice on = true ∨ 2 ^ 2 ^ on.length ≤ w) := by
    unfold mayDue Kcz8.PARENTS
    rw [Bool.and_eq_true, Bool.and_eq_true, decide_eq_true_eq, List.all_eq_true, List.any_eq_true]
    constructor
    · rintro ⟨⟨⟨h1, h2⟩, h3⟩, h4⟩ (z | ⟨k, hk, z⟩ | z | z)
      · omega
      · have := of_decide_eq_true (h3 k hk)
        have := of_decide_eq_true z
        omega
      · rw [z] at h2
        cases h2
      · omega
    · intro z
      refine ⟨⟨⟨?_, ?_⟩, fun k hk => ?_⟩, ?_⟩
      · by_cases c : on.length ≤ 3
        · exact c
        · exact absurd (.inl (by omega)) z
      · cases c : Kcz8.twice on with
        | false => rfl
        | true => exact absurd (.inr (.inr (.inl c))) z
      · by_cases c : k < fs.length
        · exact decide_eq_true c
        · exact absurd (.inr (.inl ⟨k, hk, decide_eq_true (by omega)⟩)) z
      · by_cases c : w < 2 ^ 2 ^ on.length
        · exact c
        · exact absurd (.inr (.inr (.inr (by omega)))) z
  by_cases c : mayDue fs on = true ∧ w < 2 ^ 2 ^ on.length
  · rw [if_pos c]
    show (if _ then _ else _) = _
    rw [if_neg (e.mp c)]
    by_cases d : fs.length = 6
    · rw [if_pos d, if_pos (show Kcz8.FEATURES ≤ fs.length by rw [d]; decide)]
    · rw [if_neg d, if_neg (show ¬ Kcz8.FEATURES ≤ fs.length by show ¬ 6 ≤ fs.length; omega)]
  · rw [if_neg c]
    show (if _ then _ else _) = _
    rw [if_pos (Classical.not_not.mp fun z => c (e.mpr z))]
theorem featureDue_wf {fs : List Kcz8.Feature} (hw : Wm.Wf fs) (on : List Nat) (w : Nat) : Wm.Wf (featureDue fs on w).1 := by
  unfold featureDue
  by_cases c : mayDue fs on = true ∧ w < 2 ^ 2 ^ on.length
  · rw [if_pos c]
    by_cases d : fs.length = 6
    · rw [if_pos d]
      exact hw
    · rw [if_neg d]
      obtain ⟨c1, c2⟩ := c
      unfold mayDue at c1
      rw [Bool.and_eq_true, Bool.and_eq_true, decide_eq_true_eq, List.all_eq_true] at c1
      have h6 := hw.six
      refine ⟨by show (fs ++ _).length ≤ 6; rw [List.length_append, List.length_singleton]; omega, fun j f hf => ?_⟩
      by_cases hj : j < fs.length
      · rw [List.getElem?_append_left hj] at hf
        exact hw.on j f hf
      · have hj2 : j = fs.length := by
          have := (List.getElem?_eq_some_iff.mp hf).1
          rw [List.length_append, List.length_singleton] at this
          omega
        subst hj2
        have e : f = ⟨on, w⟩ := by
          have : (fs ++ [(⟨on, w⟩ : Kcz8.Feature)])[fs.length]? = some ⟨on, w⟩ := by simp
          exact Option.some.inj (hf.symm.trans this)
        subst e
        exact ⟨c1.1.1, fun i hi => of_decide_eq_true (c1.2 i hi), c2⟩
  · rw [if_neg c]
    exact hw
section
variable {P : Program} {w : World} {K : PySem.W.Frag} {mg : Str → Option Value} {base : Heap} {CW CF : Addr}
theorem scCompare : FnScope ["self", "a", "b"] ["self", "a", "b"] (defScope sCompare) := ⟨rfl, rfl, rfl, by decide +kernel, rfl, by decide +kernel, by decide +kernel⟩
theorem ok_compare {f fY fX : Addr} {fd fdY fdX : FuncData} (F : Fun K "compare" "Wishes.compare" sCompare f fd) (T : Txt K mg CW CF)
    (FY : Fun K "is_beyond" "Wishes.is_beyond" sBeyond fY fdY) (bY : Binds K fdY ["self", "number"] []) (mY : Meth K CW "is_beyond" fY)
    (GX : FnOk P w K mg base CX0 6 fX fdX ["self", "start", "direction"] (spDist CW CF)) (bX : Binds K fdX ["self", "start", "direction"] []) (mX : Meth K CW "distances" fX) : FnOk P w K mg base CX0 7 f fd ["self", "a", "b"] (spCompare CW CF) := by
  have GY : FnOk P w K mg base CX0 1 fY fdY ["self", "number"] (spBeyond CW CF) := ok_beyond FY T
  obtain ⟨uW, mWr, rWr⟩ := T.wrong
  obtain ⟨uB, mBt, rBt⟩ := T.better
  refine F.ok scCompare (fun vs H Q E h => ?_) (fun cdv A outer s H vs Q E hr h => ?_)
  · obtain ⟨p, l, as, fs, x, y, rfl, _⟩ := h
    rfl
  · obtain ⟨p, l, as, fs, x, y, rfl, W, wf, k⟩ := h
    obtain ⟨dx, hp⟩ := W.ins
    have hr1 : Room 1 _ := hr.mono (by decide)
    have hu := hu_of hr
    refine ⟨_, pss_cons (ps_if (PW.pt (pw_or (pt_val (pe_meth (pv 0) T.clW mY GY hr1 bY .nil pass0 (pa_cons (pv 1) pa_nil))) (pw_or1 (pt_val (pe_meth (pv 0) T.clW mY GY hr1 bY .nil pass0 (pa_cons (pv 2) pa_nil)))))) (pss_one (ps_ret (pe_glob rfl mWr rWr))) pss_nil)
      (pss_cons (ps_if (pt_cmpR op_eq (pv 1) (pv 2) (nomark _)) (pss_one (ps_ret pe_int)) pss_nil)
      (pss_cons (ps_if (pt_cmp (pc_din hu (pv 1) (pe_meth (pv 0) T.clW mX GX hr bX .nil pass0 (pa_cons (pv 2) (pa_cons (pe_glob rfl mBt rBt) pa_nil))))) (pss_one (ps_ret pe_int)) pss_nil)
      (pss_cons (ps_if (pt_cmp (pc_din hu (pv 2) (pe_meth (pv 0) T.clW mX GX hr bX .nil pass0 (pa_cons (pv 1) (pa_cons (pe_glob rfl mBt rBt) pa_nil))))) (pss_one (ps_ret pe_int)) pss_nil)
      (pss_one (ps_ret pe_int))))), ?_⟩
    refine ⟨_, rfl, p, dx, _, rfl, hp, wf_no _ (by decide +kernel), _, rfl, p, l, as, fs, x, rfl, W, _, rfl, ?_⟩
    by_cases hg : x < 2 ^ fs.length
    case neg =>
      rw [decide_eq_false hg]
      refine iteT (iteT ?_)
      have e : compareDue fs x y = -22 := if_neg fun z => hg z.1
      rw [e] at k
      exact k H Same.refl
    rw [decide_eq_true hg]
    refine iteF ?_
    refine ⟨_, rfl, p, dx, _, rfl, hp, wf_no _ (by decide +kernel), _, rfl, p, l, as, fs, y, rfl, W, _, rfl, ?_⟩
    by_cases hv : y < 2 ^ fs.length
    case neg =>
      rw [decide_eq_false hv]
      refine iteT ?_
      have e : compareDue fs x y = -22 := if_neg fun z => hv z.2
      rw [e] at k
      exact k H Same.refl
    rw [decide_eq_true hv]
    refine iteF ?_
    have e : compareDue fs x y = (if x = y then 0 else if Kcz8.better fs x y = true then 1 else if Kcz8.better fs y x = true then 2 else 3) := if_pos ⟨hg, hv⟩
    rw [e] at k
    refine ⟨_, rfl, _, rfl, rfl, _, rfl, ?_⟩
    refine ite2 (fun hc => ?_) fun hc => ?_
    · have hxy : x = y := by
        have z := of_decide_eq_true hc
        injection z with z
        omega
      rw [if_pos hxy] at k
      exact k H Same.refl
    have hxy : ¬ x = y := fun z => hc (decide_eq_true (by rw [z]))
    rw [if_neg hxy] at k
    refine ⟨_, rfl, _, rfl, p, dx, _, rfl, hp, wf_no _ (by decide +kernel), _, rfl, p, l, as, fs, y, false, rfl, W, wf, hv, fun H1 r1 L1 F1 _ nr1 s1 hr1' => ?_⟩
    refine ⟨r1, _, rfl, DGet.k (k := Sum.inl (x : Int)) hr1', _, rfl, ?_⟩
    have e1 : (valV (dL L1) (Sum.inl ((x : Nat) : Int))).isSome = Kcz8.better fs x y := by
      rw [dL_isSome F1.nd, Bool.eq_iff_iff, decide_eq_true_eq, F1.up, Wm.better_iff wf.six hv]
      exact ⟨fun z => ⟨hxy, z⟩, fun z => z.2⟩
    show if (valV (dL L1) (Sum.inl ((x : Nat) : Int))).isSome = true then _ else _
    rw [e1]
    refine ite2 (fun hc1 => ?_) fun hc1 => ?_
    · rw [if_pos hc1] at k
      exact k H1 s1
    rw [if_neg hc1] at k
    refine ⟨_, rfl, _, rfl, p, dx, _, rfl, s1 _ _ hp, wf_no _ (by decide +kernel), _, rfl, p, l, as, fs, x, false, rfl, W.same s1, wf, hg, fun H2 r2 L2 F2 _ nr2 s2 hr2' => ?_⟩
    refine ⟨r2, _, rfl, DGet.k (k := Sum.inl (y : Int)) hr2', _, rfl, ?_⟩
    have e2 : (valV (dL L2) (Sum.inl ((y : Nat) : Int))).isSome = Kcz8.better fs y x := by
      rw [dL_isSome F2.nd, Bool.eq_iff_iff, decide_eq_true_eq, F2.up, Wm.better_iff wf.six hg]
      exact ⟨fun z => ⟨fun q => hxy q.symm, z⟩, fun z => z.2⟩
    show if (valV (dL L2) (Sum.inl ((y : Nat) : Int))).isSome = true then _ else _
    rw [e2]
    refine ite2 (fun hc2 => ?_) fun hc2 => ?_
    · rw [if_pos hc2] at k
      exact k H2 (s1.trans s2)
    rw [if_neg hc2] at k
    exact k H2 (s1.trans s2)
theorem scBegin : FnScope ["self"] ["self"] (defScope sBegin) := ⟨rfl, rfl, rfl, by decide +kernel, rfl, by decide +kernel, by decide +kernel⟩
theorem ok_begin {f : Addr} {fd : FuncData} (F : Fun K "begin" "Wishes.begin" sBegin f fd) (T : Txt K mg CW CF) : FnOk P w K mg base CX0 1 f fd ["self"] (spBegin CW CF) := by
  refine F.ok scBegin (fun vs H Q E h => ?_) (fun cdv A outer s H vs Q E hr h => ?_)
  · obtain ⟨p, l, as, fs, rfl, _⟩ := h
    rfl
  · obtain ⟨p, l, as, fs, rfl, W, k⟩ := h
    obtain ⟨dx, hp⟩ := W.ins
    refine ⟨_, pss_cons (ps_fld (pv 0) (pe_lst pa_nil) rfl) (pss_one (ps_ret pe_int)), ?_⟩
    refine ⟨Nat.zero_le _, fun l' hl' => ?_⟩
    have np : p ≠ l' := ne_of_none hp hl'
    refine ⟨_, rfl, p, CW, dx, _, rfl, (upd_ne np).trans hp, T.clW, T.nFeat, (by show 1 < 1000; decide), ?_⟩
    refine k _ l' hl' ⟨⟨dx, ?_⟩, ?_, rfl, fun j a f ha => by cases ha⟩ fun b o e hb => ?_
    · rw [upd_same, wf_put]
    · rw [upd_ne (Ne.symm np), upd_same]
      rfl
    · rw [upd_ne hb, upd_ne (ne_of_none e hl')]
      exact e
theorem scWInit : FnScope ["self"] ["self"] (defScope sWInit) := ⟨rfl, rfl, rfl, by decide +kernel, rfl, by decide +kernel, by decide +kernel⟩
theorem ok_winit {f : Addr} {fd : FuncData} (F : Fun K "__init__" "Wishes.__init__" sWInit f fd) (T : Txt K mg CW CF) : FnOk P w K mg base CX0 1 f fd ["self"] (spWInit CW CF) := by
  refine F.ok scWInit (fun vs H Q E h => ?_) (fun cdv A outer s H vs Q E hr h => ?_)
  · obtain ⟨p, dx, rfl, _⟩ := h
    rfl
  · obtain ⟨p, dx, rfl, hp, k⟩ := h
    refine ⟨_, pss_one (ps_fld (pv 0) (pe_lst pa_nil) rfl), ?_⟩
    refine ⟨Nat.zero_le _, fun l' hl' => ?_⟩
    have np : p ≠ l' := ne_of_none hp hl'
    refine ⟨_, rfl, p, CW, dx, _, rfl, (upd_ne np).trans hp, T.clW, T.nFeat, (by show 0 < 1000; decide), ?_⟩
    refine k _ l' hl' ⟨⟨dx, upd_same⟩, ?_, rfl, fun j a f ha => by cases ha⟩ fun b o e hb => ?_
    · rw [upd_ne (Ne.symm np), upd_same]
      rfl
    · rw [upd_ne hb, upd_ne (ne_of_none e hl')]
      exact e
abbrev scpMay : Scope := lcScope (argOf (retOf ((defBody sMay).getD 1 (.Pass ⟨0, 0, 0, 0⟩))))
theorem blkMay : BlkOk ["self", "on", "other"] (defScope sMay) scpMay [("other", 2)] := ⟨rfl, by decide +kernel, by decide +kernel, by decide +kernel, by decide +kernel⟩
theorem scMay : FnScope ["self", "on", "other"] ["self", "on"] (defScope sMay) := ⟨rfl, rfl, rfl, by decide +kernel, rfl, by decide +kernel, by decide +kernel⟩
theorem ok_may {f : Addr} {fd : FuncData} (F : Fun K "may_depend" "Wishes.may_depend" sMay f fd) (T : Txt K mg CW CF) : FnOk P w K mg base CX0 1 f fd ["self", "on"] (spMay K CW CF) := by
  obtain ⟨uO, mO, rO⟩ := T.mostOn
  refine F.ok scMay (fun vs H Q E h => ?_) (fun cdv A outer s H vs Q E hr h => ?_)
  · obtain ⟨p, l, q, as, fs, on, rfl, _⟩ := h
    rfl
  · obtain ⟨p, l, q, as, fs, on, rfl, W, hq, k⟩ := h
    obtain ⟨dx, hp⟩ := W.ins
    refine ⟨_, pss_cons (ps_if (PW.pt (pw_or (pt_cmpR op_gt (pe_callB call_len_seq (by rfl) T.len PySem.boot_len (pa_cons (pv 1) pa_nil)) (pe_glob rfl mO rO) (nomark _))
        (pw_or1 (pt_cmpR op_lt (pe_callB call_len_setO (by rfl) T.len PySem.boot_len (pa_cons (pe_callTy (call_set_of rfl) (by rfl) T.set PyProof.Rows.boot_set (pa_cons (pv 1) pa_nil)) pa_nil)) (pe_callB call_len_seq (by rfl) T.len PySem.boot_len (pa_cons (pv 1) pa_nil)) (nomark _)))))
        (pss_one (ps_ret pe_bl)) pss_nil)
      (pss_one (ps_ret (pe_callB (cr_all rfl) (by rfl) T.all PyProof.Rows.boot_all (pa_cons (pe_lc (own := [("other", 2)]) (te := tOp (rI0 fun i j => .bl (decide (i < j))) (tVar 2) (tCB (fun xs H Q => ∃ p ys, xs = [.ref p] ∧ (SqL K H p ys ∨ SqT K H p ys) ∧ Q (.int ys.length) H) (tCons (tFld K (tVar 0) "features") tNil))) rfl scMay.nd (pi_list (pv 1)) blkMay
        (fun s H C cl fp => pg_name (i := 2) scMay.nd rfl (Or.inl rfl)) (fun s H C cl fp => pts_nil)
        (by intro s H C cl fp; exact pe_cmpR op_lt (pv 2) (pe_callB call_len_seq (by rfl) T.len PySem.boot_len (pa_cons (pe_fld (pv 0) rfl) pa_nil)) (nomark _))) pa_nil)))), ?_⟩
    have hlen : (vInts on).length = on.length := List.length_map ..
    refine ⟨_, rfl, q, _, rfl, .inl hq, _, _, rfl, rfl, _, rfl, ?_⟩
    rw [hlen]
    by_cases h3 : on.length ≤ 3
    case neg =>
      rw [decide_eq_true (show (3 : Int) < (on.length : Int) by omega)]
      refine iteT (iteT ?_)
      have e : mayDue fs on = false := by unfold mayDue; rw [decide_eq_false h3]; rfl
      rw [e] at k
      exact k H Same.refl
    rw [decide_eq_false (show ¬ (3 : Int) < (on.length : Int) by omega)]
    refine iteF ?_
    have em : vInts on = (on.map fun (k : Nat) => (k : Int)).map V.int := by rw [List.map_map]; rfl
    refine ⟨_, rfl, q, on.map (fun (k : Nat) => (k : Int)), rfl, by rw [← em]; exact hq, by rw [List.length_map]; unfold scanBound; omega, fun z hz => ?_⟩
    have s1 : Same H (upd H z (.set (fun k' => (metL (on.map fun (k : Nat) => (k : Int))).any (· == k')) (metL (on.map fun (k : Nat) => (k : Int))).length)) := same_upd hz
    refine ⟨z, _, _, rfl, upd_same, _, rfl, q, _, rfl, .inl (s1.seq hq), _, _, rfl, rfl, _, rfl, ?_⟩
    rw [hlen, Wm.met_twice on h3]
    cases ht : Kcz8.twice on with
    | true =>
      refine iteT ?_
      have e : mayDue fs on = false := by unfold mayDue; rw [ht, decide_eq_true h3]; rfl
      rw [e] at k
      exact k _ s1
    | false =>
      refine iteF ?_
      have e : mayDue fs on = on.all fun k => decide (k < fs.length) := by unfold mayDue; rw [ht, decide_eq_true h3]; rfl
      rw [e] at k
      generalize upd H z _ = H1 at s1
      refine ⟨_, rfl, q, rfl, ⟨_, s1.seq hq⟩, fun D hD => lc_list (K := K) (a := q) (xs := vInts on)
        (fun i H' => Same H H' ∧ H' D = some (.lst ((on.take i).map fun k => V.bl (decide (k < fs.length))))) ⟨s1.trans (same_upd hD), upd_same⟩ (fun i H' _ ⟨s2, _⟩ => s2.seq hq) ?_ ?_⟩
      · rintro i x H' hx ⟨s2, hl⟩
        obtain ⟨kk, hk, rfl⟩ := vInts_at hx
        refine ⟨rfl, ?_⟩
        unfold tYes
        refine iteT ?_
        refine ⟨_, rfl, _, rfl, p, CW, dx, _, _, rfl, s2 _ _ hp, T.clW, T.nFeat, wf_features _, l, _, rfl, .inl (SqL.of (s2 _ _ W.lst)), _, _, rfl, rfl, _, hl, ?_, ?_⟩
        · rw [List.length_map, List.length_take, sizeLine_eq]
          omega
        · refine ⟨fun b o eb => ?_, ?_⟩
          · rw [upd_ne (ne_of_none (s1 _ _ eb) hD)]
            exact s2 _ _ eb
          · rw [upd_same, take_snoc hk, List.map_append, List.length_map, W.len]
            simp
      · rintro H' ⟨s2, hl⟩
        rw [hlen, List.take_length] at hl
        refine ⟨D, on.map fun k => decide (k < fs.length), rfl, SqL.of (by rw [List.map_map]; exact hl), ?_⟩
        have e3 : (on.map fun k => decide (k < fs.length)).all id = on.all fun k => decide (k < fs.length) := by rw [List.all_map]; rfl
        rw [e3]
        exact k H' s2
theorem scFeature : FnScope ["self", "on", "wish"] ["self", "on", "wish"] (defScope sFeature) := ⟨rfl, rfl, rfl, by decide +kernel, rfl, by decide +kernel, by decide +kernel⟩
theorem ok_feature {f fM fI : Addr} {fd fdM fdI : FuncData} (F : Fun K "feature" "Wishes.feature" sFeature f fd) (T : Txt K mg CW CF)
    (FM : Fun K "may_depend" "Wishes.may_depend" sMay fM fdM) (bM : Binds K fdM ["self", "on"] []) (mM : Meth K CW "may_depend" fM)
    (M : Mk K CF fI) (FI : Fun K "__init__" "Feature.__init__" sFInit fI fdI) (bI : Binds K fdI ["self", "on", "wish"] []) : FnOk P w K mg base CX0 3 f fd ["self", "on", "wish"] (spFeature CW CF) := by
  have GM : FnOk P w K mg base CX0 1 fM fdM ["self", "on"] (spMay K CW CF) := ok_may FM T
  have GI : FnOk P w K mg base CX0 1 fI fdI ["self", "on", "wish"] (spFInit CF) := ok_finit FI T
  obtain ⟨uW, mWr, rWr⟩ := T.wrong
  obtain ⟨uL, mL, rL⟩ := T.full
  obtain ⟨uF, mF, rF⟩ := T.mostF
  refine F.ok scFeature (fun vs H Q E h => ?_) (fun cdv A outer s H vs Q E hr h => ?_)
  · obtain ⟨p, l, q, as, fs, on, w, rfl, _⟩ := h
    rfl
  · obtain ⟨p, l, q, as, fs, on, w, rfl, W, wf, hq, nql, k⟩ := h
    obtain ⟨dx, hp⟩ := W.ins
    have hr1 : Room 1 _ := hr.mono (by decide)
    refine ⟨_, pss_cons (ps_if (PW.pt (pw_or (pt_not (pt_val (pe_meth (pv 0) T.clW mM GM hr1 bM .nil pass0 (pa_cons (pv 1) pa_nil)))) (pw_or1 (pt_cmpR op_ge (pv 2) (pe_op op_shl pe_int (pe_op op_shl pe_int (pe_callB call_len_seq (by rfl) T.len PySem.boot_len (pa_cons (pv 1) pa_nil)))) (nomark _)))))
        (pss_one (ps_ret (pe_glob rfl mWr rWr))) pss_nil)
      (pss_cons (ps_if (pt_cmpR op_eq (pe_callB call_len_seq (by rfl) T.len PySem.boot_len (pa_cons (pe_fld (pv 0) rfl) pa_nil)) (pe_glob rfl mF rF) (nomark _)) (pss_one (ps_ret (pe_glob rfl mL rL))) pss_nil)
      (pss_cons (ps_expr (pe_bm PySem.F.plainAttrs_list PySem.F.slot_list_append PySem.F.type_list_append mt_append (pe_fld (pv 0) rfl) (pa_cons (pe_make M GI hr rfl T.mgF bI .nil pass0 (pa_cons (pv 1) (pa_cons (pv 2) pa_nil))) pa_nil)))
      (pss_one (ps_ret (pe_op op_sub (pe_callB call_len_seq (by rfl) T.len PySem.boot_len (pa_cons (pe_fld (pv 0) rfl) pa_nil)) pe_int))))), ?_⟩
    have bad : ∀ H1, Same H H1 → ¬ (mayDue fs on = true ∧ w < 2 ^ 2 ^ on.length) → Q (.int (-22)) H1 := fun H1 s1 c => by
      have e : featureDue fs on w = (fs, -22) := if_neg c
      rw [e] at k
      exact k H1 as (W.same s1) fun b o eb _ => s1 b o eb
    refine ⟨_, rfl, p, dx, _, rfl, hp, wf_no _ (by decide +kernel), _, rfl, p, l, q, as, fs, on, rfl, W, SqL.of hq, fun H1 s1 => ⟨_, rfl, ?_⟩⟩
    by_cases hm : mayDue fs on = true
    case neg =>
      have e : mayDue fs on = false := by simpa using hm
      rw [e]
      refine iteT (iteT ?_)
      exact bad H1 s1 fun z => hm z.1
    rw [hm]
    refine iteF ?_
    have h3 : on.length ≤ 3 := by
      unfold mayDue at hm
      rw [Bool.and_eq_true, Bool.and_eq_true, decide_eq_true_eq] at hm
      exact hm.1.1
    have hlen : (vInts on).length = on.length := List.length_map ..
    have hp2 : 2 ^ on.length ≤ 8 := Nat.pow_le_pow_right (n := 2) (j := 3) (by decide) h3
    have e2 : (1 * 2 ^ ((on.length : Int)).toNat : Int) = ((2 ^ on.length : Nat) : Int) := by simp
    have e4 : (1 * 2 ^ (((2 ^ on.length : Nat) : Int)).toNat : Int) = ((2 ^ 2 ^ on.length : Nat) : Int) := by
      rw [Int.toNat_natCast]
      simp
    refine ⟨_, rfl, _, rfl, q, _, rfl, .inl (SqL.of (s1 _ _ hq)), _, _, rfl, rfl, ⟨Int.natCast_nonneg _, by rw [hlen]; omega, by decide⟩, ?_⟩
    rw [hlen]
    dsimp only
    rw [e2]
    refine ⟨_, _, rfl, rfl, ⟨Int.natCast_nonneg _, by omega, by decide⟩, ?_⟩
    dsimp only
    rw [e4]
    refine ⟨_, _, rfl, rfl, _, rfl, ?_⟩
    by_cases hw2 : w < 2 ^ 2 ^ on.length
    case neg =>
      rw [decide_eq_true (by omega)]
      refine iteT ?_
      exact bad H1 s1 fun z => hw2 z.2
    rw [decide_eq_false (by omega)]
    refine iteF ?_
    refine ⟨_, rfl, p, CW, dx, _, _, rfl, s1 _ _ hp, T.clW, T.nFeat, wf_features _, l, _, rfl, .inl (SqL.of (s1 _ _ W.lst)), rfl, _, rfl, ?_⟩
    rw [List.length_map, W.len]
    refine ite2 (fun hc => ?_) fun hc => ?_
    · have h6 : fs.length = 6 := by
        have z := of_decide_eq_true hc
        injection z with z
        omega
      have e : featureDue fs on w = (fs, -28) := by
        unfold featureDue
        rw [if_pos ⟨hm, hw2⟩, if_pos h6]
      rw [e] at k
      exact k H1 as (W.same s1) fun b o eb _ => s1 b o eb
    have h6 : ¬ fs.length = 6 := fun z => hc (decide_eq_true (by rw [z]; rfl))
    have e : featureDue fs on w = (fs ++ [⟨on, w⟩], (fs.length : Int)) := by
      unfold featureDue
      rw [if_pos ⟨hm, hw2⟩, if_neg h6]
    rw [e] at k
    have W1 := W.same s1
    refine ⟨_, rfl, p, CW, dx, _, _, rfl, s1 _ _ hp, T.clW, T.nFeat, wf_features _, .inl ⟨rfl, _, SqL.of W1.lst⟩, _, rfl, _, rfl, fun x dxx nx ndx nex => ?_⟩
    have sx : Same H1 (upd (upd H1 dxx (.own x)) x (.ins CF dxx [])) := fun b o eb => by
      rw [upd_ne (ne_of_none eb nx), upd_ne (ne_of_none eb ndx)]
      exact eb
    refine ⟨x, dxx, q, on, w, rfl, upd_same, sx _ _ (s1 _ _ hq), fun H2 hF2 k2 => ⟨rfl, ?_⟩⟩
    have s2 : Same H1 H2 := fun b o eb => k2 b o (sx b o eb) (ne_of_none eb nx)
    have W2 := W1.same s2
    refine ⟨l, _, _, rfl, rfl, W2.lst, ?_, ?_⟩
    · rw [List.length_map, W.len, sizeLine_eq]
      have := wf.six
      omega
    · obtain ⟨dx2, hp2'⟩ := W2.ins
      have npl : p ≠ l := ne_of hp2' W2.lst (by intro z; cases z)
      have hp3 : (upd H2 l (.lst (as.map V.ref ++ [V.ref x]))) p = some (.ins CW dx2 (Ws.wf l)) := by
        rw [upd_ne npl]
        exact hp2'
      refine ⟨_, rfl, p, CW, dx2, _, _, rfl, hp3, T.clW, T.nFeat, wf_features _, l, _, rfl, .inl (SqL.of upd_same), _, _, rfl, rfl, ?_⟩
      have el : (((as.map V.ref ++ [V.ref x]).length : Nat) : Int) - 1 = (fs.length : Int) := by
        rw [List.length_append, List.length_map, W.len, List.length_singleton]
        omega
      dsimp only
      rw [el]
      refine k _ (as ++ [x]) ⟨⟨dx2, hp3⟩, ?_, ?_, fun j a f ha hf => ?_⟩ fun b o eb hb => ?_
      · rw [upd_same, List.map_append]
        rfl
      · rw [List.length_append, List.length_append, W.len]
        rfl
      · have keep : ∀ {a f}, FeatAt CF H2 a f → FeatAt CF (upd H2 l (.lst (as.map V.ref ++ [V.ref x]))) a f := fun {a f} hf => by
          obtain ⟨da, ta, h1, h2⟩ := hf
          exact ⟨da, ta, by rw [upd_ne (ne_of h1 W2.lst (by intro z; cases z))]; exact h1, by rw [upd_ne (ne_of h2 W2.lst (by intro z; cases z))]; exact h2⟩
        by_cases hj : j < fs.length
        · rw [List.getElem?_append_left (by rw [W.len]; exact hj)] at ha
          rw [List.getElem?_append_left hj] at hf
          exact keep (W2.at_ j a f ha hf)
        · have hj2 : j = fs.length := by
            have := (List.getElem?_eq_some_iff.mp hf).1
            rw [List.length_append, List.length_singleton] at this
            omega
          have e1 : a = x := by
            rw [hj2, ← W.len] at ha
            have z : (as ++ [x])[as.length]? = some x := by simp
            exact Option.some.inj (ha.symm.trans z)
          have e2 : f = ⟨on, w⟩ := by
            rw [hj2] at hf
            have z : (fs ++ [(⟨on, w⟩ : Kcz8.Feature)])[fs.length]? = some ⟨on, w⟩ := by simp
            exact Option.some.inj (hf.symm.trans z)
          rw [e1, e2]
          exact keep hF2
      · rw [upd_ne hb]
        exact s2 _ _ (s1 _ _ eb)
end
end Ws
end
section
set_option Elab.async false
set_option linter.all false
set_option maxRecDepth 100000
set_option maxHeartbeats 2000000
namespace Wm
open Kcz8
/-! ### how long a way may be -/
theorem rank_lt (fs : List Feature) (o : Nat) : ∀ k, rank fs o k < 2 ^ k
  | 0 => Nat.one_pos
  | k + 1 => by
    have h1 := rank_lt fs o k
    have h2 := sat_le fs o k
    rw [rank, Nat.pow_succ]
    omega
theorem wk_rank {fs : List Feature} (hw : Wf fs) {a : Nat} : ∀ (n x : Nat), x < 2 ^ fs.length → wk fs a n x = true → rank fs x fs.length + n ≤ rank fs a fs.length
  | 0, x, _, h => by
    rw [wk_zero.mp h]
    exact Nat.le_refl _
  | n + 1, x, hx, h => by
    obtain ⟨t, h1, h2⟩ := wk_succ.mp h
    have h3 := rank_nx hw hx h1
    have h4 := wk_rank hw n t (nx_lt hw.six hx h1) h2
    omega
theorem wk_short {fs : List Feature} (hw : Wf fs) {a n x : Nat} (hx : x < 2 ^ fs.length) (h : wk fs a n x = true) : n < 64 := by
  have h1 := wk_rank hw n x hx h
  have h2 := rank_lt fs a fs.length
  have h3 := pow_le64 hw.six
  omega
end Wm
namespace Ws
open PySem PySem.Spec PyProof.Rows L2
abbrev zs (l : List Int) : List V := l.map V.int
theorem zs_nums (l : List Nat) : zs (Kcz8Neutral.nums l) = vInts l := by
  unfold zs Kcz8Neutral.nums
  rw [List.map_map]
  rfl
def countDue (fs : List Kcz8.Feature) (dn : Bool) (x : Nat) : Int := if x < 2 ^ fs.length then ((((Kcz8.all_ fs).filter fun y => if dn = true then Kcz8.better fs x y else Kcz8.better fs y x).length : Nat) : Int) else -22
def spCount (CW CF : Addr) : Sp := fun vs H Q _ => ∃ (p l : Addr) (as : List Addr) (fs : List Kcz8.Feature) (x : Nat) (dn : Bool), vs = [.ref p, .int (x : Int), dirV dn] ∧
  WAt CW CF H p l as fs ∧ Wm.Wf fs ∧ ∀ H' : Hp, Same H H' → Q (.int (countDue fs dn x)) H'
def spSide (CW CF : Addr) (dn : Bool) : Sp := fun vs H Q _ => ∃ (p l : Addr) (as : List Addr) (fs : List Kcz8.Feature) (x : Nat), vs = [.ref p, .int (x : Int)] ∧
  WAt CW CF H p l as fs ∧ Wm.Wf fs ∧ ∀ H' : Hp, Same H H' → Q (.int (countDue fs dn x)) H'
def spChange (CW CF : Addr) : Sp := fun vs H Q _ => ∃ (p l d : Addr) (as : List Addr) (fs : List Kcz8.Feature) (L : List (Nat × Nat)) (z o e : Nat), vs = [.ref p, .int (o : Int), .ref d] ∧
  WAt CW CF H p l as fs ∧ Wm.Wf fs ∧ H d = some (.dK (dL L)) ∧ z < 2 ^ fs.length ∧ Wm.Far fs true z L ∧ (o, e + 1) ∈ L ∧
  ∀ (H' : Hp) (k : Nat), (List.range fs.length).find? (Wm.nearer fs z e o) = some k → Same H H' → Q (.int (k : Int)) H'
def pathDue (fs : List Kcz8.Feature) (x y : Nat) : List Int := if x < 2 ^ fs.length ∧ y < 2 ^ fs.length then (match Kcz8.path fs x y with
  | none => [-6]
  | some w => (w.length : Int) :: Kcz8Neutral.nums w) else [-22]
def spPath (CW CF : Addr) : Sp := fun vs H Q _ => ∃ (p l : Addr) (as : List Addr) (fs : List Kcz8.Feature) (x y : Nat), vs = [.ref p, .int (x : Int), .int (y : Int)] ∧
  WAt CW CF H p l as fs ∧ Wm.Wf fs ∧ ∀ (H' : Hp) (r : Addr), H r = none → Same H H' → H' r = some (.lst (zs (pathDue fs x y))) → Q (.ref r) H'
section
variable {P : Program} {w : World} {K : PySem.W.Frag} {mg : Str → Option Value} {base : Heap} {CW CF : Addr}
theorem scCount : FnScope ["self", "a", "direction"] ["self", "a", "direction"] (defScope sCount) := ⟨rfl, rfl, rfl, by decide +kernel, rfl, by decide +kernel, by decide +kernel⟩
theorem ok_count {f fY fX : Addr} {fd fdY fdX : FuncData} (F : Fun K "count_led_to" "Wishes.count_led_to" sCount f fd) (T : Txt K mg CW CF)
    (FY : Fun K "is_beyond" "Wishes.is_beyond" sBeyond fY fdY) (bY : Binds K fdY ["self", "number"] []) (mY : Meth K CW "is_beyond" fY)
    (GX : FnOk P w K mg base CX0 6 fX fdX ["self", "start", "direction"] (spDist CW CF)) (bX : Binds K fdX ["self", "start", "direction"] []) (mX : Meth K CW "distances" fX) : FnOk P w K mg base CX0 7 f fd ["self", "a", "direction"] (spCount CW CF) := by
  have GY : FnOk P w K mg base CX0 1 fY fdY ["self", "number"] (spBeyond CW CF) := ok_beyond FY T
  obtain ⟨uW, mWr, rWr⟩ := T.wrong
  refine F.ok scCount (fun vs H Q E h => ?_) (fun cdv A outer s H vs Q E hr h => ?_)
  · obtain ⟨p, l, as, fs, x, dn, rfl, _⟩ := h
    rfl
  · obtain ⟨p, l, as, fs, x, dn, rfl, W, wf, k⟩ := h
    obtain ⟨dx, hp⟩ := W.ins
    have hr1 : Room 1 _ := hr.mono (by decide)
    refine ⟨_, pss_cons (ps_if (pt_val (pe_meth (pv 0) T.clW mY GY hr1 bY .nil pass0 (pa_cons (pv 1) pa_nil))) (pss_one (ps_ret (pe_glob rfl mWr rWr))) pss_nil)
      (pss_one (ps_ret (pe_op op_sub (pe_callB call_lenD (by rfl) T.len PySem.boot_len (pa_cons (pe_meth (pv 0) T.clW mX GX hr bX .nil pass0 (pa_cons (pv 1) (pa_cons (pv 2) pa_nil))) pa_nil)) pe_int))), ?_⟩
    refine ⟨_, rfl, p, dx, _, rfl, hp, wf_no _ (by decide +kernel), _, rfl, p, l, as, fs, x, rfl, W, _, rfl, ?_⟩
    by_cases hg : x < 2 ^ fs.length
    case neg =>
      rw [decide_eq_false hg]
      refine iteT ?_
      have e : countDue fs dn x = -22 := if_neg hg
      rw [e] at k
      exact k H Same.refl
    rw [decide_eq_true hg]
    refine iteF ?_
    refine ⟨_, rfl, p, dx, _, rfl, hp, wf_no _ (by decide +kernel), _, rfl, _, rfl, p, l, as, fs, x, dn, rfl, W, wf, hg, fun H1 r1 L1 F1 _ nr1 s1 hr1' => ?_⟩
    refine ⟨r1, _, rfl, hr1', _, _, rfl, rfl, ?_⟩
    have e : countDue fs dn x = (((dL L1).length : Nat) : Int) - 1 := by
      unfold countDue
      rw [if_pos hg, dL_len]
      cases dn with
      | false =>
        have := Wm.Far.lenUp wf.six hg F1
        simp only [Bool.false_eq_true, if_false]
        omega
      | true =>
        have := Wm.Far.lenDown wf hg F1
        simp only [if_true]
        omega
    rw [e] at k
    exact k H1 s1
theorem scAbove : FnScope ["self", "a"] ["self", "a"] (defScope sAbove) := ⟨rfl, rfl, rfl, by decide +kernel, rfl, by decide +kernel, by decide +kernel⟩
theorem ok_above {f fL : Addr} {fd fdL : FuncData} (F : Fun K "above" "Wishes.above" sAbove f fd) (T : Txt K mg CW CF) (GL : FnOk P w K mg base CX0 7 fL fdL ["self", "a", "direction"] (spCount CW CF)) (bL : Binds K fdL ["self", "a", "direction"] []) (mL : Meth K CW "count_led_to" fL) :
    FnOk P w K mg base CX0 8 f fd ["self", "a"] (spSide CW CF false) := by
  obtain ⟨uB, mBt, rBt⟩ := T.better
  refine F.ok scAbove (fun vs H Q E h => ?_) (fun cdv A outer s H vs Q E hr h => ?_)
  · obtain ⟨p, l, as, fs, x, rfl, _⟩ := h
    rfl
  · obtain ⟨p, l, as, fs, x, rfl, W, wf, k⟩ := h
    obtain ⟨dx, hp⟩ := W.ins
    refine ⟨_, pss_one (ps_ret (pe_meth (pv 0) T.clW mL GL hr bL .nil pass0 (pa_cons (pv 1) (pa_cons (pe_glob rfl mBt rBt) pa_nil)))), ?_⟩
    exact ⟨_, rfl, p, dx, _, rfl, hp, wf_no _ (by decide +kernel), _, rfl, p, l, as, fs, x, false, rfl, W, wf, k⟩
theorem scBelow : FnScope ["self", "a"] ["self", "a"] (defScope sBelow) := ⟨rfl, rfl, rfl, by decide +kernel, rfl, by decide +kernel, by decide +kernel⟩
theorem ok_below {f fL : Addr} {fd fdL : FuncData} (F : Fun K "below" "Wishes.below" sBelow f fd) (T : Txt K mg CW CF) (GL : FnOk P w K mg base CX0 7 fL fdL ["self", "a", "direction"] (spCount CW CF)) (bL : Binds K fdL ["self", "a", "direction"] []) (mL : Meth K CW "count_led_to" fL) :
    FnOk P w K mg base CX0 8 f fd ["self", "a"] (spSide CW CF true) := by
  obtain ⟨uB, mBt, rBt⟩ := T.worse
  refine F.ok scBelow (fun vs H Q E h => ?_) (fun cdv A outer s H vs Q E hr h => ?_)
  · obtain ⟨p, l, as, fs, x, rfl, _⟩ := h
    rfl
  · obtain ⟨p, l, as, fs, x, rfl, W, wf, k⟩ := h
    obtain ⟨dx, hp⟩ := W.ins
    refine ⟨_, pss_one (ps_ret (pe_meth (pv 0) T.clW mL GL hr bL .nil pass0 (pa_cons (pv 1) (pa_cons (pe_glob rfl mBt rBt) pa_nil)))), ?_⟩
    exact ⟨_, rfl, p, dx, _, rfl, hp, wf_no _ (by decide +kernel), _, rfl, p, l, as, fs, x, true, rfl, W, wf, k⟩
theorem scChange : FnScope ["self", "thing", "left", "nearer", "number", "other"] ["self", "thing", "left"] (defScope sChange) := ⟨rfl, rfl, rfl, by decide +kernel, rfl, by decide +kernel, by decide +kernel⟩
theorem ok_change {f fA : Addr} {fd fdA : FuncData} (F : Fun K "next_change" "Wishes.next_change" sChange f fd) (T : Txt K mg CW CF)
    (GA : FnOk P w K mg base CX0 4 fA fdA ["self", "thing", "direction"] (spAble CW CF)) (bA : Binds K fdA ["self", "thing", "direction"] []) (mA : Meth K CW "changeable" fA) : FnOk P w K mg base CX0 5 f fd ["self", "thing", "left"] (spChange CW CF) := by
  obtain ⟨uB, mBt, rBt⟩ := T.better
  refine F.ok scChange (fun vs H Q E h => ?_) (fun cdv A outer s H vs Q E hr h => ?_)
  · obtain ⟨p, l, d, as, fs, L, z, o, e, rfl, _⟩ := h
    rfl
  · obtain ⟨p, l, d, as, fs, L, z, o, e, rfl, W, wf, hd, hz, FL, hoL, k⟩ := h
    obtain ⟨dx, hp⟩ := W.ins
    have hu := hu_of hr
    have h6 := wf.six
    obtain ⟨hol, hwk, hfar⟩ := FL.val wf hz hoL
    refine ⟨_, pss_cons (ps_set (i := 3) scChange.nd rfl (Or.inl rfl) (pe_lst pa_nil))
      (pss_cons (ps_for PassesOwn.never rfl (pi_list (pe_meth (pv 0) T.clW mA GA hr bA .nil pass0 (pa_cons (pv 1) (pa_cons (pe_glob rfl mBt rBt) pa_nil)))) (pg_name (i := 4) scChange.nd rfl (Or.inl rfl))
        (pss_cons (ps_set (i := 5) scChange.nd rfl (Or.inl rfl) (pe_op op_xor (pv 1) (pe_op op_shl pe_int (pv 4))))
        (pss_one (ps_if (PW.pt (pw_and (pt_cmp (pc_din hu (pv 5) (pv 2))) (pw_and1 (pt_cmpR op_lt (pe_dget hu (pv 2) (pv 5) (fun _ _ => rfl)) (pe_dget hu (pv 2) (pv 1) (fun _ _ => rfl)) (nomark _)))))
          (pss_one (ps_expr (pe_bm PySem.F.plainAttrs_list PySem.F.slot_list_append PySem.F.type_list_append mt_append (pv 3) (pa_cons (pv 4) pa_nil)))) pss_nil))))
      (pss_one (ps_ret (pe_callB (call_min_of rfl) (by rfl) T.min PyProof.Rows.boot_min (pa_cons (pv 3) pa_nil))))), ?_⟩
    refine ⟨Nat.zero_le _, fun r hrn => ?_⟩
    have s0 : Same H (upd H r (.lst [])) := same_upd hrn
    refine ⟨_, rfl, p, dx, _, rfl, s0 _ _ hp, wf_no _ (by decide +kernel), _, rfl, p, l, as, fs, o, false, rfl, W.same s0, wf, fun H2 b hb s2 hb2 => ?_⟩
    have nbr : r ≠ b := ne_of_none upd_same hb
    have hge : ∀ H3 : Hp, Same H H3 → ∀ {x n : Nat}, (x, n) ∈ L → DGet H3 d (kV (Sum.inl (x : Int))) (some (.int ((n : Nat) : Int))) := fun H3 s3 x n hx => by
      have := DGet.k (k := Sum.inl (x : Int)) (s3 _ _ hd)
      rw [dL_some FL.nd hx] at this
      exact this
    refine ⟨b, rfl, ⟨_, SqL.of hb2⟩, for_list (K := K) (a := b) (xs := vInts (Wm.ks fs false o))
      (fun i σ H3 => ∃ v4 v5 : Option V, σ = [some (.ref p), some (.int (o : Int)), some (.ref d), some (.ref r), v4, v5] ∧ Same H H3 ∧ H3 b = some (.lst (vInts (Wm.ks fs false o))) ∧ H3 r = some (.lst (vInts (((Wm.ks fs false o).take i).filter (Wm.nearer fs z e o)))))
      ⟨none, none, rfl, s0.trans s2, hb2, s2 _ _ upd_same⟩ (fun i σ H3 _ ⟨_, _, _, _, h, _⟩ => SqL.of h) ?_ ?_⟩
    · rintro i y σ H3 hy ⟨v4, v5, rfl, s3, hb3, hl3⟩
      obtain ⟨t, ht, rfl⟩ := vInts_at hy
      have htm : t ∈ Wm.ks fs false o := List.mem_of_getElem? ht
      have ht6 := (Wm.mem_ks.mp htm).1
      have hnear := FL.near wf hz hol hfar htm
      refine ⟨_, rfl, _, rfl, _, _, rfl, rfl, ⟨Int.natCast_nonneg _, by omega, by decide⟩, _, _, rfl, rfl, ?_⟩
      dsimp only
      rw [Wm.flip_int]
      refine ⟨_, rfl, _, rfl, d, _, rfl, DGet.k (k := Sum.inl ((Kcz8.flip o t : Nat) : Int)) (s3 _ _ hd), _, rfl, ?_⟩
      rw [dL_isSome FL.nd]
      have no : Wm.nearer fs z e o t = false → ∃ v4' v5' : Option V, ([some (.ref p), some (.int (o : Int)), some (.ref d), some (.ref r), some (.int (t : Int)), some (.int ((Kcz8.flip o t : Nat) : Int))] : L2.St) = [some (.ref p), some (.int (o : Int)), some (.ref d), some (.ref r), v4', v5'] ∧ Same H H3 ∧ H3 b = some (.lst (vInts (Wm.ks fs false o))) ∧ H3 r = some (.lst (vInts (((Wm.ks fs false o).take (i + 1)).filter (Wm.nearer fs z e o)))) := fun hn => by
        refine ⟨_, _, rfl, s3, hb3, ?_⟩
        rw [take_snoc ht, List.filter_append, List.filter_cons, hn]
        simpa using hl3
      refine ite2 (fun hc => ?_) fun hc => ?_
      · obtain ⟨n, hn⟩ := Wm.mem_keys.mp (of_decide_eq_true hc)
        refine ⟨_, rfl, _, rfl, d, _, rfl, hge H3 s3 hn, _, rfl, _, rfl, d, _, rfl, hge H3 s3 hoL, _, _, rfl, rfl, _, rfl, ?_⟩
        have huniq : ∀ m, (Kcz8.flip o t, m) ∈ L → m = n := fun m hm => by
          have h1 := dL_some FL.nd hm
          rw [dL_some FL.nd hn] at h1
          injection h1 with h1
          injection h1 with h1
          omega
        refine ite2 (fun hc2 => ?_) fun hc2 => ?_
        · have hlt : n < e + 1 := by
            have := of_decide_eq_true hc2
            omega
          have hyes : Wm.nearer fs z e o t = true := hnear.mpr ⟨n, hn, hlt⟩
          refine ⟨_, rfl, .inl ⟨rfl, _, SqL.of hl3⟩, _, rfl, r, _, _, rfl, rfl, hl3, ?_, ?_⟩
          · rw [List.length_map, sizeLine_eq]
            have h1 := List.length_filter_le (Wm.nearer fs z e o) ((Wm.ks fs false o).take i)
            rw [List.length_take] at h1
            have h2 := ks_len h6 false o
            omega
          · refine ⟨_, _, rfl, same_upd2 s3 hrn, ?_, ?_⟩
            · rw [upd_ne (Ne.symm nbr)]
              exact hb3
            · rw [upd_same, take_snoc ht, List.filter_append, List.filter_cons, hyes]
              simp
        · refine no ?_
          cases c : Wm.nearer fs z e o t with
          | false => rfl
          | true =>
            obtain ⟨m, hm, hlt⟩ := hnear.mp c
            rw [huniq m hm] at hlt
            exact absurd (decide_eq_true (by omega)) hc2
      · refine iteF (no ?_)
        cases c : Wm.nearer fs z e o t with
        | false => rfl
        | true =>
          obtain ⟨m, hm, _⟩ := hnear.mp c
          exact absurd (decide_eq_true (Wm.mem_keys.mpr ⟨m, hm⟩)) hc
    · rintro σ H3 ⟨v4, v5, rfl, s3, hb3, hl3⟩
      rw [List.length_map, List.take_length] at hl3
      obtain ⟨k0, hk0⟩ := Wm.nearer_some hwk
      obtain ⟨hp0, hm0, hle0⟩ := List.find?_range_eq_some.mp hk0
      have hk0s : k0 ∈ (Wm.ks fs false o).filter (Wm.nearer fs z e o) := by
        refine List.mem_filter.mpr ⟨Wm.mem_ks.mpr ⟨List.mem_range.mp hm0, ?_⟩, hp0⟩
        unfold Wm.nearer at hp0
        rw [Bool.and_eq_true] at hp0
        exact hp0.1
      have em : vInts ((Wm.ks fs false o).filter (Wm.nearer fs z e o)) = (((Wm.ks fs false o).filter (Wm.nearer fs z e o)).map fun (k : Nat) => (k : Int)).map V.int := by rw [List.map_map]; rfl
      refine ⟨_, rfl, r, ((Wm.ks fs false o).filter (Wm.nearer fs z e o)).map fun (k : Nat) => (k : Int), rfl, by rw [← em]; exact SqL.of hl3, by rw [List.length_map]; exact List.length_pos_of_mem hk0s, fun M hM hle => ?_⟩
      obtain ⟨k1, hk1, rfl⟩ := List.mem_map.mp hM
      have h1 := hle _ (List.mem_map.mpr ⟨k0, hk0s, rfl⟩)
      have h2 : ¬ k1 < k0 := fun c => by
        have := hle0 k1 c
        rw [(List.mem_filter.mp hk1).2] at this
        cases this
      have e1 : k1 = k0 := by omega
      rw [e1]
      exact k H3 k0 hk0 s3
theorem scPath : FnScope ["self", "start_at", "end_at", "left", "row", "thing", "number"] ["self", "start_at", "end_at"] (defScope sPath) := ⟨rfl, rfl, rfl, by decide +kernel, rfl, by decide +kernel, by decide +kernel⟩
def muThing (fs : List Kcz8.Feature) (σ : L2.St) : Nat := match σ[5]? with
  | some (some (V.int i)) => 64 - Wm.rank fs i.toNat fs.length
  | _ => 0
theorem ok_path {f fY fX fC : Addr} {fd fdY fdX fdC : FuncData} (F : Fun K "path" "Wishes.path" sPath f fd) (T : Txt K mg CW CF)
    (FY : Fun K "is_beyond" "Wishes.is_beyond" sBeyond fY fdY) (bY : Binds K fdY ["self", "number"] []) (mY : Meth K CW "is_beyond" fY)
    (GX : FnOk P w K mg base CX0 6 fX fdX ["self", "start", "direction"] (spDist CW CF)) (bX : Binds K fdX ["self", "start", "direction"] []) (mX : Meth K CW "distances" fX)
    (GC : FnOk P w K mg base CX0 5 fC fdC ["self", "thing", "left"] (spChange CW CF)) (bC : Binds K fdC ["self", "thing", "left"] []) (mC : Meth K CW "next_change" fC) : FnOk P w K mg base CX0 7 f fd ["self", "start_at", "end_at"] (spPath CW CF) := by
  have GY : FnOk P w K mg base CX0 1 fY fdY ["self", "number"] (spBeyond CW CF) := ok_beyond FY T
  obtain ⟨uW, mWr, rWr⟩ := T.wrong
  obtain ⟨uN, mNp, rNp⟩ := T.noPath
  obtain ⟨uB, mBt, rBt⟩ := T.worse
  refine F.ok scPath (fun vs H Q E h => ?_) (fun cdv A outer s H vs Q E hr h => ?_)
  · obtain ⟨p, l, as, fs, x, y, rfl, _⟩ := h
    rfl
  · obtain ⟨p, l, as, fs, x, y, rfl, W, wf, k⟩ := h
    obtain ⟨dx, hp⟩ := W.ins
    have hr1 : Room 1 _ := hr.mono (by decide)
    have hr5 : Room 5 _ := hr.mono (by decide)
    have hu := hu_of hr
    have h6 := wf.six
    refine ⟨_, pss_cons (ps_if (PW.pt (pw_or (pt_val (pe_meth (pv 0) T.clW mY GY hr1 bY .nil pass0 (pa_cons (pv 1) pa_nil))) (pw_or1 (pt_val (pe_meth (pv 0) T.clW mY GY hr1 bY .nil pass0 (pa_cons (pv 2) pa_nil)))))) (pss_one (ps_ret (pe_lst (pa_cons (pe_glob rfl mWr rWr) pa_nil)))) pss_nil)
      (pss_cons (ps_set (i := 3) scPath.nd rfl (Or.inl rfl) (pe_meth (pv 0) T.clW mX GX hr bX .nil pass0 (pa_cons (pv 2) (pa_cons (pe_glob rfl mBt rBt) pa_nil))))
      (pss_cons (ps_if (pt_cmp (pc_dnotin hu (pv 1) (pv 3))) (pss_one (ps_ret (pe_lst (pa_cons (pe_glob rfl mNp rNp) pa_nil)))) pss_nil)
      (pss_cons (ps_set (i := 4) scPath.nd rfl (Or.inl rfl) (pe_lst pa_nil))
      (pss_cons (ps_set (i := 5) scPath.nd rfl (Or.inl rfl) (pv 1))
      (pss_cons (ps_while PassesOwn.never (pt_cmpR op_ne (pv 5) (pv 2) (nomark _))
        (pss_cons (ps_set (i := 6) scPath.nd rfl (Or.inl rfl) (pe_meth (pv 0) T.clW mC GC hr5 bC .nil pass0 (pa_cons (pv 5) (pa_cons (pv 3) pa_nil))))
        (pss_cons (ps_expr (pe_bm PySem.F.plainAttrs_list PySem.F.slot_list_append PySem.F.type_list_append mt_append (pv 4) (pa_cons (pv 6) pa_nil)))
        (pss_one (ps_set (i := 5) scPath.nd rfl (Or.inl rfl) (pe_op op_xor (pv 5) (pe_op op_shl pe_int (pv 6))))))))
      (pss_one (ps_ret (pe_op op_cat (pe_lst (pa_cons (pe_callB call_len_seq (by rfl) T.len PySem.boot_len (pa_cons (pv 4) pa_nil)) pa_nil)) (pv 4))))))))), ?_⟩
    have bad : ∀ H1, Same H H1 → ∀ v : Int, pathDue fs x y = [v] → ∀ r, H1 r = none → Q (.ref r) (upd H1 r (.lst [.int v])) := fun H1 s1 v e r hn => by
      refine k _ r (s1.free hn) (s1.trans (same_upd hn)) ?_
      rw [e, upd_same]
      rfl
    refine ⟨_, rfl, p, dx, _, rfl, hp, wf_no _ (by decide +kernel), _, rfl, p, l, as, fs, x, rfl, W, _, rfl, ?_⟩
    by_cases hx : x < 2 ^ fs.length
    case neg =>
      rw [decide_eq_false hx]
      refine iteT (iteT ?_)
      exact ⟨(by show 1 ≤ sizeLine; decide), bad H Same.refl (-22) (if_neg fun z => hx z.1)⟩
    rw [decide_eq_true hx]
    refine iteF ?_
    refine ⟨_, rfl, p, dx, _, rfl, hp, wf_no _ (by decide +kernel), _, rfl, p, l, as, fs, y, rfl, W, _, rfl, ?_⟩
    by_cases hy : y < 2 ^ fs.length
    case neg =>
      rw [decide_eq_false hy]
      refine iteT ?_
      exact ⟨(by show 1 ≤ sizeLine; decide), bad H Same.refl (-22) (if_neg fun z => hy z.2)⟩
    rw [decide_eq_true hy]
    refine iteF ?_
    have edue : pathDue fs x y = (match Kcz8.path fs x y with
      | none => [-6]
      | some w => (w.length : Int) :: Kcz8Neutral.nums w) := if_pos ⟨hx, hy⟩
    refine ⟨_, rfl, p, dx, _, rfl, hp, wf_no _ (by decide +kernel), _, rfl, p, l, as, fs, y, true, rfl, W, wf, hy, fun H1 d L FL _ nd1 s1 hd => ?_⟩
    refine ⟨_, rfl, _, rfl, d, _, rfl, DGet.k (k := Sum.inl (x : Int)) hd, _, rfl, ?_⟩
    rw [dL_isSome FL.nd]
    refine ite2 (fun hc => ?_) fun hc => ?_
    · have hni : ¬ x ∈ Wm.keys L := by simpa using hc
      refine ⟨(by show 1 ≤ sizeLine; decide), bad H1 s1 (-6) ?_⟩
      rw [edue, Wm.path_none h6 hx fun z => hni ((FL.down wf hy x).mpr ⟨hx, z⟩)]
    have hmem : x ∈ Wm.keys L := Classical.byContradiction fun z => hc (by simpa using z)
    obtain ⟨m, hm⟩ := Wm.mem_keys.mp hmem
    obtain ⟨_, hwm, hfm⟩ := FL.val wf hy hm
    have hm64 := Wm.wk_short wf hx hwm
    have hgl := Wm.gr_len m x hwm
    rw [Wm.path_eq h6 hx hwm hfm] at edue
    refine ⟨Nat.zero_le _, fun q nq => ?_⟩
    have s2 : Same H1 (upd H1 q (.lst [])) := same_upd nq
    refine ⟨_, rfl, ?_⟩
    refine while_by (fun σ H' => ∃ (e t : Nat) (row : List Nat) (v6 : Option V), σ = [some (.ref p), some (.int (x : Int)), some (.int (y : Int)), some (.ref d), some (.ref q), some (.int (t : Int)), v6] ∧ Same H1 H' ∧ H' q = some (.lst (vInts row)) ∧ (t, e) ∈ L ∧ row ++ Wm.gr fs y e t = Wm.gr fs y m x) (fun σ _ => muThing fs σ)
      ⟨m, x, [], none, rfl, s2, upd_same, hm, rfl⟩ ?_ ?_
    · rintro σ H' ⟨e, t, row, v6, rfl, s3, hq3, hte, hrow⟩
      obtain ⟨htl, hwt, hft⟩ := FL.val wf hy hte
      have hlen : row.length + e = m := by
        have := congrArg List.length hrow
        rw [List.length_append, hgl, Wm.gr_len e t hwt] at this
        exact this
      refine ⟨_, rfl, _, rfl, rfl, _, rfl, ?_⟩
      by_cases hty : t = y
      · have hF : (!decide (V.int (t : Int) = V.int (y : Int))) = false := by rw [hty]; simp
        show if (!decide (V.int (t : Int) = V.int (y : Int))) = true then _ else _
        rw [hF]
        refine iteF ?_
        have e0 : e = 0 := by
          cases e with
          | zero => rfl
          | succ e =>
            have := hft 0 (by omega)
            rw [Wm.wk_zero.mpr hty] at this
            cases this
        subst e0
        have hrow2 : row = Wm.gr fs y m x := by
          rw [← hrow]
          show row = row ++ []
          rw [List.append_nil]
        refine ⟨_, rfl, q, _, rfl, .inl (SqL.of hq3), (by show 1 ≤ sizeLine; decide), fun b nb => ?_⟩
        have nqb : q ≠ b := ne_of_none hq3 nb
        refine ⟨_, rfl, b, q, _, _, rfl, rfl, upd_same, (upd_ne nqb).trans hq3, ?_, fun r nr => ?_⟩
        · rw [List.length_map, sizeLine_eq, List.length_singleton]
          omega
        · have s4 : Same H1 (upd H' b (.lst [.int (((vInts row).length : Nat) : Int)])) := s3.trans (same_upd nb)
          refine k _ r (s1.free (s4.free nr)) (s1.trans (s4.trans (same_upd nr))) ?_
          rw [upd_same, edue]
          show _ = some (HO.lst (zs ((((Wm.gr fs y m x).length : Nat) : Int) :: Kcz8Neutral.nums (Wm.gr fs y m x))))
          rw [← hrow2]
          show _ = some (HO.lst (V.int ((row.length : Nat) : Int) :: zs (Kcz8Neutral.nums row)))
          rw [zs_nums, List.length_map]
          rfl
      · have hT : (!decide (V.int (t : Int) = V.int (y : Int))) = true := by
          have : ¬ V.int (t : Int) = V.int (y : Int) := fun c => hty (by injection c with c; omega)
          rw [decide_eq_false this]
          rfl
        show if (!decide (V.int (t : Int) = V.int (y : Int))) = true then _ else _
        rw [hT]
        refine iteT ?_
        have e1 : ∃ e', e = e' + 1 := by
          cases e with
          | zero => exact absurd (Wm.wk_zero.mp hwt) hty
          | succ e => exact ⟨e, rfl⟩
        obtain ⟨e', rfl⟩ := e1
        have hp3 := s3 _ _ (s1 _ _ hp)
        refine ⟨_, rfl, p, dx, _, rfl, hp3, wf_no _ (by decide +kernel), _, rfl, _, rfl, p, l, d, as, fs, L, y, t, e', rfl, W.same (s1.trans s3), wf, s3 _ _ hd, hy, FL, hte, fun H4 n hn s4 => ?_⟩
        obtain ⟨hnp, hnm, _⟩ := List.find?_range_eq_some.mp hn
        have hnl := List.mem_range.mp hnm
        have hnp2 := hnp
        unfold Wm.nearer at hnp2
        rw [Bool.and_eq_true] at hnp2
        have hnx : Kcz8.flip t n ∈ Wm.nx fs t := Wm.mem_nx.mpr ⟨n, hnl, hnp2.1, rfl⟩
        have hq4 := s4 _ _ hq3
        refine ⟨_, rfl, .inl ⟨rfl, _, SqL.of hq4⟩, _, rfl, q, _, _, rfl, rfl, hq4, ?_, ?_⟩
        · rw [List.length_map, sizeLine_eq]
          omega
        · refine ⟨_, rfl, _, rfl, _, _, rfl, rfl, ⟨Int.natCast_nonneg _, by omega, by decide⟩, _, _, rfl, rfl, ?_⟩
          dsimp only
          rw [Wm.flip_int]
          refine ⟨⟨e', Kcz8.flip t n, row ++ [n], _, rfl, same_upd2 (s3.trans s4) nq, ?_, ?_, ?_⟩, ?_⟩
          · rw [upd_same]
            simp
          · have hs := (Wm.st_down wf hy e' _).mpr ⟨Wm.nx_lt h6 htl hnx, hnp2.2⟩
            obtain ⟨n', hn'⟩ := Wm.mem_keys.mp (FL.all _ _ hs)
            have hfar := Wm.far_next hft hnx
            obtain ⟨_, hw', hf'⟩ := FL.val wf hy hn'
            have e2 : n' = e' := by
              by_cases c : n' < e'
              · have := hfar n' c
                rw [hw'] at this
                cases this
              · by_cases c2 : e' < n'
                · have := hf' e' c2
                  rw [hnp2.2] at this
                  cases this
                · omega
            rw [← e2]
            exact hn'
          · rw [← hrow, Wm.gr, hn, List.append_assoc]
            rfl
          · show 64 - Wm.rank fs (((Kcz8.flip t n : Nat) : Int)).toNat fs.length < 64 - Wm.rank fs ((t : Int)).toNat fs.length
            rw [Int.toNat_natCast, Int.toNat_natCast]
            have h1 := Wm.rank_nx wf htl hnx
            have h2 := Wm.rank_lt fs (Kcz8.flip t n) fs.length
            have h3 := Wm.pow_le64 h6
            omega
    · rintro σ H' Q1 Q2 hq ⟨x, hx, y, hy, sc, c, ec, q⟩
      exact ⟨x, hx, y, hy, sc, c, ec, hq _ _ q⟩
end
end Ws
end
section
set_option Elab.async false
set_option linter.all false
set_option maxRecDepth 100000
set_option maxHeartbeats 2000000
namespace Wm
open Kcz8
/-- those that have not come -/
def left_ (fs : List Feature) (came : List Nat) : List Nat := (all_ fs).filter fun x => decide (x ∉ came)
theorem mem_left {fs : List Feature} {came : List Nat} {x : Nat} : x ∈ left_ fs came ↔ x < 2 ^ fs.length ∧ x ∉ came := by
  unfold left_ all_
  rw [List.mem_filter, List.mem_range, decide_eq_true_eq]
/-- it may come now -/
def ripe (fs : List Feature) (came : List Nat) (o : Nat) : Prop := o ∉ came ∧ ∀ t ∈ nx fs o, t ∈ came
theorem free_left {fs : List Feature} (h6 : fs.length ≤ 6) {came : List Nat} {o : Nat} (ho : o < 2 ^ fs.length) : free fs (left_ fs came) o = true ↔ ∀ t ∈ nx fs o, t ∈ came := by
  rw [free_iff]
  constructor
  · intro h t ht
    refine Classical.byContradiction fun c => h t ht ?_
    exact mem_left.mpr ⟨nx_lt h6 ho ht, c⟩
  · intro h t ht c
    exact (mem_left.mp c).2 (h t ht)
/-- the least one that is ripe is the one that comes -/
theorem find_left {fs : List Feature} (h6 : fs.length ≤ 6) {came : List Nat} {o : Nat} (ho : o < 2 ^ fs.length) (hr : ripe fs came o) (hl : ∀ j < o, ¬ ripe fs came j) : (left_ fs came).find? (free fs (left_ fs came)) = some o := by
  unfold left_
  rw [List.find?_filter]
  refine List.find?_range_eq_some.mpr ⟨?_, List.mem_range.mpr ho, fun j hj => ?_⟩
  · rw [decide_eq_true_eq, decide_eq_true_eq]
    exact ⟨hr.1, (free_left h6 ho).mpr hr.2⟩
  · rw [Bool.not_eq_true', decide_eq_false_iff_not, decide_eq_true_eq]
    rintro ⟨h1, h2⟩
    exact hl j hj ⟨h1, (free_left h6 (Nat.lt_trans hj ho)).mp h2⟩
theorem left_snoc {fs : List Feature} {came : List Nat} {o : Nat} : (left_ fs came).filter (fun x => x != o) = left_ fs (came ++ [o]) := by
  unfold left_
  rw [List.filter_filter]
  congr 1
  funext x
  rw [Bool.eq_iff_iff]
  simp
  exact ⟨fun h => ⟨h.2, h.1⟩, fun h => ⟨h.2, h.1⟩⟩
theorem left_nil {fs : List Feature} : left_ fs [] = all_ fs := by
  unfold left_
  rw [List.filter_eq_self]
  intro x _
  simp
/-- the order so far -/
structure OInv (fs : List Feature) (came : List Nat) : Prop where
  nd : came.Nodup
  lt : ∀ x ∈ came, x < 2 ^ fs.length
  is : ∃ f, order fs (2 ^ FEATURES) (all_ fs) = came ++ order fs f (left_ fs came) ∧ 2 ^ fs.length ≤ came.length + f
theorem OInv.zero {fs : List Feature} (hw : Wf fs) : OInv fs [] := by
  refine ⟨List.nodup_nil, (fun x hx => by cases hx), 2 ^ FEATURES, ?_, ?_⟩
  · rw [left_nil]
    rfl
  · have := pow_le64 hw.six
    show 2 ^ fs.length ≤ 0 + 2 ^ FEATURES
    rw [Nat.zero_add]
    exact this
theorem sub_le : ∀ {l m : List Nat}, l.Nodup → (∀ x ∈ l, x ∈ m) → l.length ≤ m.length
  | [], _, _, _ => Nat.zero_le _
  | a :: l, m, nd, h => by
    obtain ⟨n1, n2⟩ := List.nodup_cons.mp nd
    have ha := h a List.mem_cons_self
    have h1 := sub_le (m := m.erase a) n2 fun x hx => (List.mem_erase_of_ne fun e => n1 (by rw [← e]; exact hx)).mpr (h x (List.mem_cons_of_mem _ hx))
    rw [List.length_erase_of_mem ha] at h1
    have h2 := List.length_pos_of_mem ha
    rw [List.length_cons]
    omega
theorem OInv.len {fs : List Feature} {came : List Nat} (h : OInv fs came) : came.length ≤ 2 ^ fs.length := nodup_le _ came h.nd h.lt
theorem OInv.ne {fs : List Feature} {came : List Nat} (h : OInv fs came) (hl : came.length < 2 ^ fs.length) : left_ fs came ≠ [] := by
  intro e
  have h1 : (List.range (2 ^ fs.length)).length ≤ came.length := by
    refine sub_le List.nodup_range fun x hx => ?_
    refine Classical.byContradiction fun c => ?_
    have : x ∈ left_ fs came := mem_left.mpr ⟨List.mem_range.mp hx, c⟩
    rw [e] at this
    cases this
  rw [List.length_range] at h1
  omega
theorem OInv.step {fs : List Feature} {came : List Nat} (h : OInv fs came) {o : Nat} (ho : (left_ fs came).find? (free fs (left_ fs came)) = some o) : o ∉ came ∧ OInv fs (came ++ [o]) := by
  have hm := mem_left.mp (List.mem_of_find?_eq_some ho)
  obtain ⟨f, e, hf⟩ := h.is
  have hnd : (came ++ [o]).Nodup := List.nodup_append.mpr ⟨h.nd, by simp, fun a ha b hb c => by
    have eb : b = o := by simpa using hb
    rw [c, eb] at ha
    exact hm.2 ha⟩
  have hlt : ∀ x ∈ came ++ [o], x < 2 ^ fs.length := fun x hx => by
    rcases List.mem_append.mp hx with z | z
    · exact h.lt x z
    · have : x = o := by simpa using z
      rw [this]
      exact hm.1
  have hle := nodup_le _ _ hnd hlt
  rw [List.length_append, List.length_singleton] at hle
  cases f with
  | zero => omega
  | succ f =>
    refine ⟨hm.2, hnd, hlt, f, ?_, by rw [List.length_append, List.length_singleton]; omega⟩
    rw [e, order_step ho, left_snoc, List.append_assoc]
    rfl
theorem OInv.full {fs : List Feature} {came : List Nat} (h : OInv fs came) (hl : 2 ^ fs.length ≤ came.length) : order fs (2 ^ FEATURES) (all_ fs) = came := by
  obtain ⟨f, e, _⟩ := h.is
  have e0 : left_ fs came = [] := by
    refine List.eq_nil_iff_forall_not_mem.mpr fun x hx => ?_
    obtain ⟨h1, h2⟩ := mem_left.mp hx
    have h3 := nodup_le (2 ^ fs.length) (x :: came) (List.nodup_cons.mpr ⟨h2, h.nd⟩) fun y hy => by
      rcases List.mem_cons.mp hy with z | z
      · rw [z]; exact h1
      · exact h.lt y z
    rw [List.length_cons] at h3
    omega
  rw [e, e0, order_nil, List.append_nil]
end Wm
namespace Ws
open PySem PySem.Spec PyProof.Rows L2
/-! ### a dict of those that have come -/
def dC (came : List Nat) : List (Key × V) := came.map fun x => ((Sum.inl ((x : Nat) : Int) : Key), V.bl true)
theorem dC_len (came : List Nat) : (dC came).length = came.length := List.length_map ..
theorem dC_isSome : ∀ (came : List Nat) (x : Nat), (valV (dC came) (Sum.inl ((x : Nat) : Int))).isSome = decide (x ∈ came)
  | [], _ => rfl
  | a :: l, x => by
    show (valV ((Sum.inl ((a : Nat) : Int), V.bl true) :: dC l) _).isSome = _
    by_cases h : a = x
    · rw [valV_pos (by rw [h]), decide_eq_true (by rw [h]; exact List.mem_cons_self)]
      rfl
    · rw [valV_neg (fun e => h (by have := Sum.inl.inj e; omega)), dC_isSome l x]
      rw [Bool.eq_iff_iff, decide_eq_true_eq, decide_eq_true_eq, List.mem_cons]
      exact ⟨.inr, fun z => z.resolve_left fun e => h e.symm⟩
theorem dC_snoc (came : List Nat) (o : Nat) (h : o ∉ came) : putK (dC came) (Sum.inl ((o : Nat) : Int)) (.bl true) = dC (came ++ [o]) := by
  have hn : valV (dC came) (Sum.inl ((o : Nat) : Int)) = none := by
    have := dC_isSome came o
    rw [decide_eq_false h] at this
    cases c : valV (dC came) (Sum.inl ((o : Nat) : Int)) with
    | none => rfl
    | some v => rw [c] at this; cases this
  rw [putK_new _ hn]
  unfold dC
  rw [List.map_append]
  rfl
theorem dC_keys (came : List Nat) : ((dC came).map fun kv => kV kv.1) = vInts came := by
  unfold dC
  rw [List.map_map]
  rfl
/-- the list of rows of those one change for the better away -/
structure Tab (H : Hp) (fs : List Kcz8.Feature) (b : Addr) (rs : List Addr) (n : Nat) : Prop where
  lst : H b = some (.lst (rs.map V.ref))
  len : rs.length = n
  row : ∀ (j : Nat) (r : Addr), rs[j]? = some r → H r = some (.lst (vInts (Wm.nb fs false j)))
theorem Tab.same {H H' : Hp} {fs : List Kcz8.Feature} {b : Addr} {rs : List Addr} {n : Nat} (s : Same H H') (t : Tab H fs b rs n) : Tab H' fs b rs n := ⟨s _ _ t.lst, t.len, fun j r h => s _ _ (t.row j r h)⟩
def spNext : Sp := fun vs H Q _ => ∃ (b c : Addr) (rs : List Addr) (fs : List Kcz8.Feature) (came : List Nat), vs = [.ref b, .ref c] ∧ Wm.Wf fs ∧ Tab H fs b rs (2 ^ fs.length) ∧ H c = some (.dK (dC came)) ∧ Wm.left_ fs came ≠ [] ∧
  ∀ (H' : Hp) (o : Nat), (Wm.left_ fs came).find? (Wm.free fs (Wm.left_ fs came)) = some o → Same H H' → Q (.int (o : Int)) H'
def orderDue (fs : List Kcz8.Feature) : List Int := (((Kcz8.order fs (2 ^ Kcz8.FEATURES) (Kcz8.all_ fs)).length : Nat) : Int) :: Kcz8Neutral.nums (Kcz8.order fs (2 ^ Kcz8.FEATURES) (Kcz8.all_ fs))
def spOrder (CW CF : Addr) : Sp := fun vs H Q _ => ∃ (p l : Addr) (as : List Addr) (fs : List Kcz8.Feature), vs = [.ref p] ∧
  WAt CW CF H p l as fs ∧ Wm.Wf fs ∧ ∀ (H' : Hp) (r : Addr), H r = none → Same H H' → H' r = some (.lst (zs (orderDue fs))) → Q (.ref r) H'
section
variable {P : Program} {w : World} {K : PySem.W.Frag} {mg : Str → Option Value} {base : Heap} {CW CF : Addr}
def whileTest : Stmt → Expr
  | .While e _ _ _ => e
  | _ => .Constant .none 0 ⟨0, 0, 0, 0⟩
def lastOf : Expr → Expr
  | .BoolOp _ l _ => l.getLastD (.Constant .none 0 ⟨0, 0, 0, 0⟩)
  | .UnaryOp _ e _ => e
  | e => e
abbrev scpNext : Scope := lcScope (argOf (lastOf (lastOf (whileTest ((defBody sNext).getD 1 (.Pass ⟨0, 0, 0, 0⟩))))))
theorem blkNext : BlkOk ["better", "came", "thing", "other"] (defScope sNext) scpNext [("other", 3)] := ⟨rfl, by decide +kernel, by decide +kernel, by decide +kernel, by decide +kernel⟩
theorem scNext : FnScope ["better", "came", "thing", "other"] ["better", "came"] (defScope sNext) := ⟨rfl, rfl, rfl, by decide +kernel, rfl, by decide +kernel, by decide +kernel⟩
theorem ok_next {f : Addr} {fd : FuncData} (F : Fun K "next_in_order" "next_in_order" sNext f fd) (T : Txt K mg CW CF) : FnOk P w K mg base CX0 1 f fd ["better", "came"] spNext := by
  refine F.ok scNext (fun vs H Q E h => ?_) (fun cdv A outer s H vs Q E hr h => ?_)
  · obtain ⟨b, c, rs, fs, came, rfl, _⟩ := h
    rfl
  · obtain ⟨b, c, rs, fs, came, rfl, wf, tab, hc, hne, k⟩ := h
    have hu := hu_of hr
    have h6 := wf.six
    have h64 := Wm.pow_le64 h6
    refine ⟨_, pss_cons (ps_set (i := 2) scNext.nd rfl (Or.inl rfl) pe_int)
      (pss_cons (ps_while PassesOwn.never (PW.pt (pw_or (pt_cmp (pc_din hu (pv 2) (pv 1)))
          (pw_or1 (pt_not (pt_val (pe_callB (cr_all rfl) (by rfl) T.all PyProof.Rows.boot_all (pa_cons (pe_lc (own := [("other", 3)]) (te := tDIn (tVar 3) (tVar 1)) rfl scNext.nd (pi_list (pe_ix ix_list (pv 0) (pv 2) (fun _ _ => rfl))) blkNext
            (fun s H C cl fp => pg_name (i := 3) scNext.nd rfl (Or.inl rfl)) (fun s H C cl fp => pts_nil)
            (by intro s H C cl fp; exact pe_cmp (pc_din hu (pv 3) (pv 1)))) pa_nil)))))))
        (pss_one (ps_aug (i := 2) scNext.nd rfl (Or.inl rfl) pe_int ip_add)))
      (pss_one (ps_ret (pv 2)))), ?_⟩
    have hleast : ∀ n, (∀ j < n, ¬ Wm.ripe fs came j) → n < 2 ^ fs.length := fun n hn => by
      obtain ⟨o, ho, hm, hfr⟩ := Wm.find_some wf hne fun x hx => (Wm.mem_left.mp hx).1
      have h1 := Wm.mem_left.mp hm
      have h2 : Wm.ripe fs came o := ⟨h1.2, (Wm.free_left h6 h1.1).mp hfr⟩
      have h3 : ¬ o < n := fun c => hn o c h2
      omega
    refine ⟨fun m σ H' => ∃ (n : Nat) (v : Option V), σ = [some (.ref b), some (.ref c), some (.int (n : Int)), v] ∧ Same H H' ∧ m = 64 - n ∧ ∀ j < n, ¬ Wm.ripe fs came j, ⟨64, 0, none, rfl, Same.refl, rfl, fun j hj => absurd hj (Nat.not_lt_zero _)⟩, ?_⟩
    rintro m σ H' ⟨n, v, rfl, s1, rfl, hn⟩
    have hn2 := hleast n hn
    have go : ¬ Wm.ripe fs came n → ∀ H3, Same H H3 → ∃ N : L2.St → Hp → Prop, (∀ σ' H'', N σ' H'' → ∃ m', m' < 64 - n ∧ ∃ (n' : Nat) (v : Option V), σ' = [some (.ref b), some (.ref c), some (.int (n' : Int)), v] ∧ Same H H'' ∧ m' = 64 - n' ∧ ∀ j < n', ¬ Wm.ripe fs came j) ∧
        N [some (.ref b), some (.ref c), some (.int ((n : Int) + 1)), v] H3 := fun hrp H3 s3 => by
      refine ⟨fun σ' H'' => ∃ m', m' < 64 - n ∧ ∃ (n' : Nat) (v : Option V), σ' = [some (.ref b), some (.ref c), some (.int (n' : Int)), v] ∧ Same H H'' ∧ m' = 64 - n' ∧ ∀ j < n', ¬ Wm.ripe fs came j, fun σ' H'' h => h, ?_⟩
      refine ⟨64 - (n + 1), by omega, n + 1, v, ?_, s3, rfl, fun j hj => ?_⟩
      · have e : ((n + 1 : Nat) : Int) = (n : Int) + 1 := by omega
        rw [e]
      · by_cases c : j < n
        · exact hn j c
        · have : j = n := by omega
          rw [this]
          exact hrp
    refine ⟨_, rfl, _, rfl, c, _, rfl, DGet.k (k := Sum.inl (n : Int)) (s1 _ _ hc), _, rfl, ?_⟩
    rw [dC_isSome]
    refine ite2 (fun hcm => ?_) fun hcm => ?_
    · refine iteT ?_
      obtain ⟨N, h1, h2⟩ := go (fun z => z.1 (of_decide_eq_true hcm)) H' s1
      exact ⟨N, h1, _, rfl, _, _, rfl, rfl, h2⟩
    have hcm2 : n ∉ came := fun z => hcm (decide_eq_true z)
    have hrl : n < rs.length := by rw [tab.len]; exact hn2
    have hrn : rs[n]? = some rs[n] := List.getElem?_eq_getElem hrl
    generalize rs[n] = rn at hrn
    have hrow := tab.row n rn hrn
    refine ⟨_, rfl, _, rfl, b, _, _, _, rfl, rfl, SqL.of (s1 _ _ tab.lst), atI_nat (j := n) (v := V.ref rn) (by rw [List.getElem?_map, hrn]; rfl), ?_⟩
    refine ⟨rn, rfl, ⟨_, SqL.of (s1 _ _ hrow)⟩, fun D hD => lc_list (K := K) (a := rn) (xs := vInts (Wm.nb fs false n))
      (fun i H3 => Same H' H3 ∧ H3 D = some (.lst (((Wm.nb fs false n).take i).map fun t => V.bl (decide (t ∈ came))))) ⟨same_upd hD, upd_same⟩ (fun i H3 _ ⟨s2, _⟩ => SqL.of (s2 _ _ (s1 _ _ hrow))) ?_ ?_⟩
    · rintro i x H3 hx ⟨s2, hl⟩
      obtain ⟨t, ht, rfl⟩ := vInts_at hx
      refine ⟨rfl, ?_⟩
      unfold tYes
      refine iteT ?_
      refine ⟨_, rfl, _, rfl, c, _, rfl, DGet.k (k := Sum.inl (t : Int)) (s2 _ _ (s1 _ _ hc)), _, hl, ?_, ?_⟩
      · rw [List.length_map, List.length_take, sizeLine_eq]
        have : (Wm.nb fs false n).length ≤ 6 := by
          unfold Wm.nb
          rw [List.length_map]
          exact ks_len h6 false n
        omega
      · refine ⟨same_upd2 s2 hD, ?_⟩
        rw [upd_same, take_snoc ht, List.map_append, dC_isSome]
        rfl
    · rintro H3 ⟨s2, hl⟩
      rw [List.length_map, List.take_length] at hl
      refine ⟨D, (Wm.nb fs false n).map fun t => decide (t ∈ came), rfl, SqL.of (by rw [List.map_map]; exact hl), _, rfl, ?_⟩
      have e3 : ((Wm.nb fs false n).map fun t => decide (t ∈ came)).all id = decide (∀ t ∈ Wm.nx fs n, t ∈ came) := by
        rw [List.all_map, Wm.nb_up, Bool.eq_iff_iff, List.all_eq_true, decide_eq_true_eq]
        exact ⟨fun h t ht => of_decide_eq_true (h t ht), fun h t ht => decide_eq_true (h t ht)⟩
      rw [e3]
      by_cases hall : ∀ t ∈ Wm.nx fs n, t ∈ came
      · rw [decide_eq_true hall]
        refine iteF ?_
        refine ⟨_, rfl, ?_⟩
        exact k H3 n (Wm.find_left h6 hn2 ⟨hcm2, hall⟩ hn) (s1.trans s2)
      · rw [decide_eq_false hall]
        refine iteT ?_
        obtain ⟨N, h1, h2⟩ := go (fun z => hall z.2) H3 (s1.trans s2)
        exact ⟨N, h1, _, rfl, _, _, rfl, rfl, h2⟩
end
end Ws
end
section
set_option Elab.async false
set_option linter.all false
set_option maxRecDepth 100000
set_option maxHeartbeats 2000000
namespace Ws
open PySem PySem.Spec PyProof.Rows L2
section
variable {P : Program} {w : World} {K : PySem.W.Frag} {mg : Str → Option Value} {base : Heap} {CW CF : Addr}
def valOfAsg : Stmt → Expr
  | .Assign _ e _ => e
  | _ => .Constant .none 0 ⟨0, 0, 0, 0⟩
abbrev scpOrder : Scope := lcScope (valOfAsg ((defBody sOrder).getD 0 (.Pass ⟨0, 0, 0, 0⟩)))
theorem blkOrder : BlkOk ["self", "better", "came", "thing"] (defScope sOrder) scpOrder [("thing", 3)] := ⟨rfl, by decide +kernel, by decide +kernel, by decide +kernel, by decide +kernel⟩
theorem scOrder : FnScope ["self", "better", "came", "thing"] ["self"] (defScope sOrder) := ⟨rfl, rfl, rfl, by decide +kernel, rfl, by decide +kernel, by decide +kernel⟩
theorem ok_order {f fX fN : Addr} {fd fdX fdN : FuncData} (F : Fun K "order" "Wishes.order" sOrder f fd) (T : Txt K mg CW CF)
    (GX : FnOk P w K mg base CX0 5 fX fdX ["self", "thing", "direction"] (spNeigh CW CF)) (bX : Binds K fdX ["self", "thing", "direction"] []) (mX : Meth K CW "neighbours" fX)
    (FN : Fun K "next_in_order" "next_in_order" sNext fN fdN) (bN : Binds K fdN ["better", "came"] []) (mN : mg "next_in_order" = some (.ref fN)) : FnOk P w K mg base CX0 6 f fd ["self"] (spOrder CW CF) := by
  have GN : FnOk P w K mg base CX0 1 fN fdN ["better", "came"] spNext := ok_next FN T
  obtain ⟨uB, mBt, rBt⟩ := T.better
  refine F.ok scOrder (fun vs H Q E h => ?_) (fun cdv A outer s H vs Q E hr h => ?_)
  · obtain ⟨p, l, as, fs, rfl, _⟩ := h
    rfl
  · obtain ⟨p, l, as, fs, rfl, W, wf, k⟩ := h
    obtain ⟨dx, hp⟩ := W.ins
    have hr1 : Room 1 _ := hr.mono (by decide)
    have hu := hu_of hr
    have h6 := wf.six
    have h64 := Wm.pow_le64 h6
    refine ⟨_, pss_cons (ps_setLc (i := 1) (own := [("thing", 3)]) (te := tMeth CW "neighbours" (spNeigh CW CF) [] E0 (tVar 0) (tCons (tVar 3) (tCons (tC (.int 0)) tNil))) rfl scOrder.nd rfl rfl rfl
        (pi_range1 rfl T.range (pa_cons (pe_op op_shl pe_int (pe_callB call_len_seq (by rfl) T.len PySem.boot_len (pa_cons (pe_fld (pv 0) rfl) pa_nil))) pa_nil)) blkOrder
        (fun s H C cl fp => pg_name (i := 3) scOrder.nd rfl (Or.inl rfl)) (fun s H C cl fp => pts_nil)
        (by intro s H C cl fp; exact pe_meth (pv 0) T.clW mX GX hr bX .nil pass0 (pa_cons (pv 3) (pa_cons (pe_glob rfl mBt rBt) pa_nil))))
      (pss_cons (ps_set (i := 2) scOrder.nd rfl (Or.inl rfl) pe_dnewK)
      (pss_cons (ps_while PassesOwn.never (pt_cmpR op_lt (pe_callB call_lenD (by rfl) T.len PySem.boot_len (pa_cons (pv 2) pa_nil)) (pe_callB call_len_seq (by rfl) T.len PySem.boot_len (pa_cons (pv 1) pa_nil)) (nomark _))
        (pss_one (ps_dput hu (pv 2) (pe_call GN hr1 rfl mN FN.kp bN .nil pass0 (pa_cons (pv 1) (pa_cons (pv 2) pa_nil))) pe_bl rfl)))
      (pss_one (ps_ret (pe_op op_cat (pe_lst (pa_cons (pe_callB call_lenD (by rfl) T.len PySem.boot_len (pa_cons (pv 2) pa_nil)) pa_nil)) (pe_callTy (call_list_dK rfl) (by rfl) T.list PyProof.Rows.boot_list (pa_cons (pv 2) pa_nil))))))), ?_⟩
    have e2 : (1 * 2 ^ (((as.map V.ref).length : Int)).toNat : Int) = ((2 ^ fs.length : Nat) : Int) := by
      rw [List.length_map, W.len]
      simp
    refine ⟨_, rfl, p, CW, dx, _, _, rfl, hp, T.clW, T.nFeat, wf_features _, l, _, rfl, .inl (SqL.of W.lst), _, _, rfl, rfl, ⟨Int.natCast_nonneg _, by rw [List.length_map, W.len]; omega, by decide⟩, ?_⟩
    dsimp only
    rw [e2]
    have hN0 : (0 : Int) ≤ ((2 ^ fs.length : Nat) : Int) := Int.natCast_nonneg _
    have hN1 : ((2 ^ fs.length : Nat) : Int) ≤ 64 := Int.ofNat_le.mpr h64
    refine ⟨_, rfl, Int.le_trans (by decide) hN0, Int.lt_of_le_of_lt hN1 (by decide), ?_⟩
    rw [Int.toNat_natCast]
    intro b hb
    refine lc_range (lo := 0) (n := 2 ^ fs.length) (fun i H' => ∃ rs : List Addr, Same H H' ∧ Tab H' fs b rs i) ⟨[], same_upd hb, upd_same, rfl, fun j r h => by cases h⟩ ?_ ?_
    · rintro i H' hi ⟨rs, s1, tab⟩
      refine ⟨rfl, ?_⟩
      unfold tYes
      refine iteT ?_
      refine ⟨_, rfl, p, dx, _, rfl, s1 _ _ hp, wf_no _ (by decide +kernel), _, rfl, p, l, as, fs, i, false, ?_, W.same s1, wf, fun H2 r nr s2 hr2 => ?_⟩
      · have e : (0 : Int) + (i : Int) = (i : Int) := by omega
        rw [e]
        rfl
      · have tab2 := tab.same s2
        refine ⟨_, tab2.lst, ?_, rs ++ [r], same_upd2 (s1.trans s2) hb, ?_, ?_, fun j q hj => ?_⟩
        · rw [List.length_map, tab.len, sizeLine_eq]
          omega
        · rw [upd_same, List.map_append]
          rfl
        · rw [List.length_append, tab.len]
          rfl
        · have hq : H2 q = some (.lst (vInts (Wm.nb fs false j))) ∧ q ≠ b := by
            by_cases c : j < rs.length
            · rw [List.getElem?_append_left c] at hj
              refine ⟨tab2.row j q hj, fun e => ?_⟩
              have h1 := tab.row j q hj
              rw [e, tab.lst] at h1
              injection h1 with h1
              injection h1 with h1
              cases rs with
              | nil => cases c
              | cons r0 rs =>
                cases h2 : Wm.nb fs false j with
                | nil => rw [h2] at h1; cases h1
                | cons t ts => rw [h2] at h1; cases h1
            · have hjl := (List.getElem?_eq_some_iff.mp hj).1
              rw [List.length_append, List.length_singleton] at hjl
              have ej : j = rs.length := by omega
              subst ej
              have eq : q = r := by
                have z : (rs ++ [r])[rs.length]? = some r := by simp
                exact Option.some.inj (hj.symm.trans z)
              subst eq
              refine ⟨by rw [tab.len]; exact hr2, fun e => ?_⟩
              rw [e, tab.lst] at nr
              cases nr
          rw [upd_ne hq.2]
          exact hq.1
    · rintro H' ⟨rs, s1, tab⟩
      intro c hcn
      have hcn0 : H c = none := s1.free hcn
      refine while_by (fun σ H2 => ∃ (came : List Nat) (v : Option V), σ = [some (.ref p), some (.ref b), some (.ref c), v] ∧ Same H' H2 ∧ H2 c = some (.dK (dC came)) ∧ Wm.OInv fs came) (fun σ H2 => match H2 c with
        | some (.dK kvs) => 64 - kvs.length
        | _ => 0)
        ⟨[], _, rfl, same_upd hcn, upd_same, Wm.OInv.zero wf⟩ ?_ ?_
      · rintro σ H2 ⟨came, v, rfl, s2, hc2, O⟩
        have tab2 := tab.same s2
        refine ⟨_, rfl, c, _, rfl, hc2, _, rfl, b, _, rfl, .inl (SqL.of tab2.lst), _, _, rfl, rfl, _, rfl, ?_⟩
        rw [dC_len, List.length_map, tab.len]
        have hlen := O.len
        refine ite2 (fun hc => ?_) fun hc => ?_
        · have hlt : came.length < 2 ^ fs.length := by
            have := of_decide_eq_true hc
            omega
          refine ⟨_, rfl, _, rfl, _, rfl, b, c, rs, fs, came, rfl, wf, tab2, hc2, O.ne hlt, fun H3 o ho s3 => ?_⟩
          obtain ⟨hoc, O3⟩ := O.step ho
          refine ⟨c, _, rfl, DPut.k (k := Sum.inl (o : Int)) (s3 _ _ hc2) (by rw [dC_len, sizeLine_eq]; omega), ?_⟩
          rw [dC_snoc came o hoc]
          refine ⟨⟨came ++ [o], _, rfl, same_upd2 (s2.trans s3) hcn, upd_same, O3⟩, ?_⟩
          rw [hc2, upd_same]
          show 64 - (dC (came ++ [o])).length < 64 - (dC came).length
          rw [dC_len, dC_len, List.length_append, List.length_singleton]
          omega
        · have hge : 2 ^ fs.length ≤ came.length := by
            have hc' : ¬ ((came.length : Int) < ((2 ^ fs.length : Nat) : Int)) := fun z => hc (decide_eq_true z)
            omega
          have hord := O.full hge
          refine ⟨_, rfl, c, _, rfl, hc2, (by show 1 ≤ sizeLine; decide), fun q nq => ?_⟩
          have s4 : Same H2 (upd H2 q (.lst [.int (((dC came).length : Nat) : Int)])) := same_upd nq
          refine ⟨_, rfl, c, _, rfl, s4 _ _ hc2, fun u nu => ?_⟩
          have nqu : q ≠ u := ne_of_none upd_same nu
          refine ⟨q, u, _, _, rfl, rfl, (upd_ne nqu).trans upd_same, upd_same, ?_, fun r nr => ?_⟩
          · rw [List.length_map, dC_len, sizeLine_eq, List.length_singleton]
            omega
          · have s5 := s4.trans (same_upd (o := HO.lst ((dC came).map fun kv => kV kv.1)) nu)
            have s6 : Same H _ := s1.trans (s2.trans s5)
            refine k _ r (s6.free nr) (s6.trans (same_upd nr)) ?_
            rw [upd_same]
            unfold orderDue
            rw [hord, dC_keys, dC_len]
            show _ = some (HO.lst (V.int ((came.length : Nat) : Int) :: zs (Kcz8Neutral.nums came)))
            rw [zs_nums]
            rfl
      · rintro σ H2 Q1 Q2 hq ⟨x, hx, a1, kv1, e1, h1, y, hy, p', ys, e2, h2, i, j, e3, e4, kk, e5, q⟩
        exact ⟨x, hx, a1, kv1, e1, h1, y, hy, p', ys, e2, h2, i, j, e3, e4, kk, e5, hq _ _ q⟩
end
end Ws
end
section
set_option Elab.async false
set_option linter.all false
set_option maxRecDepth 100000
set_option maxHeartbeats 2000000
namespace Ws
open PySem PySem.Spec PyProof.Rows L2
abbrev sAnswers : Stmt := top 21
abbrev sEnd : Stmt := top 22
abbrev sTo : Stmt := top 23
/-- how many numbers a call takes, but for feature's row -/
def sizes : List (Int × Int) := [(0, 1), (1, 3), (2, 3), (3, 3), (4, 3), (5, 3), (6, 2), (7, 2), (8, 1)]
structure Txt2 (K : PySem.W.Frag) (mg : Str → Option Value) : Prop where
  sizes : ∃ d, mg "CALL_SIZES" = some (.ref d) ∧ DictK K d sizes
  begin_ : ∃ u, mg "BEGIN" = some u ∧ RelV (.int 0) u
  feature : ∃ u, mg "FEATURE" = some u ∧ RelV (.int 1) u
  best : ∃ u, mg "BEST" = some u ∧ RelV (.int 2) u
  worst : ∃ u, mg "WORST" = some u ∧ RelV (.int 3) u
  compare : ∃ u, mg "COMPARE" = some u ∧ RelV (.int 4) u
  path : ∃ u, mg "PATH" = some u ∧ RelV (.int 5) u
  above : ∃ u, mg "ABOVE" = some u ∧ RelV (.int 6) u
  below : ∃ u, mg "BELOW" = some u ∧ RelV (.int 7) u
def spEnd (K : PySem.W.Frag) : Sp := fun vs H Q _ => ∃ (a : Addr) (pre post : List Int) (c : List (List Int)), vs = [.ref a, .int ((pre.length : Nat) : Int)] ∧ SqL K H a (zs (pre ++ (PyFlat.put1 c ++ post))) ∧ Wm.Form c ∧
  Q (.int ((pre.length + (PyFlat.put1 c).length : Nat) : Int)) H
def spTo (CW CF : Addr) : Sp := fun vs H Q _ => ∃ (p l q : Addr) (as : List Addr) (fs : List Kcz8.Feature) (c : List (List Int)), vs = [.ref p, .ref q] ∧ WAt CW CF H p l as fs ∧ Wm.Wf fs ∧ Wm.Form c ∧
  H q = some (.lst (zs (PyFlat.put1 c))) ∧ q ≠ l ∧
  ∀ (H' : Hp) (l' r : Addr) (as' : List Addr), WAt CW CF H' p l' as' (Kcz8Neutral.step ⟨fs⟩ c).1.features → Wm.Wf (Kcz8Neutral.step ⟨fs⟩ c).1.features → (l' = l ∨ H l' = none) → (∀ b o, H b = some o → b ≠ p → b ≠ l → H' b = some o) →
    H r = none → r ≠ l' → r ≠ p → H' r = some (.lst (zs (Kcz8Neutral.step ⟨fs⟩ c).2)) → Q (.ref r) H'
def spAns (K : PySem.W.Frag) : Sp := fun vs H Q _ => ∃ (a : Addr) (ns : List Int), vs = [.ref a] ∧ SqL K H a (zs ns) ∧ PyKcz8.answers_asked ns = true ∧
  ∀ (H' : Hp) (p : Addr), H' p = some (.lst (zs (PyKcz8.answers ns))) → Q (.ref p) H'
theorem iteT' {c : Bool} {A B : Prop} (hc : c = true) (h : A) : if c = true then A else B := by
  rw [if_pos hc]
  exact h
theorem iteF' {c : Bool} {A B : Prop} (hc : c = false) (h : B) : if c = true then A else B := by
  rw [hc]
  exact iteF h
theorem zs_at {pre l post : List Int} {j : Nat} {k : Int} (h : l[j]? = some k) {z : Int} (e : z = ((pre.length + j : Nat) : Int)) : atI (zs (pre ++ (l ++ post))) z = some (.int k) := by
  refine at_of (j := pre.length + j) e ?_
  have hj : j < l.length := (List.getElem?_eq_some_iff.mp h).1
  rw [List.getElem?_map, List.getElem?_append_right (by omega), Nat.add_sub_cancel_left, List.getElem?_append_left hj, h]
  rfl
theorem cut_at (pre l post : List Int) : cutV (zs (pre ++ (l ++ post))) (some ((pre.length : Nat) : Int)) (some ((pre.length + l.length : Nat) : Int)) = zs l := by
  have h1 : HT.sIx (zs (pre ++ (l ++ post))).length 0 (some ((pre.length : Nat) : Int)) = pre.length := by
    rw [HT.sIx_nat, List.length_map, List.length_append]
    omega
  have h2 : HT.sIx (zs (pre ++ (l ++ post))).length (zs (pre ++ (l ++ post))).length (some ((pre.length + l.length : Nat) : Int)) = pre.length + l.length := by
    rw [HT.sIx_nat, List.length_map, List.length_append, List.length_append]
    omega
  unfold cutV
  rw [h1, h2, Nat.add_sub_cancel_left]
  unfold zs
  rw [← List.map_drop, ← List.map_take, List.drop_left, List.take_left]
section
variable {P : Program} {w : World} {K : PySem.W.Frag} {mg : Str → Option Value} {base : Heap} {CW CF : Addr}
theorem scEnd : FnScope ["calls", "start", "end"] ["calls", "start"] (defScope sEnd) := ⟨rfl, rfl, rfl, by decide +kernel, rfl, by decide +kernel, by decide +kernel⟩
/-- of a call that may be asked: its number, and how many numbers it takes -/
theorem size_of {c : List (List Int)} (h : Wm.Form c) : ∃ k v, (PyFlat.put1 c)[0]? = some k ∧ sizes.lookup k = some v ∧ ((k = 1 ∧ ∃ n : Nat, (PyFlat.put1 c)[2]? = some (n : Int) ∧ ((PyFlat.put1 c).length : Int) = v + n) ∨ (k ≠ 1 ∧ ((PyFlat.put1 c).length : Int) = v)) := by
  cases h with
  | begin_ => exact ⟨0, 1, rfl, rfl, .inr ⟨by decide, rfl⟩⟩
  | feature w on hw ho =>
    refine ⟨1, 3, rfl, rfl, .inl ⟨rfl, on.length, ?_, ?_⟩⟩
    · simp [PyFlat.put1, PyFlat.putRows, PyFlat.putRow]
    · simp [PyFlat.put1, PyFlat.putRows, PyFlat.putRow]
      omega
  | best a b _ _ => exact ⟨2, 3, rfl, rfl, .inr ⟨by decide, rfl⟩⟩
  | worst a b _ _ => exact ⟨3, 3, rfl, rfl, .inr ⟨by decide, rfl⟩⟩
  | compare a b _ _ => exact ⟨4, 3, rfl, rfl, .inr ⟨by decide, rfl⟩⟩
  | path a b _ _ => exact ⟨5, 3, rfl, rfl, .inr ⟨by decide, rfl⟩⟩
  | above a _ => exact ⟨6, 2, rfl, rfl, .inr ⟨by decide, rfl⟩⟩
  | below a _ => exact ⟨7, 2, rfl, rfl, .inr ⟨by decide, rfl⟩⟩
  | order => exact ⟨8, 1, rfl, rfl, .inr ⟨by decide, rfl⟩⟩
theorem ok_end {f : Addr} {fd : FuncData} (F : Fun K "call_end" "call_end" sEnd f fd) (T : Txt2 K mg) : FnOk P w K mg base CX0 1 f fd ["calls", "start"] (spEnd K) := by
  obtain ⟨d, mD, hD⟩ := T.sizes
  obtain ⟨uF, mF, rF⟩ := T.feature
  refine F.ok scEnd (fun vs H Q E h => ?_) (fun cdv A outer s H vs Q E hr h => ?_)
  · obtain ⟨a, pre, post, c, rfl, _⟩ := h
    rfl
  · obtain ⟨a, pre, post, c, rfl, hS, fc, k⟩ := h
    obtain ⟨n, v, h1, h2, h3⟩ := size_of fc
    refine ⟨_, pss_cons (ps_set (i := 2) scEnd.nd rfl (Or.inl rfl) (pe_op op_add (pv 1) (pe_dgetK (pe_glob (v := .ref d) rfl mD rfl) (pe_ix ix_list (pv 0) (pv 1) (fun _ _ => rfl)) (fun _ _ => rfl))))
      (pss_cons (ps_if (pt_cmpR op_eq (pe_ix ix_list (pv 0) (pv 1) (fun _ _ => rfl)) (pe_glob rfl mF rF) (nomark _)) (pss_one (ps_aug (i := 2) scEnd.nd rfl (Or.inl rfl) (pe_ix ix_list (pv 0) (pe_op op_add (pv 1) pe_int) (fun _ _ => rfl)) ip_add)) pss_nil)
      (pss_one (ps_ret (pv 2)))), ?_⟩
    have at0 : atI (zs (pre ++ (PyFlat.put1 c ++ post))) ((pre.length : Nat) : Int) = some (.int n) := zs_at h1 (by omega)
    refine ⟨_, rfl, _, rfl, _, rfl, a, _, _, _, rfl, rfl, hS, at0, d, sizes, n, v, rfl, rfl, hD, h2, _, _, rfl, rfl, ?_⟩
    refine ⟨_, rfl, _, rfl, a, _, _, _, rfl, rfl, hS, at0, rfl, _, rfl, ?_⟩
    rcases h3 with ⟨e1, m, h4, h5⟩ | ⟨e1, h5⟩
    · subst e1
      refine iteT' (by simp) ?_
      have at2 : atI (zs (pre ++ (PyFlat.put1 c ++ post))) (((pre.length : Nat) : Int) + 2) = some (.int (m : Int)) := zs_at h4 (by omega)
      refine ⟨_, rfl, _, rfl, _, rfl, _, _, rfl, rfl, a, _, _, _, rfl, rfl, hS, at2, _, _, rfl, rfl, ?_⟩
      refine ⟨_, rfl, ?_⟩
      have e : (((pre.length : Nat) : Int) + v) + (m : Int) = ((pre.length + (PyFlat.put1 c).length : Nat) : Int) := by omega
      show Q (.int ((((pre.length : Nat) : Int) + v) + (m : Int))) H
      rw [e]
      exact k
    · refine iteF' (by simpa using e1) ?_
      refine ⟨_, rfl, ?_⟩
      have e : ((pre.length : Nat) : Int) + v = ((pre.length + (PyFlat.put1 c).length : Nat) : Int) := by omega
      show Q (.int (((pre.length : Nat) : Int) + v)) H
      rw [e]
      exact k
theorem scAnswers : FnScope ["calls", "wishes", "told", "start", "end", "answer"] ["calls"] (defScope sAnswers) := ⟨rfl, rfl, rfl, by decide +kernel, rfl, by decide +kernel, by decide +kernel⟩
def muStart (n : Nat) (σ : L2.St) : Nat := match σ[3]? with
  | some (some (V.int i)) => n - i.toNat
  | _ => 0
theorem put1_pos {c : List (List Int)} (h : Wm.Form c) : 0 < (PyFlat.put1 c).length := by
  cases h <;> simp [PyFlat.put1]
theorem ok_answers {f fI fE fT : Addr} {fd fdI fdE fdT : FuncData} {kT : Nat} (F : Fun K "answers" "answers" sAnswers f fd) (T : Txt K mg CW CF) (M : Mk K CW fI) (FI : Fun K "__init__" "Wishes.__init__" sWInit fI fdI) (bI : Binds K fdI ["self"] [])
    (GE : FnOk P w K mg base CX0 1 fE fdE ["calls", "start"] (spEnd K)) (bE : Binds K fdE ["calls", "start"] []) (mE : mg "call_end" = some (.ref fE)) (kE : PySem.W.keepIn K (.ref fE) = true)
    (GT : FnOk P w K mg base CX0 (kT + 2) fT fdT ["wishes", "call"] (spTo CW CF)) (bT : Binds K fdT ["wishes", "call"] []) (mT : mg "answer_to" = some (.ref fT)) (kTo : PySem.W.keepIn K (.ref fT) = true) :
    FnOk P w K mg base CX0 (kT + 3) f fd ["calls"] (spAns K) := by
  have GI : FnOk P w K mg base CX0 1 fI fdI ["self"] (spWInit CW CF) := ok_winit FI T
  refine F.ok scAnswers (fun vs H Q E h => ?_) (fun cdv A outer s H vs Q E hr h => ?_)
  · obtain ⟨a, ns, rfl, _⟩ := h
    rfl
  · obtain ⟨a, ns, rfl, hS, hask, k⟩ := h
    obtain ⟨cs, ens, hform, hlen, hdue, hshort⟩ := Wm.asked_of hask
    have hr1 : Room 1 _ := hr.mono (by omega)
    have hr2 : Room 2 _ := hr.mono (by omega)
    refine ⟨_, pss_cons (ps_set (i := 1) scAnswers.nd rfl (Or.inl rfl) (pe_make0 M GI hr2 rfl T.mgW bI .nil pass0))
      (pss_cons (ps_set (i := 2) scAnswers.nd rfl (Or.inl rfl) (pe_lst pa_nil))
      (pss_cons (ps_set (i := 3) scAnswers.nd rfl (Or.inl rfl) pe_int)
      (pss_cons (ps_while PassesOwn.never (pt_cmpR op_lt (pv 3) (pe_callB call_len_seq (by rfl) T.len PySem.boot_len (pa_cons (pv 0) pa_nil)) (nomark _))
        (pss_cons (ps_set (i := 4) scAnswers.nd rfl (Or.inl rfl) (pe_call GE hr1 rfl mE kE bE .nil pass0 (pa_cons (pv 0) (pa_cons (pv 3) pa_nil))))
        (pss_cons (ps_set (i := 5) scAnswers.nd rfl (Or.inl rfl) (pe_call GT hr rfl mT kTo bT .nil pass0 (pa_cons (pv 1) (pa_cons (pe_slice sl_list (pv 0) (po_some (pv 3)) (po_some (pv 4))) pa_nil))))
        (pss_cons (ps_expr (pe_bm PySem.F.plainAttrs_list PySem.F.slot_list_append PySem.F.type_list_append mt_append (pv 2) (pa_cons (pe_callB call_len_seq (by rfl) T.len PySem.boot_len (pa_cons (pv 5) pa_nil)) pa_nil)))
        (pss_cons (ps_expr (pe_bm PySem.F.plainAttrs_list PySem.F.slot_list_extend PySem.F.type_list_extend mt_extend (pv 2) (pa_cons (pv 5) pa_nil)))
        (pss_one (ps_set (i := 3) scAnswers.nd rfl (Or.inl rfl) (pv 4))))))))
      (pss_one (ps_ret (pv 2)))))), ?_⟩
    -- wishes = Wishes()
    intro p dx np ndx nex
    refine ⟨p, dx, rfl, upd_same, fun H1 l0 nl0 W0 k1 => ⟨rfl, ?_⟩⟩
    have s1 : Same H H1 := Same.made np ndx k1
    have nl0' : H l0 = none := by
      rw [upd_ne (fun z => by rw [z, upd_same] at nl0; cases nl0)] at nl0
      exact (by
        by_cases z : l0 = dx
        · rw [z, upd_same] at nl0
          cases nl0
        · rw [upd_ne z] at nl0
          exact nl0)
    -- told = []
    refine ⟨Nat.zero_le _, fun q nq => ?_⟩
    have nq' : H q = none := s1.free nq
    have W1 : WAt CW CF (upd H1 q (.lst [])) p l0 [] [] := W0.same (same_upd nq)
    have nql : q ≠ l0 := fun z => by
      have := W0.lst
      rw [← z, nq] at this
      cases this
    have nqp : q ≠ p := fun z => by
      obtain ⟨_, hp⟩ := W0.ins
      rw [← z, nq] at hp
      cases hp
    refine while_by (fun σ H' => ∃ (dn rest : List (List (List Int))) (l : Addr) (as : List Addr) (v4 v5 : Option V), cs = dn ++ rest ∧ σ = [some (.ref a), some (.ref p), some (.ref q), some (.int (((PyFlat.put dn).length : Nat) : Int)), v4, v5] ∧ Same H H' ∧
        H l = none ∧ q ≠ l ∧ WAt CW CF H' p l as (Wm.after Kcz8Neutral.start dn).features ∧ Wm.Wf (Wm.after Kcz8Neutral.start dn).features ∧ H' q = some (.lst (zs (PyFlat.told (PyFlat.played Kcz8Neutral.step Kcz8Neutral.start dn)))))
      (fun σ _ => muStart ns.length σ)
      ⟨[], cs, l0, [], none, none, rfl, rfl, s1.trans (same_upd nq), nl0', nql, W1, ⟨by decide, fun j f hf => by cases hf⟩, upd_same⟩ ?_ ?_
    · rintro σ H' ⟨dn, rest, l, as, v4, v5, ecs, rfl, s2, nl, nql2, W2, wf2, hq2⟩
      have hns : ns = PyFlat.put dn ++ PyFlat.put rest := by rw [ens, ecs, Wm.put_append]
      refine ⟨_, rfl, _, rfl, a, _, rfl, .inl (s2.seq hS), _, _, rfl, rfl, _, rfl, ?_⟩
      rw [List.length_map]
      cases rest with
      | nil =>
        have el : ns.length = (PyFlat.put dn).length := by rw [hns]; simp [PyFlat.put]
        refine iteF' (by rw [el]; simp) ?_
        refine ⟨_, rfl, ?_⟩
        have ed : dn = cs := by rw [ecs, List.append_nil]
        rw [ed, ← hdue] at hq2
        exact k H' q hq2
      | cons c rest =>
        have fc : Wm.Form c := hform c (by rw [ecs]; simp)
        have hpos := put1_pos fc
        have hput : PyFlat.put (c :: rest) = PyFlat.put1 c ++ PyFlat.put rest := rfl
        rw [hput] at hns
        have hl2 : ns.length = (PyFlat.put dn).length + ((PyFlat.put1 c).length + (PyFlat.put rest).length) := by rw [hns, List.length_append, List.length_append]
        refine iteT' (by rw [hl2]; simp; omega) ?_
        have hS2 : SqL K H' a (zs (PyFlat.put dn ++ (PyFlat.put1 c ++ PyFlat.put rest))) := by rw [← hns]; exact s2.seq hS
        -- end = call_end(calls, start)
        refine ⟨_, rfl, _, rfl, a, PyFlat.put dn, PyFlat.put rest, c, rfl, hS2, fc, ?_⟩
        -- answer = answer_to(wishes, calls[start:end])
        refine ⟨_, rfl, _, rfl, _, rfl, _, rfl, _, rfl, _, rfl, a, _, rfl, hS2, fun b nb => ?_⟩
        rw [cut_at]
        have s3 : Same H' (upd H' b (.lst (zs (PyFlat.put1 c)))) := same_upd nb
        have nbl : b ≠ l := fun z => by
          have := W2.lst
          rw [← z, nb] at this
          cases this
        refine ⟨p, l, b, as, (Wm.after Kcz8Neutral.start dn).features, c, rfl, W2.same s3, wf2, fc, upd_same, nbl, fun H3 l' r as' W3 wf3 hl' k3 nr nrl nrp hr3 => ?_⟩
        have eab : (⟨(Wm.after Kcz8Neutral.start dn).features⟩ : Kcz8.Abs) = Wm.after Kcz8Neutral.start dn := rfl
        rw [eab] at W3 wf3 hr3
        have nqb : q ≠ b := ne_of_none hq2 nb
        have nqr : q ≠ r := fun z => by
          have h := s3 _ _ hq2
          rw [z, nr] at h
          cases h
        have hq3 : H3 q = some (.lst (zs (PyFlat.told (PyFlat.played Kcz8Neutral.step Kcz8Neutral.start dn)))) := k3 q _ (s3 _ _ hq2) nqp nql2
        have nHp : H p = none := np
        have s4 : Same H H3 := fun x o e => k3 x o (s3 _ _ (s2 _ _ e)) (ne_of_none e nHp) (ne_of_none e nl)
        have nl' : H l' = none := by
          rcases hl' with z | z
          · rw [z]; exact nl
          · exact s2.free (s3.free z)
        have nql' : q ≠ l' := by
          rcases hl' with z | z
          · rw [z]; exact nql2
          · intro y
            have h := s3 _ _ hq2
            rw [y, z] at h
            cases h
        have etold : PyFlat.told (PyFlat.played Kcz8Neutral.step Kcz8Neutral.start (dn ++ [c])) = PyFlat.told (PyFlat.played Kcz8Neutral.step Kcz8Neutral.start dn) ++ ((((Kcz8Neutral.step (Wm.after Kcz8Neutral.start dn) c).2.length : Nat) : Int) :: (Kcz8Neutral.step (Wm.after Kcz8Neutral.start dn) c).2) := by
          rw [Wm.played_snoc, Wm.told_snoc]
        have hsz : (PyFlat.told (PyFlat.played Kcz8Neutral.step Kcz8Neutral.start (dn ++ [c]))).length ≤ 1000300 := by
          refine Nat.le_trans ?_ hshort
          have e : cs = (dn ++ [c]) ++ rest := by rw [ecs]; simp
          rw [e, Wm.played_append _ (dn ++ [c]) rest, Wm.told_append, List.length_append]
          omega
        rw [etold, List.length_append, List.length_cons] at hsz
        generalize hA : (Kcz8Neutral.step (Wm.after Kcz8Neutral.start dn) c).2 = An at hr3 etold hsz
        generalize hT : PyFlat.told (PyFlat.played Kcz8Neutral.step Kcz8Neutral.start dn) = Td at hq3 etold hsz
        -- told.append(len(answer))
        refine ⟨_, rfl, .inl ⟨rfl, _, SqL.of hq3⟩, _, rfl, r, _, rfl, .inl (SqL.of hr3), q, _, _, rfl, rfl, hq3, ?_, ?_⟩
        · rw [List.length_map, sizeLine_eq]
          omega
        -- told.extend(answer)
        have hr4 : (upd H3 q (.lst (zs Td ++ [V.int (((zs An).length : Nat) : Int)]))) r = some (.lst (zs An)) := by rw [upd_ne (Ne.symm nqr)]; exact hr3
        refine ⟨_, rfl, .inl ⟨rfl, _, SqL.of upd_same⟩, _, rfl, q, r, _, _, rfl, rfl, upd_same, hr4, ?_, ?_⟩
        · rw [List.length_append, List.length_map, List.length_map, List.length_singleton, sizeLine_eq]
          omega
        -- start = end
        refine ⟨_, rfl, ?_⟩
        generalize hH4 : upd H3 q (.lst (zs Td ++ [V.int (((zs An).length : Nat) : Int)])) = H4
        have k4 : ∀ x o, H3 x = some o → x ≠ q → (upd H4 q (.lst (zs Td ++ [V.int (((zs An).length : Nat) : Int)] ++ zs An))) x = some o := fun x o e hx => by
          rw [upd_ne hx, ← hH4, upd_ne hx]
          exact e
        have hp3 := W3.ins
        refine ⟨⟨dn ++ [c], rest, l', as', some (.int (((PyFlat.put dn).length + (PyFlat.put1 c).length : Nat) : Int)), some (.ref r), by rw [ecs]; simp, ?_, fun x o e => k4 x o (s4 _ _ e) (ne_of_none e nq'), nl', nql', ?_, by rw [Wm.after_snoc]; exact wf3, ?_⟩, ?_⟩
        · have ep : PyFlat.put (dn ++ [c]) = PyFlat.put dn ++ PyFlat.put1 c := by rw [Wm.put_append]; simp [PyFlat.put]
          rw [ep, List.length_append]
          rfl
        · rw [Wm.after_snoc]
          obtain ⟨⟨dx3, h1⟩, h2, h3, h4⟩ := W3
          refine ⟨⟨dx3, k4 _ _ h1 (Ne.symm nqp)⟩, k4 _ _ h2 (Ne.symm nql'), h3, fun j x g hx hg => ?_⟩
          obtain ⟨da, ta, h5, h6⟩ := h4 j x g hx hg
          exact ⟨da, ta, k4 _ _ h5 (ne_of h5 hq3 (by intro z; cases z)), k4 _ _ h6 (ne_of h6 hq3 (by intro z; cases z))⟩
        · rw [upd_same, etold]
          simp [zs]
        · show ns.length - (((PyFlat.put dn).length + (PyFlat.put1 c).length : Nat) : Int).toNat < ns.length - (((PyFlat.put dn).length : Nat) : Int).toNat
          omega
    · rintro σ H' Q1 Q2 hq ⟨x, hx, y, hy, p', ys, e1, e2, i, j, e3, e4, kk, e5, q⟩
      exact ⟨x, hx, y, hy, p', ys, e1, e2, i, j, e3, e4, kk, e5, hq _ _ q⟩
end
end Ws
end
section
set_option Elab.async false
set_option linter.all false
set_option maxRecDepth 100000
set_option maxHeartbeats 2000000
namespace Ws
open PySem PySem.Spec PyProof.Rows L2
/-! ### what is due, call by call -/
theorem ok_thing (fs : List Kcz8.Feature) (x : Nat) : Kcz8.okThing ⟨fs⟩ x = false ↔ ¬ x < 2 ^ fs.length := by
  unfold Kcz8.okThing
  exact decide_eq_false_iff_not
theorem ok_two (fs : List Kcz8.Feature) (x y : Nat) : (Kcz8.okThing ⟨fs⟩ x = false ∨ Kcz8.okThing ⟨fs⟩ y = false) ↔ ¬ (x < 2 ^ fs.length ∧ y < 2 ^ fs.length) := by
  rw [ok_thing, ok_thing]
  omega
theorem st_begin (fs : List Kcz8.Feature) : Kcz8Neutral.step ⟨fs⟩ [[0]] = (⟨[]⟩, [0]) := rfl
theorem st_feature {fs : List Kcz8.Feature} (h : fs.length ≤ 6) (on : List Nat) (w : Nat) : Kcz8Neutral.step ⟨fs⟩ [[1, (w : Int)], on.map fun (k : Nat) => (k : Int)] = (⟨(featureDue fs on w).1⟩, [(featureDue fs on w).2]) := by
  have e : Kcz8Neutral.call [[1, (w : Int)], on.map fun (k : Nat) => (k : Int)] = .feature on w := by
    show Kcz8.Call.feature ((on.map fun (k : Nat) => (k : Int)).map Int.toNat) ((w : Int)).toNat = _
    rw [Wm.nums_toNat, Int.toNat_natCast]
  unfold Kcz8Neutral.step
  rw [e, step_feature h]
  rfl
theorem st_best (fs : List Kcz8.Feature) (a b : Nat) : Kcz8Neutral.step ⟨fs⟩ [[2, (a : Int), (b : Int)]] = (⟨fs⟩, [filledDue fs true a b]) := by
  have e : Kcz8.step ⟨fs⟩ (.best a b) = (⟨fs⟩, .num (filledDue fs true a b)) := by
    unfold filledDue
    show (if _ then _ else _) = _
    by_cases h : a < 2 ^ fs.length ∧ b < 2 ^ fs.length
    · rw [if_pos h, if_neg (fun z => (ok_two fs a b).mp z h)]
    · rw [if_neg h, if_pos ((ok_two fs a b).mpr h)]
  show ((Kcz8.step ⟨fs⟩ (.best a b)).1, Kcz8Neutral.tell (Kcz8.step ⟨fs⟩ (.best a b)).2) = _
  rw [e]
  rfl
theorem st_worst (fs : List Kcz8.Feature) (a b : Nat) : Kcz8Neutral.step ⟨fs⟩ [[3, (a : Int), (b : Int)]] = (⟨fs⟩, [filledDue fs false a b]) := by
  have e : Kcz8.step ⟨fs⟩ (.worst a b) = (⟨fs⟩, .num (filledDue fs false a b)) := by
    unfold filledDue
    show (if _ then _ else _) = _
    by_cases h : a < 2 ^ fs.length ∧ b < 2 ^ fs.length
    · rw [if_pos h, if_neg (fun z => (ok_two fs a b).mp z h)]
    · rw [if_neg h, if_pos ((ok_two fs a b).mpr h)]
  show ((Kcz8.step ⟨fs⟩ (.worst a b)).1, Kcz8Neutral.tell (Kcz8.step ⟨fs⟩ (.worst a b)).2) = _
  rw [e]
  rfl
theorem st_compare (fs : List Kcz8.Feature) (a b : Nat) : Kcz8Neutral.step ⟨fs⟩ [[4, (a : Int), (b : Int)]] = (⟨fs⟩, [compareDue fs a b]) := by
  have e : Kcz8.step ⟨fs⟩ (.compare a b) = (⟨fs⟩, .num (compareDue fs a b)) := by
    unfold compareDue
    show (if _ then _ else _) = _
    by_cases h : a < 2 ^ fs.length ∧ b < 2 ^ fs.length
    · rw [if_pos h, if_neg (fun z => (ok_two fs a b).mp z h)]
    · rw [if_neg h, if_pos ((ok_two fs a b).mpr h)]
  show ((Kcz8.step ⟨fs⟩ (.compare a b)).1, Kcz8Neutral.tell (Kcz8.step ⟨fs⟩ (.compare a b)).2) = _
  rw [e]
  rfl
theorem st_path (fs : List Kcz8.Feature) (a b : Nat) : Kcz8Neutral.step ⟨fs⟩ [[5, (a : Int), (b : Int)]] = (⟨fs⟩, pathDue fs a b) := by
  show ((Kcz8.step ⟨fs⟩ (.path a b)).1, Kcz8Neutral.tell (Kcz8.step ⟨fs⟩ (.path a b)).2) = _
  unfold pathDue
  by_cases h : a < 2 ^ fs.length ∧ b < 2 ^ fs.length
  · have e : Kcz8.step ⟨fs⟩ (.path a b) = (match Kcz8.path fs a b with
        | none => (⟨fs⟩, .num (-6))
        | some w => (⟨fs⟩, .some_ w.length w)) := by
      show (if _ then _ else _) = _
      rw [if_neg (fun z => (ok_two fs a b).mp z h)]
      rfl
    rw [e, if_pos h]
    cases Kcz8.path fs a b <;> rfl
  · have e : Kcz8.step ⟨fs⟩ (.path a b) = (⟨fs⟩, .num (-22)) := by
      show (if _ then _ else _) = _
      rw [if_pos ((ok_two fs a b).mpr h)]
    rw [e, if_neg h]
    rfl
theorem st_above (fs : List Kcz8.Feature) (a : Nat) : Kcz8Neutral.step ⟨fs⟩ [[6, (a : Int)]] = (⟨fs⟩, [countDue fs false a]) := by
  have e : Kcz8.step ⟨fs⟩ (.above a) = (⟨fs⟩, .num (countDue fs false a)) := by
    unfold countDue
    show (if _ then _ else _) = _
    by_cases h : a < 2 ^ fs.length
    · rw [if_pos h, if_neg (fun z => (ok_thing fs a).mp z h)]
      rfl
    · rw [if_neg h, if_pos ((ok_thing fs a).mpr h)]
  show ((Kcz8.step ⟨fs⟩ (.above a)).1, Kcz8Neutral.tell (Kcz8.step ⟨fs⟩ (.above a)).2) = _
  rw [e]
  rfl
theorem st_below (fs : List Kcz8.Feature) (a : Nat) : Kcz8Neutral.step ⟨fs⟩ [[7, (a : Int)]] = (⟨fs⟩, [countDue fs true a]) := by
  have e : Kcz8.step ⟨fs⟩ (.below a) = (⟨fs⟩, .num (countDue fs true a)) := by
    unfold countDue
    show (if _ then _ else _) = _
    by_cases h : a < 2 ^ fs.length
    · rw [if_pos h, if_neg (fun z => (ok_thing fs a).mp z h)]
      rfl
    · rw [if_neg h, if_pos ((ok_thing fs a).mpr h)]
  show ((Kcz8.step ⟨fs⟩ (.below a)).1, Kcz8Neutral.tell (Kcz8.step ⟨fs⟩ (.below a)).2) = _
  rw [e]
  rfl
theorem st_order (fs : List Kcz8.Feature) : Kcz8Neutral.step ⟨fs⟩ [[8]] = (⟨fs⟩, orderDue fs) := rfl
theorem to_at {l : List Int} {j : Nat} {k : Int} (h : l[j]? = some k) {z : Int} (e : z = (j : Int)) : atI (zs l) z = some (.int k) := by
  refine at_of (j := j) e ?_
  rw [List.getElem?_map, h]
  rfl
theorem cut_on (w : Int) (on : List Nat) : cutV (zs (PyFlat.put1 [[1, w], on.map fun (k : Nat) => (k : Int)])) (some 3) none = vInts on := by
  have e : PyFlat.put1 [[1, w], on.map fun (k : Nat) => (k : Int)] = 1 :: w :: (((on.map fun (k : Nat) => (k : Int)).length : Nat) : Int) :: (on.map fun (k : Nat) => (k : Int)) := by
    simp [PyFlat.put1, PyFlat.putRows, PyFlat.putRow]
  rw [e]
  have h1 : HT.sIx (zs (1 :: w :: (((on.map fun (k : Nat) => (k : Int)).length : Nat) : Int) :: (on.map fun (k : Nat) => (k : Int)))).length 0 (some 3) = 3 := by
    have := HT.sIx_nat (zs (1 :: w :: (((on.map fun (k : Nat) => (k : Int)).length : Nat) : Int) :: (on.map fun (k : Nat) => (k : Int)))).length 0 3
    refine this.trans ?_
    rw [List.length_map]
    simp only [List.length_cons]
    omega
  unfold cutV
  rw [h1, HT.sIx_none]
  show (List.map V.int (on.map fun (k : Nat) => (k : Int))).take _ = _
  rw [List.map_map, List.take_of_length_le]
  · rfl
  · simp
section
variable {P : Program} {w : World} {K : PySem.W.Frag} {mg : Str → Option Value} {base : Heap} {CW CF : Addr}
theorem scTo : FnScope ["wishes", "call"] ["wishes", "call"] (defScope sTo) := ⟨rfl, rfl, rfl, by decide +kernel, rfl, by decide +kernel, by decide +kernel⟩
theorem ok_to {f fBe fFe fBs fWo fCo fPa fAb fBl fOr : Addr} {fd dBe dFe dBs dWo dCo dPa dAb dBl dOr : FuncData} (F : Fun K "answer_to" "answer_to" sTo f fd) (T : Txt K mg CW CF) (T2 : Txt2 K mg)
    (GBe : FnOk P w K mg base CX0 1 fBe dBe ["self"] (spBegin CW CF)) (bBe : Binds K dBe ["self"] []) (mBe : Meth K CW "begin" fBe)
    (GFe : FnOk P w K mg base CX0 3 fFe dFe ["self", "on", "wish"] (spFeature CW CF)) (bFe : Binds K dFe ["self", "on", "wish"] []) (mFe : Meth K CW "feature" fFe)
    (GBs : FnOk P w K mg base CX0 5 fBs dBs ["self", "given", "values"] (spFill CW CF true)) (bBs : Binds K dBs ["self", "given", "values"] []) (mBs : Meth K CW "best" fBs)
    (GWo : FnOk P w K mg base CX0 5 fWo dWo ["self", "given", "values"] (spFill CW CF false)) (bWo : Binds K dWo ["self", "given", "values"] []) (mWo : Meth K CW "worst" fWo)
    (GCo : FnOk P w K mg base CX0 7 fCo dCo ["self", "a", "b"] (spCompare CW CF)) (bCo : Binds K dCo ["self", "a", "b"] []) (mCo : Meth K CW "compare" fCo)
    (GPa : FnOk P w K mg base CX0 7 fPa dPa ["self", "start_at", "end_at"] (spPath CW CF)) (bPa : Binds K dPa ["self", "start_at", "end_at"] []) (mPa : Meth K CW "path" fPa)
    (GAb : FnOk P w K mg base CX0 8 fAb dAb ["self", "a"] (spSide CW CF false)) (bAb : Binds K dAb ["self", "a"] []) (mAb : Meth K CW "above" fAb)
    (GBl : FnOk P w K mg base CX0 8 fBl dBl ["self", "a"] (spSide CW CF true)) (bBl : Binds K dBl ["self", "a"] []) (mBl : Meth K CW "below" fBl)
    (GOr : FnOk P w K mg base CX0 6 fOr dOr ["self"] (spOrder CW CF)) (bOr : Binds K dOr ["self"] []) (mOr : Meth K CW "order" fOr)
    : FnOk P w K mg base CX0 9 f fd ["wishes", "call"] (spTo CW CF) := by
  obtain ⟨u0, m0, r0⟩ := T2.begin_
  obtain ⟨u1, m1, r1⟩ := T2.feature
  obtain ⟨u2, m2, r2⟩ := T2.best
  obtain ⟨u3, m3, r3⟩ := T2.worst
  obtain ⟨u4, m4, r4⟩ := T2.compare
  obtain ⟨u5, m5, r5⟩ := T2.path
  obtain ⟨u6, m6, r6⟩ := T2.above
  obtain ⟨u7, m7, r7⟩ := T2.below
  refine F.ok scTo (fun vs H Q E h => ?_) (fun cdv A outer s H vs Q E hr h => ?_)
  · obtain ⟨p, l, q, as, fs, c, rfl, _⟩ := h
    rfl
  · obtain ⟨p, l, q, as, fs, c, rfl, W, wf, fc, hq, nql, k⟩ := h
    obtain ⟨dx, hp⟩ := W.ins
    have hr1 : Room 1 _ := hr.mono (by decide)
    have hr3 : Room 3 _ := hr.mono (by decide)
    have hr5 : Room 5 _ := hr.mono (by decide)
    have hr6 : Room 6 _ := hr.mono (by decide)
    have hr7 : Room 7 _ := hr.mono (by decide)
    refine ⟨_, pss_cons (ps_if (pt_cmpR op_eq (pe_ix ix_list (pv 1) pe_int (fun _ _ => rfl)) (pe_glob rfl m0 r0) (nomark _)) (pss_one (ps_ret (pe_lst (pa_cons (pe_meth0 (pv 0) T.clW mBe GBe hr1 bBe .nil pass0) pa_nil)))) pss_nil)
      (pss_cons (ps_if (pt_cmpR op_eq (pe_ix ix_list (pv 1) pe_int (fun _ _ => rfl)) (pe_glob rfl m1 r1) (nomark _)) (pss_one (ps_ret (pe_lst (pa_cons (pe_meth (pv 0) T.clW mFe GFe hr3 bFe .nil pass0 (pa_cons (pe_slice sl_list (pv 1) (po_some pe_int) po_none) (pa_cons (pe_ix ix_list (pv 1) pe_int (fun _ _ => rfl)) pa_nil))) pa_nil)))) pss_nil)
      (pss_cons (ps_if (pt_cmpR op_eq (pe_ix ix_list (pv 1) pe_int (fun _ _ => rfl)) (pe_glob rfl m2 r2) (nomark _)) (pss_one (ps_ret (pe_lst (pa_cons (pe_meth (pv 0) T.clW mBs GBs hr5 bBs .nil pass0 (pa_cons (pe_ix ix_list (pv 1) pe_int (fun _ _ => rfl)) (pa_cons (pe_ix ix_list (pv 1) pe_int (fun _ _ => rfl)) pa_nil))) pa_nil)))) pss_nil)
      (pss_cons (ps_if (pt_cmpR op_eq (pe_ix ix_list (pv 1) pe_int (fun _ _ => rfl)) (pe_glob rfl m3 r3) (nomark _)) (pss_one (ps_ret (pe_lst (pa_cons (pe_meth (pv 0) T.clW mWo GWo hr5 bWo .nil pass0 (pa_cons (pe_ix ix_list (pv 1) pe_int (fun _ _ => rfl)) (pa_cons (pe_ix ix_list (pv 1) pe_int (fun _ _ => rfl)) pa_nil))) pa_nil)))) pss_nil)
      (pss_cons (ps_if (pt_cmpR op_eq (pe_ix ix_list (pv 1) pe_int (fun _ _ => rfl)) (pe_glob rfl m4 r4) (nomark _)) (pss_one (ps_ret (pe_lst (pa_cons (pe_meth (pv 0) T.clW mCo GCo hr7 bCo .nil pass0 (pa_cons (pe_ix ix_list (pv 1) pe_int (fun _ _ => rfl)) (pa_cons (pe_ix ix_list (pv 1) pe_int (fun _ _ => rfl)) pa_nil))) pa_nil)))) pss_nil)
      (pss_cons (ps_if (pt_cmpR op_eq (pe_ix ix_list (pv 1) pe_int (fun _ _ => rfl)) (pe_glob rfl m5 r5) (nomark _)) (pss_one (ps_ret (pe_meth (pv 0) T.clW mPa GPa hr7 bPa .nil pass0 (pa_cons (pe_ix ix_list (pv 1) pe_int (fun _ _ => rfl)) (pa_cons (pe_ix ix_list (pv 1) pe_int (fun _ _ => rfl)) pa_nil))))) pss_nil)
      (pss_cons (ps_if (pt_cmpR op_eq (pe_ix ix_list (pv 1) pe_int (fun _ _ => rfl)) (pe_glob rfl m6 r6) (nomark _)) (pss_one (ps_ret (pe_lst (pa_cons (pe_meth (pv 0) T.clW mAb GAb hr bAb .nil pass0 (pa_cons (pe_ix ix_list (pv 1) pe_int (fun _ _ => rfl)) pa_nil)) pa_nil)))) pss_nil)
      (pss_cons (ps_if (pt_cmpR op_eq (pe_ix ix_list (pv 1) pe_int (fun _ _ => rfl)) (pe_glob rfl m7 r7) (nomark _)) (pss_one (ps_ret (pe_lst (pa_cons (pe_meth (pv 0) T.clW mBl GBl hr bBl .nil pass0 (pa_cons (pe_ix ix_list (pv 1) pe_int (fun _ _ => rfl)) pa_nil)) pa_nil)))) pss_nil)
      (pss_one (ps_ret (pe_meth0 (pv 0) T.clW mOr GOr hr6 bOr .nil pass0)))))))))), ?_⟩
    have npl : p ≠ l := ne_of hp W.lst (by intro z; cases z)
    -- what only reads
    have fin : ∀ (H1 : Hp) (r : Addr) (a : List Int), Kcz8Neutral.step ⟨fs⟩ c = (⟨fs⟩, a) → Same H H1 → H r = none → H1 r = some (.lst (zs a)) → Q (.ref r) H1 := fun H1 r a e s1 nr hr1 => by
      rw [e] at k
      exact k H1 l r as (W.same s1) wf (.inl rfl) (fun b o eb _ _ => s1 b o eb) nr (fun z => by rw [z, W.lst] at nr; cases nr) (fun z => by rw [z, hp] at nr; cases nr) hr1
    have fin1 : ∀ (H1 : Hp) (a : Int), Kcz8Neutral.step ⟨fs⟩ c = (⟨fs⟩, [a]) → Same H H1 → ∀ r, H1 r = none → Q (.ref r) (upd H1 r (.lst [.int a])) := fun H1 a e s1 r nr =>
      fin _ r [a] e (s1.trans (same_upd nr)) (s1.free nr) upd_same
    cases fc with
    | begin_ =>
      have at0 : atI (zs (PyFlat.put1 [[0]])) 0 = some (.int 0) := to_at (j := 0) rfl rfl
      refine ⟨_, rfl, q, _, _, _, rfl, rfl, SqL.of hq, at0, rfl, _, rfl, iteT' (by decide +kernel) ?_⟩
      refine ⟨_, rfl, p, dx, _, rfl, hp, wf_no _ (by decide +kernel), p, l, as, fs, rfl, W, fun H1 l' nl' W1 k1 => ⟨(by show 1 ≤ sizeLine; decide), fun r nr => ?_⟩⟩
      obtain ⟨dx1, hp1⟩ := W1.ins
      have nHr : H r = none := by
        cases e : H r with
        | none => rfl
        | some o =>
          have hrp : r ≠ p := fun z => by rw [z, hp1] at nr; cases nr
          have := k1 r o e hrp
          rw [nr] at this
          cases this
      refine k _ l' r [] (W1.same (same_upd nr)) ⟨Nat.zero_le _, fun j f hf => by cases hf⟩ (.inr nl') (fun b o eb hbp hbl => ?_) nHr (fun z => by rw [z, W1.lst] at nr; cases nr) (fun z => by rw [z, hp1] at nr; cases nr) upd_same
      rw [upd_ne (ne_of_none (k1 b o eb hbp) nr)]
      exact k1 b o eb hbp
    | feature w on hw ho =>
      have at0 : atI (zs (PyFlat.put1 [[1, (w : Int)], on.map fun (k : Nat) => (k : Int)])) 0 = some (.int 1) := to_at (j := 0) rfl rfl
      have at1 : atI (zs (PyFlat.put1 [[1, (w : Int)], on.map fun (k : Nat) => (k : Int)])) 1 = some (.int (w : Int)) := to_at (j := 1) rfl rfl
      refine ⟨_, rfl, q, _, _, _, rfl, rfl, SqL.of hq, at0, rfl, _, rfl, iteF' (by decide +kernel) ?_⟩
      refine ⟨_, rfl, q, _, _, _, rfl, rfl, SqL.of hq, at0, rfl, _, rfl, iteT' (by decide +kernel) ?_⟩
      refine ⟨_, rfl, p, dx, _, rfl, hp, wf_no _ (by decide +kernel), _, rfl, _, rfl, q, _, rfl, SqL.of hq, fun g ng => ?_⟩
      rw [cut_on]
      have s1 : Same H (upd H g (.lst (vInts on))) := same_upd ng
      have ngl : g ≠ l := fun z => by rw [z, W.lst] at ng; cases ng
      refine ⟨_, rfl, q, _, _, _, rfl, rfl, SqL.of (s1 _ _ hq), at1, p, l, g, as, fs, on, w, rfl, W.same s1, wf, upd_same, ngl, fun H1 as' W1 k1 => ⟨(by show 1 ≤ sizeLine; decide), fun r nr => ?_⟩⟩
      obtain ⟨dx1, hp1⟩ := W1.ins
      have nrl : r ≠ l := fun z => by rw [z, W1.lst] at nr; cases nr
      have nHr : H r = none := by
        cases e : H r with
        | none => rfl
        | some o =>
          have := k1 r o (s1 _ _ e) nrl
          rw [nr] at this
          cases this
      rw [st_feature wf.six] at k
      refine k _ l r as' (W1.same (same_upd nr)) (featureDue_wf wf on w) (.inl rfl) (fun b o eb hbp hbl => ?_) nHr nrl (fun z => by rw [z, hp1] at nr; cases nr) upd_same
      rw [upd_ne (ne_of_none (k1 b o (s1 _ _ eb) hbl) nr)]
      exact k1 b o (s1 _ _ eb) hbl
    | best a b ha hb =>
      have at0 : atI (zs (PyFlat.put1 [[2, (a : Int), (b : Int)]])) 0 = some (.int 2) := to_at (j := 0) rfl rfl
      have at1 : atI (zs (PyFlat.put1 [[2, (a : Int), (b : Int)]])) 1 = some (.int (a : Int)) := to_at (j := 1) rfl rfl
      have at2 : atI (zs (PyFlat.put1 [[2, (a : Int), (b : Int)]])) 2 = some (.int (b : Int)) := to_at (j := 2) rfl rfl
      refine ⟨_, rfl, q, _, _, _, rfl, rfl, SqL.of hq, at0, rfl, _, rfl, iteF' (by decide +kernel) ?_⟩
      refine ⟨_, rfl, q, _, _, _, rfl, rfl, SqL.of hq, at0, rfl, _, rfl, iteF' (by decide +kernel) ?_⟩
      refine ⟨_, rfl, q, _, _, _, rfl, rfl, SqL.of hq, at0, rfl, _, rfl, iteT' (by decide +kernel) ?_⟩
      exact ⟨_, rfl, p, dx, _, rfl, hp, wf_no _ (by decide +kernel), _, rfl, q, _, _, _, rfl, rfl, SqL.of hq, at1, _, rfl, q, _, _, _, rfl, rfl, SqL.of hq, at2, p, l, as, fs, a, b, rfl, W, wf, fun H1 s1 => ⟨(by show 1 ≤ sizeLine; decide), fin1 H1 _ (st_best fs a b) s1⟩⟩
    | worst a b ha hb =>
      have at0 : atI (zs (PyFlat.put1 [[3, (a : Int), (b : Int)]])) 0 = some (.int 3) := to_at (j := 0) rfl rfl
      have at1 : atI (zs (PyFlat.put1 [[3, (a : Int), (b : Int)]])) 1 = some (.int (a : Int)) := to_at (j := 1) rfl rfl
      have at2 : atI (zs (PyFlat.put1 [[3, (a : Int), (b : Int)]])) 2 = some (.int (b : Int)) := to_at (j := 2) rfl rfl
      refine ⟨_, rfl, q, _, _, _, rfl, rfl, SqL.of hq, at0, rfl, _, rfl, iteF' (by decide +kernel) ?_⟩
      refine ⟨_, rfl, q, _, _, _, rfl, rfl, SqL.of hq, at0, rfl, _, rfl, iteF' (by decide +kernel) ?_⟩
      refine ⟨_, rfl, q, _, _, _, rfl, rfl, SqL.of hq, at0, rfl, _, rfl, iteF' (by decide +kernel) ?_⟩
      refine ⟨_, rfl, q, _, _, _, rfl, rfl, SqL.of hq, at0, rfl, _, rfl, iteT' (by decide +kernel) ?_⟩
      exact ⟨_, rfl, p, dx, _, rfl, hp, wf_no _ (by decide +kernel), _, rfl, q, _, _, _, rfl, rfl, SqL.of hq, at1, _, rfl, q, _, _, _, rfl, rfl, SqL.of hq, at2, p, l, as, fs, a, b, rfl, W, wf, fun H1 s1 => ⟨(by show 1 ≤ sizeLine; decide), fin1 H1 _ (st_worst fs a b) s1⟩⟩
    | compare a b ha hb =>
      have at0 : atI (zs (PyFlat.put1 [[4, (a : Int), (b : Int)]])) 0 = some (.int 4) := to_at (j := 0) rfl rfl
      have at1 : atI (zs (PyFlat.put1 [[4, (a : Int), (b : Int)]])) 1 = some (.int (a : Int)) := to_at (j := 1) rfl rfl
      have at2 : atI (zs (PyFlat.put1 [[4, (a : Int), (b : Int)]])) 2 = some (.int (b : Int)) := to_at (j := 2) rfl rfl
      refine ⟨_, rfl, q, _, _, _, rfl, rfl, SqL.of hq, at0, rfl, _, rfl, iteF' (by decide +kernel) ?_⟩
      refine ⟨_, rfl, q, _, _, _, rfl, rfl, SqL.of hq, at0, rfl, _, rfl, iteF' (by decide +kernel) ?_⟩
      refine ⟨_, rfl, q, _, _, _, rfl, rfl, SqL.of hq, at0, rfl, _, rfl, iteF' (by decide +kernel) ?_⟩
      refine ⟨_, rfl, q, _, _, _, rfl, rfl, SqL.of hq, at0, rfl, _, rfl, iteF' (by decide +kernel) ?_⟩
      refine ⟨_, rfl, q, _, _, _, rfl, rfl, SqL.of hq, at0, rfl, _, rfl, iteT' (by decide +kernel) ?_⟩
      exact ⟨_, rfl, p, dx, _, rfl, hp, wf_no _ (by decide +kernel), _, rfl, q, _, _, _, rfl, rfl, SqL.of hq, at1, _, rfl, q, _, _, _, rfl, rfl, SqL.of hq, at2, p, l, as, fs, a, b, rfl, W, wf, fun H1 s1 => ⟨(by show 1 ≤ sizeLine; decide), fin1 H1 _ (st_compare fs a b) s1⟩⟩
    | path a b ha hb =>
      have at0 : atI (zs (PyFlat.put1 [[5, (a : Int), (b : Int)]])) 0 = some (.int 5) := to_at (j := 0) rfl rfl
      have at1 : atI (zs (PyFlat.put1 [[5, (a : Int), (b : Int)]])) 1 = some (.int (a : Int)) := to_at (j := 1) rfl rfl
      have at2 : atI (zs (PyFlat.put1 [[5, (a : Int), (b : Int)]])) 2 = some (.int (b : Int)) := to_at (j := 2) rfl rfl
      refine ⟨_, rfl, q, _, _, _, rfl, rfl, SqL.of hq, at0, rfl, _, rfl, iteF' (by decide +kernel) ?_⟩
      refine ⟨_, rfl, q, _, _, _, rfl, rfl, SqL.of hq, at0, rfl, _, rfl, iteF' (by decide +kernel) ?_⟩
      refine ⟨_, rfl, q, _, _, _, rfl, rfl, SqL.of hq, at0, rfl, _, rfl, iteF' (by decide +kernel) ?_⟩
      refine ⟨_, rfl, q, _, _, _, rfl, rfl, SqL.of hq, at0, rfl, _, rfl, iteF' (by decide +kernel) ?_⟩
      refine ⟨_, rfl, q, _, _, _, rfl, rfl, SqL.of hq, at0, rfl, _, rfl, iteF' (by decide +kernel) ?_⟩
      refine ⟨_, rfl, q, _, _, _, rfl, rfl, SqL.of hq, at0, rfl, _, rfl, iteT' (by decide +kernel) ?_⟩
      exact ⟨_, rfl, p, dx, _, rfl, hp, wf_no _ (by decide +kernel), _, rfl, q, _, _, _, rfl, rfl, SqL.of hq, at1, _, rfl, q, _, _, _, rfl, rfl, SqL.of hq, at2, p, l, as, fs, a, b, rfl, W, wf, fun H1 r nr s1 hr1 => fin H1 r _ (st_path fs a b) s1 nr hr1⟩
    | above a ha =>
      have at0 : atI (zs (PyFlat.put1 [[6, (a : Int)]])) 0 = some (.int 6) := to_at (j := 0) rfl rfl
      have at1 : atI (zs (PyFlat.put1 [[6, (a : Int)]])) 1 = some (.int (a : Int)) := to_at (j := 1) rfl rfl
      refine ⟨_, rfl, q, _, _, _, rfl, rfl, SqL.of hq, at0, rfl, _, rfl, iteF' (by decide +kernel) ?_⟩
      refine ⟨_, rfl, q, _, _, _, rfl, rfl, SqL.of hq, at0, rfl, _, rfl, iteF' (by decide +kernel) ?_⟩
      refine ⟨_, rfl, q, _, _, _, rfl, rfl, SqL.of hq, at0, rfl, _, rfl, iteF' (by decide +kernel) ?_⟩
      refine ⟨_, rfl, q, _, _, _, rfl, rfl, SqL.of hq, at0, rfl, _, rfl, iteF' (by decide +kernel) ?_⟩
      refine ⟨_, rfl, q, _, _, _, rfl, rfl, SqL.of hq, at0, rfl, _, rfl, iteF' (by decide +kernel) ?_⟩
      refine ⟨_, rfl, q, _, _, _, rfl, rfl, SqL.of hq, at0, rfl, _, rfl, iteF' (by decide +kernel) ?_⟩
      refine ⟨_, rfl, q, _, _, _, rfl, rfl, SqL.of hq, at0, rfl, _, rfl, iteT' (by decide +kernel) ?_⟩
      exact ⟨_, rfl, p, dx, _, rfl, hp, wf_no _ (by decide +kernel), _, rfl, q, _, _, _, rfl, rfl, SqL.of hq, at1, p, l, as, fs, a, rfl, W, wf, fun H1 s1 => ⟨(by show 1 ≤ sizeLine; decide), fin1 H1 _ (st_above fs a) s1⟩⟩
    | below a ha =>
      have at0 : atI (zs (PyFlat.put1 [[7, (a : Int)]])) 0 = some (.int 7) := to_at (j := 0) rfl rfl
      have at1 : atI (zs (PyFlat.put1 [[7, (a : Int)]])) 1 = some (.int (a : Int)) := to_at (j := 1) rfl rfl
      refine ⟨_, rfl, q, _, _, _, rfl, rfl, SqL.of hq, at0, rfl, _, rfl, iteF' (by decide +kernel) ?_⟩
      refine ⟨_, rfl, q, _, _, _, rfl, rfl, SqL.of hq, at0, rfl, _, rfl, iteF' (by decide +kernel) ?_⟩
      refine ⟨_, rfl, q, _, _, _, rfl, rfl, SqL.of hq, at0, rfl, _, rfl, iteF' (by decide +kernel) ?_⟩
      refine ⟨_, rfl, q, _, _, _, rfl, rfl, SqL.of hq, at0, rfl, _, rfl, iteF' (by decide +kernel) ?_⟩
      refine ⟨_, rfl, q, _, _, _, rfl, rfl, SqL.of hq, at0, rfl, _, rfl, iteF' (by decide +kernel) ?_⟩
      refine ⟨_, rfl, q, _, _, _, rfl, rfl, SqL.of hq, at0, rfl, _, rfl, iteF' (by decide +kernel) ?_⟩
      refine ⟨_, rfl, q, _, _, _, rfl, rfl, SqL.of hq, at0, rfl, _, rfl, iteF' (by decide +kernel) ?_⟩
      refine ⟨_, rfl, q, _, _, _, rfl, rfl, SqL.of hq, at0, rfl, _, rfl, iteT' (by decide +kernel) ?_⟩
      exact ⟨_, rfl, p, dx, _, rfl, hp, wf_no _ (by decide +kernel), _, rfl, q, _, _, _, rfl, rfl, SqL.of hq, at1, p, l, as, fs, a, rfl, W, wf, fun H1 s1 => ⟨(by show 1 ≤ sizeLine; decide), fin1 H1 _ (st_below fs a) s1⟩⟩
    | order =>
      have at0 : atI (zs (PyFlat.put1 [[8]])) 0 = some (.int 8) := to_at (j := 0) rfl rfl
      refine ⟨_, rfl, q, _, _, _, rfl, rfl, SqL.of hq, at0, rfl, _, rfl, iteF' (by decide +kernel) ?_⟩
      refine ⟨_, rfl, q, _, _, _, rfl, rfl, SqL.of hq, at0, rfl, _, rfl, iteF' (by decide +kernel) ?_⟩
      refine ⟨_, rfl, q, _, _, _, rfl, rfl, SqL.of hq, at0, rfl, _, rfl, iteF' (by decide +kernel) ?_⟩
      refine ⟨_, rfl, q, _, _, _, rfl, rfl, SqL.of hq, at0, rfl, _, rfl, iteF' (by decide +kernel) ?_⟩
      refine ⟨_, rfl, q, _, _, _, rfl, rfl, SqL.of hq, at0, rfl, _, rfl, iteF' (by decide +kernel) ?_⟩
      refine ⟨_, rfl, q, _, _, _, rfl, rfl, SqL.of hq, at0, rfl, _, rfl, iteF' (by decide +kernel) ?_⟩
      refine ⟨_, rfl, q, _, _, _, rfl, rfl, SqL.of hq, at0, rfl, _, rfl, iteF' (by decide +kernel) ?_⟩
      refine ⟨_, rfl, q, _, _, _, rfl, rfl, SqL.of hq, at0, rfl, _, rfl, iteF' (by decide +kernel) ?_⟩
      exact ⟨_, rfl, p, dx, _, rfl, hp, wf_no _ (by decide +kernel), p, l, as, fs, rfl, W, wf, fun H1 r nr s1 hr1 => fin H1 r _ (st_order fs) s1 nr hr1⟩
end
end Ws
end
section
set_option Elab.async false
set_option linter.all false
set_option maxRecDepth 100000
set_option maxHeartbeats 2000000
namespace Ws
open PySem PySem.Spec PyProof.Rows L2
open PySem.W (Codec)
/-! ### what the top has written -/
theorem int_of {mg : Str → Option Value} {x : Str} {n : Int} {t : Tok} (h : mg x = some (.int n t)) : ∃ u, mg x = some u ∧ RelV (.int n) u := ⟨_, h, _, rfl⟩
theorem all_mk {P : Program} {w : World} {K : PySem.W.Frag} {h : Heap} {mg : Str → Option Value} {fa CF CW dS : Addr} {esS : Array DictEntry} {epS : Nat} {f_bit f_fin f_way f_wan f_win f_beg f_fea f_may f_bes f_wor f_fil f_com f_pat f_cha f_abo f_bel f_cou f_ord f_bey f_dis f_nei f_abl f_nex f_ans f_end f_ato : Addr} (X : K.In h) (G : h.Ns mainGlobals mg) (hfa : mg "answers" = some (.ref fa))
    {od_bit an_bit od_fin an_fin od_way an_way od_wan an_wan od_win an_win od_beg an_beg od_fea an_fea od_may an_may od_bes an_bes od_wor an_wor od_fil an_fil od_com an_com od_pat an_pat od_cha an_cha od_abo an_abo od_bel an_bel od_cou an_cou od_ord an_ord od_bey an_bey od_dis an_dis od_nei an_nei od_abl an_abl od_nex an_nex od_ans an_ans od_end an_end od_ato an_ato : Option Addr} {sl_bit sl_fin sl_way sl_wan sl_win sl_beg sl_fea sl_may sl_bes sl_wor sl_fil sl_com sl_pat sl_cha sl_abo sl_bel sl_cou sl_ord sl_bey sl_dis sl_nei sl_abl sl_nex sl_ans sl_end sl_ato : Array (Option Value)} {oc_bit kv_bit dc_bit pm_bit cd_bit ct_bit oc_fin kv_fin dc_fin pm_fin cd_fin ct_fin oc_way kv_way dc_way pm_way cd_way ct_way oc_wan kv_wan dc_wan pm_wan cd_wan ct_wan oc_win kv_win dc_win pm_win cd_win ct_win oc_beg kv_beg dc_beg pm_beg cd_beg ct_beg oc_fea kv_fea dc_fea pm_fea cd_fea ct_fea oc_may kv_may dc_may pm_may cd_may ct_may oc_bes kv_bes dc_bes pm_bes cd_bes ct_bes oc_wor kv_wor dc_wor pm_wor cd_wor ct_wor oc_fil kv_fil dc_fil pm_fil cd_fil ct_fil oc_com kv_com dc_com pm_com cd_com ct_com oc_pat kv_pat dc_pat pm_pat cd_pat ct_pat oc_cha kv_cha dc_cha pm_cha cd_cha ct_cha oc_abo kv_abo dc_abo pm_abo cd_abo ct_abo oc_bel kv_bel dc_bel pm_bel cd_bel ct_bel oc_cou kv_cou dc_cou pm_cou cd_cou ct_cou oc_ord kv_ord dc_ord pm_ord cd_ord ct_ord oc_bey kv_bey dc_bey pm_bey cd_bey ct_bey oc_dis kv_dis dc_dis pm_dis cd_dis ct_dis oc_nei kv_nei dc_nei pm_nei cd_nei ct_nei oc_abl kv_abl dc_abl pm_abl cd_abl ct_abl oc_nex kv_nex dc_nex pm_nex cd_nex ct_nex oc_ans kv_ans dc_ans pm_ans cd_ans ct_ans oc_end kv_end dc_end pm_end cd_end ct_end oc_ato kv_ato dc_ato pm_ato cd_ato ct_ato : Value} {t_BEGIN t_FEATURE t_BEST t_WORST t_COMPARE t_PATH t_ABOVE t_BELOW t_NO_PATH t_WRONG t_FULL t_MOST_FEATURES t_MOST_ON t_BETTER t_WORSE : Tok}
    (aCF : PySem.W.nsIn K mainGlobals "Feature" = some (some (.ref CF))) (aCW : PySem.W.nsIn K mainGlobals "Wishes" = some (some (.ref CW)))
    (a_bit : PySem.W.nsIn K mainGlobals "bit" = some (some (.ref f_bit))) (l_bit : K.lookup f_bit = some ⟨oc_bit, od_bit, .func (PySem.W.fnOf "bit" "bit" (defArgs sBit) (defBody sBit) (defScope sBit) .none kv_bit dc_bit pm_bit an_bit cd_bit ct_bit), sl_bit⟩) (c_bit : PySem.W.codeIn K cd_bit "bit" = true) (k_bit : PySem.W.keepIn K (.ref f_bit) = true)
    (a_fin : PySem.W.findIn K (.ref CF) "__init__" = some (some (.ref f_fin))) (i_fin : PySem.W.isFn K (.ref f_fin) = true) (l_fin : K.lookup f_fin = some ⟨oc_fin, od_fin, .func (PySem.W.fnOf "__init__" "Feature.__init__" (defArgs sFInit) (defBody sFInit) (defScope sFInit) .none kv_fin dc_fin pm_fin an_fin cd_fin ct_fin), sl_fin⟩) (c_fin : PySem.W.codeIn K cd_fin "Feature.__init__" = true) (k_fin : PySem.W.keepIn K (.ref f_fin) = true)
    (a_way : PySem.W.findIn K (.ref CF) "way" = some (some (.ref f_way))) (i_way : PySem.W.isFn K (.ref f_way) = true) (l_way : K.lookup f_way = some ⟨oc_way, od_way, .func (PySem.W.fnOf "way" "Feature.way" (defArgs sWay) (defBody sWay) (defScope sWay) .none kv_way dc_way pm_way an_way cd_way ct_way), sl_way⟩) (c_way : PySem.W.codeIn K cd_way "Feature.way" = true) (k_way : PySem.W.keepIn K (.ref f_way) = true)
    (a_wan : PySem.W.findIn K (.ref CF) "wanted" = some (some (.ref f_wan))) (i_wan : PySem.W.isFn K (.ref f_wan) = true) (l_wan : K.lookup f_wan = some ⟨oc_wan, od_wan, .func (PySem.W.fnOf "wanted" "Feature.wanted" (defArgs sWanted) (defBody sWanted) (defScope sWanted) .none kv_wan dc_wan pm_wan an_wan cd_wan ct_wan), sl_wan⟩) (c_wan : PySem.W.codeIn K cd_wan "Feature.wanted" = true) (k_wan : PySem.W.keepIn K (.ref f_wan) = true)
    (a_win : PySem.W.findIn K (.ref CW) "__init__" = some (some (.ref f_win))) (i_win : PySem.W.isFn K (.ref f_win) = true) (l_win : K.lookup f_win = some ⟨oc_win, od_win, .func (PySem.W.fnOf "__init__" "Wishes.__init__" (defArgs sWInit) (defBody sWInit) (defScope sWInit) .none kv_win dc_win pm_win an_win cd_win ct_win), sl_win⟩) (c_win : PySem.W.codeIn K cd_win "Wishes.__init__" = true) (k_win : PySem.W.keepIn K (.ref f_win) = true)
    (a_beg : PySem.W.findIn K (.ref CW) "begin" = some (some (.ref f_beg))) (i_beg : PySem.W.isFn K (.ref f_beg) = true) (l_beg : K.lookup f_beg = some ⟨oc_beg, od_beg, .func (PySem.W.fnOf "begin" "Wishes.begin" (defArgs sBegin) (defBody sBegin) (defScope sBegin) .none kv_beg dc_beg pm_beg an_beg cd_beg ct_beg), sl_beg⟩) (c_beg : PySem.W.codeIn K cd_beg "Wishes.begin" = true) (k_beg : PySem.W.keepIn K (.ref f_beg) = true)
    (a_fea : PySem.W.findIn K (.ref CW) "feature" = some (some (.ref f_fea))) (i_fea : PySem.W.isFn K (.ref f_fea) = true) (l_fea : K.lookup f_fea = some ⟨oc_fea, od_fea, .func (PySem.W.fnOf "feature" "Wishes.feature" (defArgs sFeature) (defBody sFeature) (defScope sFeature) .none kv_fea dc_fea pm_fea an_fea cd_fea ct_fea), sl_fea⟩) (c_fea : PySem.W.codeIn K cd_fea "Wishes.feature" = true) (k_fea : PySem.W.keepIn K (.ref f_fea) = true)
    (a_may : PySem.W.findIn K (.ref CW) "may_depend" = some (some (.ref f_may))) (i_may : PySem.W.isFn K (.ref f_may) = true) (l_may : K.lookup f_may = some ⟨oc_may, od_may, .func (PySem.W.fnOf "may_depend" "Wishes.may_depend" (defArgs sMay) (defBody sMay) (defScope sMay) .none kv_may dc_may pm_may an_may cd_may ct_may), sl_may⟩) (c_may : PySem.W.codeIn K cd_may "Wishes.may_depend" = true) (k_may : PySem.W.keepIn K (.ref f_may) = true)
    (a_bes : PySem.W.findIn K (.ref CW) "best" = some (some (.ref f_bes))) (i_bes : PySem.W.isFn K (.ref f_bes) = true) (l_bes : K.lookup f_bes = some ⟨oc_bes, od_bes, .func (PySem.W.fnOf "best" "Wishes.best" (defArgs sBest) (defBody sBest) (defScope sBest) .none kv_bes dc_bes pm_bes an_bes cd_bes ct_bes), sl_bes⟩) (c_bes : PySem.W.codeIn K cd_bes "Wishes.best" = true) (k_bes : PySem.W.keepIn K (.ref f_bes) = true)
    (a_wor : PySem.W.findIn K (.ref CW) "worst" = some (some (.ref f_wor))) (i_wor : PySem.W.isFn K (.ref f_wor) = true) (l_wor : K.lookup f_wor = some ⟨oc_wor, od_wor, .func (PySem.W.fnOf "worst" "Wishes.worst" (defArgs sWorst) (defBody sWorst) (defScope sWorst) .none kv_wor dc_wor pm_wor an_wor cd_wor ct_wor), sl_wor⟩) (c_wor : PySem.W.codeIn K cd_wor "Wishes.worst" = true) (k_wor : PySem.W.keepIn K (.ref f_wor) = true)
    (a_fil : PySem.W.findIn K (.ref CW) "filled" = some (some (.ref f_fil))) (i_fil : PySem.W.isFn K (.ref f_fil) = true) (l_fil : K.lookup f_fil = some ⟨oc_fil, od_fil, .func (PySem.W.fnOf "filled" "Wishes.filled" (defArgs sFilled) (defBody sFilled) (defScope sFilled) .none kv_fil dc_fil pm_fil an_fil cd_fil ct_fil), sl_fil⟩) (c_fil : PySem.W.codeIn K cd_fil "Wishes.filled" = true) (k_fil : PySem.W.keepIn K (.ref f_fil) = true)
    (a_com : PySem.W.findIn K (.ref CW) "compare" = some (some (.ref f_com))) (i_com : PySem.W.isFn K (.ref f_com) = true) (l_com : K.lookup f_com = some ⟨oc_com, od_com, .func (PySem.W.fnOf "compare" "Wishes.compare" (defArgs sCompare) (defBody sCompare) (defScope sCompare) .none kv_com dc_com pm_com an_com cd_com ct_com), sl_com⟩) (c_com : PySem.W.codeIn K cd_com "Wishes.compare" = true) (k_com : PySem.W.keepIn K (.ref f_com) = true)
    (a_pat : PySem.W.findIn K (.ref CW) "path" = some (some (.ref f_pat))) (i_pat : PySem.W.isFn K (.ref f_pat) = true) (l_pat : K.lookup f_pat = some ⟨oc_pat, od_pat, .func (PySem.W.fnOf "path" "Wishes.path" (defArgs sPath) (defBody sPath) (defScope sPath) .none kv_pat dc_pat pm_pat an_pat cd_pat ct_pat), sl_pat⟩) (c_pat : PySem.W.codeIn K cd_pat "Wishes.path" = true) (k_pat : PySem.W.keepIn K (.ref f_pat) = true)
    (a_cha : PySem.W.findIn K (.ref CW) "next_change" = some (some (.ref f_cha))) (i_cha : PySem.W.isFn K (.ref f_cha) = true) (l_cha : K.lookup f_cha = some ⟨oc_cha, od_cha, .func (PySem.W.fnOf "next_change" "Wishes.next_change" (defArgs sChange) (defBody sChange) (defScope sChange) .none kv_cha dc_cha pm_cha an_cha cd_cha ct_cha), sl_cha⟩) (c_cha : PySem.W.codeIn K cd_cha "Wishes.next_change" = true) (k_cha : PySem.W.keepIn K (.ref f_cha) = true)
    (a_abo : PySem.W.findIn K (.ref CW) "above" = some (some (.ref f_abo))) (i_abo : PySem.W.isFn K (.ref f_abo) = true) (l_abo : K.lookup f_abo = some ⟨oc_abo, od_abo, .func (PySem.W.fnOf "above" "Wishes.above" (defArgs sAbove) (defBody sAbove) (defScope sAbove) .none kv_abo dc_abo pm_abo an_abo cd_abo ct_abo), sl_abo⟩) (c_abo : PySem.W.codeIn K cd_abo "Wishes.above" = true) (k_abo : PySem.W.keepIn K (.ref f_abo) = true)
    (a_bel : PySem.W.findIn K (.ref CW) "below" = some (some (.ref f_bel))) (i_bel : PySem.W.isFn K (.ref f_bel) = true) (l_bel : K.lookup f_bel = some ⟨oc_bel, od_bel, .func (PySem.W.fnOf "below" "Wishes.below" (defArgs sBelow) (defBody sBelow) (defScope sBelow) .none kv_bel dc_bel pm_bel an_bel cd_bel ct_bel), sl_bel⟩) (c_bel : PySem.W.codeIn K cd_bel "Wishes.below" = true) (k_bel : PySem.W.keepIn K (.ref f_bel) = true)
    (a_cou : PySem.W.findIn K (.ref CW) "count_led_to" = some (some (.ref f_cou))) (i_cou : PySem.W.isFn K (.ref f_cou) = true) (l_cou : K.lookup f_cou = some ⟨oc_cou, od_cou, .func (PySem.W.fnOf "count_led_to" "Wishes.count_led_to" (defArgs sCount) (defBody sCount) (defScope sCount) .none kv_cou dc_cou pm_cou an_cou cd_cou ct_cou), sl_cou⟩) (c_cou : PySem.W.codeIn K cd_cou "Wishes.count_led_to" = true) (k_cou : PySem.W.keepIn K (.ref f_cou) = true)
    (a_ord : PySem.W.findIn K (.ref CW) "order" = some (some (.ref f_ord))) (i_ord : PySem.W.isFn K (.ref f_ord) = true) (l_ord : K.lookup f_ord = some ⟨oc_ord, od_ord, .func (PySem.W.fnOf "order" "Wishes.order" (defArgs sOrder) (defBody sOrder) (defScope sOrder) .none kv_ord dc_ord pm_ord an_ord cd_ord ct_ord), sl_ord⟩) (c_ord : PySem.W.codeIn K cd_ord "Wishes.order" = true) (k_ord : PySem.W.keepIn K (.ref f_ord) = true)
    (a_bey : PySem.W.findIn K (.ref CW) "is_beyond" = some (some (.ref f_bey))) (i_bey : PySem.W.isFn K (.ref f_bey) = true) (l_bey : K.lookup f_bey = some ⟨oc_bey, od_bey, .func (PySem.W.fnOf "is_beyond" "Wishes.is_beyond" (defArgs sBeyond) (defBody sBeyond) (defScope sBeyond) .none kv_bey dc_bey pm_bey an_bey cd_bey ct_bey), sl_bey⟩) (c_bey : PySem.W.codeIn K cd_bey "Wishes.is_beyond" = true) (k_bey : PySem.W.keepIn K (.ref f_bey) = true)
    (a_dis : PySem.W.findIn K (.ref CW) "distances" = some (some (.ref f_dis))) (i_dis : PySem.W.isFn K (.ref f_dis) = true) (l_dis : K.lookup f_dis = some ⟨oc_dis, od_dis, .func (PySem.W.fnOf "distances" "Wishes.distances" (defArgs sDist) (defBody sDist) (defScope sDist) .none kv_dis dc_dis pm_dis an_dis cd_dis ct_dis), sl_dis⟩) (c_dis : PySem.W.codeIn K cd_dis "Wishes.distances" = true) (k_dis : PySem.W.keepIn K (.ref f_dis) = true)
    (a_nei : PySem.W.findIn K (.ref CW) "neighbours" = some (some (.ref f_nei))) (i_nei : PySem.W.isFn K (.ref f_nei) = true) (l_nei : K.lookup f_nei = some ⟨oc_nei, od_nei, .func (PySem.W.fnOf "neighbours" "Wishes.neighbours" (defArgs sNeigh) (defBody sNeigh) (defScope sNeigh) .none kv_nei dc_nei pm_nei an_nei cd_nei ct_nei), sl_nei⟩) (c_nei : PySem.W.codeIn K cd_nei "Wishes.neighbours" = true) (k_nei : PySem.W.keepIn K (.ref f_nei) = true)
    (a_abl : PySem.W.findIn K (.ref CW) "changeable" = some (some (.ref f_abl))) (i_abl : PySem.W.isFn K (.ref f_abl) = true) (l_abl : K.lookup f_abl = some ⟨oc_abl, od_abl, .func (PySem.W.fnOf "changeable" "Wishes.changeable" (defArgs sAble) (defBody sAble) (defScope sAble) .none kv_abl dc_abl pm_abl an_abl cd_abl ct_abl), sl_abl⟩) (c_abl : PySem.W.codeIn K cd_abl "Wishes.changeable" = true) (k_abl : PySem.W.keepIn K (.ref f_abl) = true)
    (a_nex : PySem.W.nsIn K mainGlobals "next_in_order" = some (some (.ref f_nex))) (l_nex : K.lookup f_nex = some ⟨oc_nex, od_nex, .func (PySem.W.fnOf "next_in_order" "next_in_order" (defArgs sNext) (defBody sNext) (defScope sNext) .none kv_nex dc_nex pm_nex an_nex cd_nex ct_nex), sl_nex⟩) (c_nex : PySem.W.codeIn K cd_nex "next_in_order" = true) (k_nex : PySem.W.keepIn K (.ref f_nex) = true)
    (a_ans : PySem.W.nsIn K mainGlobals "answers" = some (some (.ref f_ans))) (l_ans : K.lookup f_ans = some ⟨oc_ans, od_ans, .func (PySem.W.fnOf "answers" "answers" (defArgs sAnswers) (defBody sAnswers) (defScope sAnswers) .none kv_ans dc_ans pm_ans an_ans cd_ans ct_ans), sl_ans⟩) (c_ans : PySem.W.codeIn K cd_ans "answers" = true) (k_ans : PySem.W.keepIn K (.ref f_ans) = true)
    (a_end : PySem.W.nsIn K mainGlobals "call_end" = some (some (.ref f_end))) (l_end : K.lookup f_end = some ⟨oc_end, od_end, .func (PySem.W.fnOf "call_end" "call_end" (defArgs sEnd) (defBody sEnd) (defScope sEnd) .none kv_end dc_end pm_end an_end cd_end ct_end), sl_end⟩) (c_end : PySem.W.codeIn K cd_end "call_end" = true) (k_end : PySem.W.keepIn K (.ref f_end) = true)
    (a_ato : PySem.W.nsIn K mainGlobals "answer_to" = some (some (.ref f_ato))) (l_ato : K.lookup f_ato = some ⟨oc_ato, od_ato, .func (PySem.W.fnOf "answer_to" "answer_to" (defArgs sTo) (defBody sTo) (defScope sTo) .none kv_ato dc_ato pm_ato an_ato cd_ato ct_ato), sl_ato⟩) (c_ato : PySem.W.codeIn K cd_ato "answer_to" = true) (k_ato : PySem.W.keepIn K (.ref f_ato) = true)
    (pg_CF : PySem.W.plainGet K CF Str.empty = true) (hd_CF : PySem.W.hasDictIn K CF = true) (po_CF : PySem.W.plainOver K CF = true) (sa_CF : PySem.W.findIn K (.ref CF) "__setattr__" = some (some (.builtin "object.__setattr__"))) (mk_CF : PySem.W.makesIn K CF = true) (kc_CF : PySem.W.keepIn K (.ref CF) = true)
    (pg_CW : PySem.W.plainGet K CW Str.empty = true) (hd_CW : PySem.W.hasDictIn K CW = true) (po_CW : PySem.W.plainOver K CW = true) (sa_CW : PySem.W.findIn K (.ref CW) "__setattr__" = some (some (.builtin "object.__setattr__"))) (mk_CW : PySem.W.makesIn K CW = true) (kc_CW : PySem.W.keepIn K (.ref CW) = true)
    (nFeat : PySem.W.findIn K (.ref CW) "features" = some none) (nOn : PySem.W.findIn K (.ref CF) "on" = some none) (nWish : PySem.W.findIn K (.ref CF) "wish" = some none)
    (z_enumerate : PySem.W.nsIn K mainGlobals "enumerate" = some none)
    (z_len : PySem.W.nsIn K mainGlobals "len" = some none)
    (z_set : PySem.W.nsIn K mainGlobals "set" = some none)
    (z_tuple : PySem.W.nsIn K mainGlobals "tuple" = some none)
    (z_all : PySem.W.nsIn K mainGlobals "all" = some none)
    (z_min : PySem.W.nsIn K mainGlobals "min" = some none)
    (z_list : PySem.W.nsIn K mainGlobals "list" = some none)
    (z_range : PySem.W.nsIn K mainGlobals "range" = some none)
    (v_BEGIN : PySem.W.nsIn K mainGlobals "BEGIN" = some (some (.int 0 t_BEGIN)))
    (v_FEATURE : PySem.W.nsIn K mainGlobals "FEATURE" = some (some (.int 1 t_FEATURE)))
    (v_BEST : PySem.W.nsIn K mainGlobals "BEST" = some (some (.int 2 t_BEST)))
    (v_WORST : PySem.W.nsIn K mainGlobals "WORST" = some (some (.int 3 t_WORST)))
    (v_COMPARE : PySem.W.nsIn K mainGlobals "COMPARE" = some (some (.int 4 t_COMPARE)))
    (v_PATH : PySem.W.nsIn K mainGlobals "PATH" = some (some (.int 5 t_PATH)))
    (v_ABOVE : PySem.W.nsIn K mainGlobals "ABOVE" = some (some (.int 6 t_ABOVE)))
    (v_BELOW : PySem.W.nsIn K mainGlobals "BELOW" = some (some (.int 7 t_BELOW)))
    (v_NO_PATH : PySem.W.nsIn K mainGlobals "NO_PATH" = some (some (.int (-6) t_NO_PATH)))
    (v_WRONG : PySem.W.nsIn K mainGlobals "WRONG" = some (some (.int (-22) t_WRONG)))
    (v_FULL : PySem.W.nsIn K mainGlobals "FULL" = some (some (.int (-28) t_FULL)))
    (v_MOST_FEATURES : PySem.W.nsIn K mainGlobals "MOST_FEATURES" = some (some (.int 6 t_MOST_FEATURES)))
    (v_MOST_ON : PySem.W.nsIn K mainGlobals "MOST_ON" = some (some (.int 3 t_MOST_ON)))
    (v_BETTER : PySem.W.nsIn K mainGlobals "BETTER" = some (some (.int 0 t_BETTER)))
    (v_WORSE : PySem.W.nsIn K mainGlobals "WORSE" = some (some (.int 1 t_WORSE)))
    (aS : PySem.W.nsIn K mainGlobals "CALL_SIZES" = some (some (.ref dS))) (lS : K.lookup dS = some { cls := .type "dict", data := .dict esS epS }) (hS : dChk esS.toList sizes = true) :
    ∃ fd : FuncData, (∀ (s : Shared) (us : List Value), us.length = (["calls"] : List Str).length → BindsTo s fd ⟨us, []⟩ ((["calls"] : List Str).zip us)) ∧ ∀ base : Heap, K.In base → base.Ns mainGlobals mg → FnOk P w K mg base CX0 10 fa fd ["calls"] (spAns K) := by
  have e := hfa.symm.trans (PySem.W.mg_of X G a_ans)
  cases e
  have T : Txt K mg CW CF := ⟨⟨pg_CW, hd_CW, po_CW, sa_CW⟩, ⟨pg_CF, hd_CF, po_CF, sa_CF⟩, nFeat, nOn, nWish, PySem.W.mg_of X G aCW, PySem.W.mg_of X G aCF, PySem.W.mg_none_of X G z_enumerate, PySem.W.mg_none_of X G z_len, PySem.W.mg_none_of X G z_set, PySem.W.mg_none_of X G z_tuple, PySem.W.mg_none_of X G z_all, PySem.W.mg_none_of X G z_min, PySem.W.mg_none_of X G z_list, PySem.W.mg_none_of X G z_range, int_of (PySem.W.mg_of X G v_BETTER), int_of (PySem.W.mg_of X G v_WORSE), int_of (PySem.W.mg_of X G v_NO_PATH), int_of (PySem.W.mg_of X G v_WRONG), int_of (PySem.W.mg_of X G v_FULL), int_of (PySem.W.mg_of X G v_MOST_FEATURES), int_of (PySem.W.mg_of X G v_MOST_ON)⟩
  have T2 : Txt2 K mg := ⟨⟨dS, PySem.W.mg_of X G aS, esS, epS, lS, hS⟩, int_of (PySem.W.mg_of X G v_BEGIN), int_of (PySem.W.mg_of X G v_FEATURE), int_of (PySem.W.mg_of X G v_BEST), int_of (PySem.W.mg_of X G v_WORST), int_of (PySem.W.mg_of X G v_COMPARE), int_of (PySem.W.mg_of X G v_PATH), int_of (PySem.W.mg_of X G v_ABOVE), int_of (PySem.W.mg_of X G v_BELOW)⟩
  have F_bit := fun_mk (st := sBit) l_bit c_bit k_bit
  have b_bit := F_bit.binds (ps := ["number", "place"]) fun _ _ _ _ _ _ us hl => match us, hl with | [_, _], _ => rfl
  have m_bit := PySem.W.mg_of X G a_bit
  have F_fin := fun_mk (st := sFInit) l_fin c_fin k_fin
  have b_fin := F_fin.binds (ps := ["self", "on", "wish"]) fun _ _ _ _ _ _ us hl => match us, hl with | [_, _, _], _ => rfl
  have m_fin : Meth K CF "__init__" f_fin := ⟨a_fin, i_fin, k_fin⟩
  have F_way := fun_mk (st := sWay) l_way c_way k_way
  have b_way := F_way.binds (ps := ["self", "thing"]) fun _ _ _ _ _ _ us hl => match us, hl with | [_, _], _ => rfl
  have m_way : Meth K CF "way" f_way := ⟨a_way, i_way, k_way⟩
  have F_wan := fun_mk (st := sWanted) l_wan c_wan k_wan
  have b_wan := F_wan.binds (ps := ["self", "thing"]) fun _ _ _ _ _ _ us hl => match us, hl with | [_, _], _ => rfl
  have m_wan : Meth K CF "wanted" f_wan := ⟨a_wan, i_wan, k_wan⟩
  have F_win := fun_mk (st := sWInit) l_win c_win k_win
  have b_win := F_win.binds (ps := ["self"]) fun _ _ _ _ _ _ us hl => match us, hl with | [_], _ => rfl
  have m_win : Meth K CW "__init__" f_win := ⟨a_win, i_win, k_win⟩
  have F_beg := fun_mk (st := sBegin) l_beg c_beg k_beg
  have b_beg := F_beg.binds (ps := ["self"]) fun _ _ _ _ _ _ us hl => match us, hl with | [_], _ => rfl
  have m_beg : Meth K CW "begin" f_beg := ⟨a_beg, i_beg, k_beg⟩
  have F_fea := fun_mk (st := sFeature) l_fea c_fea k_fea
  have b_fea := F_fea.binds (ps := ["self", "on", "wish"]) fun _ _ _ _ _ _ us hl => match us, hl with | [_, _, _], _ => rfl
  have m_fea : Meth K CW "feature" f_fea := ⟨a_fea, i_fea, k_fea⟩
  have F_may := fun_mk (st := sMay) l_may c_may k_may
  have b_may := F_may.binds (ps := ["self", "on"]) fun _ _ _ _ _ _ us hl => match us, hl with | [_, _], _ => rfl
  have m_may : Meth K CW "may_depend" f_may := ⟨a_may, i_may, k_may⟩
  have F_bes := fun_mk (st := sBest) l_bes c_bes k_bes
  have b_bes := F_bes.binds (ps := ["self", "given", "values"]) fun _ _ _ _ _ _ us hl => match us, hl with | [_, _, _], _ => rfl
  have m_bes : Meth K CW "best" f_bes := ⟨a_bes, i_bes, k_bes⟩
  have F_wor := fun_mk (st := sWorst) l_wor c_wor k_wor
  have b_wor := F_wor.binds (ps := ["self", "given", "values"]) fun _ _ _ _ _ _ us hl => match us, hl with | [_, _, _], _ => rfl
  have m_wor : Meth K CW "worst" f_wor := ⟨a_wor, i_wor, k_wor⟩
  have F_fil := fun_mk (st := sFilled) l_fil c_fil k_fil
  have b_fil := F_fil.binds (ps := ["self", "given", "values", "turned"]) fun _ _ _ _ _ _ us hl => match us, hl with | [_, _, _, _], _ => rfl
  have m_fil : Meth K CW "filled" f_fil := ⟨a_fil, i_fil, k_fil⟩
  have F_com := fun_mk (st := sCompare) l_com c_com k_com
  have b_com := F_com.binds (ps := ["self", "a", "b"]) fun _ _ _ _ _ _ us hl => match us, hl with | [_, _, _], _ => rfl
  have m_com : Meth K CW "compare" f_com := ⟨a_com, i_com, k_com⟩
  have F_pat := fun_mk (st := sPath) l_pat c_pat k_pat
  have b_pat := F_pat.binds (ps := ["self", "start_at", "end_at"]) fun _ _ _ _ _ _ us hl => match us, hl with | [_, _, _], _ => rfl
  have m_pat : Meth K CW "path" f_pat := ⟨a_pat, i_pat, k_pat⟩
  have F_cha := fun_mk (st := sChange) l_cha c_cha k_cha
  have b_cha := F_cha.binds (ps := ["self", "thing", "left"]) fun _ _ _ _ _ _ us hl => match us, hl with | [_, _, _], _ => rfl
  have m_cha : Meth K CW "next_change" f_cha := ⟨a_cha, i_cha, k_cha⟩
  have F_abo := fun_mk (st := sAbove) l_abo c_abo k_abo
  have b_abo := F_abo.binds (ps := ["self", "a"]) fun _ _ _ _ _ _ us hl => match us, hl with | [_, _], _ => rfl
  have m_abo : Meth K CW "above" f_abo := ⟨a_abo, i_abo, k_abo⟩
  have F_bel := fun_mk (st := sBelow) l_bel c_bel k_bel
  have b_bel := F_bel.binds (ps := ["self", "a"]) fun _ _ _ _ _ _ us hl => match us, hl with | [_, _], _ => rfl
  have m_bel : Meth K CW "below" f_bel := ⟨a_bel, i_bel, k_bel⟩
  have F_cou := fun_mk (st := sCount) l_cou c_cou k_cou
  have b_cou := F_cou.binds (ps := ["self", "a", "direction"]) fun _ _ _ _ _ _ us hl => match us, hl with | [_, _, _], _ => rfl
  have m_cou : Meth K CW "count_led_to" f_cou := ⟨a_cou, i_cou, k_cou⟩
  have F_ord := fun_mk (st := sOrder) l_ord c_ord k_ord
  have b_ord := F_ord.binds (ps := ["self"]) fun _ _ _ _ _ _ us hl => match us, hl with | [_], _ => rfl
  have m_ord : Meth K CW "order" f_ord := ⟨a_ord, i_ord, k_ord⟩
  have F_bey := fun_mk (st := sBeyond) l_bey c_bey k_bey
  have b_bey := F_bey.binds (ps := ["self", "number"]) fun _ _ _ _ _ _ us hl => match us, hl with | [_, _], _ => rfl
  have m_bey : Meth K CW "is_beyond" f_bey := ⟨a_bey, i_bey, k_bey⟩
  have F_dis := fun_mk (st := sDist) l_dis c_dis k_dis
  have b_dis := F_dis.binds (ps := ["self", "start", "direction"]) fun _ _ _ _ _ _ us hl => match us, hl with | [_, _, _], _ => rfl
  have m_dis : Meth K CW "distances" f_dis := ⟨a_dis, i_dis, k_dis⟩
  have F_nei := fun_mk (st := sNeigh) l_nei c_nei k_nei
  have b_nei := F_nei.binds (ps := ["self", "thing", "direction"]) fun _ _ _ _ _ _ us hl => match us, hl with | [_, _, _], _ => rfl
  have m_nei : Meth K CW "neighbours" f_nei := ⟨a_nei, i_nei, k_nei⟩
  have F_abl := fun_mk (st := sAble) l_abl c_abl k_abl
  have b_abl := F_abl.binds (ps := ["self", "thing", "direction"]) fun _ _ _ _ _ _ us hl => match us, hl with | [_, _, _], _ => rfl
  have m_abl : Meth K CW "changeable" f_abl := ⟨a_abl, i_abl, k_abl⟩
  have F_nex := fun_mk (st := sNext) l_nex c_nex k_nex
  have b_nex := F_nex.binds (ps := ["better", "came"]) fun _ _ _ _ _ _ us hl => match us, hl with | [_, _], _ => rfl
  have m_nex := PySem.W.mg_of X G a_nex
  have F_ans := fun_mk (st := sAnswers) l_ans c_ans k_ans
  have F_end := fun_mk (st := sEnd) l_end c_end k_end
  have b_end := F_end.binds (ps := ["calls", "start"]) fun _ _ _ _ _ _ us hl => match us, hl with | [_, _], _ => rfl
  have m_end := PySem.W.mg_of X G a_end
  have F_ato := fun_mk (st := sTo) l_ato c_ato k_ato
  have b_ato := F_ato.binds (ps := ["wishes", "call"]) fun _ _ _ _ _ _ us hl => match us, hl with | [_, _], _ => rfl
  have m_ato := PySem.W.mg_of X G a_ato
  refine ⟨PySem.W.fnOf "answers" "answers" (defArgs sAnswers) (defBody sAnswers) (defScope sAnswers) .none kv_ans dc_ans pm_ans an_ans cd_ans ct_ans, fun s us hu => match us, hu with | [_], _ => .of_eq rfl, fun base _ _ => ?_⟩
  have G_wan := ok_wanted (P := P) (w := w) (base := base) F_wan T F_bit b_bit m_bit F_way b_way m_way
  have G_fil := ok_filled F_fil T F_bit b_bit m_bit F_bey b_bey m_bey G_wan b_wan m_wan
  have G_bes := ok_best F_bes T G_fil b_fil m_fil
  have G_wor := ok_worst F_wor T G_fil b_fil m_fil
  have G_abl := ok_able F_abl T F_bit b_bit m_bit G_wan b_wan m_wan
  have G_nei := ok_neigh F_nei T G_abl b_abl m_abl
  have G_dis := ok_dist F_dis T G_nei b_nei m_nei
  have G_com := ok_compare F_com T F_bey b_bey m_bey G_dis b_dis m_dis
  have G_beg := ok_begin (P := P) (w := w) (base := base) F_beg T
  have G_fea := ok_feature (P := P) (w := w) (base := base) F_fea T F_may b_may m_may ⟨mk_CF, a_fin, i_fin, kc_CF⟩ F_fin b_fin
  have G_cou := ok_count F_cou T F_bey b_bey m_bey G_dis b_dis m_dis
  have G_abo := ok_above F_abo T G_cou b_cou m_cou
  have G_bel := ok_below F_bel T G_cou b_cou m_cou
  have G_cha := ok_change F_cha T G_abl b_abl m_abl
  have G_pat := ok_path F_pat T F_bey b_bey m_bey G_dis b_dis m_dis G_cha b_cha m_cha
  have G_ord := ok_order F_ord T G_nei b_nei m_nei F_nex b_nex m_nex
  have G_ato := ok_to F_ato T T2 G_beg b_beg m_beg G_fea b_fea m_fea G_bes b_bes m_bes G_wor b_wor m_wor G_com b_com m_com G_pat b_pat m_pat G_abo b_abo m_abo G_bel b_bel m_bel G_ord b_ord m_ord
  have G_end := ok_end (P := P) (w := w) (base := base) F_end T2
  exact ok_answers (kT := 7) F_ans T ⟨mk_CW, a_win, i_win, kc_CW⟩ F_win b_win G_end b_end m_end k_end G_ato b_ato m_ato k_ato
end Ws
end
section
section
set_option Elab.async false
set_option linter.all false
set_option maxRecDepth 100000
set_option maxHeartbeats 2000000
namespace L2
open PySem PySem.Spec PyProof.Rows
open PySem.W (WData Codec OpenSpec Well WellAll ReadsW ReadsAllW)
/-! ### an answer as data -/
mutual
/-- x stands for the datum d, lists and tuples all the way -/
inductive Dw (K : PySem.W.Frag) (H : Hp) : V → WData → Prop
  | non : Dw K H .non .none
  | bl (b : Bool) : Dw K H (.bl b) (.bool b)
  | int (i : Int) : Dw K H (.int i) (.int i)
  | str (x : Str) : Dw K H (.str x) (.str x)
  | byt (b : Array UInt8) : Dw K H (.byt b) (.bytes b.toList)
  | lst {a : Addr} {xs : List V} {ds : List WData} : SqL K H a xs → DwAll K H xs ds → Dw K H (.ref a) (.list ds)
  | tup {a : Addr} {xs : List V} {ds : List WData} : SqT K H a xs → DwAll K H xs ds → Dw K H (.ref a) (.tuple ds)
inductive DwAll (K : PySem.W.Frag) (H : Hp) : List V → List WData → Prop
  | nil : DwAll K H [] []
  | cons {v : V} {vs : List V} {d : WData} {ds : List WData} : Dw K H v d → DwAll K H vs ds → DwAll K H (v :: vs) (d :: ds)
end
theorem dw_ints {K : PySem.W.Frag} {H : Hp} : ∀ ns : List Int, DwAll K H (ns.map V.int) (ns.map WData.int)
  | [] => .nil
  | n :: r => .cons (.int n) (dw_ints r)
theorem ints_dw {K : PySem.W.Frag} {H : Hp} : ∀ (ns : List Int) (xs : List V), DwAll K H xs (ns.map WData.int) → xs = ns.map V.int
  | [], xs, h => by
    cases h
    rfl
  | n :: r, xs, h => by
    cases h with
    | cons h1 h2 =>
      cases h1
      rw [ints_dw r _ h2] <;> rfl
section
variable {P : Program} {w : World} {K : PySem.W.Frag} {H : Hp} {h : Heap} {R : PySem.W.WRecords} {cl : Str → Option Addr}
theorem sqL_at {a : Addr} {xs : List V} (hok : HOk P w H h) (KX : K.In h) (q : SqL K H a xs) : ∃ (its : List Value) (o : Obj) (n : Nat), Vals xs its ∧ h.get? a = some o ∧ o.cls = .type "list" ∧ o.data = .seq its.toArray n := by
  rcases q with q | ⟨o, its, n, e, hc, _, hd, _, hv⟩
  · obtain ⟨_, its, n, hv, e⟩ := (show ObjOk P w H h a (.lst xs) from q.ok hok)
    exact ⟨its, _, n, hv, e, rfl, rfl⟩
  · exact ⟨its.toList, o, n, hv, KX _ _ e, hc, by simp [hd]⟩
theorem sqT_at {a : Addr} {xs : List V} (hok : HOk P w H h) (KX : K.In h) (q : SqT K H a xs) : ∃ (its : List Value) (o : Obj) (n : Nat), Vals xs its ∧ h.get? a = some o ∧ o.cls = .type "tuple" ∧ o.data = .seq its.toArray n := by
  rcases q with q | ⟨o, its, n, e, hc, hd, _, hv⟩
  · obtain ⟨_, its, hv, o, e, hc, n, hd⟩ := (show ObjOk P w H h a (.tup xs) from q.ok hok)
    exact ⟨its, o, n, hv, e, hc, hd⟩
  · exact ⟨its.toList, o, n, hv, KX _ _ e, hc, by simp [hd]⟩
mutual
theorem Dw.reads (hok : HOk P w H h) (KX : K.In h) : ∀ (d : WData) (v : V) (u : Value), Dw K H v d → RelV v u → ∃ as, ReadsW R cl h u d as
  | .none, _, _, x, r => by
    cases x
    cases r
    exact ⟨_, ReadsW.none⟩
  | .bool b, _, _, x, r => by
    cases x
    cases r
    exact ⟨_, ReadsW.bool b⟩
  | .int i, _, _, x, r => by
    cases x
    obtain ⟨t, rfl⟩ := r
    exact ⟨_, ReadsW.int i t⟩
  | .str s, _, _, x, r => by
    cases x
    obtain ⟨t, rfl⟩ := r
    exact ⟨_, ReadsW.str s t⟩
  | .bytes b, _, _, x, r => by
    cases x
    obtain ⟨t, rfl⟩ := r
    exact ⟨_, ReadsW.bytes _ t⟩
  | .list ds, _, _, x, r => by
    cases x with
    | lst hs ha =>
      cases r
      obtain ⟨its, o, n, rv, ho, hc, hd⟩ := sqL_at hok KX hs
      obtain ⟨as, hr⟩ := Dw.readsAll hok KX ds _ its ha rv
      exact ⟨_, ReadsW.list ho hc hd hr⟩
  | .tuple ds, _, _, x, r => by
    cases x with
    | tup hs ha =>
      cases r
      obtain ⟨its, o, n, rv, ho, hc, hd⟩ := sqT_at hok KX hs
      obtain ⟨as, hr⟩ := Dw.readsAll hok KX ds _ its ha rv
      exact ⟨_, ReadsW.tuple ho hc hd hr⟩
  | .float _, _, _, x, _ => by cases x
  | .dict _, _, _, x, _ => by cases x
  | .bytearray _, _, _, x, _ => by cases x
  | .set _, _, _, x, _ => by cases x
  | .frozenset _, _, _, x, _ => by cases x
  | .obj _ _, _, _, x, _ => by cases x
theorem Dw.readsAll (hok : HOk P w H h) (KX : K.In h) : ∀ (ds : List WData) (vs : List V) (us : List Value), DwAll K H vs ds → Vals vs us → ∃ as, ReadsAllW R cl h us ds as
  | [], _, _, x, r => by
    cases x
    cases r
    exact ⟨_, ReadsAllW.nil⟩
  | d :: ds, _, _, x, r => by
    cases x with
    | cons h1 h2 =>
      cases r with
      | cons r1 r2 =>
        obtain ⟨as, q1⟩ := Dw.reads hok KX d _ _ h1 r1
        obtain ⟨bs, q2⟩ := Dw.readsAll hok KX ds _ _ h2 r2
        exact ⟨_, ReadsAllW.cons q1 q2⟩
end
end
/-! ### the arguments -/
mutual
/-- data that a codec tells -/
def plW : WData → Bool
  | .none => true
  | .bool _ => true
  | .int _ => true
  | .str _ => true
  | .bytes _ => true
  | .list xs => plWs xs
  | .tuple xs => plWs xs
  | _ => false
def plWs : List WData → Bool
  | [] => true
  | x :: r => plW x && plWs r
end
theorem plWs_map {α : Type} {f : α → WData} (h : ∀ a, plW (f a) = true) : ∀ l : List α, plWs (l.map f) = true
  | [] => rfl
  | x :: r => by
    show (plW (f x) && plWs (r.map f)) = true
    rw [h x, plWs_map h r] <;> rfl
theorem pl_enc : ∀ (c : Codec) (a : c.denote), plW (c.enc a) = true
  | .unit, _ => rfl
  | .bool, _ => rfl
  | .int _ _, _ => rfl
  | .nat _ _, _ => rfl
  | .u8, _ => rfl
  | .bytes _ _, _ => rfl
  | .text _ _ _ _, _ => rfl
  | .list _ _ c, a => plWs_map (fun x => pl_enc c x) a
  | .pair c d, a => by
    show (plW (c.enc a.1) && (plW (d.enc a.2) && true)) = true
    rw [pl_enc c a.1, pl_enc d a.2] <;> rfl
  | .triple c d e, a => by
    show (plW (c.enc a.1) && (plW (d.enc a.2.1) && (plW (e.enc a.2.2) && true))) = true
    rw [pl_enc c a.1, pl_enc d a.2.1, pl_enc e a.2.2] <;> rfl
  | .option c, none => rfl
  | .option c, some x => pl_enc c x
theorem pl_encAll : ∀ (cs : List Codec) (a : Codec.denoteAll cs), plWs (Codec.encAll cs a) = true
  | [], _ => rfl
  | c :: cs, a => by
    show (plW (c.enc a.1) && plWs (Codec.encAll cs a.2)) = true
    rw [pl_enc c a.1, pl_encAll cs a.2] <;> rfl
theorem weight_mem : ∀ {xs : List WData} {d : WData}, d ∈ xs → d.weight ≤ WData.weightAll xs
  | [], d, h => absurd h (by simp)
  | x :: r, d, h => by
    show d.weight ≤ x.weight + 1 + WData.weightAll r
    rcases List.mem_cons.mp h with e | m
    · rw [e]
      omega
    · have z := weight_mem m
      omega
def toV : Value → V
  | .none => .non
  | .bool b => .bl b
  | .int i _ => .int i
  | .str x _ => .str x
  | .bytes b _ => .byt b
  | .ref a => .ref a
  | _ => .non
/-- a value of the arguments, its objects among A -/
def OkU (A : List Addr) : Value → Prop
  | .none => True
  | .bool _ => True
  | .int _ _ => True
  | .str _ _ => True
  | .bytes _ _ => True
  | .ref a => a ∈ A
  | _ => False
theorem OkU.mono {A B : List Addr} (h : ∀ a ∈ A, a ∈ B) : ∀ {u : Value}, OkU A u → OkU B u := fun {u} x => by
  cases u with
  | ref a => exact h a x
  | none => trivial
  | bool b => trivial
  | int i t => trivial
  | str s t => trivial
  | bytes b t => trivial
  | _ => exact False.elim x
theorem relV_toV {A : List Addr} {u : Value} (x : OkU A u) : RelV (toV u) u := by
  cases u with
  | ref a => rfl
  | none => rfl
  | bool b => rfl
  | int i t => exact ⟨t, rfl⟩
  | str s t => exact ⟨t, rfl⟩
  | bytes b t => exact ⟨t, rfl⟩
  | _ => exact False.elim x
theorem vals_toV {A : List Addr} : ∀ {vs : List Value}, (∀ u ∈ vs, OkU A u) → Vals (vs.map toV) vs
  | [], _ => .nil
  | u :: r, h => .cons (relV_toV (h u (List.mem_cons_self ..))) (vals_toV fun x hx => h x (List.mem_cons_of_mem _ hx))
/-- an object of the arguments -/
def ArgOb (h : Heap) (A : List Addr) (a : Addr) : Prop := ∃ vs : List Value, vs.length ≤ sizeLine ∧ (∀ u ∈ vs, OkU A u) ∧
  (h.get? a = some { cls := .type "list", data := .seq vs.toArray } ∨ h.get? a = some { cls := .type "tuple", data := .seq vs.toArray })
theorem ArgOb.mono {h : Heap} {A B : List Addr} {a : Addr} (k : ∀ a ∈ A, a ∈ B) (x : ArgOb h A a) : ArgOb h B a := by
  obtain ⟨vs, h1, h2, h3⟩ := x
  exact ⟨vs, h1, fun u hu => (h2 u hu).mono k, h3⟩
theorem wellAll_len {P : Params} {h : Heap} : ∀ {vs : List Value} {ds : List WData}, WellAll P h vs ds → vs.length = ds.length
  | _, _, .nil => rfl
  | _, _, .cons _ b => by
    show _ + 1 = _ + 1
    rw [wellAll_len b]
theorem well_list {P : Params} {h : Heap} {v : Value} {ds : List WData} (x : Well P h v (.list ds)) : ∃ (a : Addr) (vs : List Value), v = .ref a ∧ h.get? a = some { cls := .type "list", data := .seq vs.toArray } ∧ WellAll P h vs ds := by
  cases x with
  | list ho hall => exact ⟨_, _, rfl, ho, hall⟩
theorem well_tuple {P : Params} {h : Heap} {v : Value} {ds : List WData} (x : Well P h v (.tuple ds)) : ∃ (a : Addr) (vs : List Value), v = .ref a ∧ h.get? a = some { cls := .type "tuple", data := .seq vs.toArray } ∧ WellAll P h vs ds := by
  cases x with
  | tuple ho hall => exact ⟨_, _, rfl, ho, hall⟩
theorem well_cons {P : Params} {h : Heap} {us : List Value} {d : WData} {ds : List WData} (x : WellAll P h us (d :: ds)) : ∃ (v : Value) (vs : List Value), us = v :: vs ∧ Well P h v d ∧ WellAll P h vs ds := by
  cases x with
  | cons a b => exact ⟨_, _, rfl, a, b⟩
theorem line_of {n : Nat} (h : n ≤ 1048576) : n ≤ sizeLine := Nat.le_trans h (by decide)
section
variable {P : Params} {h : Heap}
mutual
theorem area_one : ∀ (d : WData) (v : Value), Well P h v d → plW d = true → d.weight ≤ 1048576 → ∃ A : List Addr, OkU A v ∧ ∀ a ∈ A, ArgOb h A a
  | .none, _, x, _, _ => by
    cases x
    exact ⟨[], trivial, fun a m => absurd m (by simp)⟩
  | .bool b, _, x, _, _ => by
    cases x
    exact ⟨[], trivial, fun a m => absurd m (by simp)⟩
  | .int i, _, x, _, _ => by
    cases x
    exact ⟨[], trivial, fun a m => absurd m (by simp)⟩
  | .str s, _, x, _, _ => by
    cases x
    exact ⟨[], trivial, fun a m => absurd m (by simp)⟩
  | .bytes b, _, x, _, _ => by
    cases x
    exact ⟨[], trivial, fun a m => absurd m (by simp)⟩
  | .list ds, _, x, p, z => by
    obtain ⟨a, vs, rfl, ho, hall⟩ := well_list x
    have z2 : WData.weightAll ds ≤ 1048576 := z
    obtain ⟨A, h1, h2⟩ := area_all ds _ hall p fun d hd => Nat.le_trans (weight_mem hd) z2
    have k : ∀ b ∈ A, b ∈ a :: A := fun b hb => List.mem_cons_of_mem _ hb
    refine ⟨a :: A, List.mem_cons_self .., fun b hb => ?_⟩
    rcases List.mem_cons.mp hb with e | m
    · rw [e]
      exact ⟨vs, line_of (by rw [wellAll_len hall]; exact Nat.le_trans (PySem.W.length_le_weightAllW ds) z2), fun u hu => (h1 u hu).mono k, .inl ho⟩
    · exact (h2 b m).mono k
  | .tuple ds, _, x, p, z => by
    obtain ⟨a, vs, rfl, ho, hall⟩ := well_tuple x
    have z2 : WData.weightAll ds ≤ 1048576 := z
    obtain ⟨A, h1, h2⟩ := area_all ds _ hall p fun d hd => Nat.le_trans (weight_mem hd) z2
    have k : ∀ b ∈ A, b ∈ a :: A := fun b hb => List.mem_cons_of_mem _ hb
    refine ⟨a :: A, List.mem_cons_self .., fun b hb => ?_⟩
    rcases List.mem_cons.mp hb with e | m
    · rw [e]
      exact ⟨vs, line_of (by rw [wellAll_len hall]; exact Nat.le_trans (PySem.W.length_le_weightAllW ds) z2), fun u hu => (h1 u hu).mono k, .inr ho⟩
    · exact (h2 b m).mono k
  | .float _, _, _, p, _ => Bool.noConfusion (show false = true from p)
  | .dict _, _, _, p, _ => Bool.noConfusion (show false = true from p)
  | .bytearray _, _, _, p, _ => Bool.noConfusion (show false = true from p)
  | .set _, _, _, p, _ => Bool.noConfusion (show false = true from p)
  | .frozenset _, _, _, p, _ => Bool.noConfusion (show false = true from p)
  | .obj _ _, _, _, p, _ => Bool.noConfusion (show false = true from p)
theorem area_all : ∀ (ds : List WData) (vs : List Value), WellAll P h vs ds → plWs ds = true → (∀ d ∈ ds, d.weight ≤ 1048576) → ∃ A : List Addr, (∀ u ∈ vs, OkU A u) ∧ ∀ a ∈ A, ArgOb h A a
  | [], _, x, _, _ => by
    cases x
    exact ⟨[], fun u m => absurd m (by simp), fun a m => absurd m (by simp)⟩
  | d :: ds, _, x, p, z => by
    obtain ⟨v, vs, rfl, x1, x2⟩ := well_cons x
    have q : plW d = true ∧ plWs ds = true := Bool.and_eq_true_iff.mp p
    obtain ⟨A, a1, a2⟩ := area_one d v x1 q.1 (z d (List.mem_cons_self ..))
    obtain ⟨B, b1, b2⟩ := area_all ds vs x2 q.2 fun e he => z e (List.mem_cons_of_mem _ he)
    have kA : ∀ b ∈ A, b ∈ A ++ B := fun b hb => List.mem_append.mpr (.inl hb)
    have kB : ∀ b ∈ B, b ∈ A ++ B := fun b hb => List.mem_append.mpr (.inr hb)
    refine ⟨A ++ B, fun u hu => ?_, fun b hb => ?_⟩
    · rcases List.mem_cons.mp hu with e | m
      · rw [e]
        exact a1.mono kA
      · exact (b1 u m).mono kB
    · rcases List.mem_append.mp hb with m | m
      · exact (a2 b m).mono kA
      · exact (b2 b m).mono kB
end
end
/-- what is tracked of an argument's object -/
def hoOf (o : Obj) : Option HO := match o.data with
  | .seq vs _ => if (o.cls == Value.type "list") = true then some (.frz o (.lst (vs.toList.map toV))) else some (.frz o (.tup (vs.toList.map toV)))
  | _ => none
def argH (K : PySem.W.Frag) (h : Heap) (A : List Addr) : Hp := fun b => if b ∈ A then (if (K.lookup b).isNone = true then (h.get? b).bind hoOf else none) else none
/-- nothing is tracked but what is known to the object -/
def OnlyF (H : Hp) : Prop := ∀ b, H b = none ∨ ∃ o u, H b = some (.frz o u)
theorem hoOf_lst (vs : List Value) : hoOf { cls := .type "list", data := .seq vs.toArray } = some (.frz { cls := .type "list", data := .seq vs.toArray } (.lst (vs.map toV))) := by
  show (if (Value.type "list" == Value.type "list") = true then some (HO.frz { cls := .type "list", data := .seq vs.toArray } (.lst (vs.toArray.toList.map toV))) else some (HO.frz { cls := .type "list", data := .seq vs.toArray } (.tup (vs.toArray.toList.map toV)))) = _
  rw [if_pos (beq_self_eq_true _)]
theorem hoOf_tup (vs : List Value) : hoOf { cls := .type "tuple", data := .seq vs.toArray } = some (.frz { cls := .type "tuple", data := .seq vs.toArray } (.tup (vs.map toV))) := by
  show (if (Value.type "tuple" == Value.type "list") = true then some (HO.frz { cls := .type "tuple", data := .seq vs.toArray } (.lst (vs.toArray.toList.map toV))) else some (HO.frz { cls := .type "tuple", data := .seq vs.toArray } (.tup (vs.toArray.toList.map toV)))) = _
  rw [if_neg (by decide)]
section
variable {P : Program} {w : World} {K : PySem.W.Frag} {h : Heap} {A : List Addr}
theorem argH_at {b : Addr} {o : Obj} (hb : b ∈ A) (hk : K.lookup b = none) (e : h.get? b = some o) : argH K h A b = hoOf o := by
  unfold argH
  rw [if_pos hb, hk, if_pos (show (none : Option Obj).isNone = true from rfl), e] <;> rfl
theorem of_argH {b : Addr} {u : HO} (q : argH K h A b = some u) : b ∈ A ∧ K.lookup b = none := by
  unfold argH at q
  by_cases hb : b ∈ A
  · rw [if_pos hb] at q
    cases hk : K.lookup b with
    | none => exact ⟨hb, rfl⟩
    | some o =>
      rw [hk, if_neg (by simp)] at q
      cases q
  · rw [if_neg hb] at q
    cases q
/-- what stands tracked -/
theorem argH_is (ar : ∀ a ∈ A, ArgOb h A a) {b : Addr} {u : HO} (q : argH K h A b = some u) : K.lookup b = none ∧ ∃ vs : List Value, vs.length ≤ sizeLine ∧ (∀ u ∈ vs, OkU A u) ∧
    ((h.get? b = some { cls := .type "list", data := .seq vs.toArray } ∧ u = .frz { cls := .type "list", data := .seq vs.toArray } (.lst (vs.map toV))) ∨
     (h.get? b = some { cls := .type "tuple", data := .seq vs.toArray } ∧ u = .frz { cls := .type "tuple", data := .seq vs.toArray } (.tup (vs.map toV)))) := by
  obtain ⟨hb, hk⟩ := of_argH q
  obtain ⟨vs, h1, h2, h3⟩ := ar b hb
  refine ⟨hk, vs, h1, h2, ?_⟩
  rcases h3 with e | e
  · rw [argH_at hb hk e, hoOf_lst] at q
    exact .inl ⟨e, (Option.some.inj q).symm⟩
  · rw [argH_at hb hk e, hoOf_tup] at q
    exact .inr ⟨e, (Option.some.inj q).symm⟩
theorem argH_only (ar : ∀ a ∈ A, ArgOb h A a) : OnlyF (argH K h A) := fun b => by
  cases q : argH K h A b with
  | none => exact .inl rfl
  | some u =>
    obtain ⟨_, vs, _, _, ⟨_, e⟩ | ⟨_, e⟩⟩ := argH_is ar q
    · exact .inr ⟨_, _, by rw [e]⟩
    · exact .inr ⟨_, _, by rw [e]⟩
theorem argH_ok (ar : ∀ a ∈ A, ArgOb h A a) : HOk P w (argH K h A) h := fun b u q => by
  obtain ⟨_, vs, h1, h2, ⟨e, rfl⟩ | ⟨e, rfl⟩⟩ := argH_is ar q
  · exact ⟨e, by rw [List.length_map]; exact h1, vs, _, vals_toV h2, e⟩
  · exact ⟨e, by rw [List.length_map]; exact h1, vs, vals_toV h2, _, e, rfl, _, rfl⟩
theorem seq_inj {c c' : Value} {vs us : List Value} (e : (some { cls := c, data := .seq vs.toArray } : Option Obj) = some { cls := c', data := .seq us.toArray }) : c = c' ∧ vs = us := by
  have e1 := Option.some.inj e
  have e2 : c = c' := congrArg Obj.cls e1
  have e3 : Data.seq vs.toArray = Data.seq us.toArray := congrArg Obj.data e1
  injection e3 with e4
  refine ⟨e2, ?_⟩
  have e5 := congrArg Array.toList e4
  simpa using e5
/-- a list argument -/
theorem argL (KX : K.In h) (ar : ∀ a ∈ A, ArgOb h A a) {a : Addr} {vs : List Value} (ha : a ∈ A) (e : h.get? a = some { cls := .type "list", data := .seq vs.toArray }) : (∀ u ∈ vs, OkU A u) ∧ SqL K (argH K h A) a (vs.map toV) := by
  obtain ⟨us, h1, h2, h3⟩ := ar a ha
  have hu : us = vs := by
    rcases h3 with q | q
    · rw [e] at q
      exact (seq_inj q).2.symm
    · rw [e] at q
      exact absurd (Value.type.inj (seq_inj q).1) (by decide)
  subst hu
  refine ⟨h2, ?_⟩
  cases hk : K.lookup a with
  | none => exact .inl (.inr ⟨_, by rw [argH_at ha hk e, hoOf_lst]⟩)
  | some o =>
    have e2 := KX a o hk
    rw [e] at e2
    obtain rfl := Option.some.inj e2
    exact .inr ⟨_, us.toArray, _, hk, rfl, rfl, rfl, by rw [List.size_toArray]; exact h1, by simpa using vals_toV h2⟩
theorem argT (KX : K.In h) (ar : ∀ a ∈ A, ArgOb h A a) {a : Addr} {vs : List Value} (ha : a ∈ A) (e : h.get? a = some { cls := .type "tuple", data := .seq vs.toArray }) : (∀ u ∈ vs, OkU A u) ∧ SqT K (argH K h A) a (vs.map toV) := by
  obtain ⟨us, h1, h2, h3⟩ := ar a ha
  have hu : us = vs := by
    rcases h3 with q | q
    · rw [e] at q
      exact absurd (Value.type.inj (seq_inj q).1) (by decide)
    · rw [e] at q
      exact (seq_inj q).2.symm
  subst hu
  refine ⟨h2, ?_⟩
  cases hk : K.lookup a with
  | none => exact .inl (.inr ⟨_, by rw [argH_at ha hk e, hoOf_tup]⟩)
  | some o =>
    have e2 := KX a o hk
    rw [e] at e2
    obtain rfl := Option.some.inj e2
    exact .inr ⟨_, us.toArray, _, hk, rfl, rfl, by rw [List.size_toArray]; exact h1, by simpa using vals_toV h2⟩
mutual
theorem dw_one {Pm : Params} (KX : K.In h) (ar : ∀ a ∈ A, ArgOb h A a) : ∀ (d : WData) (v : Value), Well Pm h v d → plW d = true → OkU A v → Dw K (argH K h A) (toV v) d
  | .none, _, x, _, _ => by
    cases x
    exact .non
  | .bool b, _, x, _, _ => by
    cases x
    exact .bl b
  | .int i, _, x, _, _ => by
    cases x
    exact .int i
  | .str s, _, x, _, _ => by
    cases x
    exact .str s
  | .bytes b, _, x, _, _ => by
    cases x
    have z := Dw.byt (K := K) (H := argH K h A) b.toArray
    exact z
  | .list ds, _, x, p, hu => by
    obtain ⟨a, vs, rfl, ho, hall⟩ := well_list x
    obtain ⟨h2, hs⟩ := argL KX ar hu ho
    exact .lst hs (dw_all KX ar ds _ hall p h2)
  | .tuple ds, _, x, p, hu => by
    obtain ⟨a, vs, rfl, ho, hall⟩ := well_tuple x
    obtain ⟨h2, hs⟩ := argT KX ar hu ho
    exact .tup hs (dw_all KX ar ds _ hall p h2)
  | .float _, _, _, p, _ => Bool.noConfusion (show false = true from p)
  | .dict _, _, _, p, _ => Bool.noConfusion (show false = true from p)
  | .bytearray _, _, _, p, _ => Bool.noConfusion (show false = true from p)
  | .set _, _, _, p, _ => Bool.noConfusion (show false = true from p)
  | .frozenset _, _, _, p, _ => Bool.noConfusion (show false = true from p)
  | .obj _ _, _, _, p, _ => Bool.noConfusion (show false = true from p)
theorem dw_all {Pm : Params} (KX : K.In h) (ar : ∀ a ∈ A, ArgOb h A a) : ∀ (ds : List WData) (vs : List Value), WellAll Pm h vs ds → plWs ds = true → (∀ u ∈ vs, OkU A u) → DwAll K (argH K h A) (vs.map toV) ds
  | [], _, x, _, _ => by
    cases x
    exact .nil
  | d :: ds, _, x, p, hu => by
    obtain ⟨v, vs, rfl, x1, x2⟩ := well_cons x
    have q : plW d = true ∧ plWs ds = true := Bool.and_eq_true_iff.mp p
    exact .cons (dw_one KX ar d v x1 q.1 (hu _ (List.mem_cons_self ..))) (dw_all KX ar ds vs x2 q.2 fun u m => hu u (List.mem_cons_of_mem _ m))
end
end
/-! ### the call -/
theorem spec_call {P : Program} {w : World} {K : PySem.W.Frag} {mg mb : Str → Option Value} {CX : CXT} {k : Nat} {fa : Addr} {fd : FuncData} {ps : List Str} {sp : Sp} {s₁ : Shared} {vals : List Value} {ds : List WData} {R : PySem.W.WRecords} {cl : Str → Option Addr} {d0 : WData}
    (KX : K.In s₁.heap) (hns : s₁.heap.Ns mainGlobals mg) (hb : s₁.heap.Ns builtinsNs mb) (hbb : ∀ x : Str, x ≠ "__name__" → mb x = bootBuiltins x) (hlim : s₁.heap.NoLimit) (hg : s₁.gens = #[])
    (hwl : WellAll w.params s₁.heap vals ds) (hpl : plWs ds = true) (hwt : ∀ d ∈ ds, d.weight ≤ 1048576) (hr : Room k callerA)
    (F : ∀ base : Heap, K.In base → base.Ns mainGlobals mg → FnOk P w K mg base CX k fa fd ps sp) (hbind : ∀ (s : Shared) (us : List Value), us.length = ps.length → BindsTo s fd ⟨us, []⟩ (ps.zip us)) (hlen : ds.length = ps.length)
    (hsp : ∀ (H : Hp) (xs : List V), OnlyF H → DwAll K H xs ds → sp xs H (fun v H' => Dw K H' v d0) fun _ _ _ => False)
    (hCX : ∀ H e s', CX [] H s₁ (fun _ _ _ => False) e s' → False) :
    codeAny (model P w) callerA (.call (.ref fa) ⟨vals, []⟩) (fun r s' => ∃ u as, r = .ok (.ret u) ∧ ReadsW R cl s'.heap u d0 as ∧ OldK s₁.heap s'.heap ∧ s'.os = s₁.os ∧ AllBare s'.gens) s₁ := by
  obtain ⟨A, ho, ar⟩ := area_all ds vals hwl hpl hwt
  have hO : OnlyF (argH K s₁.heap A) := argH_only ar
  have hok : HOk P w (argH K s₁.heap A) s₁.heap := argH_ok ar
  have hS := dw_all KX ar ds vals hwl hpl ho
  have hV := vals_toV ho
  have hK : ∀ b u, argH K s₁.heap A b = some u → K.lookup b = none := fun b u q => (argH_is ar q).1
  have noA : ∀ {b : Addr} {o : Obj} {es : Array DictEntry} {ep : Nat}, s₁.heap.get? b = some o → o.data = .dict es ep → argH K s₁.heap A b = none := fun {b o es ep} e d => by
    cases q : argH K s₁.heap A b with
    | none => rfl
    | some u =>
      obtain ⟨_, vs, _, _, ⟨e2, _⟩ | ⟨e2, _⟩⟩ := argH_is ar q
      · rw [e2] at e
        cases e
        have d' : Data.seq vs.toArray _ = Data.dict es ep := d
        cases d'
      · rw [e2] at e
        cases e
        have d' : Data.seq vs.toArray _ = Data.dict es ep := d
        cases d'
  generalize argH K s₁.heap A = H at hO hok hS hK noA
  have base_of : ∀ {b : Addr} {o : Obj}, s₁.heap.get? b = some o → H b = none → (hidT s₁.heap H).get? b = some o := fun e n => hidT_get e n
  have nsK : ∀ {b : Addr} {m : Str → Option Value}, s₁.heap.Ns b m → (hidT s₁.heap H).Ns b m := fun {b m} ⟨o, es, ep, e, d, r⟩ => ⟨o, es, ep, base_of e (noA e d), d, r⟩
  have nK : ∀ b o, K.lookup b = some o → H b = none := fun b o e => by
    cases q : H b with
    | none => rfl
    | some u =>
      rw [hK b u q] at e
      cases e
  have hKb : K.In (hidT s₁.heap H) := fun b o e => base_of (KX b o e) (nK b o e)
  have hM : Mod K mg (hidT s₁.heap H) := ⟨hKb, nsK hns, ⟨mb, nsK hb, hbb⟩, let ⟨mc, h1, h2⟩ := hlim; ⟨mc, nsK h1, h2⟩⟩
  have e0 : Env0 P w K mg (hidT s₁.heap H) callerA [] s₁ H := ⟨rfl, hM, fun b o e => of_hidT e, Nat.le_of_eq (hidT_size _ _), trivial, fun b hb => absurd (show b ∈ ([] : List Addr) from hb) (by simp), hok, .of_eq hg⟩
  have hl : vals.length = ps.length := by rw [wellAll_len hwl]; exact hlen
  refine codeAny_mono ((F _ hKb (nsK hns)).run callerA [] s₁ H ⟨vals, []⟩ vals (vals.map toV) _ _ hr e0 (hbind s₁ vals hl) hV (hsp H _ hO hS)) fun r s' x => ?_
  cases r with
  | error e => exact (hCX H e s' x).elim
  | ok fl =>
    cases fl with
    | next => exact False.elim x
    | brk => exact False.elim x
    | cont => exact False.elim x
    | ret u =>
      obtain ⟨v, H', os, bare, un, hok', r', q⟩ := x
      have kept : ∀ b o, s₁.heap.get? b = some o → s'.heap.get? b = some o := fun b o e => by
        cases q2 : H b with
        | none => exact un.keep b o e q2 (by intro z; exact absurd (show b ∈ ([] : List Addr) from z) (by simp)) (by simp)
        | some u2 =>
          rcases hO b with z | ⟨ob, u3, z⟩
          · rw [q2] at z
            cases z
          · have z2 := un.frzs b ob _ z
            obtain ⟨e1, _⟩ := hok b _ z
            obtain ⟨e2, _⟩ := hok' b _ z2
            rw [e] at e1
            cases e1
            exact e2
      have KX' : K.In s'.heap := fun b o e => kept b o (KX b o e)
      obtain ⟨as, hrd⟩ := Dw.reads (R := R) (cl := cl) hok' KX' d0 v u q r'
      exact ⟨u, as, rfl, hrd, OldK.of_keep kept, os, bare⟩
/-! ### the row -/
theorem layable_weight {ds : List WData} (h : WData.layableAll ds = true) : ∀ d ∈ ds, d.weight ≤ 1048576 := fun d hd =>
  (PySem.W.layableW_iff.mp (List.all_eq_true.mp h d hd)).2.2
theorem encAll_len : ∀ (cs : List Codec) (a : Codec.denoteAll cs), (Codec.encAll cs a).length = cs.length
  | [], _ => rfl
  | c :: cs, a => by
    show (Codec.encAll cs a.2).length + 1 = cs.length + 1
    rw [encAll_len cs a.2]
/-- the goal that k_headS leaves (case hc), from the promise of the row's def: whatever the arguments that the codecs let and the row asks for, the def gives what stands for enc (f ..) -/
theorem walk_spec {r : OpenSpec} {k : Nat} {q : Program} {loose : List Str} {XP : (Str → Option Value) → Heap → Prop} {YP : World → Heap → Prop} {d : DefRec} {K : Params → PySem.W.Frag} {CX : World → CXT} {ps : List Str} {sp : World → Sp}
    (hwell : r.wellSaid = true) (hdf : d.params.defaults = []) (hlen : r.args.length = ps.length) (hr : Room k callerA)
    (hY : ∀ (w : World) (h : Heap), YP w h → (K w.params).In h)
    (F : ∀ (w : World) (mg : Str → Option Value) (fa : Addr) (h : Heap), YP w h → (K w.params).In h → h.Ns mainGlobals mg → mg d.name = some (.ref fa) →
      ∃ fd : FuncData, (∀ (s : Shared) (us : List Value), us.length = ps.length → BindsTo s fd ⟨us, []⟩ (ps.zip us)) ∧
        ∀ base : Heap, (K w.params).In base → base.Ns mainGlobals mg → FnOk r.prog w (K w.params) mg base (CX w) k fa fd ps (sp w))
    (hsp : ∀ (w : World) (H : Hp) (xs : List V) (a : Codec.denoteAll r.args), OnlyF H → Codec.withinAll r.args a = true → Codec.app r.args r.asked a = true → DwAll (K w.params) H xs (Codec.encAll r.args a) →
      sp w xs H (fun v H' => Dw (K w.params) H' v (r.ret.enc (Codec.app r.args r.f a))) fun _ _ _ => False)
    (hCX : ∀ (w : World) (H : Hp) (s : Shared) (e : Value) (s' : Shared), CX w [] H s (fun _ _ _ => False) e s' → False) :
    PySem.W.WalkOS q loose XP YP r d [] (fun f vs => PySem.call f vs) := by
  intro w s_0 s₁ mg mb G Y fa o pm cd doc dV kV ho hd hcd hD hmg hg args vals as hpre hlay hrd hwl hlo
  obtain ⟨a, e1, e2⟩ := PySem.W.os_pre_some hpre
  obtain ⟨e3, hwi⟩ := Codec.encAll_of_decAll r.args args a e1
  subst e3
  have KX := hY w _ Y
  obtain ⟨fd, hb, hF⟩ := F w mg fa _ Y KX G.T.g hmg
  refine PySem.W.enter_call (codeAny_mono (spec_call (R := []) (cl := classAt s_0.heap) (d0 := r.ret.enc (Codec.app r.args r.f a)) KX G.T.g G.T.b G.T.builtins G.T.nolimit hg hwl (pl_encAll _ _) (layable_weight hlay) hr hF hb (by rw [encAll_len]; exact hlen)
    (fun H xs hO hS => hsp w H xs a hO hwi e2 hS) fun H e s' => hCX w H s₁ e s') fun r' s' hq => ?_)
  obtain ⟨u, as', rfl, h1, h2, h3, h4⟩ := hq
  exact ⟨.inl ⟨u, _, as', rfl, fun _ => rfl, h1, (OpenSpec.post_iff hwell hwi _ _).mpr rfl, fun z => Bool.noConfusion (show false = true from z)⟩, h2, h3, h4⟩
/-- the same where the promise hangs on the written part alone -/
theorem walk_specK {r : OpenSpec} {k : Nat} {q : Program} {loose : List Str} {XP : (Str → Option Value) → Heap → Prop} {YP : World → Heap → Prop} {d : DefRec} {K : Params → PySem.W.Frag} {CX : CXT} {ps : List Str} {sp : PySem.W.Frag → Sp}
    (hwell : r.wellSaid = true) (hdf : d.params.defaults = []) (hlen : r.args.length = ps.length) (hr : Room k callerA)
    (hY : ∀ (w : World) (h : Heap), YP w h → (K w.params).In h)
    (F : ∀ (w : World) (mg : Str → Option Value) (fa : Addr) (h : Heap), YP w h → (K w.params).In h → h.Ns mainGlobals mg → mg d.name = some (.ref fa) →
      ∃ fd : FuncData, (∀ (s : Shared) (us : List Value), us.length = ps.length → BindsTo s fd ⟨us, []⟩ (ps.zip us)) ∧
        ∀ base : Heap, (K w.params).In base → base.Ns mainGlobals mg → FnOk r.prog w (K w.params) mg base CX k fa fd ps (sp (K w.params)))
    (hsp : ∀ (K : PySem.W.Frag) (H : Hp) (xs : List V) (a : Codec.denoteAll r.args), OnlyF H → Codec.withinAll r.args a = true → Codec.app r.args r.asked a = true → DwAll K H xs (Codec.encAll r.args a) →
      sp K xs H (fun v H' => Dw K H' v (r.ret.enc (Codec.app r.args r.f a))) fun _ _ _ => False)
    (hCX : ∀ (H : Hp) (s : Shared) (e : Value) (s' : Shared), CX [] H s (fun _ _ _ => False) e s' → False) :
    PySem.W.WalkOS q loose XP YP r d [] (fun f vs => PySem.call f vs) :=
  walk_spec (K := K) (CX := fun _ => CX) (sp := fun w => sp (K w.params)) hwell hdf hlen hr hY F (fun w H xs a h1 h2 h3 h4 => hsp (K w.params) H xs a h1 h2 h3 h4) fun _ H s e s' => hCX H s e s'
end L2
-- rests on (row put in by the clerk, for the bench that shows a file only what it spells): KE.SpHead KE.OsShapes
end
end
section
set_option Elab.async false
set_option linter.all false
open PySem PySem.W PyProof.Rows
set_option maxRecDepth 100000 in
set_option maxHeartbeats 0 in
theorem PySem.Challenge.cw_wishesalike_s01_answers_holds : PySem.Challenge.rw_wishesalike_s01_answers.Holds := by
  w_on; k_headS; (case hw => exact ⟨[.list [.int 0]], by decide +kernel, by decide +kernel⟩)
  k_fillS
  refine L2.walk_specK (r := PySem.Challenge.rw_wishesalike_s01_answers) (k := 10) (CX := L2.CX0) (ps := ["calls"]) (sp := Ws.spAns) (by decide +kernel) rfl rfl ⟨rfl, by decide, by decide⟩ (fun w h Y => PySem.W.kIn_of Y) ?F ?S (fun _ _ _ _ z => z)
  case F =>
    intro w mg fa h Y KX G hmg
    refine' Ws.all_mk KX G hmg ?aCF ?aCW ?a_bit ?l_bit ?c_bit ?k_bit ?a_fin ?i_fin ?l_fin ?c_fin ?k_fin ?a_way ?i_way ?l_way ?c_way ?k_way ?a_wan ?i_wan ?l_wan ?c_wan ?k_wan ?a_win ?i_win ?l_win ?c_win ?k_win ?a_beg ?i_beg ?l_beg ?c_beg ?k_beg ?a_fea ?i_fea ?l_fea ?c_fea ?k_fea ?a_may ?i_may ?l_may ?c_may ?k_may ?a_bes ?i_bes ?l_bes ?c_bes ?k_bes ?a_wor ?i_wor ?l_wor ?c_wor ?k_wor ?a_fil ?i_fil ?l_fil ?c_fil ?k_fil ?a_com ?i_com ?l_com ?c_com ?k_com ?a_pat ?i_pat ?l_pat ?c_pat ?k_pat ?a_cha ?i_cha ?l_cha ?c_cha ?k_cha ?a_abo ?i_abo ?l_abo ?c_abo ?k_abo ?a_bel ?i_bel ?l_bel ?c_bel ?k_bel ?a_cou ?i_cou ?l_cou ?c_cou ?k_cou ?a_ord ?i_ord ?l_ord ?c_ord ?k_ord ?a_bey ?i_bey ?l_bey ?c_bey ?k_bey ?a_dis ?i_dis ?l_dis ?c_dis ?k_dis ?a_nei ?i_nei ?l_nei ?c_nei ?k_nei ?a_abl ?i_abl ?l_abl ?c_abl ?k_abl ?a_nex ?l_nex ?c_nex ?k_nex ?a_ans ?l_ans ?c_ans ?k_ans ?a_end ?l_end ?c_end ?k_end ?a_ato ?l_ato ?c_ato ?k_ato ?pg_CF ?hd_CF ?po_CF ?sa_CF ?mk_CF ?kc_CF ?pg_CW ?hd_CW ?po_CW ?sa_CW ?mk_CW ?kc_CW ?nFeat ?nOn ?nWish ?z_enumerate ?z_len ?z_set ?z_tuple ?z_all ?z_min ?z_list ?z_range ?v_BEGIN ?v_FEATURE ?v_BEST ?v_WORST ?v_COMPARE ?v_PATH ?v_ABOVE ?v_BELOW ?v_NO_PATH ?v_WRONG ?v_FULL ?v_MOST_FEATURES ?v_MOST_ON ?v_BETTER ?v_WORSE ?aS ?lS ?hS
    (case aCF => k_is)
    (case aCW => k_is)
    (case a_bit => k_is)
    (case l_bit => k_is)
    (case c_bit => k_is)
    (case k_bit => k_is)
    (case a_fin => k_is)
    (case i_fin => k_is)
    (case l_fin => k_is)
    (case c_fin => k_is)
    (case k_fin => k_is)
    (case a_way => k_is)
    (case i_way => k_is)
    (case l_way => k_is)
    (case c_way => k_is)
    (case k_way => k_is)
    (case a_wan => k_is)
    (case i_wan => k_is)
    (case l_wan => k_is)
    (case c_wan => k_is)
    (case k_wan => k_is)
    (case a_win => k_is)
    (case i_win => k_is)
    (case l_win => k_is)
    (case c_win => k_is)
    (case k_win => k_is)
    (case a_beg => k_is)
    (case i_beg => k_is)
    (case l_beg => k_is)
    (case c_beg => k_is)
    (case k_beg => k_is)
    (case a_fea => k_is)
    (case i_fea => k_is)
    (case l_fea => k_is)
    (case c_fea => k_is)
    (case k_fea => k_is)
    (case a_may => k_is)
    (case i_may => k_is)
    (case l_may => k_is)
    (case c_may => k_is)
    (case k_may => k_is)
    (case a_bes => k_is)
    (case i_bes => k_is)
    (case l_bes => k_is)
    (case c_bes => k_is)
    (case k_bes => k_is)
    (case a_wor => k_is)
    (case i_wor => k_is)
    (case l_wor => k_is)
    (case c_wor => k_is)
    (case k_wor => k_is)
    (case a_fil => k_is)
    (case i_fil => k_is)
    (case l_fil => k_is)
    (case c_fil => k_is)
    (case k_fil => k_is)
    (case a_com => k_is)
    (case i_com => k_is)
    (case l_com => k_is)
    (case c_com => k_is)
    (case k_com => k_is)
    (case a_pat => k_is)
    (case i_pat => k_is)
    (case l_pat => k_is)
    (case c_pat => k_is)
    (case k_pat => k_is)
    (case a_cha => k_is)
    (case i_cha => k_is)
    (case l_cha => k_is)
    (case c_cha => k_is)
    (case k_cha => k_is)
    (case a_abo => k_is)
    (case i_abo => k_is)
    (case l_abo => k_is)
    (case c_abo => k_is)
    (case k_abo => k_is)
    (case a_bel => k_is)
    (case i_bel => k_is)
    (case l_bel => k_is)
    (case c_bel => k_is)
    (case k_bel => k_is)
    (case a_cou => k_is)
    (case i_cou => k_is)
    (case l_cou => k_is)
    (case c_cou => k_is)
    (case k_cou => k_is)
    (case a_ord => k_is)
    (case i_ord => k_is)
    (case l_ord => k_is)
    (case c_ord => k_is)
    (case k_ord => k_is)
    (case a_bey => k_is)
    (case i_bey => k_is)
    (case l_bey => k_is)
    (case c_bey => k_is)
    (case k_bey => k_is)
    (case a_dis => k_is)
    (case i_dis => k_is)
    (case l_dis => k_is)
    (case c_dis => k_is)
    (case k_dis => k_is)
    (case a_nei => k_is)
    (case i_nei => k_is)
    (case l_nei => k_is)
    (case c_nei => k_is)
    (case k_nei => k_is)
    (case a_abl => k_is)
    (case i_abl => k_is)
    (case l_abl => k_is)
    (case c_abl => k_is)
    (case k_abl => k_is)
    (case a_nex => k_is)
    (case l_nex => k_is)
    (case c_nex => k_is)
    (case k_nex => k_is)
    (case a_ans => k_is)
    (case l_ans => k_is)
    (case c_ans => k_is)
    (case k_ans => k_is)
    (case a_end => k_is)
    (case l_end => k_is)
    (case c_end => k_is)
    (case k_end => k_is)
    (case a_ato => k_is)
    (case l_ato => k_is)
    (case c_ato => k_is)
    (case k_ato => k_is)
    (case pg_CF => k_is)
    (case hd_CF => k_is)
    (case po_CF => k_is)
    (case sa_CF => k_is)
    (case mk_CF => k_is)
    (case kc_CF => k_is)
    (case pg_CW => k_is)
    (case hd_CW => k_is)
    (case po_CW => k_is)
    (case sa_CW => k_is)
    (case mk_CW => k_is)
    (case kc_CW => k_is)
    (case nFeat => k_is)
    (case nOn => k_is)
    (case nWish => k_is)
    (case z_enumerate => k_is)
    (case z_len => k_is)
    (case z_set => k_is)
    (case z_tuple => k_is)
    (case z_all => k_is)
    (case z_min => k_is)
    (case z_list => k_is)
    (case z_range => k_is)
    (case v_BEGIN => k_is)
    (case v_FEATURE => k_is)
    (case v_BEST => k_is)
    (case v_WORST => k_is)
    (case v_COMPARE => k_is)
    (case v_PATH => k_is)
    (case v_ABOVE => k_is)
    (case v_BELOW => k_is)
    (case v_NO_PATH => k_is)
    (case v_WRONG => k_is)
    (case v_FULL => k_is)
    (case v_MOST_FEATURES => k_is)
    (case v_MOST_ON => k_is)
    (case v_BETTER => k_is)
    (case v_WORSE => k_is)
    (case aS => k_is)
    (case lS => k_is)
    (case hS => decide +kernel)
  case S =>
    intro K H xs a hO hwi hask hx
    cases hx with
    | cons h1 h2 =>
      cases h2
      cases h1 with
      | lst hs ha =>
        have e := L2.ints_dw a.1 _ ha
        subst e
        exact ⟨_, a.1, rfl, hs, hask, fun H' p hp => .lst (L2.SqL.of hp) (L2.dw_ints _)⟩
end
